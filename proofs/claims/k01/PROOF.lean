import PyProof.Rows.All
import Wide.All
import OpenK.AllK
import Wide.FinOn
import PyProof.EqAt
import PyProof.EqKinds
import PyProof.TupleCall
import HandS.ForMost
import HandS.ForExc
import HandS.Flow
import HandS.Gcd
import HandS.Wide
import HandS.Deep
import HandS.IsInst
import HandS.Defaults
import HandS.CallSlots
import HandS.ExcInit
import HandS.ExcField
import HandS.ExcIs
import PySem.Challenge.RW_stillarms_k01_whole_ratios_reckoned
set_option Elab.async false
set_option linter.all false
set_option maxRecDepth 100000
/-! Mir: data without addresses, functions on them, and what it is that a piece of text follows such a function. -/
namespace Mir
open PySem L2
open PySem.W (Frag)

/-- data -/
inductive Dt where
  | non | bl (b : Bool) | int (i : Int) | str (x : Str) | tup (ds : List Dt) | lst (ds : List Dt) | obj (c : Str) (fs : List (Str × Dt)) | hnd
/-- the hand that a law draws from: great cells, mixed, count -/
structure Hd where
  g : List Int
  m : Int
  c : Int
/-- a slot: nothing known, data, a list of one's own that is still growing -/
inductive Sl where
  | no | dat (d : Dt) | own (ds : List Dt)
abbrev Env' := List Sl
inductive R (α : Type) where
  | ok (a : α) (s : Hd)
  | err (c : Str) (fs : List (Str × Dt)) (ρ : Env') (s : Hd)
  | bad
def R.bind {α β : Type} (r : R α) (k : α → Hd → R β) : R β := match r with
  | .ok a s => k a s
  | .err c fs ρ s => .err c fs ρ s
  | .bad => .bad
@[simp] theorem R.bind_ok {α β : Type} (a : α) (s : Hd) (k : α → Hd → R β) : (R.ok a s).bind k = k a s := rfl
@[simp] theorem R.bind_err {α β : Type} (c : Str) (fs : List (Str × Dt)) (ρ : Env') (s : Hd) (k : α → Hd → R β) : (R.err c fs ρ s : R α).bind k = .err c fs ρ s := rfl
@[simp] theorem R.bind_bad {α β : Type} (k : α → Hd → R β) : (R.bad : R α).bind k = .bad := rfl
inductive Fl where
  | nx (ρ : Env') | rt (d : Dt) | bk (ρ : Env') | ct (ρ : Env')

section
variable (K : Frag) (mg : Str → Option Value) (h : Addr) (H : Hp)
mutual
inductive Den : V → Dt → Prop
  | non : Den .non .non
  | bl (b : Bool) : Den (.bl b) (.bl b)
  | int (i : Int) : Den (.int i) (.int i)
  | str (x : Str) : Den (.str x) (.str x)
  | tup {a : Addr} {xs : List V} {ds : List Dt} : SqT K H a xs → DenA xs ds → Den (.ref a) (.tup ds)
  | lst {a : Addr} {xs : List V} {ds : List Dt} : H a = some (.lst xs) → DenA xs ds → Den (.ref a) (.lst ds)
  | obj {a C dx : Addr} {c : Str} {fs : List (Str × V)} {ds : List (Str × Dt)} : mg c = some (.ref C) → H a = some (.ins C dx fs) → DenF fs ds → Den (.ref a) (.obj c ds)
  | hnd : Den (.ref h) .hnd
inductive DenA : List V → List Dt → Prop
  | nil : DenA [] []
  | cons {v : V} {vs : List V} {d : Dt} {ds : List Dt} : Den v d → DenA vs ds → DenA (v :: vs) (d :: ds)
inductive DenF : List (Str × V) → List (Str × Dt) → Prop
  | nil : DenF [] []
  | cons {n : Str} {v : V} {vs : List (Str × V)} {d : Dt} {ds : List (Str × Dt)} : Den v d → DenF vs ds → DenF ((n, v) :: vs) ((n, d) :: ds)
end
end

section
variable {K : Frag} {mg : Str → Option Value} {h : Addr} {H H' : Hp}
theorem sqt_mono {a : Addr} {xs : List V} (e : Same H H') (q : SqT K H a xs) : SqT K H' a xs := by
  rcases q with (q | ⟨o, q⟩) | q
  · exact .inl (.inl (e _ _ q))
  · exact .inl (.inr ⟨o, e _ _ q⟩)
  · exact .inr q
mutual
theorem Den.mono (e : Same H H') : ∀ {v : V} {d : Dt}, Den K mg h H v d → Den K mg h H' v d
  | _, _, .non => .non
  | _, _, .bl b => .bl b
  | _, _, .int i => .int i
  | _, _, .str x => .str x
  | _, _, .tup q r => .tup (sqt_mono e q) (DenA.mono e r)
  | _, _, .lst q r => .lst (e _ _ q) (DenA.mono e r)
  | _, _, .obj c q r => .obj c (e _ _ q) (DenF.mono e r)
  | _, _, .hnd => .hnd
theorem DenA.mono (e : Same H H') : ∀ {v : List V} {d : List Dt}, DenA K mg h H v d → DenA K mg h H' v d
  | _, _, .nil => .nil
  | _, _, .cons q r => .cons (Den.mono e q) (DenA.mono e r)
theorem DenF.mono (e : Same H H') : ∀ {v : List (Str × V)} {d : List (Str × Dt)}, DenF K mg h H v d → DenF K mg h H' v d
  | _, _, .nil => .nil
  | _, _, .cons q r => .cons (Den.mono e q) (DenF.mono e r)
end
theorem DenA.len : ∀ {vs : List V} {ds : List Dt}, DenA K mg h H vs ds → vs.length = ds.length
  | _, _, .nil => rfl
  | _, _, .cons _ r => congrArg Nat.succ (DenA.len r)
theorem DenA.get : ∀ {vs : List V} {ds : List Dt} {i : Nat} {d : Dt}, DenA K mg h H vs ds → ds[i]? = some d → ∃ v, vs[i]? = some v ∧ Den K mg h H v d
  | _, _, _, _, .nil, e => by simp at e
  | _, _, 0, _, .cons r _, e => by
    simp at e
    subst e
    exact ⟨_, rfl, r⟩
  | _, _, i + 1, d, .cons _ t, e => by
    obtain ⟨u, h1, h2⟩ := DenA.get (i := i) (d := d) t (by simpa using e)
    exact ⟨u, by simpa using h1, h2⟩
theorem DenA.getV : ∀ {vs : List V} {ds : List Dt} {i : Nat} {v : V}, DenA K mg h H vs ds → vs[i]? = some v → ∃ d, ds[i]? = some d ∧ Den K mg h H v d
  | _, _, _, _, .nil, e => by simp at e
  | _, _, 0, _, .cons r _, e => by
    simp at e
    subst e
    exact ⟨_, rfl, r⟩
  | _, _, i + 1, d, .cons _ t, e => by
    obtain ⟨u, h1, h2⟩ := DenA.getV (i := i) (v := d) t (by simpa using e)
    exact ⟨u, by simpa using h1, h2⟩
theorem DenA.append : ∀ {vs ws : List V} {ds es : List Dt}, DenA K mg h H vs ds → DenA K mg h H ws es → DenA K mg h H (vs ++ ws) (ds ++ es)
  | _, _, _, _, .nil, s => s
  | _, _, _, _, .cons r t, s => .cons r (DenA.append t s)
theorem DenA.take : ∀ {vs : List V} {ds : List Dt} (n : Nat), DenA K mg h H vs ds → DenA K mg h H (vs.take n) (ds.take n)
  | _, _, 0, _ => by
    rw [List.take_zero, List.take_zero]
    exact .nil
  | _, _, _ + 1, .nil => .nil
  | _, _, n + 1, .cons r t => .cons r (DenA.take n t)
theorem DenA.drop : ∀ {vs : List V} {ds : List Dt} (n : Nat), DenA K mg h H vs ds → DenA K mg h H (vs.drop n) (ds.drop n)
  | _, _, 0, r => r
  | _, _, _ + 1, .nil => .nil
  | _, _, n + 1, .cons _ t => DenA.drop n t
theorem DenA.set {v : V} {d : Dt} (r : Den K mg h H v d) : ∀ {vs : List V} {ds : List Dt} (i : Nat), DenA K mg h H vs ds → DenA K mg h H (vs.set i v) (ds.set i d)
  | _, _, _, .nil => .nil
  | _, _, 0, .cons _ t => .cons r t
  | _, _, i + 1, .cons q t => .cons q (DenA.set r i t)
theorem DenA.ints : ∀ (ns : List Int), DenA K mg h H (ns.map V.int) (ns.map Dt.int)
  | [] => .nil
  | n :: ns => .cons (.int n) (DenA.ints ns)
theorem DenA.ofInts : ∀ {vs : List V} {ns : List Int}, DenA K mg h H vs (ns.map Dt.int) → vs = ns.map V.int
  | _, [], .nil => rfl
  | _, n :: ns, .cons (.int _) r => by
    rw [DenA.ofInts r]
    rfl
end

/-! ### heaps: the part on which data rest, the hand, the step -/
def isH (h : Addr) (H : Hp) (p : Addr) : Prop := p = h ∨ ∃ r, H h = some (.lst (.ref p :: r))
structure Step (h : Addr) (H0 H H0' H' : Hp) : Prop where
  s0 : Same H0 H0'
  fr : ∀ p o, H p = some o → H0 p = none → ¬ isH h H p → H' p = some o ∧ H0' p = none ∧ ¬ isH h H' p
structure G (h : Addr) (H0 H : Hp) (s : Hd) : Prop where
  ex : Same H0 H
  h0 : H0 h = none
  gl : ∃ gl : Addr, H0 gl = none ∧ gl ≠ h ∧ H h = some (.lst [.ref gl, .int s.m, .int s.c]) ∧ H gl = some (.lst (s.g.map V.int))
section
variable {h : Addr} {H0 H H0' H' H0'' H'' : Hp} {s : Hd} {p : Addr} {o : HO}
theorem Step.refl (H0 H : Hp) : Step h H0 H H0 H := ⟨Same.refl _, fun _ _ a b c => ⟨a, b, c⟩⟩
theorem Step.trans (a : Step h H0 H H0' H') (b : Step h H0' H' H0'' H'') : Step h H0 H H0'' H'' :=
  ⟨a.s0.trans b.s0, fun p o x y z => by
    obtain ⟨x1, y1, z1⟩ := a.fr p o x y z
    exact b.fr p o x1 y1 z1⟩
theorem G.alloc (g : G h H0 H s) (hp : H p = none) : G h (upd H0 p o) (upd H p o) s ∧ Step h H0 H (upd H0 p o) (upd H p o) := by
  obtain ⟨gl, a1, a2, a3, a4⟩ := g.gl
  have n0 : H0 p = none := g.ex.free hp
  have e1 : h ≠ p := ne_of_none a3 hp
  have e2 : gl ≠ p := ne_of_none a4 hp
  refine ⟨⟨fun b u q => ?_, by rw [upd_ne e1]; exact g.h0, gl, by rw [upd_ne e2]; exact a1, a2, by rw [upd_ne e1]; exact a3, by rw [upd_ne e2]; exact a4⟩, ⟨fun b u q => ?_, fun q u x y z => ?_⟩⟩
  · by_cases hb : b = p
    · subst hb
      rw [upd_same] at q ⊢
      exact q
    · rw [upd_ne hb] at q ⊢
      exact g.ex _ _ q
  · rw [upd_ne (ne_of_none q n0)]
    exact q
  · have nq : q ≠ p := ne_of_none x hp
    refine ⟨by rw [upd_ne nq]; exact x, by rw [upd_ne nq]; exact y, fun w => z ?_⟩
    rcases w with w | ⟨r, w⟩
    · exact .inl w
    · rw [upd_ne e1] at w
      exact .inr ⟨r, w⟩
/-- a new object that no data rest on -/
theorem G.side (g : G h H0 H s) (hp : H p = none) : G h H0 (upd H p o) s ∧ Step h H0 H H0 (upd H p o) := by
  obtain ⟨gl, a1, a2, a3, a4⟩ := g.gl
  have n0 : H0 p = none := g.ex.free hp
  have e1 : h ≠ p := ne_of_none a3 hp
  have e2 : gl ≠ p := ne_of_none a4 hp
  refine ⟨⟨fun b u q => ?_, g.h0, gl, a1, a2, by rw [upd_ne e1]; exact a3, by rw [upd_ne e2]; exact a4⟩, ⟨Same.refl _, fun q u x y z => ?_⟩⟩
  · rw [upd_ne (ne_of_none q n0)]
    exact g.ex _ _ q
  · have nq : q ≠ p := ne_of_none x hp
    refine ⟨by rw [upd_ne nq]; exact x, y, fun w => z ?_⟩
    rcases w with w | ⟨r, w⟩
    · exact .inl w
    · rw [upd_ne e1] at w
      exact .inr ⟨r, w⟩
end

/-! ### slots -/
section
variable (K : Frag) (mg : Str → Option Value) (h : Addr) (H0 H : Hp)
def SlOk : Option V → Sl → Prop
  | _, .no => True
  | some v, .dat d => Den K mg h H0 v d
  | some v, .own ds => ∃ p vs, v = .ref p ∧ H p = some (.lst vs) ∧ H0 p = none ∧ ¬ isH h H p ∧ DenA K mg h H0 vs ds
  | none, _ => False
structure Slots (σ : St) (ρ : Env') : Prop where
  len : σ.length = ρ.length
  at_ : ∀ (i : Nat) (o : Option V) (l : Sl), σ[i]? = some o → ρ[i]? = some l → SlOk K mg h H0 H o l
  ds : ∀ (i j : Nat) (p : Addr) (a b : List Dt), ρ[i]? = some (.own a) → ρ[j]? = some (.own b) → σ[i]? = some (some (.ref p)) → σ[j]? = some (some (.ref p)) → i = j
end
section
variable {K : Frag} {mg : Str → Option Value} {h : Addr} {H0 H H0' H' : Hp} {σ : St} {ρ : Env'}
theorem SlOk.step {o : Option V} {l : Sl} (st : Step h H0 H H0' H') (q : SlOk K mg h H0 H o l) : SlOk K mg h H0' H' o l := by
  cases o with
  | none =>
    cases l with
    | no => exact True.intro
    | dat d => exact q
    | own ds => exact q
  | some v =>
    cases l with
    | no => exact True.intro
    | dat d => exact Den.mono st.s0 q
    | own ds =>
      obtain ⟨p, vs, e, a, b, c, d⟩ := q
      obtain ⟨a1, b1, c1⟩ := st.fr p _ a b c
      exact ⟨p, vs, e, a1, b1, c1, d.mono st.s0⟩
theorem Slots.step (S : Slots K mg h H0 H σ ρ) (st : Step h H0 H H0' H') : Slots K mg h H0' H' σ ρ :=
  ⟨S.len, fun i o l a b => (S.at_ i o l a b).step st, S.ds⟩
theorem Slots.dat {i : Nat} {d : Dt} (S : Slots K mg h H0 H σ ρ) (e : ρ[i]? = some (.dat d)) : ∃ v, σ[i]? = some (some v) ∧ Den K mg h H0 v d := by
  obtain ⟨hl, _⟩ := List.getElem?_eq_some_iff.mp e
  have hl2 : i < σ.length := by rw [S.len]; exact hl
  have q := S.at_ i σ[i] _ (List.getElem?_eq_getElem hl2) e
  cases hv : σ[i] with
  | none =>
    rw [hv] at q
    exact q.elim
  | some v =>
    rw [hv] at q
    exact ⟨v, by rw [List.getElem?_eq_getElem hl2, hv], q⟩
theorem Slots.own {i : Nat} {ds : List Dt} (S : Slots K mg h H0 H σ ρ) (e : ρ[i]? = some (.own ds)) : ∃ p vs, σ[i]? = some (some (.ref p)) ∧ H p = some (.lst vs) ∧ H0 p = none ∧ ¬ isH h H p ∧ DenA K mg h H0 vs ds := by
  obtain ⟨hl, _⟩ := List.getElem?_eq_some_iff.mp e
  have hl2 : i < σ.length := by rw [S.len]; exact hl
  have q := S.at_ i σ[i] _ (List.getElem?_eq_getElem hl2) e
  cases hv : σ[i] with
  | none =>
    rw [hv] at q
    exact q.elim
  | some v =>
    rw [hv] at q
    obtain ⟨p, vs, rfl, q⟩ := q
    exact ⟨p, vs, by rw [List.getElem?_eq_getElem hl2, hv], q⟩
theorem Slots.set {i : Nat} {v : V} {d : Dt} (S : Slots K mg h H0 H σ ρ) (q : Den K mg h H0 v d) : Slots K mg h H0 H (σ.set i (some v)) (ρ.set i (.dat d)) := by
  refine ⟨by rw [List.length_set, List.length_set]; exact S.len, fun j o l a b => ?_, fun j k p a b e1 e2 e3 e4 => ?_⟩
  · by_cases hj : i = j
    · subst hj
      have hl : i < σ.length := by
        obtain ⟨q, _⟩ := List.getElem?_eq_some_iff.mp a
        rwa [List.length_set] at q
      rw [List.getElem?_set_self hl] at a
      rw [List.getElem?_set_self (by rw [← S.len]; exact hl)] at b
      cases a
      cases b
      exact q
    · rw [List.getElem?_set_ne hj] at a b
      exact S.at_ j o l a b
  · have nj : i ≠ j := fun z => by
      subst z
      have hl : i < ρ.length := by
        obtain ⟨q, _⟩ := List.getElem?_eq_some_iff.mp e1
        rwa [List.length_set] at q
      rw [List.getElem?_set_self hl] at e1
      cases e1
    have nk : i ≠ k := fun z => by
      subst z
      have hl : i < ρ.length := by
        obtain ⟨q, _⟩ := List.getElem?_eq_some_iff.mp e2
        rwa [List.length_set] at q
      rw [List.getElem?_set_self hl] at e2
      cases e2
    rw [List.getElem?_set_ne nj] at e1 e3
    rw [List.getElem?_set_ne nk] at e2 e4
    exact S.ds j k p a b e1 e2 e3 e4
theorem Slots.forget {i : Nat} (S : Slots K mg h H0 H σ ρ) (o : Option V) : Slots K mg h H0 H (σ.set i o) (ρ.set i .no) := by
  refine ⟨by rw [List.length_set, List.length_set]; exact S.len, fun j o' l a b => ?_, fun j k p a b e1 e2 e3 e4 => ?_⟩
  · by_cases hj : i = j
    · subst hj
      have hl : i < ρ.length := by
        obtain ⟨q, _⟩ := List.getElem?_eq_some_iff.mp b
        rwa [List.length_set] at q
      rw [List.getElem?_set_self hl] at b
      cases b
      cases o' <;> exact True.intro
    · rw [List.getElem?_set_ne hj] at a b
      exact S.at_ j o' l a b
  · have nj : i ≠ j := fun z => by
      subst z
      have hl : i < ρ.length := by
        obtain ⟨q, _⟩ := List.getElem?_eq_some_iff.mp e1
        rwa [List.length_set] at q
      rw [List.getElem?_set_self hl] at e1
      cases e1
    have nk : i ≠ k := fun z => by
      subst z
      have hl : i < ρ.length := by
        obtain ⟨q, _⟩ := List.getElem?_eq_some_iff.mp e2
        rwa [List.length_set] at q
      rw [List.getElem?_set_self hl] at e2
      cases e2
    rw [List.getElem?_set_ne nj] at e1 e3
    rw [List.getElem?_set_ne nk] at e2 e4
    exact S.ds j k p a b e1 e2 e3 e4
end

/-! ### what is wanted behind a reading, by what its function says -/
section
variable (K : Frag) (mg : Str → Option Value) (h : Addr)
def ErrP (H0 H : Hp) (c : Str) (fs : List (Str × Dt)) (ρ : Env') (s : Hd) (Wx : WX) : Prop := ∀ (σ' : St) (C dd : Addr) (fv : List (Str × V)) (H0' H' : Hp), Step h H0 H H0' H' → G h H0' H' s → Slots K mg h H0' H' σ' ρ → mg c = some (.ref C) → H' dd = some (.xd fv) → DenF K mg h H0' fv fs → Wx (.ref C) (some dd) σ' H'
def Post {α β : Type} (rel : Hp → α → β → Prop) (r : R β) (H0 H : Hp) (Wx : WX) (Q : α → Hp → Prop) : Prop := match r with
  | .ok b s => ∀ a H0' H', Step h H0 H H0' H' → G h H0' H' s → rel H0' a b → Q a H'
  | .err c fs ρ s => ErrP K mg h H0 H c fs ρ s Wx
  | .bad => False
def PostS (r : R Fl) (H0 H : Hp) (Wx : WX) (D : Ends) : Prop := match r with
  | .ok (.nx ρ) s => ∀ σ' H0' H', Step h H0 H H0' H' → G h H0' H' s → Slots K mg h H0' H' σ' ρ → D.nx σ' H'
  | .ok (.rt d) s => ∀ v H0' H', Step h H0 H H0' H' → G h H0' H' s → Den K mg h H0' v d → D.rt v H'
  | .ok (.bk ρ) s => ∀ σ' H0' H', Step h H0 H H0' H' → G h H0' H' s → Slots K mg h H0' H' σ' ρ → D.bk σ' H'
  | .ok (.ct ρ) s => ∀ σ' H0' H', Step h H0 H H0' H' → G h H0' H' s → Slots K mg h H0' H' σ' ρ → D.ct σ' H'
  | .err c fs ρ s => ErrP K mg h H0 H c fs ρ s Wx
  | .bad => False
end
section
variable {K : Frag} {mg : Str → Option Value} {h : Addr} {H0 H H0' H' : Hp} {Wx : WX}
theorem ErrP.step {c : Str} {fs : List (Str × Dt)} {ρ : Env'} {s : Hd} (st : Step h H0 H H0' H') (p : ErrP K mg h H0 H c fs ρ s Wx) : ErrP K mg h H0' H' c fs ρ s Wx :=
  fun σ' C dd fv A B s2 g S m x f => p σ' C dd fv A B (st.trans s2) g S m x f
theorem Post.step {α β : Type} {rel : Hp → α → β → Prop} {r : R β} {Q : α → Hp → Prop} (st : Step h H0 H H0' H') (p : Post K mg h rel r H0 H Wx Q) : Post K mg h rel r H0' H' Wx Q := by
  cases r with
  | ok b s => exact fun a A B s2 g q => p a A B (st.trans s2) g q
  | err c fs ρ s => exact ErrP.step st p
  | bad => exact p
theorem PostS.step {r : R Fl} {D : Ends} (st : Step h H0 H H0' H') (p : PostS K mg h r H0 H Wx D) : PostS K mg h r H0' H' Wx D := by
  cases r with
  | ok f s =>
    cases f with
    | nx ρ => exact fun a A B s2 g q => p a A B (st.trans s2) g q
    | rt d => exact fun a A B s2 g q => p a A B (st.trans s2) g q
    | bk ρ => exact fun a A B s2 g q => p a A B (st.trans s2) g q
    | ct ρ => exact fun a A B s2 g q => p a A B (st.trans s2) g q
  | err c fs ρ s => exact ErrP.step st p
  | bad => exact p
theorem Post.bind {α β γ δ : Type} {rel1 : Hp → α → β → Prop} {rel2 : Hp → γ → δ → Prop} {r : R β} {k : β → Hd → R δ} {Q : γ → Hp → Prop} {Q1 : α → Hp → Prop} (p : Post K mg h rel2 (r.bind k) H0 H Wx Q)
    (f : ∀ b s a H0' H', Step h H0 H H0' H' → G h H0' H' s → rel1 H0' a b → Post K mg h rel2 (k b s) H0' H' Wx Q → Q1 a H') : Post K mg h rel1 r H0 H Wx Q1 := by
  cases r with
  | ok b s => exact fun a A B st g q => f b s a A B st g q (Post.step st p)
  | err c fs ρ s => exact p
  | bad => exact p
theorem PostS.bind {α β : Type} {rel1 : Hp → α → β → Prop} {r : R β} {k : β → Hd → R Fl} {D : Ends} {Q1 : α → Hp → Prop} (p : PostS K mg h (r.bind k) H0 H Wx D)
    (f : ∀ b s a H0' H', Step h H0 H H0' H' → G h H0' H' s → rel1 H0' a b → PostS K mg h (k b s) H0' H' Wx D → Q1 a H') : Post K mg h rel1 r H0 H Wx Q1 := by
  cases r with
  | ok b s => exact fun a A B st g q => f b s a A B st g q (PostS.step st p)
  | err c fs ρ s => exact p
  | bad => exact p
end

/-! ### readings that follow a function -/
abbrev ME := Env' → Hd → R Dt
abbrev MT := Env' → Hd → R Bool
abbrev MA := Env' → Hd → R (List Dt)
abbrev MS := Env' → Hd → R Fl
abbrev EqB : Hp → Bool → Bool → Prop := fun _ a b => a = b
section
variable (K : Frag) (mg : Str → Option Value) (Wx : WX)
def SE (te : TE) (m : ME) : Prop := ∀ (h : Addr) (H0 H : Hp) (s : Hd) (σ : St) (ρ : Env') (Q : VK), G h H0 H s → Slots K mg h H0 H σ ρ → Post K mg h (Den K mg h) (m ρ s) H0 H Wx Q → te σ H Q
def SA (ta : TA) (m : MA) : Prop := ∀ (h : Addr) (H0 H : Hp) (s : Hd) (σ : St) (ρ : Env') (Q : List V → Hp → Prop), G h H0 H s → Slots K mg h H0 H σ ρ → Post K mg h (DenA K mg h) (m ρ s) H0 H Wx Q → ta σ H Q
def ST (tt : TT) (m : MT) : Prop := ∀ (h : Addr) (H0 H : Hp) (s : Hd) (σ : St) (ρ : Env') (Q : Bool → Hp → Prop), G h H0 H s → Slots K mg h H0 H σ ρ → Post K mg h EqB (m ρ s) H0 H Wx Q → tt σ H Q
def SS (ts : TS) (m : MS) : Prop := ∀ (h : Addr) (H0 H : Hp) (s : Hd) (σ : St) (ρ : Env') (D : Ends), G h H0 H s → Slots K mg h H0 H σ ρ → PostS K mg h (m ρ s) H0 H Wx D → ts D σ H
end
/-! ### texts that follow a function -/
def QE (X : Cx) (Wx : WX) (e : Expr) (m : ME) : Prop := ∃ t, PE X e t ∧ SE X.K X.mg Wx t m
def QT (X : Cx) (Wx : WX) (e : Expr) (m : MT) : Prop := ∃ t, PT X e t ∧ ST X.K X.mg Wx t m
def QW (X : Cx) (Wx : WX) (e : Expr) (m : MT) : Prop := ∃ t, PW X e t ∧ ST X.K X.mg Wx t m
def QA (X : Cx) (Wx : WX) (es : List Expr) (m : MA) : Prop := ∃ t, PA X es t ∧ SA X.K X.mg Wx t m
def QS (X : Cx) (Wx : WX) (st : Stmt) (m : MS) : Prop := ∃ t, PS X st t ∧ SS X.K X.mg Wx t m
def QSs (X : Cx) (Wx : WX) (sts : List Stmt) (m : MS) : Prop := ∃ t, PSs X sts t ∧ SS X.K X.mg Wx t m
end Mir


set_option Elab.async false
set_option linter.all false
set_option maxRecDepth 100000
namespace Mir
open PySem PySem.Spec PyProof.Rows L2
open PySem.W (Frag)

/-! ### functions on data -/
def liftO {α : Type} (o : Option α) (s : Hd) : R α := match o with
  | some a => .ok a s
  | none => .bad
@[simp] theorem liftO_some {α : Type} (a : α) (s : Hd) : liftO (some a) s = .ok a s := rfl
@[simp] theorem liftO_none {α : Type} (s : Hd) : liftO (none : Option α) s = .bad := rfl
def mVar (i : Nat) : ME := fun ρ s => match ρ[i]? with
  | some (.dat d) => .ok d s
  | _ => .bad
def mC (d : Dt) : ME := fun _ s => .ok d s
def mOp (f : Dt → Dt → Option Dt) (a b : ME) : ME := fun ρ s => (a ρ s).bind fun d s1 => (b ρ s1).bind fun e s2 => liftO (f d e) s2
def mUn (f : Dt → Option Dt) (a : ME) : ME := fun ρ s => (a ρ s).bind fun d s1 => liftO (f d) s1
def mTest (a : ME) : MT := fun ρ s => (a ρ s).bind fun d s1 => match d with
  | .bl b => .ok b s1
  | _ => .bad
def fTru : Dt → Option Bool
  | .non => some false
  | .bl b => some b
  | .int i => some (i != 0)
  | .str x => if x.length ≤ 100000 then some ((x.length : Int) != 0) else none
  | .tup ds => some (!ds.isEmpty)
  | .lst ds => some (!ds.isEmpty)
  | _ => none
def mTru (a : ME) : MT := fun ρ s => (a ρ s).bind fun d s1 => liftO (fTru d) s1
def mAnd (a b : MT) : MT := fun ρ s => (a ρ s).bind fun c s1 => if c = true then b ρ s1 else .ok false s1
def mOr (a b : MT) : MT := fun ρ s => (a ρ s).bind fun c s1 => if c = true then .ok true s1 else b ρ s1
def mNot (a : MT) : MT := fun ρ s => (a ρ s).bind fun c s1 => .ok (!c) s1
def mIf (t : MT) (a b : ME) : ME := fun ρ s => (t ρ s).bind fun c s1 => if c = true then a ρ s1 else b ρ s1
def mAndV (a b : ME) : ME := fun ρ s => (a ρ s).bind fun d s1 => (liftO (fTru d) s1).bind fun c s2 => if c = true then b ρ s2 else .ok d s2
def mOrV (a b : ME) : ME := fun ρ s => (a ρ s).bind fun d s1 => (liftO (fTru d) s1).bind fun c s2 => if c = true then .ok d s2 else b ρ s2
def mNotV (a : ME) : ME := fun ρ s => (a ρ s).bind fun d s1 => (liftO (fTru d) s1).bind fun c s2 => .ok (.bl (!c)) s2
def mNil : MA := fun _ s => .ok [] s
def mCons (a : ME) (r : MA) : MA := fun ρ s => (a ρ s).bind fun d s1 => (r ρ s1).bind fun ds s2 => .ok (d :: ds) s2
def mTup (as : MA) : ME := fun ρ s => (as ρ s).bind fun ds s1 => if ds.length ≤ 100000 then .ok (.tup ds) s1 else .bad
def mLst (as : MA) : ME := fun ρ s => (as ρ s).bind fun ds s1 => if ds.length ≤ 100000 then .ok (.lst ds) s1 else .bad
def mCB (f : List Dt → Option Dt) (as : MA) : ME := fun ρ s => (as ρ s).bind fun ds s1 => liftO (f ds) s1
/-- a def called: n parameters, the defaults dd fill up -/
def mCall (n : Nat) (dd : List Dt) (m : List Dt → Hd → R Dt) (as : MA) : ME := fun ρ s => (as ρ s).bind fun ds s1 =>
  if (ds ++ dd).length = n then (match m (ds ++ dd) s1 with
    | .ok d s2 => .ok d s2
    | .err c fs _ s2 => .err c fs ρ s2
    | .bad => .bad) else .bad

section
variable (K : Frag) (mg : Str → Option Value)
def OpS (r : R2) (f : Dt → Dt → Option Dt) : Prop := ∀ (h : Addr) (H0 H : Hp) (s : Hd) (x y : V) (d e z : Dt) (Q : VK), G h H0 H s → Den K mg h H0 x d → Den K mg h H0 y e → f d e = some z →
  (∀ u H0' H', Step h H0 H H0' H' → G h H0' H' s → Den K mg h H0' u z → Q u H') → r x y H Q
def UnS (r : V → Hp → VK → Prop) (f : Dt → Option Dt) : Prop := ∀ (h : Addr) (H0 H : Hp) (s : Hd) (x : V) (d z : Dt) (Q : VK), G h H0 H s → Den K mg h H0 x d → f d = some z →
  (∀ u H0' H', Step h H0 H H0' H' → G h H0' H' s → Den K mg h H0' u z → Q u H') → r x H Q
def CaS (r : List V → Hp → VK → Prop) (f : List Dt → Option Dt) : Prop := ∀ (h : Addr) (H0 H : Hp) (s : Hd) (xs : List V) (ds : List Dt) (z : Dt) (Q : VK), G h H0 H s → DenA K mg h H0 xs ds → f ds = some z →
  (∀ u H0' H', Step h H0 H H0' H' → G h H0' H' s → Den K mg h H0' u z → Q u H') → r xs H Q
end
section
variable {K : Frag} {mg : Str → Option Value}
theorem OpS.or {r r' : R2} {f f' g : Dt → Dt → Option Dt} (a : OpS K mg r f) (b : OpS K mg r' f') (hg : ∀ d e z, g d e = some z → f d e = some z ∨ f' d e = some z) : OpS K mg (fun x y H Q => r x y H Q ∨ r' x y H Q) g :=
  fun h H0 H s x y d e z Q g0 hx hy hz q => (hg d e z hz).elim (fun z1 => .inl (a h H0 H s x y d e z Q g0 hx hy z1 q)) fun z1 => .inr (b h H0 H s x y d e z Q g0 hx hy z1 q)
theorem CaS.or {r r' : List V → Hp → VK → Prop} {f f' g : List Dt → Option Dt} (a : CaS K mg r f) (b : CaS K mg r' f') (hg : ∀ d z, g d = some z → f d = some z ∨ f' d = some z) : CaS K mg (fun x H Q => r x H Q ∨ r' x H Q) g :=
  fun h H0 H s x d z Q g0 hx hz q => (hg d z hz).elim (fun z1 => .inl (a h H0 H s x d z Q g0 hx z1 q)) fun z1 => .inr (b h H0 H s x d z Q g0 hx z1 q)
end

/-! ### operators -/
/-- ints -/
def fI (C : Int → Int → Prop) [∀ i j, Decidable (C i j)] (g : Int → Int → Dt) : Dt → Dt → Option Dt
  | .int i, .int j => if C i j then some (g i j) else none
  | _, _ => none
abbrev fSub := fI (fun _ _ => True) fun i j => .int (i - j)
abbrev fLt := fI (fun _ _ => True) fun i j => .bl (decide (i < j))
abbrev fLe := fI (fun _ _ => True) fun i j => .bl (decide (i ≤ j))
abbrev fGt := fI (fun _ _ => True) fun i j => .bl (decide (j < i))
abbrev fGe := fI (fun _ _ => True) fun i j => .bl (decide (j ≤ i))
def sizeOk (n : Nat) : Prop := n ≤ 100000
instance (n : Nat) : Decidable (sizeOk n) := inferInstanceAs (Decidable (n ≤ 100000))
theorem sizeOk.le {n : Nat} (h : sizeOk n) : n ≤ sizeLine := Nat.le_trans h (by decide)
theorem sizeOk.lt {n : Nat} (h : sizeOk n) : n < sizeLine := Nat.lt_of_le_of_lt h (by decide)
def fAdd : Dt → Dt → Option Dt
  | .int i, .int j => some (.int (i + j))
  | .tup a, .tup b => if a ≠ [] ∧ sizeOk (a.length + b.length) then some (.tup (a ++ b)) else none
  | .lst a, .lst b => if sizeOk (a.length + b.length) then some (.lst (a ++ b)) else none
  | .str a, .str b => if sizeOk (a.length + b.length) then some (.str (a ++ b)) else none
  | _, _ => none
def MulOk (i j : Int) : Prop := i.natAbs.log2 + j.natAbs.log2 < 1000000
instance (i j : Int) : Decidable (MulOk i j) := inferInstanceAs (Decidable (_ < _))
def DivOk (j : Int) : Prop := j ≠ 0 ∧ j.natAbs.log2 < 9000
instance (j : Int) : Decidable (DivOk j) := inferInstanceAs (Decidable (_ ∧ _))
def fMul : Dt → Dt → Option Dt
  | .int i, .int j => if MulOk i j then some (.int (i * j)) else none
  | .lst a, .int j => if j ≤ 1000 ∧ -1000 ≤ j ∧ sizeOk (a.length * j.toNat) then some (.lst (List.replicate j.toNat a).flatten) else none
  | _, _ => none
abbrev fDiv := fI (fun _ j => DivOk j) fun i j => .int (i.fdiv j)
abbrev fMod := fI (fun _ j => j ≠ 0) fun i j => .int (i.fmod j)
instance (i j : Int) : Decidable (CPow i j) := inferInstanceAs (Decidable (_ ∧ _ ∧ _))
abbrev fPow := fI CPow fun i j => .int (i ^ j.toNat)
def fNeg : Dt → Option Dt
  | .int i => some (.int (-i))
  | _ => none
section
variable {X : Cx} {K : Frag} {mg : Str → Option Value}
theorem fI_some {C : Int → Int → Prop} [∀ i j, Decidable (C i j)] {g : Int → Int → Dt} {d e z : Dt} (h : fI C g d e = some z) : ∃ i j, d = .int i ∧ e = .int j ∧ C i j ∧ z = g i j := by
  unfold fI at h
  split at h
  · split at h
    · cases h
      exact ⟨_, _, rfl, rfl, by assumption, rfl⟩
    · cases h
  · cases h
theorem os_I {C C' : Int → Int → Prop} [∀ i j, Decidable (C i j)] {g : Int → Int → Dt} {gv : Int → Int → V} (hc : ∀ i j, C i j → C' i j) (hd : ∀ (h : Addr) (H : Hp) i j, Den K mg h H (gv i j) (g i j)) : OpS K mg (rI C' gv) (fI C g) := by
  intro h H0 H s x y d e z Q g0 hx hy hz q
  obtain ⟨i, j, rfl, rfl, c, rfl⟩ := fI_some hz
  cases hx
  cases hy
  exact ⟨i, j, rfl, rfl, hc i j c, q _ H0 H (.refl _ _) g0 (hd h H0 i j)⟩
theorem os_I0 {g : Int → Int → Dt} {gv : Int → Int → V} (hd : ∀ (h : Addr) (H : Hp) i j, Den K mg h H (gv i j) (g i j)) : OpS K mg (rI0 gv) (fI (fun _ _ => True) g) := by
  intro h H0 H s x y d e z Q g0 hx hy hz q
  obtain ⟨i, j, rfl, rfl, c, rfl⟩ := fI_some hz
  cases hx
  cases hy
  exact ⟨i, j, rfl, rfl, q _ H0 H (.refl _ _) g0 (hd h H0 i j)⟩
theorem os_sub : OpS K mg (rI0 fun i j => .int (i - j)) fSub := os_I0 fun _ _ _ _ => .int _
theorem os_lt : OpS K mg (rI0 fun i j => .bl (decide (i < j))) fLt := os_I0 fun _ _ _ _ => .bl _
theorem os_le : OpS K mg (rI0 fun i j => .bl (decide (i ≤ j))) fLe := os_I0 fun _ _ _ _ => .bl _
theorem os_gt : OpS K mg (rI0 fun i j => .bl (decide (j < i))) fGt := os_I0 fun _ _ _ _ => .bl _
theorem os_ge : OpS K mg (rI0 fun i j => .bl (decide (j ≤ i))) fGe := os_I0 fun _ _ _ _ => .bl _
def CDivA (_ j : Int) : Prop := j ≠ 0 ∧ j.natAbs.log2 < 9000
theorem op_divA : OpR X (binaryOp .FloorDiv) (rI CDivA fun i j => .int (i.fdiv j)) := opI fun _ _ _ _ _ _ _ hc q => floordiv_int hc.1 q (.inl (PyProof.noPylong_of_log2 hc.2))
theorem os_div : OpS K mg (rI CDivA fun i j => .int (i.fdiv j)) fDiv := os_I (fun _ _ c => c) fun _ _ _ _ => .int _
theorem os_mod : OpS K mg (rI (fun _ j => j ≠ 0) fun i j => .int (i.fmod j)) fMod := os_I (fun _ _ c => c) fun _ _ _ _ => .int _
theorem os_pow : OpS K mg (rI CPow fun i j => .int (i ^ j.toNat)) fPow := os_I (fun _ _ c => c) fun _ _ _ _ => .int _
theorem us_neg : UnS K mg (rU fun i => .int (-i)) fNeg := by
  intro h H0 H s x d z Q g0 hx hz q
  cases hx <;> first | cases hz | skip
  exact ⟨_, rfl, q _ H0 H (.refl _ _) g0 (.int _)⟩
/-- + -/
def rAddA (K : Frag) : R2 := fun x y H Q => (rI0 fun i j => V.int (i + j)) x y H Q ∨ (rCatT K x y H Q ∨ (rCat x y H Q ∨ (∃ i j, x = .str i ∧ y = .str j ∧ i.length + j.length ≤ sizeLine ∧ Q (.str (i ++ j)) H)))
theorem op_addA : OpR X (binaryOp .Add) (rAddA X.K) := op_add.or (op_catT.or (op_cat.or op_add_str))
theorem os_add : OpS K mg (rAddA K) fAdd := by
  intro h H0 H s x y d e z Q g0 hx hy hz q
  unfold fAdd at hz
  split at hz
  · cases hx
    cases hy
    cases hz
    exact .inl ⟨_, _, rfl, rfl, q _ H0 H (.refl _ _) g0 (.int _)⟩
  · split at hz
    · rename_i c
      cases hz
      cases hx with
      | tup qa ra =>
        cases hy with
        | tup qb rb =>
          have la := ra.len
          have lb := rb.len
          refine .inr (.inl ⟨_, _, _, _, rfl, rfl, sqt_mono g0.ex qa, sqt_mono g0.ex qb, fun z => c.1 ?_, ?_, fun z => ?_, fun _ p hp => ?_⟩)
          · rw [z] at la
            exact List.length_eq_zero_iff.mp la.symm
          · rw [la, lb]
            exact c.2.le
          · rw [z] at lb
            rw [List.length_eq_zero_iff.mp lb.symm, List.append_nil] at q
            exact q _ H0 H (.refl _ _) g0 (.tup qa ra)
          · obtain ⟨g1, st⟩ := g0.alloc (o := .tup _) hp
            exact q _ _ _ st g1 (.tup (SqT.of upd_same) ((ra.append rb).mono st.s0))
    · cases hz
  · split at hz
    · rename_i c
      cases hz
      cases hx with
      | lst qa ra =>
        cases hy with
        | lst qb rb =>
          have la := ra.len
          have lb := rb.len
          refine .inr (.inr (.inl ⟨_, _, _, _, rfl, rfl, g0.ex _ _ qa, g0.ex _ _ qb, ?_, fun p hp => ?_⟩))
          · rw [la, lb]
            exact c.le
          · obtain ⟨g1, st⟩ := g0.alloc (o := .lst _) hp
            exact q _ _ _ st g1 (.lst upd_same ((ra.append rb).mono st.s0))
    · cases hz
  · split at hz
    · rename_i c
      cases hz
      cases hx
      cases hy
      exact .inr (.inr (.inr ⟨_, _, rfl, rfl, c.le, q _ H0 H (.refl _ _) g0 (.str _)⟩))
    · cases hz
  · cases hz
/-- * -/
def rMulA : R2 := fun x y H Q => rI CMulW (fun i j => .int (i * j)) x y H Q ∨ rRep x y H Q
theorem op_mulA : OpR X (binaryOp .Mult) rMulA := op_mulW.or op_rep
theorem DenA.rep {h : Addr} {H : Hp} {vs : List V} {ds : List Dt} (r : DenA K mg h H vs ds) : ∀ k : Nat, DenA K mg h H (List.replicate k vs).flatten (List.replicate k ds).flatten
  | 0 => .nil
  | k + 1 => by
    rw [List.replicate_succ, List.replicate_succ, List.flatten_cons, List.flatten_cons]
    exact r.append (DenA.rep r k)
theorem os_mul : OpS K mg rMulA fMul := by
  intro h H0 H s x y d e z Q g0 hx hy hz q
  unfold fMul at hz
  split at hz
  · split at hz
    · cases hx
      cases hy
      cases hz
      exact .inl ⟨_, _, rfl, rfl, by assumption, q _ H0 H (.refl _ _) g0 (.int _)⟩
    · cases hz
  · split at hz
    · rename_i c
      cases hz
      cases hy
      cases hx with
      | lst qa ra =>
        have la := ra.len
        refine .inr ⟨_, _, _, rfl, rfl, g0.ex _ _ qa, by omega, by omega, ?_, fun p hp => ?_⟩
        · rw [la]
          exact c.2.2.le
        · obtain ⟨g1, st⟩ := g0.alloc (o := .lst _) hp
          exact q _ _ _ st g1 (.lst upd_same ((ra.rep _).mono st.s0))
    · cases hz
  · cases hz
end

/-! ### equality -/
mutual
def toPy : Dt → Option PyData
  | .non => some .none
  | .bl b => some (.bool b)
  | .int i => some (.int i)
  | .str x => some (.str x)
  | .tup ds => (toPyA ds).map .tuple
  | .lst ds => (toPyA ds).map .list
  | .obj _ _ => none
  | .hnd => none
def toPyA : List Dt → Option (List PyData)
  | [] => some []
  | d :: ds => (toPy d).bind fun p => (toPyA ds).map fun ps => p :: ps
end
section
variable {K : Frag} {mg : Str → Option Value} {h : Addr} {H : Hp}
mutual
theorem Den.dp : ∀ {v : V} {d : Dt} {p : PyData}, Den K mg h H v d → toPy d = some p → Dp K H v p
  | _, _, _, .non, e => by
    cases e
    exact .non
  | _, _, _, .bl b, e => by
    cases e
    exact .bl b
  | _, _, _, .int i, e => by
    cases e
    exact .int i
  | _, _, _, .str x, e => by
    cases e
    exact .str x
  | _, .tup ds, p, .tup q r, e => by
    unfold toPy at e
    cases hp : toPyA ds with
    | none =>
      rw [hp] at e
      cases e
    | some ps =>
      rw [hp] at e
      cases e
      exact .tup q (DenA.dp r hp)
  | _, .lst ds, p, .lst q r, e => by
    unfold toPy at e
    cases hp : toPyA ds with
    | none =>
      rw [hp] at e
      cases e
    | some ps =>
      rw [hp] at e
      cases e
      exact .lst (SqL.of q) (DenA.dp r hp)
  | _, _, _, .obj _ _ _, e => by
    unfold toPy at e
    cases e
  | _, _, _, .hnd, e => by
    unfold toPy at e
    cases e
theorem DenA.dp : ∀ {vs : List V} {ds : List Dt} {ps : List PyData}, DenA K mg h H vs ds → toPyA ds = some ps → DpAll K H vs ps
  | _, _, _, .nil, e => by
    cases e
    exact .nil
  | _, d :: ds, ps, .cons q r, e => by
    unfold toPyA at e
    cases hp : toPy d with
    | none =>
      rw [hp] at e
      cases e
    | some p =>
      rw [hp] at e
      cases hq : toPyA ds with
      | none =>
        rw [hq] at e
        cases e
      | some qs =>
        rw [hq] at e
        cases e
        exact .cons (Den.dp q hp) (DenA.dp r hq)
end
end
/-- data that may be compared -/
def pyOk (d : Dt) : Option PyData := (toPy d).bind fun p => if SeqAt.shaped p = true then some p else none
theorem pyOk_some {d : Dt} {p : PyData} (h : pyOk d = some p) : toPy d = some p ∧ SeqAt.shaped p = true := by
  unfold pyOk at h
  cases e : toPy d with
  | none =>
    rw [e] at h
    cases h
  | some q =>
    rw [e] at h
    have h' : (if SeqAt.shaped q = true then some q else none) = some p := h
    by_cases c : SeqAt.shaped q = true
    · rw [if_pos c] at h'
      cases h'
      exact ⟨rfl, c⟩
    · rw [if_neg c] at h'
      cases h'
def fEqB (d e : Dt) : Option Bool := (pyOk d).bind fun p => (pyOk e).bind fun q => some (PyData.eqv p q)
def fEq (d e : Dt) : Option Dt := (fEqB d e).map .bl
def fNe (d e : Dt) : Option Dt := (fEqB d e).map fun b => .bl (!b)
def fIs : Dt → Dt → Option Dt
  | .bl a, .bl b => some (.bl (a == b))
  | .non, .non => some (.bl true)
  | .bl _, .non => some (.bl false)
  | .int _, .non => some (.bl false)
  | .str _, .non => some (.bl false)
  | .tup _, .non => some (.bl false)
  | .lst _, .non => some (.bl false)
  | .obj _ _, .non => some (.bl false)
  | _, _ => none
def fIsNot (d e : Dt) : Option Dt := match fIs d e with
  | some (.bl b) => some (.bl (!b))
  | _ => none
/-- x in xs, a list -/
def fInB (d : Dt) : Dt → Option Bool
  | .lst es => (pyOk d).bind fun p => (pyOk (.lst es)).bind fun q => match q with
    | .list qs => some (qs.any fun z => PyData.eqv z p)
    | _ => none
  | _ => none
def fIn (d e : Dt) : Option Dt := (fInB d e).map .bl
def fNotIn (d e : Dt) : Option Dt := (fInB d e).map fun b => .bl (!b)
section
variable {X : Cx} {K : Frag} {mg : Str → Option Value}
theorem fEqB_some {d e : Dt} {b : Bool} (h : fEqB d e = some b) : ∃ p q, toPy d = some p ∧ toPy e = some q ∧ SeqAt.shaped p = true ∧ SeqAt.shaped q = true ∧ b = PyData.eqv p q := by
  unfold fEqB at h
  cases e1 : pyOk d with
  | none =>
    rw [e1] at h
    cases h
  | some p =>
    rw [e1] at h
    cases e2 : pyOk e with
    | none =>
      rw [e2] at h
      cases h
    | some q =>
      rw [e2] at h
      cases h
      exact ⟨p, q, (pyOk_some e1).1, (pyOk_some e2).1, (pyOk_some e1).2, (pyOk_some e2).2, rfl⟩
theorem os_eq : OpS K mg (rEqD K) fEq := by
  intro h H0 H s x y d e z Q g0 hx hy hz q
  unfold fEq at hz
  cases hb : fEqB d e with
  | none =>
    rw [hb] at hz
    cases hz
  | some b =>
    rw [hb] at hz
    cases hz
    obtain ⟨p, p', a1, a2, a3, a4, rfl⟩ := fEqB_some hb
    exact ⟨p, p', (hx.mono g0.ex).dp a1, (hy.mono g0.ex).dp a2, a3, a4, q _ H0 H (.refl _ _) g0 (.bl _)⟩
theorem os_ne : OpS K mg (rNeD K) fNe := by
  intro h H0 H s x y d e z Q g0 hx hy hz q
  unfold fNe at hz
  cases hb : fEqB d e with
  | none =>
    rw [hb] at hz
    cases hz
  | some b =>
    rw [hb] at hz
    cases hz
    obtain ⟨p, p', a1, a2, a3, a4, rfl⟩ := fEqB_some hb
    exact ⟨p, p', (hx.mono g0.ex).dp a1, (hy.mono g0.ex).dp a2, a3, a4, q _ H0 H (.refl _ _) g0 (.bl _)⟩
def rIsA : R2 := fun x y H Q => (y = .non ∧ Q (.bl (decide (x = .non))) H) ∨ ∃ a b, x = .bl a ∧ y = .bl b ∧ Q (.bl (a == b)) H
def rIsNotA : R2 := fun x y H Q => (y = .non ∧ Q (.bl (!decide (x = .non))) H) ∨ ∃ a b, x = .bl a ∧ y = .bl b ∧ Q (.bl (!(a == b))) H
theorem op_isB : OpR X (compareOp .Is) (fun x y H Q => ∃ a b, x = .bl a ∧ y = .bl b ∧ Q (.bl (a == b)) H) := by
  intro pins s σ H x y v u Q I rx ry hh
  obtain ⟨a, b, rfl, rfl, q⟩ := hh
  cases rx
  cases ry
  exact is_bool ⟨.bl _, H, I, rfl, q⟩
theorem op_isA : OpR X (compareOp .Is) rIsA := op_isN.or op_isB
theorem isnot_bool' {M : Model} {A : Around} {Q : Value → Shared → Prop} {E : Value → Shared → Prop} {s : Shared} {c d : Bool} (h : Q (.bool (!(c == d))) s) : wpAny M A (compareOp .IsNot (.bool c) (.bool d)) Q E s := by
  have e : isSame (.bool c) (.bool d) = pure (c == d) := by cases c <;> cases d <;> rfl
  show wpAny M A (do return Value.bool (!(← isSame (.bool c) (.bool d)))) Q E s
  rw [e]
  exact wpAny_bind (wpAny_pure (wpAny_pure h))
theorem op_isNotB : OpR X (compareOp .IsNot) (fun x y H Q => ∃ a b, x = .bl a ∧ y = .bl b ∧ Q (.bl (!(a == b))) H) := by
  intro pins s σ H x y v u Q I rx ry hh
  obtain ⟨a, b, rfl, rfl, q⟩ := hh
  cases rx
  cases ry
  exact isnot_bool' ⟨.bl _, H, I, rfl, q⟩
theorem op_isNotA : OpR X (compareOp .IsNot) rIsNotA := op_notN.or op_isNotB
theorem fIs_cases {d e : Dt} {z : Dt} (hz : fIs d e = some z) {h : Addr} {H : Hp} {x y : V} (hx : Den K mg h H x d) (hy : Den K mg h H y e) : (y = .non ∧ z = .bl (decide (x = .non))) ∨ ∃ a b, x = .bl a ∧ y = .bl b ∧ z = .bl (a == b) := by
  unfold fIs at hz
  split at hz <;> first
    | (cases hz; done)
    | (cases hz; cases hx; cases hy; exact .inr ⟨_, _, rfl, rfl, rfl⟩)
    | (cases hz; cases hx <;> cases hy; exact .inl ⟨rfl, rfl⟩)
theorem os_is : OpS K mg rIsA fIs := by
  intro h H0 H s x y d e z Q g0 hx hy hz q
  rcases fIs_cases hz hx hy with ⟨rfl, rfl⟩ | ⟨a, b, rfl, rfl, rfl⟩
  · exact .inl ⟨rfl, q _ H0 H (.refl _ _) g0 (.bl _)⟩
  · exact .inr ⟨a, b, rfl, rfl, q _ H0 H (.refl _ _) g0 (.bl _)⟩
theorem os_isNot : OpS K mg rIsNotA fIsNot := by
  intro h H0 H s x y d e z Q g0 hx hy hz q
  unfold fIsNot at hz
  split at hz
  · rename_i b hb
    cases hz
    rcases fIs_cases hb hx hy with ⟨rfl, eb⟩ | ⟨a, c, rfl, rfl, eb⟩
    · cases eb
      exact .inl ⟨rfl, q _ H0 H (.refl _ _) g0 (.bl _)⟩
    · cases eb
      exact .inr ⟨a, c, rfl, rfl, q _ H0 H (.refl _ _) g0 (.bl _)⟩
  · cases hz
theorem fInB_some {d e : Dt} {b : Bool} (h : fInB d e = some b) : ∃ es p qs, e = .lst es ∧ toPy d = some p ∧ toPy e = some (.list qs) ∧ SeqAt.shaped p = true ∧ SeqAt.shaped (.list qs) = true ∧ b = qs.any fun z => PyData.eqv z p := by
  unfold fInB at h
  split at h
  · rename_i es
    cases e1 : pyOk d with
    | none =>
      rw [e1] at h
      cases h
    | some p =>
      rw [e1] at h
      cases e2 : pyOk (.lst es) with
      | none =>
        rw [e2] at h
        cases h
      | some q =>
        rw [e2] at h
        obtain ⟨b1, b2⟩ := pyOk_some e1
        obtain ⟨c1, c2⟩ := pyOk_some e2
        cases q with
        | list qs =>
          cases h
          exact ⟨es, p, qs, rfl, b1, c1, b2, c2, rfl⟩
        | _ => cases h
  · cases h
theorem os_in : OpS K mg (rInD K) fIn := by
  intro h H0 H s x y d e z Q g0 hx hy hz q
  unfold fIn at hz
  cases hb : fInB d e with
  | none =>
    rw [hb] at hz
    cases hz
  | some b =>
    rw [hb] at hz
    cases hz
    obtain ⟨es, p, qs, rfl, a1, a2, a3, a4, rfl⟩ := fInB_some hb
    exact ⟨p, qs, (hx.mono g0.ex).dp a1, (hy.mono g0.ex).dp a2, a3, a4, q _ H0 H (.refl _ _) g0 (.bl _)⟩
theorem os_notIn : OpS K mg (rNotInD K) fNotIn := by
  intro h H0 H s x y d e z Q g0 hx hy hz q
  unfold fNotIn at hz
  cases hb : fInB d e with
  | none =>
    rw [hb] at hz
    cases hz
  | some b =>
    rw [hb] at hz
    cases hz
    obtain ⟨es, p, qs, rfl, a1, a2, a3, a4, rfl⟩ := fInB_some hb
    exact ⟨p, qs, (hx.mono g0.ex).dp a1, (hy.mono g0.ex).dp a2, a3, a4, q _ H0 H (.refl _ _) g0 (.bl _)⟩
end

/-! ### places, lengths, types -/
def fIx : Dt → Dt → Option Dt
  | .tup ds, .int i => atI ds i
  | .lst ds, .int i => atI ds i
  | .str x, .int i => if sizeOk x.length then (atI x.cps.toList i).map fun c => .str ⟨#[c]⟩ else none
  | _, _ => none
def fLen : List Dt → Option Dt
  | [.tup ds] => some (.int ds.length)
  | [.lst ds] => some (.int ds.length)
  | [.str x] => if sizeOk x.length then some (.int x.length) else none
  | _ => none
def fAbs : List Dt → Option Dt
  | [.int i] => some (.int (if i < 0 then -i else i))
  | _ => none
def fIntC : List Dt → Option Dt
  | [.int i] => some (.int i)
  | [.bl k] => some (.int (if k then 1 else 0))
  | _ => none
def fGcd : List Dt → Option Dt
  | [.int a, .int b] => some (.int ((Nat.gcd a.natAbs b.natAbs : Nat) : Int))
  | _ => none
def fListC : List Dt → Option Dt
  | [.tup ds] => some (.lst ds)
  | [.lst ds] => some (.lst ds)
  | _ => none
def fTupC : List Dt → Option Dt
  | [.tup ds] => some (.tup ds)
  | [.lst ds] => some (.tup ds)
  | _ => none
def tyN : Dt → Option String
  | .non => some "NoneType"
  | .bl _ => some "bool"
  | .int _ => some "int"
  | .str _ => some "str"
  | .tup _ => some "tuple"
  | .lst _ => some "list"
  | _ => none
def fIsi (T : String) (d : Dt) : Option Bool := (tyN d).bind fun n => kitB n T
section
variable {X : Cx} {K : Frag} {mg : Str → Option Value}
theorem DenA.atI' {h : Addr} {H : Hp} {vs : List V} {ds : List Dt} {i : Int} {z : Dt} (r : DenA K mg h H vs ds) (e : atI ds i = some z) : ∃ v, atI vs i = some v ∧ Den K mg h H v z := by
  have l := r.len
  unfold atI at e ⊢
  rw [l]
  cases hj : ixN ds.length i with
  | none =>
    rw [hj] at e
    cases e
  | some j =>
    rw [hj] at e
    exact r.get e
theorem os_ix : OpS K mg (rIx K) fIx := by
  intro h H0 H s x y d e z Q g0 hx hy hz q
  unfold fIx at hz
  split at hz
  · cases hy
    cases hx with
    | tup qa ra =>
      obtain ⟨v, a1, a2⟩ := ra.atI' hz
      exact .inr (.inl ⟨_, _, _, _, rfl, rfl, sqt_mono g0.ex qa, a1, q _ H0 H (.refl _ _) g0 a2⟩)
  · cases hy
    cases hx with
    | lst qa ra =>
      obtain ⟨v, a1, a2⟩ := ra.atI' hz
      exact .inl ⟨_, _, _, _, rfl, rfl, SqL.of (g0.ex _ _ qa), a1, q _ H0 H (.refl _ _) g0 a2⟩
  · split at hz
    · rename_i x i c
      cases hy
      cases hx
      cases ha : atI x.cps.toList i with
      | none =>
        rw [ha] at hz
        cases hz
      | some k =>
        rw [ha] at hz
        cases hz
        exact .inr (.inr ⟨_, _, _, rfl, rfl, c.le, ha, q _ H0 H (.refl _ _) g0 (.str _)⟩)
    · cases hz
  · cases hz
def rLenA (K : Frag) : List V → Hp → VK → Prop := fun xs H Q => (∃ p ys, xs = [.ref p] ∧ (SqL K H p ys ∨ SqT K H p ys) ∧ Q (.int ys.length) H) ∨ (∃ z : Str, xs = [.str z] ∧ z.length ≤ sizeLine ∧ Q (.int z.length) H)
theorem cs_len : CaS K mg (rLenA K) fLen := by
  intro h H0 H s xs ds z Q g0 hx hz q
  unfold fLen at hz
  split at hz
  · cases hz
    cases hx with
    | cons a r =>
      cases r
      cases a with
      | tup qa ra => exact .inl ⟨_, _, rfl, .inr (sqt_mono g0.ex qa), by rw [ra.len]; exact q _ H0 H (.refl _ _) g0 (.int _)⟩
  · cases hz
    cases hx with
    | cons a r =>
      cases r
      cases a with
      | lst qa ra => exact .inl ⟨_, _, rfl, .inl (SqL.of (g0.ex _ _ qa)), by rw [ra.len]; exact q _ H0 H (.refl _ _) g0 (.int _)⟩
  · split at hz
    · rename_i c
      cases hz
      cases hx with
      | cons a r =>
        cases r
        cases a
        exact .inr ⟨_, rfl, c.le, q _ H0 H (.refl _ _) g0 (.int _)⟩
    · cases hz
  · cases hz
theorem call_lenA : CallR X (.builtin "len") (rLenA X.K) := call_len_seq.or call_len_str
theorem cs_abs : CaS K mg (fun xs H Q => ∃ i, xs = [.int i] ∧ Q (.int (if i < 0 then -i else i)) H) fAbs := by
  intro h H0 H s xs ds z Q g0 hx hz q
  unfold fAbs at hz
  split at hz
  · cases hz
    cases hx with
    | cons a r =>
      cases r
      cases a
      exact ⟨_, rfl, q _ H0 H (.refl _ _) g0 (.int _)⟩
  · cases hz
theorem cs_int : CaS K mg (fun xs H Q => (∃ i, xs = [.int i] ∧ Q (.int i) H) ∨ ∃ k, xs = [.bl k] ∧ Q (.int (if k then 1 else 0)) H) fIntC := by
  intro h H0 H s xs ds z Q g0 hx hz q
  unfold fIntC at hz
  split at hz
  · cases hz
    cases hx with
    | cons a r =>
      cases r
      cases a
      exact .inl ⟨_, rfl, q _ H0 H (.refl _ _) g0 (.int _)⟩
  · cases hz
    cases hx with
    | cons a r =>
      cases r
      cases a
      exact .inr ⟨_, rfl, q _ H0 H (.refl _ _) g0 (.int _)⟩
  · cases hz
theorem cs_gcd : CaS K mg rGcd fGcd := by
  intro h H0 H s xs ds z Q g0 hx hz q
  unfold fGcd at hz
  split at hz
  · cases hz
    cases hx with
    | cons a r =>
      cases r with
      | cons b r =>
        cases r
        cases a
        cases b
        exact ⟨_, _, rfl, q _ H0 H (.refl _ _) g0 (.int _)⟩
  · cases hz
theorem cs_list : CaS K mg (fun xs H Q => ∃ p ys, xs = [.ref p] ∧ (SqL K H p ys ∨ SqT K H p ys) ∧ ∀ l, H l = none → Q (.ref l) (upd H l (.lst ys))) fListC := by
  intro h H0 H s xs ds z Q g0 hx hz q
  unfold fListC at hz
  split at hz
  · cases hz
    cases hx with
    | cons a r =>
      cases r
      cases a with
      | tup qa ra =>
        refine ⟨_, _, rfl, .inr (sqt_mono g0.ex qa), fun p hp => ?_⟩
        obtain ⟨g1, st⟩ := g0.alloc (o := .lst _) hp
        exact q _ _ _ st g1 (.lst upd_same (ra.mono st.s0))
  · cases hz
    cases hx with
    | cons a r =>
      cases r
      cases a with
      | lst qa ra =>
        refine ⟨_, _, rfl, .inl (SqL.of (g0.ex _ _ qa)), fun p hp => ?_⟩
        obtain ⟨g1, st⟩ := g0.alloc (o := .lst _) hp
        exact q _ _ _ st g1 (.lst upd_same (ra.mono st.s0))
  · cases hz
theorem cs_tuple : CaS K mg (fun xs H Q => ∃ p ys, xs = [.ref p] ∧ ((SqL K H p ys ∧ ∀ l, H l = none → Q (.ref l) (upd H l (.tup ys))) ∨ (SqT K H p ys ∧ Q (.ref p) H))) fTupC := by
  intro h H0 H s xs ds z Q g0 hx hz q
  unfold fTupC at hz
  split at hz
  · cases hz
    cases hx with
    | cons a r =>
      cases r
      cases a with
      | tup qa ra => exact ⟨_, _, rfl, .inr ⟨sqt_mono g0.ex qa, q _ H0 H (.refl _ _) g0 (.tup qa ra)⟩⟩
  · cases hz
    cases hx with
    | cons a r =>
      cases r
      cases a with
      | lst qa ra =>
        refine ⟨_, _, rfl, .inl ⟨SqL.of (g0.ex _ _ qa), fun p hp => ?_⟩⟩
        obtain ⟨g1, st⟩ := g0.alloc (o := .tup _) hp
        exact q _ _ _ st g1 (.tup (SqT.of upd_same) (ra.mono st.s0))
  · cases hz
theorem TyX.of {h : Addr} {H : Hp} {x : V} {d : Dt} {n : String} (q : Den K mg h H x d) (e : tyN d = some n) : TyX K H x (.type n) := by
  cases q with
  | non =>
    cases e
    exact .base .non
  | bl b =>
    cases e
    exact .base (.bl b)
  | int i =>
    cases e
    exact .base (.int i)
  | str x =>
    cases e
    exact .base (.str x)
  | tup q r =>
    cases e
    rcases q with (q | ⟨o, q⟩) | ⟨o, its, n, q1, q2, _⟩
    · exact .base (.tup q)
    · exact .fTuple q
    · exact .kTuple q1 q2
  | lst q r =>
    cases e
    exact .base (.lst q)
  | obj _ _ _ => cases e
  | hnd => cases e
end
end Mir


set_option Elab.async false
set_option linter.all false
set_option maxRecDepth 100000
namespace Mir
open PySem PySem.Spec PyProof.Rows L2
open PySem.W (Frag)

/-! ### expressions -/
section
variable {K : Frag} {mg : Str → Option Value} {Wx : WX} {ta tb : TE} {a b : ME} {tt tu : TT} {mt mu : MT} {t : TA} {as : MA}
theorem se_var {i : Nat} : SE K mg Wx (tVar i) (mVar i) := by
  intro h H0 H s σ ρ Q g S p
  unfold mVar at p
  split at p
  · rename_i d e
    obtain ⟨v, e1, q⟩ := S.dat e
    exact ⟨v, e1, p v H0 H (.refl _ _) g q⟩
  · exact p.elim
theorem se_c {v : V} {d : Dt} (hd : ∀ (h : Addr) (H : Hp), Den K mg h H v d) : SE K mg Wx (tC v) (mC d) := fun h H0 H s σ ρ Q g S p => p v H0 H (.refl _ _) g (hd h H0)
theorem post_lift {α : Type} {h : Addr} {H0 H : Hp} {rel : Hp → α → Dt → Prop} {o : Option Dt} {s : Hd} {Q : α → Hp → Prop} (p : Post K mg h rel (liftO o s) H0 H Wx Q) : ∃ z, o = some z ∧ Post K mg h rel (.ok z s) H0 H Wx Q := by
  cases o with
  | none => exact p.elim
  | some z => exact ⟨z, rfl, p⟩
theorem se_op {r : R2} {f : Dt → Dt → Option Dt} (hr : OpS K mg r f) (ha : SE K mg Wx ta a) (hb : SE K mg Wx tb b) : SE K mg Wx (tOp r ta tb) (mOp f a b) := by
  intro h H0 H s σ ρ Q g S p
  refine ha h H0 H s σ ρ _ g S (Post.bind p fun d s1 x A B st g1 dx p1 => hb h A B s1 σ ρ _ g1 (S.step st) (Post.bind p1 fun e s2 y A2 B2 st2 g2 dy p2 => ?_))
  obtain ⟨z, hz, p3⟩ := post_lift p2
  exact hr h A2 B2 s2 x y d e z Q g2 (dx.mono st2.s0) dy hz fun u A3 B3 st3 g3 du => p3 u A3 B3 st3 g3 du
theorem se_un {r : V → Hp → VK → Prop} {f : Dt → Option Dt} (hr : UnS K mg r f) (ha : SE K mg Wx ta a) : SE K mg Wx (tUn r ta) (mUn f a) := by
  intro h H0 H s σ ρ Q g S p
  refine ha h H0 H s σ ρ _ g S (Post.bind p fun d s1 x A B st g1 dx p1 => ?_)
  obtain ⟨z, hz, p3⟩ := post_lift p1
  exact hr h A B s1 x d z Q g1 dx hz fun u A3 B3 st3 g3 du => p3 u A3 B3 st3 g3 du
theorem st_test (ha : SE K mg Wx ta a) : ST K mg Wx (tTest ta) (mTest a) := by
  intro h H0 H s σ ρ Q g S p
  refine ha h H0 H s σ ρ _ g S (Post.bind p fun d s1 x A B st g1 dx p1 => ?_)
  cases dx with
  | bl k => exact ⟨k, rfl, p1 k A B (.refl _ _) g1 rfl⟩
  | _ => exact p1.elim
theorem truV {h : Addr} {H0 H : Hp} {x : V} {d : Dt} {k : Bool} (e : Same H0 H) (q : Den K mg h H0 x d) (hk : fTru d = some k) : TruV K x H k := by
  cases q with
  | non =>
    cases hk
    rfl
  | bl b =>
    cases hk
    rfl
  | int i =>
    cases hk
    rfl
  | str y =>
    have hk : (if y.length ≤ 100000 then some ((y.length : Int) != 0) else none) = some k := hk
    by_cases c : y.length ≤ 100000
    · rw [if_pos c] at hk
      cases hk
      exact ⟨sizeOk.le c, rfl⟩
    · rw [if_neg c] at hk
      cases hk
  | tup q r =>
    cases hk
    refine .inr (.inl ⟨_, sqt_mono e q, ?_⟩)
    cases r <;> rfl
  | lst q r =>
    cases hk
    refine .inl ⟨_, SqL.of (e _ _ q), ?_⟩
    cases r <;> rfl
  | obj _ _ _ => cases hk
  | hnd => cases hk
theorem post_liftB {h : Addr} {H0 H : Hp} {o : Option Bool} {s : Hd} {Q : Bool → Hp → Prop} (p : Post K mg h EqB (liftO o s) H0 H Wx Q) : ∃ z, o = some z ∧ Post K mg h EqB (.ok z s) H0 H Wx Q := by
  cases o with
  | none => exact p.elim
  | some z => exact ⟨z, rfl, p⟩
theorem st_tru (ha : SE K mg Wx ta a) : ST K mg Wx (fun σ H Q => ta σ H fun x H' => ∃ k, TruV K x H' k ∧ Q k H') (mTru a) := by
  intro h H0 H s σ ρ Q g S p
  refine ha h H0 H s σ ρ _ g S (Post.bind p fun d s1 x A B st g1 dx p1 => ?_)
  obtain ⟨k, hk, p2⟩ := post_liftB p1
  exact ⟨k, truV g1.ex dx hk, p2 k A B (.refl _ _) g1 rfl⟩
theorem st_and (ha : ST K mg Wx tt mt) (hb : ST K mg Wx tu mu) : ST K mg Wx (tAnd tt tu) (mAnd mt mu) := by
  intro h H0 H s σ ρ Q g S p
  refine ha h H0 H s σ ρ _ g S (Post.bind p fun d s1 x A B st g1 dx p1 => ?_)
  cases (show x = d from dx)
  cases d with
  | true => exact hb h A B s1 σ ρ Q g1 (S.step st) p1
  | false => exact p1 false A B (.refl _ _) g1 rfl
theorem st_or (ha : ST K mg Wx tt mt) (hb : ST K mg Wx tu mu) : ST K mg Wx (tOr tt tu) (mOr mt mu) := by
  intro h H0 H s σ ρ Q g S p
  refine ha h H0 H s σ ρ _ g S (Post.bind p fun d s1 x A B st g1 dx p1 => ?_)
  cases (show x = d from dx)
  cases d with
  | false => exact hb h A B s1 σ ρ Q g1 (S.step st) p1
  | true => exact p1 true A B (.refl _ _) g1 rfl
theorem st_not (ha : ST K mg Wx tt mt) : ST K mg Wx (tNot tt) (mNot mt) := by
  intro h H0 H s σ ρ Q g S p
  refine ha h H0 H s σ ρ _ g S (Post.bind p fun d s1 x A B st g1 dx p1 => ?_)
  cases (show x = d from dx)
  exact p1 _ A B (.refl _ _) g1 rfl
theorem se_if (ht : ST K mg Wx tt mt) (ha : SE K mg Wx ta a) (hb : SE K mg Wx tb b) : SE K mg Wx (tIf tt ta tb) (mIf mt a b) := by
  intro h H0 H s σ ρ Q g S p
  refine ht h H0 H s σ ρ _ g S (Post.bind p fun d s1 x A B st g1 dx p1 => ?_)
  cases (show x = d from dx)
  cases d with
  | true => exact ha h A B s1 σ ρ Q g1 (S.step st) p1
  | false => exact hb h A B s1 σ ρ Q g1 (S.step st) p1
theorem se_andV (ha : SE K mg Wx ta a) (hb : SE K mg Wx tb b) : SE K mg Wx (tAndT K ta tb) (mAndV a b) := by
  intro h H0 H s σ ρ Q g S p
  refine ha h H0 H s σ ρ _ g S (Post.bind p fun d s1 x A B st g1 dx p1 => ?_)
  cases hk : fTru d with
  | none =>
    rw [hk] at p1
    exact p1.elim
  | some k =>
    rw [hk] at p1
    refine ⟨k, truV g1.ex dx hk, ?_⟩
    cases k with
    | true => exact hb h A B s1 σ ρ Q g1 (S.step st) p1
    | false => exact p1 x A B (.refl _ _) g1 dx
theorem se_orV (ha : SE K mg Wx ta a) (hb : SE K mg Wx tb b) : SE K mg Wx (tOrT K ta tb) (mOrV a b) := by
  intro h H0 H s σ ρ Q g S p
  refine ha h H0 H s σ ρ _ g S (Post.bind p fun d s1 x A B st g1 dx p1 => ?_)
  cases hk : fTru d with
  | none =>
    rw [hk] at p1
    exact p1.elim
  | some k =>
    rw [hk] at p1
    refine ⟨k, truV g1.ex dx hk, ?_⟩
    cases k with
    | false => exact hb h A B s1 σ ρ Q g1 (S.step st) p1
    | true => exact p1 x A B (.refl _ _) g1 dx
theorem se_notV (ha : SE K mg Wx ta a) : SE K mg Wx (tNotT K ta) (mNotV a) := by
  intro h H0 H s σ ρ Q g S p
  refine ha h H0 H s σ ρ _ g S (Post.bind p fun d s1 x A B st g1 dx p1 => ?_)
  cases hk : fTru d with
  | none =>
    rw [hk] at p1
    exact p1.elim
  | some k =>
    rw [hk] at p1
    exact ⟨k, truV g1.ex dx hk, p1 _ A B (.refl _ _) g1 (.bl _)⟩
theorem sa_nil : SA K mg Wx tNil mNil := fun h H0 H s σ ρ Q g S p => p [] H0 H (.refl _ _) g .nil
theorem sa_cons (ha : SE K mg Wx ta a) (hr : SA K mg Wx t as) : SA K mg Wx (tCons ta t) (mCons a as) := by
  intro h H0 H s σ ρ Q g S p
  refine ha h H0 H s σ ρ _ g S (Post.bind p fun d s1 x A B st g1 dx p1 => hr h A B s1 σ ρ _ g1 (S.step st) (Post.bind p1 fun ds s2 xs A2 B2 st2 g2 dxs p2 => ?_))
  exact p2 (x :: xs) A2 B2 (.refl _ _) g2 (.cons (dx.mono st2.s0) dxs)
theorem se_tup (ha : SA K mg Wx t as) : SE K mg Wx (tTup t) (mTup as) := by
  intro h H0 H s σ ρ Q g S p
  refine ha h H0 H s σ ρ _ g S (Post.bind p fun ds s1 xs A B st g1 dx p1 => ?_)
  by_cases c : ds.length ≤ 100000
  · rw [if_pos c] at p1
    refine ⟨by rw [dx.len]; exact sizeOk.le c, fun q hq => ?_⟩
    obtain ⟨g2, st2⟩ := g1.alloc (o := .tup xs) hq
    exact p1 _ _ _ st2 g2 (.tup (SqT.of upd_same) (dx.mono st2.s0))
  · rw [if_neg c] at p1
    exact p1.elim
theorem se_lst (ha : SA K mg Wx t as) : SE K mg Wx (tLst t) (mLst as) := by
  intro h H0 H s σ ρ Q g S p
  refine ha h H0 H s σ ρ _ g S (Post.bind p fun ds s1 xs A B st g1 dx p1 => ?_)
  by_cases c : ds.length ≤ 100000
  · rw [if_pos c] at p1
    refine ⟨by rw [dx.len]; exact sizeOk.le c, fun q hq => ?_⟩
    obtain ⟨g2, st2⟩ := g1.alloc (o := .lst xs) hq
    exact p1 _ _ _ st2 g2 (.lst upd_same (dx.mono st2.s0))
  · rw [if_neg c] at p1
    exact p1.elim
theorem se_cb {r : List V → Hp → VK → Prop} {f : List Dt → Option Dt} (hr : CaS K mg r f) (ha : SA K mg Wx t as) : SE K mg Wx (tCB r t) (mCB f as) := by
  intro h H0 H s σ ρ Q g S p
  refine ha h H0 H s σ ρ _ g S (Post.bind p fun ds s1 xs A B st g1 dx p1 => ?_)
  obtain ⟨z, hz, p3⟩ := post_lift p1
  exact hr h A B s1 xs ds z Q g1 dx hz fun u A3 B3 st3 g3 du => p3 u A3 B3 st3 g3 du
end

/-! ### calls of defs -/
section
variable (K : Frag) (mg : Str → Option Value)
def PostC (h : Addr) (r : R Dt) (H0 H : Hp) (E : XK) (Q : VK) : Prop := match r with
  | .ok d s => ∀ v H0' H', Step h H0 H H0' H' → G h H0' H' s → Den K mg h H0' v d → Q v H'
  | .err c fs _ s => ∀ (C dd : Addr) (fv : List (Str × V)) (H0' H' : Hp), Step h H0 H H0' H' → G h H0' H' s → mg c = some (.ref C) → H' dd = some (.xd fv) → DenF K mg h H0' fv fs → E (.ref C) (some dd) H'
  | .bad => False
/-- the promise: what m says -/
def spM (n : Nat) (m : List Dt → Hd → R Dt) : Sp := fun vs H Q E => vs.length = n ∧ ∃ (h : Addr) (H0 : Hp) (s : Hd) (ds : List Dt), G h H0 H s ∧ DenA K mg h H0 vs ds ∧ PostC K mg h (m ds s) H0 H E Q
end
section
variable {K : Frag} {mg : Str → Option Value} {Wx : WX} {t : TA} {as : MA}
theorem se_call {n : Nat} {dvs : List V} {dd : List Dt} {m : List Dt → Hd → R Dt} (hd : ∀ (h : Addr) (H : Hp), DenA K mg h H dvs dd) (ha : SA K mg Wx t as) : SE K mg Wx (tCallSD (spM K mg n m) dvs (WE Wx) t) (mCall n dd m as) := by
  intro h H0 H s σ ρ Q g S p
  refine ha h H0 H s σ ρ _ g S (Post.bind p fun ds s1 xs A B st g1 dx p1 => ?_)
  by_cases c : (ds ++ dd).length = n
  · rw [if_pos c] at p1
    have dx2 := dx.append (hd h A)
    refine ⟨by rw [dx2.len]; exact c, h, A, s1, ds ++ dd, g1, dx2, ?_⟩
    cases hm : m (ds ++ dd) s1 with
    | ok d s2 =>
      rw [hm] at p1
      exact p1
    | err cc fs ρ' s2 =>
      rw [hm] at p1
      exact fun C e fv A2 B2 st2 g2 mc x f => p1 σ C e fv A2 B2 st2 g2 (S.step (st.trans st2)) mc x f
    | bad =>
      rw [hm] at p1
      exact p1.elim
  · rw [if_neg c] at p1
    exact p1.elim
end

section
variable {X : Cx} {Wx : WX} {a b c e : Expr} {ma mb mc : ME} {mt mu : MT} {as : MA} {rest es : List Expr} {pos p : Pos}
theorem qe_var (i : Nat) {x : Str} (hN : X.N[i]? = some x := by rfl) (hv : Vis X.env.scope x := by first | exact Or.inl rfl | exact Or.inr (Or.inl rfl) | exact Or.inr (Or.inr rfl)) (hd : (x == ("__debug__" : Str)) = false := by decide)
    (hcd : (x == ("__classdict__" : Str)) = false := by decide) : QE X Wx (.Name x pos) (mVar i) := ⟨_, pe_var hN hv hd hcd, se_var⟩
theorem qe_int {i j} : QE X Wx (.Constant (.int i) j pos) (mC (.int i)) := ⟨_, pe_int, se_c fun _ _ => .int i⟩
theorem qe_bl {i j} : QE X Wx (.Constant (.bool i) j pos) (mC (.bl i)) := ⟨_, pe_bl, se_c fun _ _ => .bl i⟩
theorem qe_non {j} : QE X Wx (.Constant .none j pos) (mC .non) := ⟨_, pe_non, se_c fun _ _ => .non⟩
theorem qe_str {x j} : QE X Wx (.Constant (.str x) j pos) (mC (.str x)) := ⟨_, pe_str, se_c fun _ _ => .str x⟩
/-- a module's constant -/
theorem qe_glob {x : Str} {v : V} {u : Value} {d : Dt} (hg : Gl X x) (hm : X.mg x = some u) (r : RelV v u) (hd : ∀ (h : Addr) (H : Hp), Den X.K X.mg h H v d) (hdb : (x == ("__debug__" : Str)) = false := by decide) : QE X Wx (.Name x pos) (mC d) :=
  ⟨_, pe_glob hg hm r hdb, se_c hd⟩
theorem qe_op {op : Operator} {r : R2} {f : Dt → Dt → Option Dt} (ho : OpR X (binaryOp op) r) (hs : OpS X.K X.mg r f) (ha : QE X Wx a ma) (hb : QE X Wx b mb) : QE X Wx (.BinOp a op b pos) (mOp f ma mb) := by
  obtain ⟨ta, pa, sa⟩ := ha
  obtain ⟨tb, pb, sb⟩ := hb
  exact ⟨_, pe_op ho pa pb, se_op hs sa sb⟩
theorem qe_un {op : UnaryOp} {r : V → Hp → VK → Prop} {f : Dt → Option Dt} (ho : UnR X (unaryOp op) r) (hs : UnS X.K X.mg r f) (ha : QE X Wx a ma) : QE X Wx (.UnaryOp op a pos) (mUn f ma) := by
  obtain ⟨ta, pa, sa⟩ := ha
  exact ⟨_, pe_un ho pa, se_un hs sa⟩
theorem qe_cmp {op : CmpOp} {r : R2} {f : Dt → Dt → Option Dt} (ho : OpR X (compareOp op) r) (hs : OpS X.K X.mg r f) (ha : QE X Wx a ma) (hb : QE X Wx b mb) (hm : behindInMarks op b = false) : QE X Wx (.Compare a [op] [b] pos) (mOp f ma mb) := by
  obtain ⟨ta, pa, sa⟩ := ha
  obtain ⟨tb, pb, sb⟩ := hb
  exact ⟨_, pe_cmpR ho pa pb hm, se_op hs sa sb⟩
theorem qt_cmp {op : CmpOp} {r : R2} {f : Dt → Dt → Option Dt} (ho : OpR X (compareOp op) r) (hs : OpS X.K X.mg r f) (ha : QE X Wx a ma) (hb : QE X Wx b mb) (hm : behindInMarks op b = false) : QT X Wx (.Compare a [op] [b] pos) (mTest (mOp f ma mb)) := by
  obtain ⟨ta, pa, sa⟩ := ha
  obtain ⟨tb, pb, sb⟩ := hb
  exact ⟨_, pt_cmpR ho pa pb hm, st_test (se_op hs sa sb)⟩
theorem qt_tru (ha : QE X Wx a ma) (he : ∀ whole, isTrue a X.env whole = (do let v ← whole; standAt a.pos; holding [v] (truthy v)) := by intro _; rfl) : QT X Wx a (mTru ma) := by
  obtain ⟨ta, pa, sa⟩ := ha
  exact ⟨_, pt_truth pa he, st_tru sa⟩
theorem qt_w (h : QW X Wx a mt) : QT X Wx a mt := by
  obtain ⟨t, pw, s⟩ := h
  exact ⟨t, pw.pt, s⟩
theorem qw_and1 (h : QT X Wx a mt) : QW X Wx (.BoolOp .And [a] pos) mt := by
  obtain ⟨t, pw, s⟩ := h
  exact ⟨t, pw_and1 pw, s⟩
theorem qw_or1 (h : QT X Wx a mt) : QW X Wx (.BoolOp .Or [a] pos) mt := by
  obtain ⟨t, pw, s⟩ := h
  exact ⟨t, pw_or1 pw, s⟩
theorem qw_and (h : QT X Wx a mt) (h2 : QW X Wx (.BoolOp .And (b :: rest) pos) mu) : QW X Wx (.BoolOp .And (a :: b :: rest) pos) (mAnd mt mu) := by
  obtain ⟨t, pw, s⟩ := h
  obtain ⟨t2, pw2, s2⟩ := h2
  exact ⟨_, pw_and pw pw2, st_and s s2⟩
theorem qw_or (h : QT X Wx a mt) (h2 : QW X Wx (.BoolOp .Or (b :: rest) pos) mu) : QW X Wx (.BoolOp .Or (a :: b :: rest) pos) (mOr mt mu) := by
  obtain ⟨t, pw, s⟩ := h
  obtain ⟨t2, pw2, s2⟩ := h2
  exact ⟨_, pw_or pw pw2, st_or s s2⟩
theorem qt_not (h : QT X Wx a mt) : QT X Wx (.UnaryOp .Not a pos) (mNot mt) := by
  obtain ⟨t, pw, s⟩ := h
  exact ⟨_, pt_not pw, st_not s⟩
theorem qe_one {op} (h : QE X Wx a ma) : QE X Wx (.BoolOp op [a] pos) ma := by
  obtain ⟨t, pw, s⟩ := h
  exact ⟨_, pe_one pw, s⟩
theorem qe_and (h : QE X Wx a ma) (h2 : QE X Wx (.BoolOp .And (b :: rest) pos) mb) : QE X Wx (.BoolOp .And (a :: b :: rest) pos) (mAndV ma mb) := by
  obtain ⟨t, pw, s⟩ := h
  obtain ⟨t2, pw2, s2⟩ := h2
  exact ⟨_, pe_andT pw pw2, se_andV s s2⟩
theorem qe_or (h : QE X Wx a ma) (h2 : QE X Wx (.BoolOp .Or (b :: rest) pos) mb) : QE X Wx (.BoolOp .Or (a :: b :: rest) pos) (mOrV ma mb) := by
  obtain ⟨t, pw, s⟩ := h
  obtain ⟨t2, pw2, s2⟩ := h2
  exact ⟨_, pe_orT pw pw2, se_orV s s2⟩
theorem qe_not (h : QE X Wx a ma) : QE X Wx (.UnaryOp .Not a pos) (mNotV ma) := by
  obtain ⟨t, pw, s⟩ := h
  exact ⟨_, pe_notT pw, se_notV s⟩
theorem qe_if (h : QT X Wx c mt) (ha : QE X Wx a ma) (hb : QE X Wx b mb) : QE X Wx (.IfExp c a b pos) (mIf mt ma mb) := by
  obtain ⟨t, pw, s⟩ := h
  obtain ⟨ta, pa, sa⟩ := ha
  obtain ⟨tb, pb, sb⟩ := hb
  exact ⟨_, pe_ifExp pw pa pb, se_if s sa sb⟩
theorem qa_nil : QA X Wx [] mNil := ⟨_, pa_nil, sa_nil⟩
theorem qa_cons (ha : QE X Wx e ma) (hr : QA X Wx es as) (hs : starEach (e :: es) X.env = (false, eval e X.env) :: starEach es X.env := by rfl) : QA X Wx (e :: es) (mCons ma as) := by
  obtain ⟨ta, pa, sa⟩ := ha
  obtain ⟨tr, pr, sr⟩ := hr
  exact ⟨_, pa_cons pa pr hs, sa_cons sa sr⟩
theorem qe_tup {x1} (h : QA X Wx es as) : QE X Wx (.Tuple es x1 pos) (mTup as) := by
  obtain ⟨t, q, s⟩ := h
  exact ⟨_, pe_tup q, se_tup s⟩
theorem qe_lst (h : QA X Wx es as) : QE X Wx (.List es pos) (mLst as) := by
  obtain ⟨t, q, s⟩ := h
  exact ⟨_, pe_lst q, se_lst s⟩
theorem qe_ix (ha : QE X Wx a ma) (hb : QE X Wx b mb) (hs : PlainIx b := by exact fun _ _ => rfl) : QE X Wx (.Subscript a b pos) (mOp fIx ma mb) := by
  obtain ⟨ta, pa, sa⟩ := ha
  obtain ⟨tb, pb, sb⟩ := hb
  exact ⟨_, pe_ix ix_seq pa pb hs, se_op os_ix sa sb⟩
variable {x : Str} {id T : String} {r : List V → Hp → VK → Prop} {f : List Dt → Option Dt}
theorem qe_callB (hc : CallR X (.builtin id) r) (hs : CaS X.K X.mg r f) (hg : Gl X x) (hm : X.mg x = none) (hv : bootBuiltins x = some (.builtin id)) (ha : QA X Wx (e :: es) as) (hn : x ≠ "__name__" := by decide) (hdb : (x == ("__debug__" : Str)) = false := by decide)
    (he : starEach (e :: es) X.env = (false, eval e X.env) :: starEach es X.env := by rfl) (hpl : (backTo pos (starEach es X.env)).any (·.1) = false := by rfl) : QE X Wx (.Call (.Name x p) (e :: es) [] pos) (mCB f as) := by
  obtain ⟨t, q, s⟩ := ha
  exact ⟨_, pe_callB hc hg hm hv q hn hdb he hpl, se_cb hs s⟩
theorem qe_callTy (hc : CallR X (.type T) r) (hs : CaS X.K X.mg r f) (hg : Gl X x) (hm : X.mg x = none) (hv : bootBuiltins x = some (.type T)) (ha : QA X Wx (e :: es) as) (hn : x ≠ "__name__" := by decide) (hdb : (x == ("__debug__" : Str)) = false := by decide)
    (he : starEach (e :: es) X.env = (false, eval e X.env) :: starEach es X.env := by rfl) (hpl : (backTo pos (starEach es X.env)).any (·.1) = false := by rfl) : QE X Wx (.Call (.Name x p) (e :: es) [] pos) (mCB f as) := by
  obtain ⟨t, q, s⟩ := ha
  exact ⟨_, pe_callTy hc hg hm hv q hn hdb he hpl, se_cb hs s⟩
theorem qe_callBfun (hc : CallR X (.builtin id) r) (hs : CaS X.K X.mg r f) (hg : Gl X x) (hm : X.mg x = some (.builtin id)) (ha : QA X Wx (e :: es) as) (hdb : (x == ("__debug__" : Str)) = false := by decide)
    (he : starEach (e :: es) X.env = (false, eval e X.env) :: starEach es X.env := by rfl) (hpl : (backTo pos (starEach es X.env)).any (·.1) = false := by rfl) : QE X Wx (.Call (.Name x p) (e :: es) [] pos) (mCB f as) := by
  obtain ⟨t, q, s⟩ := ha
  exact ⟨_, pe_callBfun hc hg hm q hdb he hpl, se_cb hs s⟩
/-- f(e, ..) -/
theorem qe_call {k n : Nat} {fa : Addr} {fd : FuncData} {ps : List Str} {m : List Dt → Hd → R Dt} {dvs : List V} {dd : List Dt} {dsV : List Value} (F : FnOk X.prog X.w X.K X.mg X.base (L2.CX X.prog X.w) k fa fd ps (spM X.K X.mg n m)) (hr : Room k X.A) (hg : Gl X x)
    (hm : X.mg x = some (.ref fa)) (hk : PySem.W.keepIn X.K (.ref fa) = true) (hb : Binds X.K fd ps dsV) (hd : Vals dvs dsV) (hdd : ∀ (h : Addr) (H : Hp), DenA X.K X.mg h H dvs dd) (tk : Takes X Wx) (ha : QA X Wx (e :: es) as)
    (hdb : (x == ("__debug__" : Str)) = false := by decide) (he : starEach (e :: es) X.env = (false, eval e X.env) :: starEach es X.env := by rfl) (hpl : (backTo pos (starEach es X.env)).any (·.1) = false := by rfl) :
    QE X Wx (.Call (.Name x p) (e :: es) [] pos) (mCall n dd m as) := by
  obtain ⟨t, q, s⟩ := ha
  exact ⟨_, pe_callSD F hr hg hm hk hb hd (fun σ => passAt tk σ) q hdb he hpl, se_call hdd s⟩
end
/-! ### isinstance -/
def mIsi (T : String) (a : ME) : ME := fun ρ s => (a ρ s).bind fun d s1 => liftO ((fIsi T d).map Dt.bl) s1
section
variable {X : Cx} {Wx : WX} {a : Expr} {ma : ME} {pos p p2 : Pos} {T : String} {x : Str}
theorem qe_isi (ha : QE X Wx a ma) (hg : Gl X "isinstance") (hm : X.mg "isinstance" = none) (hgT : Gl X x) (hmT : X.mg x = none) (hvT : bootBuiltins x = some (.type T)) (hn : x ≠ "__name__" := by decide) (hdb : (x == ("__debug__" : Str)) = false := by decide)
    (he : starEach [a, .Name x p2] X.env = (false, eval a X.env) :: starEach [.Name x p2] X.env := by rfl) (he2 : starEach [.Name x p2] X.env = (false, eval (.Name x p2) X.env) :: starEach [] X.env := by rfl)
    (hpl : (backTo pos (starEach [.Name x p2] X.env)).any (·.1) = false := by rfl) : QE X Wx (.Call (.Name "isinstance" p) [a, .Name x p2] [] pos) (mIsi T ma) := by
  obtain ⟨ta, pa, sa⟩ := ha
  refine ⟨_, pe_callB call_isi hg hm (by decide +kernel) (pa_cons pa (pa_cons (pe_bltn (v := .ty T) hgT hmT hvT rfl hn hdb) pa_nil he2) he) (by decide) (by decide) he hpl, ?_⟩
  intro h H0 H s σ ρ Q g S pp
  refine sa h H0 H s σ ρ _ g S (Post.bind pp fun d s1 x A B st g1 dx p1 => ?_)
  obtain ⟨z, hz, p3⟩ := post_lift p1
  unfold fIsi at hz
  cases ht : tyN d with
  | none =>
    rw [ht] at hz
    cases hz
  | some n =>
    rw [ht] at hz
    have hz : (kitB n T).map Dt.bl = some z := hz
    cases hb : kitB n T with
    | none =>
      rw [hb] at hz
      cases hz
    | some b =>
      rw [hb] at hz
      cases hz
      exact ⟨x, .ty T, .type n, .type T, b, rfl, .ty T, TyX.of (dx.mono g1.ex) ht, kit_ty hb, p3 _ A B (.refl _ _) g1 (.bl b)⟩
end
end Mir


set_option Elab.async false
set_option linter.all false
set_option maxRecDepth 100000
namespace Mir
open PySem PySem.Spec PyProof.Rows L2
open PySem.W (Frag)

/-! ### statements -/
def mNext : MS := fun ρ s => .ok (.nx ρ) s
def mSeq (a b : MS) : MS := fun ρ s => match a ρ s with
  | .ok (.nx ρ') s' => b ρ' s'
  | .ok (.rt d) s' => .ok (.rt d) s'
  | .ok (.bk ρ') s' => .ok (.bk ρ') s'
  | .ok (.ct ρ') s' => .ok (.ct ρ') s'
  | .err c fs ρ' s' => .err c fs ρ' s'
  | .bad => .bad
def mSet (i : Nat) (a : ME) : MS := fun ρ s => (a ρ s).bind fun d s1 => .ok (.nx (ρ.set i (.dat d))) s1
def mRet (a : ME) : MS := fun ρ s => (a ρ s).bind fun d s1 => .ok (.rt d) s1
def mRetN : MS := fun _ s => .ok (.rt .non) s
def mDrop (a : ME) : MS := fun ρ s => (a ρ s).bind fun _ s1 => .ok (.nx ρ) s1
def mIfS (t : MT) (a b : MS) : MS := fun ρ s => (t ρ s).bind fun c s1 => if c = true then a ρ s1 else b ρ s1
def mBreak : MS := fun ρ s => .ok (.bk ρ) s
def mCont : MS := fun ρ s => .ok (.ct ρ) s
/-- a, b = x, y -/
def mPar (i j : Nat) (as : MA) : MS := fun ρ s => (as ρ s).bind fun ds s1 => match ds with
  | [d, e] => .ok (.nx ((ρ.set i (.dat d)).set j (.dat e))) s1
  | _ => .bad
/-- targets -/
abbrev GM := Dt → Env' → Option Env'
abbrev GMs := List Dt → Env' → Option Env'
def gmName (j : Nat) : GM := fun d ρ => some (ρ.set j (.dat d))
def gmNil : GMs := fun ds ρ => match ds with
  | [] => some ρ
  | _ => none
def gmCons (g : GM) (gs : GMs) : GMs := fun ds ρ => match ds with
  | d :: r => (g d ρ).bind fun ρ1 => gs r ρ1
  | _ => none
def gmSeq (n : Nat) (gs : GMs) : GM := fun d ρ => match d with
  | .tup ds => if ds.length = n then gs ds ρ else none
  | .lst ds => if ds.length = n then gs ds ρ else none
  | _ => none
def mAsg (g : GM) (a : ME) : MS := fun ρ s => (a ρ s).bind fun d s1 => match g d ρ with
  | some ρ1 => .ok (.nx ρ1) s1
  | none => .bad
def loopF (g : GM) (body : MS) : List Dt → MS
  | [], ρ, s => .ok (.nx ρ) s
  | d :: ds, ρ, s => match g d ρ with
    | none => .bad
    | some ρ1 => match body ρ1 s with
      | .ok (.nx ρ2) s2 => loopF g body ds ρ2 s2
      | .ok (.ct ρ2) s2 => loopF g body ds ρ2 s2
      | .ok (.bk ρ2) s2 => .ok (.nx ρ2) s2
      | .ok (.rt d) s2 => .ok (.rt d) s2
      | .err c fs ρ2 s2 => .err c fs ρ2 s2
      | .bad => .bad
/-- what a for walks -/
def mFor (g : GM) (it : MA) (body : MS) : MS := fun ρ s => (it ρ s).bind fun ds s1 => loopF g body ds ρ s1
def mSeqI (a : ME) : MA := fun ρ s => (a ρ s).bind fun d s1 => match d with
  | .tup ds => .ok ds s1
  | .lst ds => .ok ds s1
  | _ => .bad
def rangeD (lo : Int) (n : Nat) : List Dt := (List.range n).map fun (i : Nat) => Dt.int (lo + i)
def rngOk (i : Int) : Prop := -1000000 ≤ i ∧ i ≤ 1000000
instance (i : Int) : Decidable (rngOk i) := inferInstanceAs (Decidable (_ ∧ _))
def mRng1 (a : ME) : MA := fun ρ s => (a ρ s).bind fun d s1 => match d with
  | .int b => if rngOk b then .ok (rangeD 0 b.toNat) s1 else .bad
  | _ => .bad
def mRng2 (a b : ME) : MA := fun ρ s => (a ρ s).bind fun d s1 => (b ρ s1).bind fun e s2 => match d, e with
  | .int i, .int j => if rngOk i ∧ rngOk j then .ok (rangeD i (j - i).toNat) s2 else .bad
  | _, _ => .bad
def loopW (t : MT) (body : MS) : Nat → MS
  | 0, _, _ => .bad
  | n + 1, ρ, s => (t ρ s).bind fun c s1 => if c = true then (match body ρ s1 with
      | .ok (.nx ρ2) s2 => loopW t body n ρ2 s2
      | .ok (.ct ρ2) s2 => loopW t body n ρ2 s2
      | .ok (.bk ρ2) s2 => .ok (.nx ρ2) s2
      | .ok (.rt d) s2 => .ok (.rt d) s2
      | .err c fs ρ2 s2 => .err c fs ρ2 s2
      | .bad => .bad) else .ok (.nx ρ) s1
/-- comprehensions -/
def wipeE (ρ : Env') : List Nat → Env'
  | [] => ρ
  | v :: vs => (wipeE ρ vs).set v .no
def noErr {α : Type} : R α → R α
  | .err _ _ _ _ => .bad
  | r => r
def mYes : MT := fun _ s => .ok true s
def loopC (g : GM) (t : MT) (a : ME) (vs : List Nat) : List Dt → List Dt → ME
  | [], acc, _, s => .ok (.lst acc) s
  | d :: ds, acc, ρ, s => match g d (wipeE ρ vs) with
    | none => .bad
    | some ρ1 => (noErr (t ρ1 s)).bind fun c s1 => if c = true then (noErr (a ρ1 s1)).bind fun e s2 => if sizeOk acc.length then loopC g t a vs ds (acc ++ [e]) ρ s2 else .bad else loopC g t a vs ds acc ρ s1
def mLc (g : GM) (it : MA) (t : MT) (a : ME) (vs : List Nat) : ME := fun ρ s => (it ρ s).bind fun ds s1 => loopC g t a vs ds [] ρ s1
theorem R.bind_assoc {α β γ : Type} (r : R α) (k : α → Hd → R β) (k2 : β → Hd → R γ) : (r.bind k).bind k2 = r.bind fun x s => (k x s).bind k2 := by cases r <;> rfl

section
variable {K : Frag} {mg : Str → Option Value} {Wx : WX} {ta : TE} {a : ME} {tt : TT} {mt : MT} {t : TA} {as : MA} {ts tu : TS} {ms mu : MS}
theorem ss_next : SS K mg Wx tNext mNext := fun h H0 H s σ ρ D g S p => p σ H0 H (.refl _ _) g S
theorem ss_seq (h1 : SS K mg Wx ts ms) (h2 : SS K mg Wx tu mu) : SS K mg Wx (tSeq ts tu) (mSeq ms mu) := by
  intro h H0 H s σ ρ D g S p
  refine h1 h H0 H s σ ρ _ g S ?_
  have p : PostS K mg h (mSeq ms mu ρ s) H0 H Wx D := p
  unfold mSeq at p
  cases e : ms ρ s with
  | ok f s2 =>
    rw [e] at p
    cases f with
    | nx ρ' => exact fun σ' A B st g' S' => h2 h A B s2 σ' ρ' D g' S' (PostS.step st p)
    | rt d => exact p
    | bk ρ' => exact p
    | ct ρ' => exact p
  | err c fs ρ' s2 =>
    rw [e] at p
    exact p
  | bad =>
    rw [e] at p
    exact p
theorem ss_set {i : Nat} (ha : SE K mg Wx ta a) : SS K mg Wx (tAsg ta (gName i)) (mSet i a) := by
  intro h H0 H s σ ρ D g S p
  refine ha h H0 H s σ ρ _ g S (PostS.bind p fun d s1 x A B st g1 dx p1 => ?_)
  exact p1 _ A B (.refl _ _) g1 ((S.step st).set dx)
theorem ss_ret (ha : SE K mg Wx ta a) : SS K mg Wx (tRet ta) (mRet a) := by
  intro h H0 H s σ ρ D g S p
  refine ha h H0 H s σ ρ _ g S (PostS.bind p fun d s1 x A B st g1 dx p1 => ?_)
  exact p1 x A B (.refl _ _) g1 dx
theorem ss_retN : SS K mg Wx tRetN mRetN := fun h H0 H s σ ρ D g S p => p .non H0 H (.refl _ _) g .non
theorem ss_drop (ha : SE K mg Wx ta a) : SS K mg Wx (tDrop ta) (mDrop a) := by
  intro h H0 H s σ ρ D g S p
  refine ha h H0 H s σ ρ _ g S (PostS.bind p fun d s1 x A B st g1 dx p1 => ?_)
  exact p1 σ A B (.refl _ _) g1 (S.step st)
theorem ss_if (ht : ST K mg Wx tt mt) (h1 : SS K mg Wx ts ms) (h2 : SS K mg Wx tu mu) : SS K mg Wx (tIfS tt ts tu) (mIfS mt ms mu) := by
  intro h H0 H s σ ρ D g S p
  refine ht h H0 H s σ ρ _ g S (PostS.bind p fun d s1 x A B st g1 dx p1 => ?_)
  cases (show x = d from dx)
  cases d with
  | true => exact h1 h A B s1 σ ρ D g1 (S.step st) p1
  | false => exact h2 h A B s1 σ ρ D g1 (S.step st) p1
theorem ss_break : SS K mg Wx tBreak mBreak := fun h H0 H s σ ρ D g S p => p σ H0 H (.refl _ _) g S
theorem ss_cont : SS K mg Wx tCont mCont := fun h H0 H s σ ρ D g S p => p σ H0 H (.refl _ _) g S
theorem ss_par {i j : Nat} (ha : SA K mg Wx t as) : SS K mg Wx (tPar i j t) (mPar i j as) := by
  intro h H0 H s σ ρ D g S p
  refine ha h H0 H s σ ρ _ g S (PostS.bind p fun ds s1 xs A B st g1 dx p1 => ?_)
  cases dx with
  | nil => exact p1.elim
  | cons q r =>
    cases r with
    | nil => exact p1.elim
    | cons q2 r =>
      cases r with
      | nil => exact ⟨_, _, rfl, p1 _ A B (.refl _ _) g1 (((S.step st).set q).set q2)⟩
      | cons q3 r => exact p1.elim
end

/-! ### targets -/
/-- at the slots js alone something else -/
def OffIx (js : List Nat) (σ σ1 : L2.St) : Prop := σ1.length = σ.length ∧ ∀ i : Nat, i ∉ js → σ1[i]? = σ[i]?
section
variable (K : Frag) (mg : Str → Option Value)
def SG (js : List Nat) (g : TG) (m : GM) : Prop := ∀ (h : Addr) (H0 H : Hp) (s : Hd) (x : V) (d : Dt) (σ : L2.St) (ρ ρ1 : Env') (Q : L2.St → Hp → Prop), G h H0 H s → Slots K mg h H0 H σ ρ → Den K mg h H0 x d → m d ρ = some ρ1 →
  (∀ σ1, OffIx js σ σ1 → Slots K mg h H0 H σ1 ρ1 → Q σ1 H) → g x σ H Q
def SGs (js : List Nat) (g : TGs) (m : GMs) : Prop := ∀ (h : Addr) (H0 H : Hp) (s : Hd) (xs : List V) (ds : List Dt) (σ : L2.St) (ρ ρ1 : Env') (Q : L2.St → Hp → Prop), G h H0 H s → Slots K mg h H0 H σ ρ → DenA K mg h H0 xs ds → m ds ρ = some ρ1 →
  (∀ σ1, OffIx js σ σ1 → Slots K mg h H0 H σ1 ρ1 → Q σ1 H) → g xs σ H Q
end
def gSeq (K : Frag) (n : Nat) (t : TGs) : TG := fun v σ H Q => gTup K n t v σ H Q ∨ gLst K n t v σ H Q
theorem pg_or {X : Cx} {e : Expr} {t u : TG} (h1 : PG X e t) (h2 : PG X e u) : PG X e (fun v σ H Q => t v σ H Q ∨ u v σ H Q) :=
  ⟨fun pins s σ H v w Q I r h => h.elim (fun z => h1.run pins s σ H v w Q I r z) fun z => h2.run pins s σ H v w Q I r z⟩
theorem pg_seq {X : Cx} {pos : Pos} {es : List Expr} {k : Nat} {t : TGs} {n : Nat} (hc : X.calm = true) (h : PGs X es t)
    (hn : (assignEach es X.env).length = n := by rfl) (hst : (assignEach es X.env).findIdx? (·.1) = none := by rfl) : PG X (.Tuple es k pos) (gSeq X.K n t) := pg_or (pg_tup hc h hn hst) (pg_lst hc h hn hst)
section
variable {K : Frag} {mg : Str → Option Value}
theorem sg_name {j : Nat} : SG K mg [j] (gName j) (gmName j) := by
  intro h H0 H s x d σ ρ ρ1 Q g S dx e q
  cases e
  exact q _ ⟨List.length_set, fun i hi => List.getElem?_set_ne (fun z => hi (by rw [z]; exact List.mem_singleton.mpr rfl))⟩ (S.set dx)
theorem sgs_nil : SGs K mg [] gNil gmNil := by
  intro h H0 H s xs ds σ ρ ρ1 Q g S dx e q
  cases dx with
  | nil =>
    cases e
    exact ⟨rfl, q σ ⟨rfl, fun _ _ => rfl⟩ S⟩
  | cons _ _ => cases e
theorem sgs_cons {js ks : List Nat} {g : TG} {gs : TGs} {m : GM} {ms : GMs} (h1 : SG K mg js g m) (h2 : SGs K mg ks gs ms) : SGs K mg (js ++ ks) (gCons g gs) (gmCons m ms) := by
  intro h H0 H s xs ds σ ρ ρ1 Q g0 S dx e q
  cases dx with
  | nil => cases e
  | @cons v vs d ds dv dvs =>
    have e : (m d ρ).bind (fun ρ1 => ms ds ρ1) = some ρ1 := e
    cases hm : m d ρ with
    | none =>
      rw [hm] at e
      cases e
    | some ρ2 =>
      rw [hm] at e
      refine ⟨v, vs, rfl, h1 h H0 H s v d σ ρ ρ2 _ g0 S dv hm fun σ2 o2 S2 => h2 h H0 H s vs ds σ2 ρ2 ρ1 Q g0 S2 dvs e fun σ3 o3 S3 => q σ3 ⟨o3.1.trans o2.1, fun i hi => ?_⟩ S3⟩
      rw [o3.2 i fun z => hi (List.mem_append_right _ z), o2.2 i fun z => hi (List.mem_append_left _ z)]
theorem sg_seq {js : List Nat} {n : Nat} {gs : TGs} {ms : GMs} (h1 : SGs K mg js gs ms) : SG K mg js (gSeq K n gs) (gmSeq n ms) := by
  intro h H0 H s x d σ ρ ρ1 Q g0 S dx e q
  cases dx with
  | @tup a xs ds qa ra =>
    have e : (if ds.length = n then ms ds ρ else none) = some ρ1 := e
    by_cases c : ds.length = n
    · rw [if_pos c] at e
      exact .inl ⟨_, _, rfl, sqt_mono g0.ex qa, ra.len.trans c, h1 h H0 H s _ _ σ ρ ρ1 Q g0 S ra e q⟩
    · rw [if_neg c] at e
      cases e
  | @lst a xs ds qa ra =>
    have e : (if ds.length = n then ms ds ρ else none) = some ρ1 := e
    by_cases c : ds.length = n
    · rw [if_pos c] at e
      exact .inr ⟨_, _, rfl, SqL.of (g0.ex _ _ qa), ra.len.trans c, h1 h H0 H s _ _ σ ρ ρ1 Q g0 S ra e q⟩
    · rw [if_neg c] at e
      cases e
  | _ => cases e
theorem ss_asg {Wx : WX} {ta : TE} {a : ME} {js : List Nat} {g : TG} {m : GM} (ha : SE K mg Wx ta a) (hg : SG K mg js g m) : SS K mg Wx (tAsg ta g) (mAsg m a) := by
  intro h H0 H s σ ρ D g0 S p
  refine ha h H0 H s σ ρ _ g0 S (PostS.bind p fun d s1 x A B st g1 dx p1 => ?_)
  cases e : m d ρ with
  | none =>
    rw [e] at p1
    exact p1.elim
  | some ρ1 =>
    rw [e] at p1
    exact hg h A B s1 x d σ ρ ρ1 _ g1 (S.step st) dx e fun σ1 _ S1 => p1 σ1 A B (.refl _ _) g1 S1
end

/-! ### what a for walks: a list or a tuple -/
def iSeq (K : Frag) (tl : TE) : TI := fun σ H R => tl σ H fun x H1 => (∃ a, x = .ref a ∧ (∃ xs, SqL K H1 a xs) ∧ R (Itl K a) H1) ∨ ∃ a, x = .ref a ∧ (∃ xs, SqT K H1 a xs) ∧ R (Itt K a) H1
theorem pi_seq {X : Cx} {tg l : Expr} {tl : TE} (hl : PE X l tl) : PI X tg l (iSeq X.K tl) := by
  refine ⟨fun pins s σ H R I h => ?_⟩
  refine thn (hl.run pins s σ H _ I h) fun v s1 ⟨x, H1, I1, r1, q1⟩ => ?_
  rcases q1 with ⟨a, e, ⟨xs, hq⟩, q⟩ | ⟨a, e, ⟨xs, hq⟩, q⟩
  · subst e
    cases r1
    obtain ⟨its, rv, p, hz⟩ := I1.list hq
    refine wpAny_pyIter_list p.isList ?_
    refine ⟨s1.heap.objs.size, [s1.heap.objs.size], _, _, H1, rfl, I1.kept (t' := s1.toks) fun b o e => Heap.get?_push_of_some _ e, turn_list a _, ⟨_, Heap.get?_push_size _ rfl, rfl, rfl⟩, fun b hb => ?_, q⟩
    have e : b = s1.heap.objs.size := by simpa using hb
    subst e
    exact I1.fpOk (Nat.le_refl _) (I1.hok.fresh (Nat.le_refl _))
  · subst e
    cases r1
    obtain ⟨its, rv, p, hz⟩ := I1.tuple hq
    refine wpAny_pyIter_tuple (show s1.heap.IsTuple a its.toArray from p) ?_
    refine ⟨s1.heap.objs.size, [s1.heap.objs.size], _, _, H1, rfl, I1.kept (t' := s1.toks) fun b o e => Heap.get?_push_of_some _ e, turn_tuple a _, ⟨_, Heap.get?_push_size _ rfl, rfl, rfl⟩, fun b hb => ?_, q⟩
    have e : b = s1.heap.objs.size := by simpa using hb
    subst e
    exact I1.fpOk (Nat.le_refl _) (I1.hok.fresh (Nat.le_refl _))
section
variable {K : Frag} {mg : Str → Option Value} {Wx : WX} {ta : TE} {a : ME} {t : TA} {as : MA} {tb : TS} {body : MS} {js : List Nat} {g : TG} {m : GM}
theorem drop_cons {α : Type} {ds : List α} {i : Nat} {d : α} (e : ds[i]? = some d) : ds.drop i = d :: ds.drop (i + 1) := by
  obtain ⟨hl, e2⟩ := List.getElem?_eq_some_iff.mp e
  rw [← e2]
  exact List.drop_eq_getElem_cons hl
/-- one turn -/
theorem turn_ok {h : Addr} {A B : Hp} {s : Hd} {σ : L2.St} {ρ : Env'} {x : V} {d : Dt} {ds : List Dt} {D : Ends} {Pn : L2.St → Hp → Prop} (hg : SG K mg js g m) (hb : SS K mg Wx tb body) (g0 : G h A B s) (S : Slots K mg h A B σ ρ) (dx : Den K mg h A x d)
    (p : PostS K mg h (loopF m body (d :: ds) ρ s) A B Wx D)
    (next : ∀ σ' A' B' s' ρ', Step h A B A' B' → G h A' B' s' → Slots K mg h A' B' σ' ρ' → PostS K mg h (loopF m body ds ρ' s') A' B' Wx D → Pn σ' B') :
    g x σ B fun σ2 H2 => tb { D with nx := Pn, ct := Pn, bk := D.nx } σ2 H2 := by
  unfold loopF at p
  cases e : m d ρ with
  | none =>
    rw [e] at p
    exact p.elim
  | some ρ1 =>
    rw [e] at p
    refine hg h A B s x d σ ρ ρ1 _ g0 S dx e fun σ1 _ S1 => hb h A B s σ1 ρ1 _ g0 S1 ?_
    cases eb : body ρ1 s with
    | ok f s2 =>
      cases f with
      | nx ρ2 =>
        simp only [eb] at p
        exact fun σ' A' B' st g' S' => next σ' A' B' s2 ρ2 st g' S' (PostS.step st p)
      | ct ρ2 =>
        simp only [eb] at p
        exact fun σ' A' B' st g' S' => next σ' A' B' s2 ρ2 st g' S' (PostS.step st p)
      | bk ρ2 =>
        simp only [eb] at p
        exact p
      | rt d2 =>
        simp only [eb] at p
        exact p
    | err c fs ρ2 s2 =>
      simp only [eb] at p
      exact p
    | bad =>
      simp only [eb] at p
      exact p
theorem rangeD_len (lo : Int) (n : Nat) : (rangeD lo n).length = n := by
  unfold rangeD
  rw [List.length_map, List.length_range]
theorem rangeD_get {lo : Int} {n i : Nat} (hi : i < n) : (rangeD lo n)[i]? = some (.int (lo + i)) := by
  unfold rangeD
  rw [List.getElem?_map, List.getElem?_range hi]
  rfl
theorem for_rng {h : Addr} {A B : Hp} {s : Hd} {σ : L2.St} {ρ : Env'} {D : Ends} {lo : Int} {n : Nat} (hg : SG K mg js g m) (hb : SS K mg Wx tb body) (g1 : G h A B s) (S1 : Slots K mg h A B σ ρ) (p1 : PostS K mg h (loopF m body (rangeD lo n) ρ s) A B Wx D) :
    ∃ W : Nat → Nat → L2.St → Hp → Prop, (∃ m, W 0 m σ B) ∧ ∀ i m σ H, W i m σ H →
      ((Itr lo n).stop i H ∧ D.nx σ H) ∨ ((Itr lo n).go i H ∧ ∃ N : L2.St → Hp → Prop, (∀ σ' H', N σ' H' → ∃ m', m' < m ∧ W (i + 1) m' σ' H') ∧ ∀ x H', (Itr lo n).yld i H x H' → g x σ H' fun σ2 H2 => tb { D with nx := N, ct := N, bk := D.nx } σ2 H2) := by
  refine for_range (fun i σ' H' => ∃ A' s' ρ', Step h A B A' H' ∧ G h A' H' s' ∧ Slots K mg h A' H' σ' ρ' ∧ PostS K mg h (loopF m body ((rangeD lo n).drop i) ρ' s') A' H' Wx D)
    ⟨A, s, ρ, .refl _ _, g1, S1, p1⟩ (fun i σ' H' hi ⟨A', s', ρ', st', g', S', p'⟩ => ?_) (fun σ' H' ⟨A', s', ρ', st', g', S', p'⟩ => ?_)
  · rw [drop_cons (rangeD_get hi)] at p'
    exact turn_ok hg hb g' S' (.int _) p' fun σ2 A2 B2 s2 ρ2 st2 g2 S2 p2 => ⟨A2, s2, ρ2, st'.trans st2, g2, S2, p2⟩
  · have e : (rangeD lo n).drop n = [] := List.drop_eq_nil_of_le (by rw [rangeD_len]; exact Nat.le_refl _)
    rw [e] at p'
    exact p' σ' A' H' (.refl _ _) g' S'
theorem DenA.one {h : Addr} {H : Hp} {vs : List V} {d : Dt} (r : DenA K mg h H vs [d]) : ∃ v, vs = [v] ∧ Den K mg h H v d := by
  cases r with
  | cons q r =>
    cases r
    exact ⟨_, rfl, q⟩
theorem DenA.two {h : Addr} {H : Hp} {vs : List V} {d e : Dt} (r : DenA K mg h H vs [d, e]) : ∃ v w, vs = [v, w] ∧ Den K mg h H v d ∧ Den K mg h H w e := by
  cases r with
  | cons q r =>
    obtain ⟨w, rfl, q2⟩ := r.one
    exact ⟨_, w, rfl, q, q2⟩
end
end Mir


set_option Elab.async false
set_option linter.all false
set_option maxRecDepth 100000
namespace Mir
open PySem PySem.Spec PyProof.Rows L2
open PySem.W (Frag)

/-! ### comprehensions -/
section
theorem wipeE_length (ρ : Env') : ∀ vs : List Nat, (wipeE ρ vs).length = ρ.length
  | [] => rfl
  | v :: vs => by
    unfold wipeE
    rw [List.length_set, wipeE_length ρ vs]
variable {K : Frag} {mg : Str → Option Value}
theorem Slots.wipe {h : Addr} {H0 H : Hp} {σ : L2.St} {ρ : Env'} (S : Slots K mg h H0 H σ ρ) : ∀ vs : List Nat, Slots K mg h H0 H (L2.wipe σ vs) (wipeE ρ vs)
  | [] => S
  | v :: vs => (Slots.wipe S vs).forget none
theorem wipe_in {σ : L2.St} {i : Nat} : ∀ {vs : List Nat}, i ∈ vs → i < σ.length → (L2.wipe σ vs)[i]? = some none
  | [], hi, _ => by cases hi
  | v :: vs, hi, hl => by
    show ((L2.wipe σ vs).set v none)[i]? = some none
    by_cases e : v = i
    · subst e
      exact List.getElem?_set_self (by rw [wipe_length]; exact hl)
    · rw [List.getElem?_set_ne e]
      rcases List.mem_cons.mp hi with z | z
      · exact absurd z.symm e
      · exact wipe_in z hl
theorem wipe_out' {σ : L2.St} {i : Nat} : ∀ {vs : List Nat}, i ∉ vs → (L2.wipe σ vs)[i]? = σ[i]?
  | [], _ => rfl
  | v :: vs, hi => by
    show ((L2.wipe σ vs).set v none)[i]? = σ[i]?
    rw [List.getElem?_set_ne fun z => hi (by rw [z]; exact List.mem_cons_self), wipe_out' fun z => hi (List.mem_cons_of_mem _ z)]
theorem wipe_off {σ σ2 : L2.St} {js vs : List Nat} (hs : ∀ j ∈ js, j ∈ vs) (o : OffIx js (L2.wipe σ vs) σ2) : L2.wipe σ2 vs = L2.wipe σ vs := by
  have hl : σ2.length = σ.length := by rw [o.1, wipe_length]
  apply List.ext_getElem?
  intro i
  by_cases hi : i ∈ vs
  · by_cases hb : i < σ.length
    · rw [wipe_in hi hb, wipe_in hi (by rw [hl]; exact hb)]
    · rw [List.getElem?_eq_none (by rw [wipe_length, hl]; omega), List.getElem?_eq_none (by rw [wipe_length]; omega)]
  · rw [wipe_out' hi, o.2 i fun z => hi (hs i z), wipe_out' hi]
end
theorem same_upd' {H : Hp} {p : Addr} {o : HO} (h : H p = none) : Same H (upd H p o) := fun b x e => by
  rw [upd_ne (ne_of_none e h)]
  exact e
abbrev WF : WX := fun _ _ _ _ => False
section
variable {K : Frag} {mg : Str → Option Value} {Wx : WX} {ta : TE} {a b : ME} {tt : TT} {mt : MT} {js vs : List Nat} {g : TG} {m : GM}
theorem Post.noErr {α β γ δ : Type} {h : Addr} {A B H0 H : Hp} {rel1 : Hp → α → β → Prop} {rel2 : Hp → γ → δ → Prop} {r : R β} {k : β → Hd → R δ} {Q : γ → Hp → Prop} {Q1 : α → Hp → Prop} (p : Post K mg h rel2 ((noErr r).bind k) A B Wx Q)
    (f : ∀ b s a H0' H', Step h H0 H H0' H' → G h H0' H' s → rel1 H0' a b → Post K mg h rel2 (k b s) A B Wx Q → Q1 a H') : Post K mg h rel1 r H0 H WF Q1 := by
  cases r with
  | ok b s => exact fun a A B st g q => f b s a A B st g q p
  | err c fs ρ s => exact p.elim
  | bad => exact p.elim
/-- the word of a comprehension's loop: D the new list, not yet among the data -/
def CW (K : Frag) (mg : Str → Option Value) (Wx : WX) (m : GM) (mt : MT) (a : ME) (vs : List Nat) (h : Addr) (A B : Hp) (ρ : Env') (D : Addr) (Q : VK) (ds : List Dt) (B' : Hp) : Prop :=
  ∃ (A' : Hp) (s' : Hd) (acc : List Dt) (vv : List V), Step h A B A' B' ∧ G h A' B' s' ∧ B D = none ∧ A' D = none ∧ ¬ isH h B' D ∧ B' D = some (.lst vv) ∧ DenA K mg h A' vv acc ∧ Post K mg h (Den K mg h) (loopC m mt a vs ds acc ρ s') A B Wx Q
theorem cw_turn {h : Addr} {A B B' : Hp} {σ : L2.St} {ρ : Env'} {D : Addr} {Q : VK} {x : V} {d : Dt} {ds : List Dt} (hg : SG K mg js g m) (hv : ∀ j ∈ js, j ∈ vs) (ht : ST K mg WF tt mt) (ha : SE K mg WF ta a) (S : Slots K mg h A B σ ρ)
    (w : CW K mg Wx m mt a vs h A B ρ D Q (d :: ds) B') (dx : ∀ A', Same A A' → Den K mg h A' x d) :
    g x (L2.wipe σ vs) B' fun σ2 H2 => L2.wipe σ2 vs = L2.wipe σ vs ∧ tt σ2 H2 fun b H3 =>
      if b = true then ta σ2 H3 fun y H4 => ∃ acc, H4 D = some (.lst acc) ∧ acc.length < sizeLine ∧ CW K mg Wx m mt a vs h A B ρ D Q ds (upd H4 D (.lst (acc ++ [y]))) else CW K mg Wx m mt a vs h A B ρ D Q ds H3 := by
  obtain ⟨A', s', acc, vv, st, g0, hB, hD, nD, eD, da, p⟩ := w
  unfold loopC at p
  cases e : m d (wipeE ρ vs) with
  | none =>
    rw [e] at p
    exact p.elim
  | some ρ1 =>
    simp only [e] at p
    refine hg h A' B' s' x d _ _ ρ1 _ g0 ((S.step st).wipe vs) (dx A' st.s0) e fun σ1 o1 S1 => ⟨wipe_off hv o1, ht h A' B' s' σ1 ρ1 _ g0 S1 (Post.noErr p fun c s1 c' A2 B2 st2 g2 ec p2 => ?_)⟩
    have ec : c' = c := ec
    subst ec
    have f2 := st2.fr D _ eD hD nD
    cases c' with
    | false => exact ⟨A2, s1, acc, vv, st.trans st2, g2, hB, f2.2.1, f2.2.2, f2.1, da.mono st2.s0, p2⟩
    | true =>
      show ta σ1 B2 _
      rw [if_pos rfl] at p2
      refine ha h A2 B2 s1 σ1 ρ1 _ g2 (S1.step st2) (Post.noErr p2 fun z s3 y A3 B3 st3 g3 dy p3 => ?_)
      have f3 := st3.fr D _ f2.1 f2.2.1 f2.2.2
      by_cases c : sizeOk acc.length
      · rw [if_pos c] at p3
        refine ⟨vv, f3.1, by rw [da.len]; exact c.lt, ?_⟩
        obtain ⟨gl, a1, a2, a3, a4⟩ := g3.gl
        have n1 : h ≠ D := fun z => f3.2.2 (.inl z.symm)
        have n2 : gl ≠ D := fun z => f3.2.2 (.inr ⟨_, by rw [← z]; exact a3⟩)
        have nH : ∀ q, isH h (upd B3 D (.lst (vv ++ [y]))) q → isH h B3 q := fun q w => by
          rcases w with w | ⟨r, w⟩
          · exact .inl w
          · rw [upd_ne n1] at w
            exact .inr ⟨r, w⟩
        have st4 : Step h A B A3 (upd B3 D (.lst (vv ++ [y]))) := ⟨(st.trans (st2.trans st3)).s0, fun q u x1 x2 x3 => by
          have nq : q ≠ D := ne_of_none x1 hB
          obtain ⟨y1, y2, y3⟩ := (st.trans (st2.trans st3)).fr q u x1 x2 x3
          exact ⟨by rw [upd_ne nq]; exact y1, y2, fun w => y3 (nH q w)⟩⟩
        refine ⟨A3, s3, acc ++ [z], vv ++ [y], st4, ⟨fun q u w => ?_, g3.h0, gl, a1, a2, by rw [upd_ne n1]; exact a3, by rw [upd_ne n2]; exact a4⟩, hB, f3.2.1, fun w => f3.2.2 (nH D w), upd_same, ((da.mono st2.s0).mono st3.s0).append (.cons dy .nil), p3⟩
        rw [upd_ne fun z => by rw [z, f3.2.1] at w; cases w]
        exact g3.ex _ _ w
      · rw [if_neg c] at p3
        exact p3.elim
theorem cw_start {h : Addr} {A B : Hp} {s : Hd} {ρ : Env'} {D : Addr} {Q : VK} {ds : List Dt} (g0 : G h A B s) (hD : B D = none) (p : Post K mg h (Den K mg h) (loopC m mt a vs ds [] ρ s) A B Wx Q) : CW K mg Wx m mt a vs h A B ρ D Q ds (upd B D (.lst [])) := by
  obtain ⟨g1, st⟩ := g0.side (o := .lst []) hD
  obtain ⟨gl, a1, a2, a3, a4⟩ := g0.gl
  have n1 : h ≠ D := ne_of_none a3 hD
  have n2 : gl ≠ D := ne_of_none a4 hD
  refine ⟨A, s, [], [], st, g1, hD, g0.ex.free hD, fun w => ?_, upd_same, .nil, p⟩
  rcases w with w | ⟨r, w⟩
  · exact n1 w.symm
  · rw [upd_ne n1, a3] at w
    cases w
    exact n2 rfl
theorem cw_end {h : Addr} {A B B' : Hp} {ρ : Env'} {D : Addr} {Q : VK} (w : CW K mg Wx m mt a vs h A B ρ D Q [] B') : Q (.ref D) B' := by
  obtain ⟨A', s', acc, vv, st, g0, hB, hD, nD, eD, da, p⟩ := w
  have e0 : Same A' (upd A' D (.lst vv)) := same_upd' hD
  refine p (.ref D) (upd A' D (.lst vv)) B' ⟨st.s0.trans e0, fun q u x1 x2 x3 => ?_⟩ ⟨fun q u x => ?_, ?_, ?_⟩ (.lst upd_same (da.mono e0))
  · obtain ⟨y1, y2, y3⟩ := st.fr q u x1 x2 x3
    exact ⟨y1, by rw [upd_ne (ne_of_none x1 hB)]; exact y2, y3⟩
  · by_cases c : q = D
    · subst c
      rw [upd_same] at x
      rw [eD]
      exact x
    · rw [upd_ne c] at x
      exact g0.ex _ _ x
  · rw [upd_ne fun z => nD (.inl z.symm)]
    exact g0.h0
  · obtain ⟨gl, a1, a2, a3, a4⟩ := g0.gl
    exact ⟨gl, by rw [upd_ne fun z => nD (.inr ⟨_, by rw [← z]; exact a3⟩)]; exact a1, a2, a3, a4⟩
theorem lc_rng {h : Addr} {A B : Hp} {s : Hd} {σ : L2.St} {ρ : Env'} {Q : VK} {lo : Int} {n : Nat} (hg : SG K mg js g m) (hv : ∀ j ∈ js, j ∈ vs) (ht : ST K mg WF tt mt) (ha : SE K mg WF ta a) (g1 : G h A B s) (S1 : Slots K mg h A B σ ρ)
    (p1 : Post K mg h (Den K mg h) (loopC m mt a vs (rangeD lo n) [] ρ s) A B Wx Q) (D : Addr) (hD : B D = none) :
    ∃ W : Nat → Nat → Hp → Prop, (∃ m, W 0 m (upd B D (.lst []))) ∧ ∀ i m H, W i m H →
      ((Itr lo n).stop i H ∧ Q (.ref D) H) ∨ ((Itr lo n).go i H ∧ ∃ Nx : Hp → Prop, (∀ H', Nx H' → ∃ m', m' < m ∧ W (i + 1) m' H') ∧ ∀ x H', (Itr lo n).yld i H x H' → g x (L2.wipe σ vs) H' fun σ2 H2 => L2.wipe σ2 vs = L2.wipe σ vs ∧ tt σ2 H2 fun b H3 =>
        if b = true then ta σ2 H3 fun y H4 => ∃ acc, H4 D = some (.lst acc) ∧ acc.length < sizeLine ∧ Nx (upd H4 D (.lst (acc ++ [y]))) else Nx H3) := by
  refine lc_range (Qd := fun H => Q (.ref D) H) (fun i H' => CW K mg Wx m mt a vs h A B ρ D Q ((rangeD lo n).drop i) H') (cw_start g1 hD p1) (fun i H' hi w => ?_) (fun H' w => ?_)
  · rw [drop_cons (rangeD_get hi)] at w
    exact cw_turn hg hv ht ha S1 w fun A' e => .int _
  · have e : (rangeD lo n).drop n = [] := List.drop_eq_nil_of_le (by rw [rangeD_len]; exact Nat.le_refl _)
    rw [e] at w
    exact cw_end w
theorem st_yes : ST K mg Wx tYes mYes := fun h H0 H s σ ρ Q g S p => p true H0 H (.refl _ _) g rfl
end
/-- what a loop or a comprehension walks, and the data that come -/
structure SI (K : Frag) (mg : Str → Option Value) (Wx : WX) (wi : TI) (mi : MA) : Prop where
  for_ : ∀ {js : List Nat} {g : TG} {m : GM} {tb : TS} {body : MS}, SG K mg js g m → SS K mg Wx tb body → SS K mg Wx (tFor wi g tb) (mFor m mi body)
  lc : ∀ {js : List Nat} {g : TG} {m : GM} {tt : TT} {mt : MT} {ta : TE} {a : ME} {vs : List Nat}, SG K mg js g m → (∀ j ∈ js, j ∈ vs) → ST K mg WF tt mt → SE K mg WF ta a → SE K mg Wx (tLc wi g tt ta vs) (mLc m mi mt a vs)
section
variable {K : Frag} {mg : Str → Option Value} {Wx : WX} {tl tl2 : TE} {b b2 : ME}
theorem si_seq (hb : SE K mg Wx tl b) : SI K mg Wx (iSeq K tl) (mSeqI b) where
  for_ := by
    intro js g m tb body hg hb2 h H0 H s σ ρ D g0 S p
    have p : PostS K mg h (((b ρ s).bind _).bind _) H0 H Wx D := p
    rw [R.bind_assoc] at p
    refine hb h H0 H s σ ρ _ g0 S (PostS.bind p fun d s1 x A B st g1 dx p1 => ?_)
    have S1 := S.step st
    cases dx with
    | @lst a xs ds qa ra =>
      refine .inl ⟨a, rfl, ⟨xs, SqL.of (g1.ex _ _ qa)⟩, for_list (K := K) (a := a) (xs := xs) (fun i σ' H' => ∃ A' s' ρ', Step h A B A' H' ∧ G h A' H' s' ∧ Slots K mg h A' H' σ' ρ' ∧ PostS K mg h (loopF m body (ds.drop i) ρ' s') A' H' Wx D)
        ⟨A, s1, ρ, .refl _ _, g1, S1, p1⟩ (fun i σ' H' _ ⟨A', s', ρ', st', g', _, _⟩ => SqL.of (g'.ex _ _ (st'.s0 _ _ qa))) (fun i x σ' H' hx ⟨A', s', ρ', st', g', S', p'⟩ => ?_) (fun σ' H' ⟨A', s', ρ', st', g', S', p'⟩ => ?_)⟩
      · obtain ⟨d, hd, dx⟩ := ra.getV hx
        rw [drop_cons hd] at p'
        exact turn_ok hg hb2 g' S' (dx.mono st'.s0) p' fun σ2 A2 B2 s2 ρ2 st2 g2 S2 p2 => ⟨A2, s2, ρ2, st'.trans st2, g2, S2, p2⟩
      · rw [ra.len, List.drop_length] at p'
        exact p' σ' A' H' (.refl _ _) g' S'
    | @tup a xs ds qa ra =>
      refine .inr ⟨a, rfl, ⟨xs, sqt_mono g1.ex qa⟩, for_tup (K := K) (a := a) (xs := xs) (fun i σ' H' => ∃ A' s' ρ', Step h A B A' H' ∧ G h A' H' s' ∧ Slots K mg h A' H' σ' ρ' ∧ PostS K mg h (loopF m body (ds.drop i) ρ' s') A' H' Wx D)
        ⟨A, s1, ρ, .refl _ _, g1, S1, p1⟩ (fun i σ' H' _ ⟨A', s', ρ', st', g', _, _⟩ => sqt_mono g'.ex (sqt_mono st'.s0 qa)) (fun i x σ' H' hx ⟨A', s', ρ', st', g', S', p'⟩ => ?_) (fun σ' H' ⟨A', s', ρ', st', g', S', p'⟩ => ?_)⟩
      · obtain ⟨d, hd, dx⟩ := ra.getV hx
        rw [drop_cons hd] at p'
        exact turn_ok hg hb2 g' S' (dx.mono st'.s0) p' fun σ2 A2 B2 s2 ρ2 st2 g2 S2 p2 => ⟨A2, s2, ρ2, st'.trans st2, g2, S2, p2⟩
      · rw [ra.len, List.drop_length] at p'
        exact p' σ' A' H' (.refl _ _) g' S'
    | _ => exact p1.elim
  lc := by
    intro js g m tt mt ta a vs hg hv ht ha h H0 H s σ ρ Q g0 S p
    have p : Post K mg h (Den K mg h) (((b ρ s).bind _).bind _) H0 H Wx Q := p
    rw [R.bind_assoc] at p
    refine hb h H0 H s σ ρ _ g0 S (Post.bind p fun d s1 x A B st g1 dx p1 => ?_)
    have S1 := S.step st
    cases dx with
    | @lst aa xs ds qa ra =>
      refine .inl ⟨aa, rfl, ⟨xs, SqL.of (g1.ex _ _ qa)⟩, fun D hD => lc_list (K := K) (a := aa) (xs := xs) (fun i H' => CW K mg Wx m mt a vs h A B ρ D Q (ds.drop i) H') (cw_start g1 hD p1) (fun i H' _ w => ?_) (fun i x H' hx w => ?_) (fun H' w => ?_)⟩
      · obtain ⟨A', _, _, _, st', g', _⟩ := w
        exact SqL.of (g'.ex _ _ (st'.s0 _ _ qa))
      · obtain ⟨d, hd, dx⟩ := ra.getV hx
        rw [drop_cons hd] at w
        exact cw_turn hg hv ht ha S1 w fun A' e => dx.mono e
      · rw [ra.len, List.drop_length] at w
        exact cw_end w
    | @tup aa xs ds qa ra =>
      refine .inr ⟨aa, rfl, ⟨xs, sqt_mono g1.ex qa⟩, fun D hD => lc_tup (K := K) (a := aa) (xs := xs) (fun i H' => CW K mg Wx m mt a vs h A B ρ D Q (ds.drop i) H') (cw_start g1 hD p1) (fun i H' _ w => ?_) (fun i x H' hx w => ?_) (fun H' w => ?_)⟩
      · obtain ⟨A', _, _, _, st', g', _⟩ := w
        exact sqt_mono g'.ex (sqt_mono st'.s0 qa)
      · obtain ⟨d, hd, dx⟩ := ra.getV hx
        rw [drop_cons hd] at w
        exact cw_turn hg hv ht ha S1 w fun A' e => dx.mono e
      · rw [ra.len, List.drop_length] at w
        exact cw_end w
    | _ => exact p1.elim
theorem si_rng1 (hb : SE K mg Wx tl b) : SI K mg Wx (iRng1 (tCons tl tNil)) (mRng1 b) where
  for_ := by
    intro js g m tb body hg hb2 h H0 H s σ ρ D g0 S p
    have p : PostS K mg h (((b ρ s).bind _).bind _) H0 H Wx D := p
    rw [R.bind_assoc] at p
    refine hb h H0 H s σ ρ _ g0 S (PostS.bind p fun d s1 x A B st g1 dx p1 => ?_)
    cases dx with
    | int j =>
      by_cases c : rngOk j
      · simp only [if_pos c] at p1
        exact ⟨j, rfl, by have := c.1; omega, by have := c.2; omega, for_rng hg hb2 g1 (S.step st) p1⟩
      · simp only [if_neg c] at p1
        exact p1.elim
    | _ => exact p1.elim
  lc := by
    intro js g m tt mt ta a vs hg hv ht ha h H0 H s σ ρ Q g0 S p
    have p : Post K mg h (Den K mg h) (((b ρ s).bind _).bind _) H0 H Wx Q := p
    rw [R.bind_assoc] at p
    refine hb h H0 H s σ ρ _ g0 S (Post.bind p fun d s1 x A B st g1 dx p1 => ?_)
    cases dx with
    | int j =>
      by_cases c : rngOk j
      · simp only [if_pos c] at p1
        exact ⟨j, rfl, by have := c.1; omega, by have := c.2; omega, fun D hD => lc_rng hg hv ht ha g1 (S.step st) p1 D hD⟩
      · simp only [if_neg c] at p1
        exact p1.elim
    | _ => exact p1.elim
theorem si_rng2 (hb : SE K mg Wx tl b) (hb2 : SE K mg Wx tl2 b2) : SI K mg Wx (iRng2 (tCons tl (tCons tl2 tNil))) (mRng2 b b2) where
  for_ := by
    intro js g m tb body hg hbb h H0 H s σ ρ D g0 S p
    have p : PostS K mg h (((b ρ s).bind _).bind _) H0 H Wx D := p
    rw [R.bind_assoc] at p
    refine hb h H0 H s σ ρ _ g0 S (PostS.bind p fun d s1 x A B st g1 dx p1 => ?_)
    rw [R.bind_assoc] at p1
    refine hb2 h A B s1 σ ρ _ g1 (S.step st) (PostS.bind p1 fun d2 s2 x2 A2 B2 st2 g2 dx2 p2 => ?_)
    cases dx with
    | int i =>
      cases dx2 with
      | int j =>
        by_cases c : rngOk i ∧ rngOk j
        · simp only [if_pos c] at p2
          obtain ⟨⟨c1, c2⟩, c3, c4⟩ := c
          exact ⟨i, j, rfl, ⟨by omega, by omega, by omega, by omega⟩, for_rng hg hbb g2 (S.step (st.trans st2)) p2⟩
        · simp only [if_neg c] at p2
          exact p2.elim
      | _ => exact p2.elim
    | _ => cases dx2 <;> exact p2.elim
  lc := by
    intro js g m tt mt ta a vs hg hv ht ha h H0 H s σ ρ Q g0 S p
    have p : Post K mg h (Den K mg h) (((b ρ s).bind _).bind _) H0 H Wx Q := p
    rw [R.bind_assoc] at p
    refine hb h H0 H s σ ρ _ g0 S (Post.bind p fun d s1 x A B st g1 dx p1 => ?_)
    rw [R.bind_assoc] at p1
    refine hb2 h A B s1 σ ρ _ g1 (S.step st) (Post.bind p1 fun d2 s2 x2 A2 B2 st2 g2 dx2 p2 => ?_)
    cases dx with
    | int i =>
      cases dx2 with
      | int j =>
        by_cases c : rngOk i ∧ rngOk j
        · simp only [if_pos c] at p2
          obtain ⟨⟨c1, c2⟩, c3, c4⟩ := c
          exact ⟨i, j, rfl, ⟨by omega, by omega, by omega, by omega⟩, fun D hD => lc_rng hg hv ht ha g2 (S.step (st.trans st2)) p2 D hD⟩
        · simp only [if_neg c] at p2
          exact p2.elim
      | _ => exact p2.elim
    | _ => cases dx2 <;> exact p2.elim
end
end Mir


set_option Elab.async false
set_option linter.all false
set_option maxRecDepth 100000
namespace Mir
open PySem PySem.Spec PyProof.Rows L2
open PySem.W (Frag)

/-! ### texts: statements -/
section
variable {X : Cx} {Wx : WX} {a b c e : Expr} {ma mb : ME} {mt : MT} {as : MA} {st : Stmt} {rest sts sts2 : List Stmt} {ms mu : MS} {pos p : Pos} {es : List Expr}
theorem qss_nil : QSs X Wx [] mNext := ⟨_, pss_nil, ss_next⟩
theorem qss_cons (h1 : QS X Wx st ms) (h2 : QSs X Wx rest mu) : QSs X Wx (st :: rest) (mSeq ms mu) := by
  obtain ⟨t, p, s⟩ := h1
  obtain ⟨t2, p2, s2⟩ := h2
  exact ⟨_, pss_cons p p2, ss_seq s s2⟩
theorem qss_one (h1 : QS X Wx st ms) : QSs X Wx [st] ms := by
  obtain ⟨t, p, s⟩ := h1
  exact ⟨_, pss_one p, s⟩
theorem qs_set (i : Nat) {x : Str} {pos' : Pos} (hN : X.N.Nodup) (he : QE X Wx e ma) (hi : X.N[i]? = some x := by rfl) (hx : Loc X.env.scope x := by first | exact Or.inl rfl | exact Or.inr rfl) (hs : swapsWith e (some (.Name x pos')) pos.line X.env = pure false := by rfl)
    (hf : X.fn x = true ∨ X.env.scope.names.lookup x = some .local := by first | exact .inl rfl | exact .inr rfl) : QS X Wx (.Assign [.Name x pos'] e pos) (mSet i ma) := by
  obtain ⟨t, q, s⟩ := he
  exact ⟨_, ps_set hN hi hx q hs hf, ss_set s⟩
theorem qs_ret (he : QE X Wx e ma) : QS X Wx (.Return (some e) pos) (mRet ma) := by
  obtain ⟨t, q, s⟩ := he
  exact ⟨_, ps_ret q, ss_ret s⟩
theorem qs_retN : QS X Wx (.Return none pos) mRetN := ⟨_, ps_retN, ss_retN⟩
theorem qs_pass : QS X Wx (.Pass pos) mNext := ⟨_, ps_pass, ss_next⟩
theorem qs_break : QS X Wx (.Break pos) mBreak := ⟨_, ps_break, ss_break⟩
theorem qs_continue : QS X Wx (.Continue pos) mCont := ⟨_, ps_continue, ss_cont⟩
theorem qs_expr (he : QE X Wx e ma) (hs : swapsWith e none pos.line X.env = pure false := by rfl) : QS X Wx (.Expr e pos) (mDrop ma) := by
  obtain ⟨t, q, s⟩ := he
  exact ⟨_, ps_expr q hs, ss_drop s⟩
theorem qs_if (hc : QT X Wx c mt) (h1 : QSs X Wx sts ms) (h2 : QSs X Wx sts2 mu) : QS X Wx (.If c sts sts2 pos) (mIfS mt ms mu) := by
  obtain ⟨t, q, s⟩ := hc
  obtain ⟨t1, q1, s1⟩ := h1
  obtain ⟨t2, q2, s2⟩ := h2
  exact ⟨_, ps_if q q1 q2, ss_if s s1 s2⟩
theorem qs_par (i j : Nat) {x y : Str} {px py pt : Pos} {kt k2 pt2} (hc : X.calm = true) (hN : X.N.Nodup) (hij : i ≠ j) (ha : QA X Wx [a, b] as) (hi : X.N[i]? = some x := by rfl) (hj : X.N[j]? = some y := by rfl)
    (hx : X.env.scope.names.lookup x = some .local := by rfl) (hy : X.env.scope.names.lookup y = some .local := by rfl)
    (hw : swappedStores [.Tuple [.Name x px, .Name y py] kt pt] (.Tuple [a, b] k2 pt2) X.env = pure (some [x, y]) := by rfl)
    (hs : swapsWithSole [.Tuple [.Name x px, .Name y py] kt pt] (.Tuple [a, b] k2 pt2) pos.line X.env = pure false := by rfl) :
    QS X Wx (.Assign [.Tuple [.Name x px, .Name y py] kt pt] (.Tuple [a, b] k2 pt2) pos) (mPar i j as) := by
  obtain ⟨t, q, s⟩ := ha
  exact ⟨_, ps_par hc hN hi hj hij hx hy q hw hs, ss_par s⟩
end

/-! ### targets -/
def QG (X : Cx) (js : List Nat) (tg : Expr) (g : TG) (m : GM) : Prop := PG X tg g ∧ SG X.K X.mg js g m
def QGs (X : Cx) (js : List Nat) (tgs : List Expr) (g : TGs) (m : GMs) : Prop := PGs X tgs g ∧ SGs X.K X.mg js g m
section
variable {X : Cx} {Wx : WX} {e tg : Expr} {es : List Expr} {ma : ME} {pos : Pos} {js ks : List Nat} {g : TG} {gs : TGs} {m : GM} {ms : GMs} {iter : Expr} {body : List Stmt} {mb : MS}
theorem qg_name (j : Nat) {x : Str} (hN : X.N.Nodup) (hi : X.N[j]? = some x := by rfl) (hx : Loc X.env.scope x := by first | exact Or.inl rfl | exact Or.inr rfl) (hf : X.fn x = true ∨ X.env.scope.names.lookup x = some .local := by first | exact .inl rfl | exact .inr rfl) : QG X [j] (.Name x pos) (gName j) (gmName j) :=
  ⟨pg_name hN hi hx hf, sg_name⟩
theorem qgs_nil : QGs X [] [] gNil gmNil := ⟨pgs_nil, sgs_nil⟩
theorem qgs_cons (h1 : QG X js e g m) (h2 : QGs X ks es gs ms) (hs : (assignEach (e :: es) X.env).map (·.2) = assign e X.env :: (assignEach es X.env).map (·.2) := by rfl) : QGs X (js ++ ks) (e :: es) (gCons g gs) (gmCons m ms) :=
  ⟨pgs_cons h1.1 h2.1 hs, sgs_cons h1.2 h2.2⟩
theorem qg_seq {k : Nat} (n : Nat) (hc : X.calm = true) (h : QGs X js es gs ms) (hn : (assignEach es X.env).length = n := by rfl) (hst : (assignEach es X.env).findIdx? (·.1) = none := by rfl) : QG X js (.Tuple es k pos) (gSeq X.K n gs) (gmSeq n ms) :=
  ⟨pg_seq hc h.1 hn hst, sg_seq h.2⟩
theorem qs_asg (he : QE X Wx e ma) (hg : QG X js tg g m) (hs : swapsWithSole [tg] e pos.line X.env = pure false := by rfl) (hw : swappedStores [tg] e X.env = pure none := by rfl)
    (h1 : (assignEach [tg] X.env).map (·.2) = [assign tg X.env] := by rfl) : QS X Wx (.Assign [tg] e pos) (mAsg m ma) := by
  obtain ⟨t, q, s⟩ := he
  exact ⟨_, ps_asg q hg.1 hs hw h1, ss_asg s hg.2⟩
/-- what is walked -/
def QI (X : Cx) (Wx : WX) (iter : Expr) (mi : MA) : Prop := ∃ wi, (∀ tg, PI X tg iter wi) ∧ SI X.K X.mg Wx wi mi ∧ ∀ x, foldedSetIterable iter X.env x = pure x
variable {e2 : Expr} {ma2 : ME} {mi : MA} {p : Pos}
theorem qi_seq (hi : QE X Wx iter ma) (hs : ∀ x, foldedSetIterable iter X.env x = pure x := by intro _; rfl) : QI X Wx iter (mSeqI ma) := by
  obtain ⟨t, q, s⟩ := hi
  exact ⟨_, fun _ => pi_seq q, si_seq s, hs⟩
theorem qi_rng1 (hgr : Gl X "range") (hm : X.mg "range" = none) (hi : QE X Wx e ma) (hse : starEach [e] X.env = [(false, eval e X.env)] := by rfl) (hs : ∀ x, foldedSetIterable (.Call (.Name "range" p) [e] [] pos) X.env x = pure x := by intro _; rfl) : QI X Wx (.Call (.Name "range" p) [e] [] pos) (mRng1 ma) := by
  obtain ⟨t, q, s⟩ := hi
  exact ⟨_, fun _ => pi_range1 hgr hm (pa_cons q pa_nil hse) hse, si_rng1 s, hs⟩
theorem qi_rng2 (hgr : Gl X "range") (hm : X.mg "range" = none) (hi : QE X Wx e ma) (hi2 : QE X Wx e2 ma2) (hse : starEach [e, e2] X.env = [(false, eval e X.env), (false, eval e2 X.env)] := by rfl) (hse2 : starEach [e2] X.env = [(false, eval e2 X.env)] := by rfl)
    (hs : ∀ x, foldedSetIterable (.Call (.Name "range" p) [e, e2] [] pos) X.env x = pure x := by intro _; rfl) : QI X Wx (.Call (.Name "range" p) [e, e2] [] pos) (mRng2 ma ma2) := by
  obtain ⟨t, q, s⟩ := hi
  obtain ⟨t2, q2, s2⟩ := hi2
  exact ⟨_, fun _ => pi_range2 hgr hm (pa_cons q (pa_cons q2 pa_nil hse2) (by rw [hse, hse2])) hse hse2, si_rng2 s s2, hs⟩
theorem qs_for (hp : PassesOwn (model X.prog X.w) X.A X.env X.xe) (hc : X.calm = true) (hi : QI X Wx iter mi) (hg : QG X js tg g m) (hb : QSs X Wx body mb) : QS X Wx (.For tg iter body [] pos) (mFor m mi mb) := by
  obtain ⟨wi, q, s, hs⟩ := hi
  obtain ⟨tb, qb, sb⟩ := hb
  exact ⟨_, ps_for hp hc (q _) hg.1 qb hs, s.for_ hg.2 sb⟩
end

/-! ### comprehensions: the reading that a function itself gives -/
section
variable (K : Frag) (mg : Str → Option Value) (Wx : WX)
def cE (m : ME) : TE := fun σ H Q => ∃ (h : Addr) (H0 : Hp) (s : Hd) (ρ : Env'), G h H0 H s ∧ Slots K mg h H0 H σ ρ ∧ Post K mg h (Den K mg h) (m ρ s) H0 H Wx Q
def cT (m : MT) : TT := fun σ H Q => ∃ (h : Addr) (H0 : Hp) (s : Hd) (ρ : Env'), G h H0 H s ∧ Slots K mg h H0 H σ ρ ∧ Post K mg h EqB (m ρ s) H0 H Wx Q
def cS (m : MS) : TS := fun D σ H => ∃ (h : Addr) (H0 : Hp) (s : Hd) (ρ : Env'), G h H0 H s ∧ Slots K mg h H0 H σ ρ ∧ PostS K mg h (m ρ s) H0 H Wx D
end
section
variable {K : Frag} {mg : Str → Option Value} {X : Cx} {Wx : WX} {e : Expr} {sts : List Stmt} {ma : ME} {mt : MT} {ms : MS}
theorem se_cE : SE K mg Wx (cE K mg Wx ma) ma := fun h H0 H s σ ρ Q g S p => ⟨h, H0, s, ρ, g, S, p⟩
theorem st_cT : ST K mg Wx (cT K mg Wx mt) mt := fun h H0 H s σ ρ Q g S p => ⟨h, H0, s, ρ, g, S, p⟩
theorem ss_cS : SS K mg Wx (cS K mg Wx ms) ms := fun h H0 H s σ ρ Q g S p => ⟨h, H0, s, ρ, g, S, p⟩
theorem QE.can (q : QE X Wx e ma) : PE X e (cE X.K X.mg Wx ma) := by
  obtain ⟨t, p, s⟩ := q
  exact ⟨fun pins sh σ H Q I ⟨h, H0, s', ρ, g, S, w⟩ => p.run pins sh σ H Q I (s h H0 H s' σ ρ Q g S w)⟩
theorem QT.can (q : QT X Wx e mt) : PT X e (cT X.K X.mg Wx mt) := by
  obtain ⟨t, p, s⟩ := q
  exact ⟨fun pins sh σ H Q I ⟨h, H0, s', ρ, g, S, w⟩ => p.run pins sh σ H Q I (s h H0 H s' σ ρ Q g S w)⟩
theorem QSs.can (q : QSs X Wx sts ms) : PSs X sts (cS X.K X.mg Wx ms) := by
  obtain ⟨t, p, s⟩ := q
  exact ⟨fun pins sh σ H D I ⟨h, H0, s', ρ, g, S, w⟩ => p.run pins sh σ H D I (s h H0 H s' σ ρ D g S w)⟩
end
section
variable {X : Cx} {Wx : WX} {elt tg iter e2 : Expr} {scope : Scope} {own : List (Str × Nat)} {pos p pos2 : Pos} {g : TG} {m : GM} {js : List Nat} {ifs : List Expr} {mt : MT} {ma mb mb2 : ME}
/-- the tests of a clause -/
def QTs (X : Cx) (ifs : List Expr) (mt : MT) : Prop := (ifs = [] ∧ mt = mYes) ∨ ∃ c, ifs = [c] ∧ QT X WF c mt
theorem qts_nil : QTs X [] mYes := .inl ⟨rfl, rfl⟩
theorem qts_one {c : Expr} (h : QT X WF c mt) : QTs X [c] mt := .inr ⟨c, rfl, h⟩
theorem QTs.can (q : QTs X ifs mt) : PTs X ifs (cT X.K X.mg WF mt) := by
  rcases q with ⟨rfl, rfl⟩ | ⟨c, rfl, q⟩
  · exact ⟨fun pins sh σ H Q I ⟨h, H0, s', ρ, g, S, w⟩ => pts_nil.run pins sh σ H Q I (w true H0 H (.refl _ _) g rfl)⟩
  · exact pts_one q.can
theorem qe_lc {mi : MA} {vs : List Nat} (hc : X.calm = true) (hN : X.N.Nodup) (hi : QI X Wx iter mi) (ok : BlkOk X.N X.env.scope scope own) (hvs : own.map (·.2) = vs) (hv : ∀ j ∈ js, j ∈ vs) (hsg : SG X.K X.mg js g m)
    (hg : ∀ (s : Shared) (H : Hp) (C : Addr) (cl : List (Str × Addr)) (fp : List Addr), PG (X.blk s H scope (compEnvC scope cl C X.env) fp) tg g)
    (ht : ∀ (s : Shared) (H : Hp) (C : Addr) (cl : List (Str × Addr)) (fp : List Addr), QTs (X.blk s H scope (compEnvC scope cl C X.env) fp) ifs mt)
    (he : ∀ (s : Shared) (H : Hp) (C : Addr) (cl : List (Str × Addr)) (fp : List Addr), QE (X.blk s H scope (compEnvC scope cl C X.env) fp) WF elt ma) :
    QE X Wx (.ListComp elt [⟨tg, iter, ifs, 0⟩] scope pos) (mLc m mi mt ma vs) := by
  subst hvs
  obtain ⟨wi, q, s, hs⟩ := hi
  exact ⟨_, pe_lc hc hN (q _) ok hg (fun s H C cl fp => (ht s H C cl fp).can) (fun s H C cl fp => (he s H C cl fp).can) hs, s.lc hsg hv st_cT se_cE⟩
/-- name = [..] -/
theorem qs_setLc {mi : MA} {vs : List Nat} (i : Nat) {y : Str} {py spos : Pos} (hc : X.calm = true) (hN : X.N.Nodup) (hi : QI X Wx iter mi) (ok : BlkOk X.N X.env.scope scope own) (hvs : own.map (·.2) = vs) (hv : ∀ j ∈ js, j ∈ vs) (hsg : SG X.K X.mg js g m)
    (hg : ∀ (s : Shared) (H : Hp) (C : Addr) (cl : List (Str × Addr)) (fp : List Addr), PG (X.blk s H scope (compEnvC scope cl C X.env) fp) tg g)
    (ht : ∀ (s : Shared) (H : Hp) (C : Addr) (cl : List (Str × Addr)) (fp : List Addr), QTs (X.blk s H scope (compEnvC scope cl C X.env) fp) ifs mt)
    (he : ∀ (s : Shared) (H : Hp) (C : Addr) (cl : List (Str × Addr)) (fp : List Addr), QE (X.blk s H scope (compEnvC scope cl C X.env) fp) WF elt ma)
    (hy : X.N[i]? = some y := by rfl) (hyl : X.env.scope.names.lookup y = some .local := by rfl) (hsw : swapsWith (.ListComp elt [⟨tg, iter, ifs, 0⟩] scope pos) (some (.Name y py)) spos.line X.env = pure true := by exact sw_true rfl rfl rfl (by decide +kernel)) :
    QS X Wx (.Assign [.Name y py] (.ListComp elt [⟨tg, iter, ifs, 0⟩] scope pos) spos) (mSet i (mLc m mi mt ma vs)) := by
  subst hvs
  obtain ⟨wi, q, s, hs⟩ := hi
  exact ⟨_, ps_setLc hc hN hy hyl hsw (q _) ok hg (fun s H C cl fp => (ht s H C cl fp).can) (fun s H C cl fp => (he s H C cl fp).can) hs, ss_set (s.lc hsg hv st_cT se_cE)⟩
end
end Mir


set_option Elab.async false
set_option linter.all false
set_option maxRecDepth 100000
namespace Mir
open PySem PySem.Spec PyProof.Rows L2
open PySem.W (Frag)

/-! ### defs -/
def startE (n : Nat) (ds : List Dt) : Env' := ds.map .dat ++ List.replicate (n - ds.length) .no
def mDef (n : Nat) (ms : MS) : List Dt → Hd → R Dt := fun ds s => match ms (startE n ds) s with
  | .ok (.nx _) s' => .ok .non s'
  | .ok (.rt d) s' => .ok d s'
  | .err c fs ρ s' => .err c fs ρ s'
  | _ => .bad
section
variable {K : Frag} {mg : Str → Option Value}
theorem slots_start {h : Addr} {H0 H : Hp} {N : List Str} {vs : List V} {ds : List Dt} (da : DenA K mg h H0 vs ds) : Slots K mg h H0 H (L2.start N vs) (startE N.length ds) := by
  have l := da.len
  unfold L2.start startE
  have own : ∀ (i : Nat) (b : List Dt), (ds.map Sl.dat ++ List.replicate (N.length - ds.length) Sl.no)[i]? ≠ some (.own b) := fun i b z => by
    by_cases hi : i < ds.length
    · rw [List.getElem?_append_left (by rw [List.length_map]; exact hi), List.getElem?_map, List.getElem?_eq_getElem hi] at z
      cases z
    · rw [List.getElem?_append_right (by rw [List.length_map]; omega), List.getElem?_replicate] at z
      split at z <;> cases z
  refine ⟨by simp [l], fun i o sl a b => ?_, fun i j p x y e1 e2 _ _ => absurd e1 (own i x)⟩
  by_cases hi : i < ds.length
  · rw [List.getElem?_append_left (by rw [List.length_map]; omega), List.getElem?_map] at a
    rw [List.getElem?_append_left (by rw [List.length_map]; exact hi), List.getElem?_map, List.getElem?_eq_getElem hi] at b
    cases b
    obtain ⟨v, e1, e2⟩ := da.get (List.getElem?_eq_getElem hi)
    rw [e1] at a
    cases a
    exact e2
  · rw [List.getElem?_append_right (by rw [List.length_map]; omega), List.getElem?_replicate] at b
    split at b
    · cases b
      cases o <;> exact True.intro
    · cases b
theorem postS_of {h : Addr} {r : R Fl} {H0 H : Hp} {Q : VK} {E : XK} (p : PostC K mg h (match r with
    | .ok (.nx _) s' => .ok .non s'
    | .ok (.rt d) s' => .ok d s'
    | .err c fs ρ s' => .err c fs ρ s'
    | _ => .bad) H0 H E Q) : PostS K mg h r H0 H (fun c d _ H' => E c d H') { nx := fun _ H' => Q .non H', rt := Q } := by
  cases r with
  | ok f s =>
    cases f with
    | nx ρ => exact fun σ' A B st g S => p .non A B st g .non
    | rt d => exact p
    | bk ρ => exact p.elim
    | ct ρ => exact p.elim
  | err c fs ρ s => exact fun σ' C dd fv A B st g S mc x f => p C dd fv A B st g mc x f
  | bad => exact p
end
section
variable {P : Program} {w : World} {K : Frag} {mg : Str → Option Value} {base : Heap} {x qual : Str} {st : Stmt} {f : Addr} {fd : FuncData} {N ps : List Str} {k : Nat} {ms : MS}
abbrev cxD (P : Program) (w : World) (K : Frag) (mg : Str → Option Value) (base : Heap) (N : List Str) (qual : Str) (scope : Scope) (f : Addr) (cd : Value) (A : Around) (outer : List Env) (s : Shared) (H : Hp) (E : XK) : Cx := cxOf (L2.CX P w) P w K mg base N qual scope f cd A outer s H E
abbrev wE (E : XK) : WX := fun c d _ H => E c d H
theorem cx_takes {scope : Scope} {cdv : Value} {A : Around} {outer : List Env} {s : Shared} {H : Hp} {E : XK} : Takes (cxD P w K mg base N qual scope f cdv A outer s H E) (wE E) := takes_of rfl rfl rfl rfl
theorem cx_pass {scope : Scope} {cdv : Value} {A : Around} {outer : List Env} {s : Shared} {H : Hp} {E : XK} : PassesOwn (model (cxD P w K mg base N qual scope f cdv A outer s H E).prog (cxD P w K mg base N qual scope f cdv A outer s H E).w) (cxD P w K mg base N qual scope f cdv A outer s H E).A (cxD P w K mg base N qual scope f cdv A outer s H E).env (cxD P w K mg base N qual scope f cdv A outer s H E).xe := passes_of rfl
/-- a def follows its function -/
theorem okM {n nn : Nat} (F : Fun K x qual st f fd) (S : FnScope N ps (defScope st)) (hn : ps.length = n) (hN : N.length = nn)
    (hb : ∀ (cdv : Value) (A : Around) (outer : List Env) (s : Shared) (H : Hp) (E : XK), Room k (A.deeper (envOfC qual (defScope st) s.heap.objs.size f cdv)) → QSs (cxD P w K mg base N qual (defScope st) f cdv A outer s H E) (wE E) (defBody st) ms) :
    FnOk P w K mg base (L2.CX P w) (k + 1) f fd ps (spM K mg n (mDef nn ms)) := by
  subst hn
  subst hN
  refine F.okX S (fun vs H Q E h => h.1) (fun cdv A outer s H vs Q E hr h => ?_)
  obtain ⟨hl, hh, H0, s', ds, g, da, p⟩ := h
  obtain ⟨ts, q, ss⟩ := hb cdv A outer s H E hr
  exact ⟨ts, q, ss hh H0 H s' _ _ _ g (slots_start da) (postS_of p)⟩
theorem okMD {n nn : Nat} {params : Arguments} {body : List Stmt} {scope : Scope} {dvs : List V} (F : FunD K x qual params body scope dvs [] f fd) (S : FnScope N ps scope) (hn : ps.length = n) (hN : N.length = nn)
    (hb : ∀ (cdv : Value) (A : Around) (outer : List Env) (s : Shared) (H : Hp) (E : XK), Room k (A.deeper (envOfC qual scope s.heap.objs.size f cdv)) → QSs (cxD P w K mg base N qual scope f cdv A outer s H E) (wE E) body ms) :
    FnOk P w K mg base (L2.CX P w) (k + 1) f fd ps (spM K mg n (mDef nn ms)) := by
  subst hn
  subst hN
  refine F.ok S (fun vs H Q E h => h.1) (fun cdv A outer s H vs Q E hr h => ?_)
  obtain ⟨hl, hh, H0, s', ds, g, da, p⟩ := h
  obtain ⟨ts, q, ss⟩ := hb cdv A outer s H E hr
  exact ⟨ts, q, ss hh H0 H s' _ _ _ g (slots_start da) (postS_of p)⟩
end

/-! ### raise: an own error that keeps its arguments -/
/-- what __init__ of such a class promises -/
def spI (K : Frag) (names : List Str) : Sp := fun vs H Q E => ∃ (a C : Addr) (ws : List V), vs = .ref a :: ws ∧ ws.length = names.length ∧ H a = some (exo a C none) ∧ OexC K C ∧ (∀ f ∈ names, PySem.W.findIn K (.ref C) f = some none) ∧
  ∀ d : Addr, H d = none → d ≠ a → Q .non (upd (upd H d (exd d (names.zip ws).reverse)) a (exo a C (some d)))
/-- what the text knows of the class named c -/
structure ExC (X : Cx) (c : Str) (names : List Str) (C : Addr) : Prop where
  m : X.mg c = some (.ref C)
  ox : OexC X.K C
  no : ∀ f ∈ names, PySem.W.findIn X.K (.ref C) f = some none
def mRaise (c : Str) (names : List Str) (as : MA) : MS := fun ρ s => (as ρ s).bind fun ds s1 => if ds.length = names.length ∧ names.length ≤ 100 then .err c (names.zip ds).reverse ρ s1 else .bad
section
variable {K : Frag} {mg : Str → Option Value} {h : Addr} {H : Hp}
theorem DenF.app : ∀ {a b : List (Str × V)} {c d : List (Str × Dt)}, DenF K mg h H a c → DenF K mg h H b d → DenF K mg h H (a ++ b) (c ++ d)
  | _, _, _, _, .nil, s => s
  | _, _, _, _, .cons r t, s => .cons r (DenF.app t s)
theorem DenF.zipR : ∀ {vs : List V} {ds : List Dt} (names : List Str), DenA K mg h H vs ds → DenF K mg h H (names.zip vs).reverse (names.zip ds).reverse
  | _, _, [], _ => by
    rw [List.zip_nil_left, List.zip_nil_left]
    exact .nil
  | _, _, _ :: _, .nil => .nil
  | _, _, n :: ns, .cons q r => by
    rw [List.zip_cons_cons, List.zip_cons_cons, List.reverse_cons, List.reverse_cons]
    exact DenF.app (DenF.zipR ns r) (.cons q .nil)
theorem DenF.look {f : Str} {d : Dt} : ∀ {fv : List (Str × V)} {fs : List (Str × Dt)}, DenF K mg h H fv fs → fs.lookup f = some d → ∃ v, fv.lookup f = some v ∧ Den K mg h H v d
  | _, _, .nil, e => by cases e
  | _, _, @DenF.cons _ _ _ _ n v vs d' ds q r, e => by
    by_cases c : f = n
    · subst c
      simp only [List.lookup, beq_self_eq_true] at e ⊢
      cases e
      exact ⟨v, rfl, q⟩
    · have c' : (f == n) = false := by simpa using c
      simp only [List.lookup, c'] at e ⊢
      exact DenF.look r e
end
section
variable {X : Cx} {Wx : WX} {e : Expr} {es : List Expr} {c : Str} {p pos pos2 : Pos} {as : MA}
theorem qs_raise {names : List Str} {C fI : Addr} {k : Nat} {fd : FuncData} {ps : List Str} (hc : X.calm = true) (tk : Takes X Wx) (T : ExC X c names C) (iC : PySem.W.findIn X.K (.ref C) "__init__" = some (some (.ref fI))) (tI : PySem.W.typeIn X.K (.ref fI) = some (.type "function"))
    (F1 : FnOk X.prog X.w X.K X.mg X.base (L2.CX X.prog X.w) k fI fd ps (spI X.K names)) (hr : Room (k + 1) X.A) (hb : Binds X.K fd ps []) (hg : Gl X c) (ha : QA X Wx (e :: es) as)
    (hdb : (c == ("__debug__" : Str)) = false := by decide) (he : starEach (e :: es) X.env = (false, eval e X.env) :: starEach es X.env := by rfl) (hpl : (backTo pos (starEach es X.env)).any (·.1) = false := by rfl) :
    QS X Wx (.Raise (some (.Call (.Name c p) (e :: es) [] pos)) none pos2) (mRaise c names as) := by
  obtain ⟨t, q, sa⟩ := ha
  refine ⟨_, ps_raise hc tk (pmk_oex T.ox iC tI F1 hr hb .nil passL hg T.m q hdb he hpl), ?_⟩
  intro h H0 H s σ ρ D g S pp
  show t σ H _
  refine sa h H0 H s σ ρ _ g S (PostS.bind pp fun ds s1 xs A B st g1 dx p1 => ?_)
  by_cases cc : ds.length = names.length ∧ names.length ≤ 100
  · rw [if_pos cc] at p1
    have l := dx.len
    refine ⟨by omega, fun a na => ⟨a, C, xs ++ [], rfl, by rw [List.append_nil]; omega, upd_same, T.ox, T.no, fun d hd nd => ?_⟩⟩
    rw [List.append_nil]
    have hd0 : B d = none := by rwa [upd_ne nd] at hd
    refine ⟨rfl, d, _, upd_same, by rw [upd_ne nd]; exact upd_same, hd0, ?_⟩
    have eq : upd (del (upd (upd (upd B a (exo a C none)) d (exd d (names.zip xs).reverse)) a (exo a C (some d))) a) d (.xd (names.zip xs).reverse) = upd B d (.xd (names.zip xs).reverse) := by
      funext b
      by_cases e1 : b = d
      · subst e1
        rw [upd_same, upd_same]
      · rw [upd_ne e1, upd_ne e1]
        by_cases e2 : b = a
        · subst e2
          rw [del_same, na]
        · rw [del_ne e2, upd_ne e2, upd_ne e1, upd_ne e2]
    rw [eq]
    obtain ⟨g2, st2⟩ := g1.side (o := .xd (names.zip xs).reverse) hd0
    exact p1 σ C d _ A _ st2 g2 ((S.step st).step st2) T.m upd_same (DenF.zipR names dx)
  · rw [if_neg cc] at p1
    exact p1.elim
end

theorem visP {N P : List Str} {sc : Scope} (S : FnScope N P sc) {x : Str} (m : x ∈ P) : Vis sc x := (S.par x m).elim .inl fun z => .inr (.inl z)
/-! ### __init__ of such a class, one and two fields -/
section
variable {P : Program} {w : World} {K : Frag} {mg : Str → Option Value} {base : Heap} {qual f1 f2 f3 : Str} {st : Stmt} {f : Addr} {fd : FuncData}
theorem init1 {p1 p2 p3 p4 : Pos} (F : Fun K "__init__" qual st f fd) (S : FnScope ["self", f1] ["self", f1] (defScope st)) (hb : defBody st = [.Assign [.Attribute (.Name "self" p1) f1 p2] (.Name f1 p3) p4])
    (hdb : (f1 == ("__debug__" : Str)) = false := by decide) (hcd : (f1 == ("__classdict__" : Str)) = false := by decide) : FnOk P w K mg base (L2.CX P w) 1 f fd ["self", f1] (spI K [f1]) := by
  refine F.okX S (fun vs H Q E h => ?_) (fun cdv A outer s H vs Q E hr h => ?_)
  · obtain ⟨a, C, ws, rfl, l, _⟩ := h
    show ws.length + 1 = 2
    rw [l]
    rfl
  · obtain ⟨a, C, ws, rfl, l, ha, T, no, q⟩ := h
    obtain ⟨y, rfl⟩ : ∃ y, ws = [y] := by
      match ws, l with
      | [y], _ => exact ⟨y, rfl⟩
    rw [hb]
    have v0 : Vis (defScope st) "self" := visP S List.mem_cons_self
    have v1 : Vis (defScope st) f1 := visP S (List.mem_cons_of_mem _ List.mem_cons_self)
    refine ⟨_, pss_one (ps_ost (pe_var (i := 0) rfl v0) (pe_var (i := 1) rfl v1 hdb hcd)), ?_⟩
    exact ⟨y, rfl, .ref a, rfl, a, C, rfl, T, no f1 List.mem_cons_self, .inl ⟨ha, fun dx hd nd => q dx hd nd⟩⟩
theorem init2 {p1 p2 p3 p4 q1 q2 q3 q4 : Pos} (F : Fun K "__init__" qual st f fd) (S : FnScope ["self", f1, f2] ["self", f1, f2] (defScope st))
    (hb : defBody st = [.Assign [.Attribute (.Name "self" p1) f1 p2] (.Name f1 p3) p4, .Assign [.Attribute (.Name "self" q1) f2 q2] (.Name f2 q3) q4])
    (hdb : (f1 == ("__debug__" : Str)) = false := by decide) (hcd : (f1 == ("__classdict__" : Str)) = false := by decide) (hdb2 : (f2 == ("__debug__" : Str)) = false := by decide) (hcd2 : (f2 == ("__classdict__" : Str)) = false := by decide) : FnOk P w K mg base (L2.CX P w) 1 f fd ["self", f1, f2] (spI K [f1, f2]) := by
  refine F.okX S (fun vs H Q E h => ?_) (fun cdv A outer s H vs Q E hr h => ?_)
  · obtain ⟨a, C, ws, rfl, l, _⟩ := h
    show ws.length + 1 = 3
    rw [l]
    rfl
  · obtain ⟨a, C, ws, rfl, l, ha, T, no, q⟩ := h
    obtain ⟨y, z, rfl⟩ : ∃ y z, ws = [y, z] := by
      match ws, l with
      | [y, z], _ => exact ⟨y, z, rfl⟩
    rw [hb]
    have v0 : Vis (defScope st) "self" := visP S List.mem_cons_self
    have v1 : Vis (defScope st) f1 := visP S (List.mem_cons_of_mem _ List.mem_cons_self)
    have v2 : Vis (defScope st) f2 := visP S (List.mem_cons_of_mem _ (List.mem_cons_of_mem _ List.mem_cons_self))
    refine ⟨_, pss_cons (ps_ost (pe_var (i := 0) rfl v0) (pe_var (i := 1) rfl v1 hdb hcd)) (pss_one (ps_ost (pe_var (i := 0) rfl v0) (pe_var (i := 2) rfl v2 hdb2 hcd2))), ?_⟩
    refine ⟨y, rfl, .ref a, rfl, a, C, rfl, T, no f1 List.mem_cons_self, .inl ⟨ha, fun dx hd nd => ?_⟩⟩
    refine ⟨z, rfl, .ref a, rfl, a, C, rfl, T, no f2 (List.mem_cons_of_mem _ List.mem_cons_self), .inr ⟨dx, [(f1, y)], upd_same, by rw [upd_ne nd]; exact upd_same, (show 1 ≤ 900 by decide), ?_⟩⟩
    have eq : upd (upd (upd H dx (exd dx [(f1, y)])) a (exo a C (some dx))) dx (exd dx [(f2, z), (f1, y)]) = upd (upd H dx (exd dx [(f2, z), (f1, y)])) a (exo a C (some dx)) := by
      funext b
      by_cases e1 : b = dx
      · subst e1
        rw [upd_same, upd_ne nd, upd_same]
      · rw [upd_ne e1]
        by_cases e2 : b = a
        · subst e2
          rw [upd_same, upd_same]
        · rw [upd_ne e2, upd_ne e2, upd_ne e1, upd_ne e1]
    show Q .non _
    rw [eq]
    exact q dx hd nd
end
end Mir


set_option Elab.async false
set_option linter.all false
set_option maxRecDepth 100000
namespace Mir
open PySem PySem.Spec PyProof.Rows L2
open PySem.W (Frag)

/-! ### the hand: how it is made -/
def hAdd : R2 := rI0 fun i j => .int (i + j)
def hMul : R2 := rI CMul fun i j => .int (i * j)
def hMod : R2 := rI (fun _ j => 0 < j) fun i j => .int (i % j)
def hDiv : R2 := rI CDiv fun i j => .int (i / j)
def hDivW : R2 := rI CDivW fun i j => .int (i / j)
def hPow : R2 := rI CPow fun i j => .int (i ^ j.toNat)
def hGe : R2 := rI0 fun i j => .bl (decide (j ≤ i))
def cInt : List V → Hp → VK → Prop := fun xs H Q => (∃ i, xs = [.int i] ∧ Q (.int i) H) ∨ ∃ k, xs = [.bl k] ∧ Q (.int (if k then 1 else 0)) H
def cAbs : List V → Hp → VK → Prop := fun xs H Q => ∃ i, xs = [.int i] ∧ Q (.int (if i < 0 then -i else i)) H
def t1 (r : List V → Hp → VK → Prop) (t : TE) : TE := tCB r (tCons t tNil)
def tI (i : Int) : TE := tC (.int i)
def tHandTurn (K : Frag) : TS :=
  tSeq (tAsg (t1 cAbs (t1 cInt (tVar 3))) (gName 4))
    (tSeq (tAsg (tOp hAdd (tOp hMod (t1 cInt (tOp hAdd (tOp hMul (tVar 2) (tI 31337)) (tVar 4))) (tI 2147483629)) (tI 1)) (gName 2))
      (tIfS (tTest (tOp hGe (tVar 4) (tOp hPow (tI 10) (tI 18)))) (tDrop (tBM K "list" rAppend (tVar 1) (tCons (tVar 4) tNil))) tNext))
def tHand (K : Frag) : TS :=
  tSeq (tAsg (tLst tNil) (gName 1)) (tSeq (tAsg (tOp hAdd (t1 (rLenA K) (tVar 0)) (tI 7)) (gName 2))
    (tSeq (tFor (iList K (tVar 0)) (gName 3) (tHandTurn K)) (tRet (tLst (tCons (tVar 1) (tCons (tVar 2) (tCons (tI 0) tNil)))))))
def spHand (K : Frag) : Sp := fun vs H Q _ => ∃ (a : Addr) (ns : List Int), vs = [.ref a] ∧ SqL K H a (ns.map V.int) ∧ ns.length ≤ 63 ∧
  ∀ (h gl : Addr) (g : List Int) (m : Int) (H' : Hp), Same H H' → H h = none → H gl = none → gl ≠ h → H' h = some (.lst [.ref gl, .int m, .int 0]) → H' gl = some (.lst (g.map V.int)) → Q (.ref h) H'
theorem pow18 : CPow 10 18 := ⟨by decide, by decide, by decide⟩
theorem hand_run {K : Frag} {vs : List V} {H : Hp} {Q : VK} {E : XK} (hh : spHand K vs H Q E) : tHand K { nx := fun _ H' => Q .non H', rt := Q } (vs.map some ++ [none, none, none, none]) H := by
  obtain ⟨a, ns, rfl, hS, hl, q⟩ := hh
  refine ⟨Nat.zero_le _, fun gl hgl => ?_⟩
  have s1 : Same H (upd H gl (.lst [])) := same_upd' hgl
  refine ⟨.ref a, rfl, .inl ⟨a, _, rfl, .inl (s1.seq hS), _, 7, rfl, rfl, ?_⟩⟩
  refine ⟨.ref a, rfl, a, rfl, ⟨_, s1.seq hS⟩, for_list (K := K) (a := a) (xs := ns.map V.int) (fun i σ H' => ∃ (g : List Int) (m : Int) (y z : Option V), σ = [some (.ref a), some (.ref gl), some (.int m), y, z] ∧ Same H H' ∧ H' gl = some (.lst (g.map V.int)) ∧ g.length ≤ i)
    ⟨[], _, none, none, rfl, s1, upd_same, Nat.le_refl _⟩ (fun i σ H' _ ⟨_, _, _, _, _, s, _⟩ => s.seq hS) ?_ ?_⟩
  · rintro i x σ H' hx ⟨g, m, y, z, rfl, s, eg, lg⟩
    have hi : i < ns.length := by
      obtain ⟨w, _⟩ := List.getElem?_eq_some_iff.mp hx
      simpa using w
    obtain ⟨n, hn⟩ : ∃ n, x = V.int n := by
      rw [List.getElem?_map, List.getElem?_eq_getElem hi] at hx
      exact ⟨_, (Option.some.inj hx).symm⟩
    subst hn
    refine ⟨_, rfl, .inl ⟨n, rfl, n, rfl, ?_⟩⟩
    generalize hz : (if n < 0 then -n else n) = k
    refine ⟨_, rfl, m, 31337, rfl, rfl, .inr ⟨by decide, by decide⟩, _, rfl, _, k, rfl, rfl, .inl ⟨_, rfl, _, 2147483629, rfl, rfl, (show (0 : Int) < 2147483629 by decide), _, 1, rfl, rfl, ?_⟩⟩
    refine ⟨_, rfl, 10, 18, rfl, rfl, pow18, k, 10 ^ 18, rfl, rfl, _, rfl, ?_⟩
    by_cases c : (10 : Int) ^ 18 ≤ k
    · rw [decide_eq_true c]
      refine iteT ⟨.ref gl, rfl, .inl ⟨rfl, _, .inl (.inl eg)⟩, .int k, rfl, gl, _, _, rfl, rfl, eg, ?_, ?_⟩
      · rw [List.length_map]
        exact small1000 (by omega)
      · refine ⟨g ++ [k], _, _, _, rfl, fun b o w => ?_, ?_, ?_⟩
        · have nb : b ≠ gl := ne_of_none w hgl
          rw [upd_ne nb]
          exact s b o w
        · rw [upd_same, List.map_append]
          rfl
        · rw [List.length_append]
          show g.length + 1 ≤ i + 1
          omega
    · rw [decide_eq_false c]
      exact iteF ⟨g, _, _, _, rfl, s, eg, by omega⟩
  · rintro σ H' ⟨g, m, y, z, rfl, s, eg, lg⟩
    refine ⟨_, rfl, _, rfl, (by show 3 ≤ sizeLine; decide), fun h nh => ?_⟩
    have n1 : gl ≠ h := ne_of_none eg nh
    refine q h gl g m _ (fun b o w => ?_) (s.free nh) hgl n1 upd_same (by rw [upd_ne n1]; exact eg)
    rw [upd_ne (ne_of_none (s b o w) nh)]
    exact s b o w

/-! ### the hand: a draw -/
def dropZ : List Int → List Int
  | [] => []
  | x :: r => if x = 0 then dropZ r else x :: r
def stM (s : Hd) : Int := (s.m * 69621 + 12345) % 2147483647
def stO (m c : Int) : Int := (m * 48271 + c * 7919) % 2147483629
def stT (o c : Int) : Int := (o * o + c * 104729 + o / 131) % 2147483587
def takeV (s : Hd) (many : Int) : Int := match dropZ s.g with
  | x :: _ => x % many
  | [] => (stT (stO (stM s) (s.c + 1)) (s.c + 1) / 17) % many
def takeS (s : Hd) (many : Int) : Hd := match dropZ s.g with
  | x :: r => ⟨(x / many) :: r, s.m, s.c⟩
  | [] => ⟨[], stM s, s.c + 1⟩
def manyOk (n : Int) : Prop := 0 < n ∧ n.natAbs.log2 < 9000
instance (n : Int) : Decidable (manyOk n) := inferInstanceAs (Decidable (_ ∧ _))
def mTake : List Dt → Hd → R Dt := fun ds s => match ds with
  | [.hnd, .int n] => if manyOk n then .ok (.int (takeV s n)) (takeS s n) else .bad
  | _ => .bad
theorem takeV_ge {s : Hd} {n : Int} (h : 0 < n) : 0 ≤ takeV s n := by
  unfold takeV
  split <;> exact Int.emod_nonneg _ (by omega)
theorem takeV_lt {s : Hd} {n : Int} (h : 0 < n) : takeV s n < n := by
  unfold takeV
  split <;> exact Int.emod_lt_of_pos _ h
/-- the hand changed, nothing else -/
theorem G.mut {h : Addr} {H0 H H' : Hp} {s s' : Hd} {gl gl' : Addr} (g : G h H0 H s) (e1 : H h = some (.lst [.ref gl, .int s.m, .int s.c])) (n0 : H0 gl = none) (n1 : H0 gl' = none) (n2 : gl' ≠ h)
    (e3 : H' h = some (.lst [.ref gl', .int s'.m, .int s'.c])) (e4 : H' gl' = some (.lst (s'.g.map V.int))) (k : ∀ q o, H q = some o → q ≠ h → q ≠ gl → H' q = some o) (f : gl' = gl ∨ H gl' = none) : G h H0 H' s' ∧ Step h H0 H H0 H' := by
  refine ⟨⟨fun q o w => k q o (g.ex q o w) (fun z => ?_) (fun z => ?_), g.h0, gl', n1, n2, e3, e4⟩, ⟨Same.refl _, fun q o w1 w2 w3 => ?_⟩⟩
  · rw [z, g.h0] at w
    cases w
  · rw [z, n0] at w
    cases w
  · have a1 : q ≠ h := fun z => w3 (.inl z)
    have a2 : q ≠ gl := fun z => w3 (.inr ⟨_, by rw [z]; exact e1⟩)
    refine ⟨k q o w1 a1 a2, w2, fun w => ?_⟩
    rcases w with w | ⟨r, w⟩
    · exact a1 w
    · rw [e3] at w
      have w' : q = gl' := by
        have := Option.some.inj w
        injection this with z
        injection z with z1 z2
        injection z1 with z3
        exact z3.symm
      rcases f with f | f
      · exact a2 (w'.trans f)
      · rw [w', f] at w1
        cases w1
def t0 (K : Frag) : TE := tOp (rIxL K) (tVar 0) (tI 0)
def t00 (K : Frag) : TE := tOp (rIxL K) (t0 K) (tI 0)
def tAt (K : Frag) (i : Int) : TE := tOp (rIxL K) (tVar 0) (tI i)
def tTr (K : Frag) (ta : TE) : TT := fun σ H Q => ta σ H fun x H' => ∃ k, TruV K x H' k ∧ Q k H'
def tTakeW (K : Frag) : TS := tWhile (tAnd (tTr K (t0 K)) (tTest (tOp rEq (t00 K) (tI 0)))) (tAsg (tSl (rSlL K) (t0 K) (tPart (tI 1)) tNoPart) (gSub (tVar 0) (tI 0) rSetL))
def tTakeI (K : Frag) : TS := tSeq (tAsg (t00 K) (gName 2)) (tSeq (tAsg (tOp hDivW (t1 cInt (tVar 2)) (tVar 1)) (gSub (t0 K) (tI 0) rSetL)) (tRet (tOp hMod (t1 cInt (tVar 2)) (tVar 1))))
def tTakeR (K : Frag) : TS :=
  tSeq (tAsg (tOp hAdd (tAt K 2) (tI 1)) (gSub (tVar 0) (tI 2) rSetL))
    (tSeq (tAsg (tOp hMod (t1 cInt (tOp hAdd (tOp hMul (tAt K 1) (tI 69621)) (tI 12345))) (tI 2147483647)) (gSub (tVar 0) (tI 1) rSetL))
    (tSeq (tAsg (tOp hMod (t1 cInt (tOp hAdd (tOp hMul (tAt K 1) (tI 48271)) (tOp hMul (tAt K 2) (tI 7919)))) (tI 2147483629)) (gName 3))
    (tSeq (tAsg (tOp hMod (t1 cInt (tOp hAdd (tOp hAdd (tOp hMul (tVar 3) (tVar 3)) (tOp hMul (tAt K 2) (tI 104729))) (tOp hDiv (tVar 3) (tI 131)))) (tI 2147483587)) (gName 4))
    (tRet (tOp hMod (t1 cInt (tOp hDiv (tVar 4) (tI 17))) (tVar 1))))))
def tTake (K : Frag) : TS := tSeq (tTakeW K) (tSeq (tIfS (tTr K (t0 K)) (tTakeI K) tNext) (tTakeR K))
theorem take_run {K : Frag} {mg : Str → Option Value} {vs : List V} {H : Hp} {Q : VK} {E : XK} (hh : spM K mg 2 mTake vs H Q E) : tTake K { nx := fun _ H' => Q .non H', rt := Q } (vs.map some ++ [none, none, none]) H := by
  obtain ⟨hl, h, H0, s, ds, g, da, p⟩ := hh
  -- the arguments
  obtain ⟨n, rfl, mk⟩ : ∃ n : Int, ds = [.hnd, .int n] ∧ manyOk n := by
    unfold mTake at p
    split at p
    · split at p
      · exact ⟨_, rfl, by assumption⟩
      · exact p.elim
    · exact p.elim
  obtain ⟨v, w, rfl, dv, dw⟩ := da.two
  cases dv
  cases dw
  have p : PostC K mg h (if manyOk n then .ok (.int (takeV s n)) (takeS s n) else .bad) H0 H E Q := p
  rw [if_pos mk] at p
  -- the loop
  refine ⟨fun k σ H' => ∃ gz, σ = [some (.ref h), some (.int n), none, none, none] ∧ gz.length = k ∧ dropZ gz = dropZ s.g ∧ G h H0 H' ⟨gz, s.m, s.c⟩ ∧ Step h H0 H H0 H', ⟨_, s.g, rfl, rfl, rfl, g, .refl _ _⟩, ?_⟩
  rintro k σ H' ⟨gz, rfl, hk, hz, g1, st1⟩
  obtain ⟨gl, a1, a2, a3, a4⟩ := g1.gl
  have eh : SqL K H' h [.ref gl, .int s.m, .int s.c] := SqL.of a3
  have eg : SqL K H' gl (gz.map V.int) := SqL.of a4
  have x0 : atI [V.ref gl, .int s.m, .int s.c] 0 = some (.ref gl) := rfl
  refine ⟨.ref h, rfl, h, _, 0, _, rfl, rfl, eh, x0, ?_⟩
  cases gz with
  | nil =>
    refine ⟨false, .inl ⟨_, eg, rfl⟩, ?_⟩
    refine iteF (iteF ?_)
    -- nothing great is left
    refine ⟨.ref h, rfl, h, _, 0, _, rfl, rfl, eh, x0, false, .inl ⟨_, eg, rfl⟩, iteF ?_⟩
    have hz : dropZ s.g = [] := hz.symm
    refine ⟨.ref h, rfl, h, _, 2, .int s.c, rfl, rfl, eh, rfl, s.c, 1, rfl, rfl, .ref h, rfl, h, _, 2, 2, rfl, rfl, a3, rfl, ?_⟩
    have b3 : (upd H' h (.lst [.ref gl, .int s.m, .int (s.c + 1)])) h = some (.lst [.ref gl, .int s.m, .int (s.c + 1)]) := upd_same
    refine ⟨.ref h, rfl, h, [.ref gl, .int s.m, .int (s.c + 1)], 1, .int s.m, rfl, rfl, SqL.of b3, rfl, s.m, 69621, rfl, rfl, .inr ⟨by decide, by decide⟩, _, 12345, rfl, rfl, .inl ⟨_, rfl, _, 2147483647, rfl, rfl, (show (0 : Int) < 2147483647 by decide), .ref h, rfl, h, _, 1, 1, rfl, rfl, b3, rfl, ?_⟩⟩
    have c3 : (upd (upd H' h (.lst [.ref gl, .int s.m, .int (s.c + 1)])) h (.lst [.ref gl, .int (stM s), .int (s.c + 1)])) h = some (.lst [.ref gl, .int (stM s), .int (s.c + 1)]) := upd_same
    have c4 : SqL K (upd (upd H' h (.lst [.ref gl, .int s.m, .int (s.c + 1)])) h (.lst [.ref gl, .int (stM s), .int (s.c + 1)])) h [.ref gl, .int (stM s), .int (s.c + 1)] := SqL.of c3
    refine ⟨.ref h, rfl, h, _, 1, .int (stM s), rfl, rfl, c4, rfl, stM s, 48271, rfl, rfl, .inr ⟨by decide, by decide⟩, .ref h, rfl, h, _, 2, .int (s.c + 1), rfl, rfl, c4, rfl, s.c + 1, 7919, rfl, rfl, .inr ⟨by decide, by decide⟩, _, _, rfl, rfl, .inl ⟨_, rfl, _, 2147483629, rfl, rfl, (show (0 : Int) < 2147483629 by decide), ?_⟩⟩
    have ob : 0 ≤ stO (stM s) (s.c + 1) ∧ stO (stM s) (s.c + 1) < 2147483629 := ⟨Int.emod_nonneg _ (by decide), Int.emod_lt_of_pos _ (by decide)⟩
    refine ⟨_, rfl, _, rfl, stO (stM s) (s.c + 1), stO (stM s) (s.c + 1), rfl, rfl, .inl ⟨by omega, by omega⟩, .ref h, rfl, h, _, 2, .int (s.c + 1), rfl, rfl, c4, rfl, s.c + 1, 104729, rfl, rfl, .inr ⟨by decide, by decide⟩, _, _, rfl, rfl,
      _, rfl, stO (stM s) (s.c + 1), 131, rfl, rfl, ⟨by decide, by decide⟩, _, _, rfl, rfl, .inl ⟨_, rfl, _, 2147483587, rfl, rfl, (show (0 : Int) < 2147483587 by decide), ?_⟩⟩
    refine ⟨_, rfl, stT (stO (stM s) (s.c + 1)) (s.c + 1), 17, rfl, rfl, ⟨by decide, by decide⟩, .inl ⟨_, rfl, _, rfl, _, n, rfl, rfl, mk.1, ?_⟩⟩
    have ng : gl ≠ h := a2
    obtain ⟨g2, st2⟩ := g1.mut (s' := ⟨[], stM s, s.c + 1⟩) (gl' := gl) a3 a1 a1 ng c3 (by rw [upd_ne ng, upd_ne ng]; exact a4) (fun q o w w1 w2 => by rw [upd_ne w1, upd_ne w1]; exact w) (.inl rfl)
    have ev : takeV s n = (stT (stO (stM s) (s.c + 1)) (s.c + 1) / 17) % n := by
      unfold takeV
      rw [hz]
    have es : takeS s n = ⟨[], stM s, s.c + 1⟩ := by
      unfold takeS
      rw [hz]
    have p : ∀ v H0' H', Step h H0 H H0' H' → G h H0' H' (takeS s n) → Den K mg h H0' v (.int (takeV s n)) → Q v H' := p
    rw [es, ev] at p
    exact p _ H0 _ (st1.trans st2) g2 (.int _)
  | cons z gr =>
    refine ⟨true, .inl ⟨_, eg, rfl⟩, iteT ?_⟩
    have ix0 : ixN ((z :: gr).map V.int).length 0 = some 0 := by
      unfold ixN
      rw [if_pos (by decide), if_pos (by rw [List.length_map, List.length_cons]; omega)]
      rfl
    have y0 : atI (((z :: gr).map V.int)) 0 = some (.int z) := atI_nat (j := 0) rfl
    refine ⟨.ref h, rfl, h, _, 0, _, rfl, rfl, eh, x0, gl, _, 0, _, rfl, rfl, eg, y0, rfl, _, rfl, ?_⟩
    by_cases cz : z = 0
    · subst cz
      rw [decide_eq_true rfl]
      refine iteT ⟨fun σ' H'' => ∃ k', k' < k ∧ ∃ gz, σ' = [some (.ref h), some (.int n), none, none, none] ∧ gz.length = k' ∧ dropZ gz = dropZ s.g ∧ G h H0 H'' ⟨gz, s.m, s.c⟩ ∧ Step h H0 H H0 H'', fun _ _ w => w, ?_⟩
      refine ⟨.ref h, rfl, h, _, 0, _, rfl, rfl, eh, x0, 1, rfl, gl, _, rfl, eg, fun q nq => ?_⟩
      have cut : cutV ((0 :: gr).map V.int) (some 1) none = gr.map V.int := by
        unfold cutV
        rw [show HT.sIx ((0 :: gr).map V.int).length 0 (some 1) = min 1 ((0 :: gr).map V.int).length from HT.sIx_nat _ 0 1, HT.sIx_none]
        simp
        exact List.take_of_length_le (by rw [List.length_map]; exact Nat.le_refl _)
      rw [cut]
      have nh : h ≠ q := ne_of_none a3 nq
      have ngq : gl ≠ q := ne_of_none a4 nq
      refine ⟨.ref h, rfl, h, [.ref gl, .int s.m, .int s.c], 0, 0, rfl, rfl, by rw [upd_ne nh]; exact a3, rfl, ?_⟩
      have nq0 : H0 q = none := g1.ex.free nq
      obtain ⟨g2, st2⟩ := g1.mut (s' := ⟨gr, s.m, s.c⟩) (gl' := q) (H' := upd (upd H' q (.lst (gr.map V.int))) h (.lst [.ref q, .int s.m, .int s.c])) a3 a1 nq0 (Ne.symm nh) upd_same (by rw [upd_ne (Ne.symm nh), upd_same])
        (fun b o w w1 w2 => by rw [upd_ne w1, upd_ne (ne_of_none w nq)]; exact w) (.inr nq)
      have hz' : dropZ gr = dropZ s.g := by
        rw [← hz]
        show _ = if (0 : Int) = 0 then dropZ gr else _
        rw [if_pos rfl]
      exact ⟨gr.length, by rw [← hk]; exact Nat.lt_succ_self _, gr, rfl, rfl, hz', g2, st1.trans st2⟩
    · have dn : decide (V.int z = V.int 0) = false := decide_eq_false fun e => cz (V.int.inj e)
      rw [dn]
      refine iteF ?_
      have hz2 : dropZ s.g = z :: gr := by
        rw [← hz]
        show (if z = 0 then dropZ gr else z :: gr) = _
        rw [if_neg cz]
      refine ⟨.ref h, rfl, h, _, 0, _, rfl, rfl, eh, x0, true, .inl ⟨_, eg, rfl⟩, iteT ?_⟩
      refine ⟨.ref h, rfl, h, _, 0, _, rfl, rfl, eh, x0, gl, _, 0, _, rfl, rfl, eg, y0, ?_⟩
      refine ⟨_, rfl, .inl ⟨z, rfl, _, rfl, z, n, rfl, rfl, ⟨mk.1, mk.2⟩, .ref h, rfl, h, _, 0, _, rfl, rfl, eh, x0, gl, _, 0, 0, rfl, rfl, a4, ix0, ?_⟩⟩
      have ng : h ≠ gl := Ne.symm a2
      refine ⟨_, rfl, .inl ⟨z, rfl, _, rfl, z, n, rfl, rfl, mk.1, ?_⟩⟩
      obtain ⟨g2, st2⟩ := g1.mut (s' := ⟨(z / n) :: gr, s.m, s.c⟩) (gl' := gl) (H' := upd H' gl (.lst (((z :: gr).map V.int).set 0 (.int (z / n))))) a3 a1 a1 a2 (by rw [upd_ne ng]; exact a3) (by rw [upd_same]; rfl) (fun q o w w1 w2 => by rw [upd_ne w2]; exact w) (.inl rfl)
      have ev : takeV s n = z % n := by
        unfold takeV
        rw [hz2]
      have es : takeS s n = ⟨(z / n) :: gr, s.m, s.c⟩ := by
        unfold takeS
        rw [hz2]
      have p : ∀ v H0' H', Step h H0 H H0' H' → G h H0' H' (takeS s n) → Den K mg h H0' v (.int (takeV s n)) → Q v H' := p
      rw [es, ev] at p
      exact p _ H0 _ (st1.trans st2) g2 (.int _)
end Mir


set_option Elab.async false
set_option linter.all false
set_option maxRecDepth 100000
namespace Mir
open PySem PySem.Spec PyProof.Rows L2
open PySem.W (Frag)

/-! ### try: body, except c as w: suite -/
/-- a suite's function: the caught error's fields first -/
abbrev MX := List (Str × Dt) → MS
def mTryAs (i : Nat) (c : Str) (body : MS) (suite : MX) : MS := fun ρ s => match body ρ s with
  | .err c' fs ρ' s' => if c' = c ∧ i < ρ'.length then (match suite fs (ρ'.set i .no) s' with
      | .ok (.nx ρ2) s2 => .ok (.nx (ρ2.set i .no)) s2
      | .ok (.rt d) s2 => .ok (.rt d) s2
      | .ok (.bk ρ2) s2 => .ok (.bk (ρ2.set i .no)) s2
      | .ok (.ct ρ2) s2 => .ok (.ct (ρ2.set i .no)) s2
      | _ => .bad) else .bad
  | .ok f s' => .ok f s'
  | .bad => .bad
section
variable (K : Frag) (mg : Str → Option Value) (i : Nat) (C a dd : Addr)
def XE' (te : TE) (m : List (Str × Dt) → ME) : Prop := ∀ (h : Addr) (H0 H : Hp) (s : Hd) (σ : L2.St) (ρ : Env') (Q : VK) (fv : List (Str × V)) (fs : List (Str × Dt)), G h H0 H s → Slots K mg h H0 H σ ρ → σ[i]? = some (some (.ref a)) → H dd = some (.xd fv) → DenF K mg h H0 fv fs →
  Post K mg h (Den K mg h) (m fs ρ s) H0 H WF Q → te σ H Q
def XA' (te : TA) (m : List (Str × Dt) → MA) : Prop := ∀ (h : Addr) (H0 H : Hp) (s : Hd) (σ : L2.St) (ρ : Env') (Q : List V → Hp → Prop) (fv : List (Str × V)) (fs : List (Str × Dt)), G h H0 H s → Slots K mg h H0 H σ ρ → σ[i]? = some (some (.ref a)) → H dd = some (.xd fv) → DenF K mg h H0 fv fs →
  Post K mg h (DenA K mg h) (m fs ρ s) H0 H WF Q → te σ H Q
def XS' (ts : TS) (m : MX) : Prop := ∀ (h : Addr) (H0 H : Hp) (s : Hd) (σ : L2.St) (ρ : Env') (D : Ends) (fv : List (Str × V)) (fs : List (Str × Dt)), G h H0 H s → Slots K mg h H0 H σ ρ → σ[i]? = some (some (.ref a)) → H dd = some (.xd fv) → DenF K mg h H0 fv fs →
  PostS K mg h (m fs ρ s) H0 H WF D → ts D σ H
end
def xFld (f : Str) : List (Str × Dt) → ME := fun fs _ s => liftO (fs.lookup f) s
def xC (d : Dt) : List (Str × Dt) → ME := fun _ _ s => .ok d s
def xNil : List (Str × Dt) → MA := fun _ _ s => .ok [] s
def xCons (a : List (Str × Dt) → ME) (r : List (Str × Dt) → MA) : List (Str × Dt) → MA := fun fs ρ s => (a fs ρ s).bind fun d s1 => (r fs ρ s1).bind fun ds s2 => .ok (d :: ds) s2
def xTup (as : List (Str × Dt) → MA) : List (Str × Dt) → ME := fun fs ρ s => (as fs ρ s).bind fun ds s1 => if ds.length ≤ 100000 then .ok (.tup ds) s1 else .bad
def xRet (a : List (Str × Dt) → ME) : MX := fun fs ρ s => (a fs ρ s).bind fun d s1 => .ok (.rt d) s1
section
variable {K : Frag} {mg : Str → Option Value} {i : Nat} {C a dd : Addr} {te : TE} {ta : TA} {m : List (Str × Dt) → ME} {ma : List (Str × Dt) → MA}
theorem xd_step {h : Addr} {H0 H H0' H' : Hp} {s : Hd} {fv : List (Str × V)} (g : G h H0 H s) (st : Step h H0 H H0' H') (g' : G h H0' H' s) (e : H dd = some (.xd fv)) : H' dd = some (.xd fv) := by
  cases q : H0 dd with
  | some o =>
    have w := g.ex _ _ q
    rw [e] at w
    cases w
    exact g'.ex _ _ (st.s0 _ _ q)
  | none =>
    refine (st.fr dd _ e q fun z => ?_).1
    obtain ⟨gl, a1, a2, a3, a4⟩ := g.gl
    rcases z with z | ⟨r, z⟩
    · rw [z, a3] at e
      cases e
    · rw [a3] at z
      cases z
      rw [a4] at e
      cases e
theorem xd_step' {h : Addr} {H0 H H0' H' : Hp} {s s' : Hd} {fv : List (Str × V)} (g : G h H0 H s) (st : Step h H0 H H0' H') (g' : G h H0' H' s') (e : H dd = some (.xd fv)) : H' dd = some (.xd fv) := by
  cases q : H0 dd with
  | some o =>
    have w := g.ex _ _ q
    rw [e] at w
    cases w
    exact g'.ex _ _ (st.s0 _ _ q)
  | none =>
    refine (st.fr dd _ e q fun z => ?_).1
    obtain ⟨gl, a1, a2, a3, a4⟩ := g.gl
    rcases z with z | ⟨r, z⟩
    · rw [z, a3] at e
      cases e
    · rw [a3] at z
      cases z
      rw [a4] at e
      cases e
theorem xe_fld {f : Str} : XE' K mg i a dd (tXf a (.ref C) (some dd) C f (tVar i)) (xFld f) := by
  intro h H0 H s σ ρ Q fv fs g S ei ed df p
  obtain ⟨z, hz, p⟩ := post_lift p
  obtain ⟨v, e1, e2⟩ := df.look hz
  exact ⟨.ref a, ei, rfl, rfl, dd, fv, v, rfl, ed, e1, p v H0 H (.refl _ _) g e2⟩
theorem xe_c {v : V} {d : Dt} (hd : ∀ (h : Addr) (H : Hp), Den K mg h H v d) : XE' K mg i a dd (tC v) (xC d) := fun h H0 H s σ ρ Q fv fs g S ei ed df p => p v H0 H (.refl _ _) g (hd h H0)
theorem xa_nil : XA' K mg i a dd tNil xNil := fun h H0 H s σ ρ Q fv fs g S ei ed df p => p [] H0 H (.refl _ _) g .nil
theorem xa_cons (h1 : XE' K mg i a dd te m) (h2 : XA' K mg i a dd ta ma) : XA' K mg i a dd (tCons te ta) (xCons m ma) := by
  intro h H0 H s σ ρ Q fv fs g S ei ed df p
  refine h1 h H0 H s σ ρ _ fv fs g S ei ed df (Post.bind p fun d s1 x A B st g1 dx p1 => h2 h A B s1 σ ρ _ fv fs g1 (S.step st) ei (xd_step' g st g1 ed) (df.mono st.s0) (Post.bind p1 fun ds s2 xs A2 B2 st2 g2 dxs p2 => ?_))
  exact p2 (x :: xs) A2 B2 (.refl _ _) g2 (.cons (dx.mono st2.s0) dxs)
theorem xe_tup (h1 : XA' K mg i a dd ta ma) : XE' K mg i a dd (tTup ta) (xTup ma) := by
  intro h H0 H s σ ρ Q fv fs g S ei ed df p
  refine h1 h H0 H s σ ρ _ fv fs g S ei ed df (Post.bind p fun ds s1 xs A B st g1 dx p1 => ?_)
  by_cases c : ds.length ≤ 100000
  · rw [if_pos c] at p1
    refine ⟨by rw [dx.len]; exact sizeOk.le c, fun q hq => ?_⟩
    obtain ⟨g2, st2⟩ := g1.alloc (o := .tup xs) hq
    exact p1 _ _ _ st2 g2 (.tup (SqT.of upd_same) (dx.mono st2.s0))
  · rw [if_neg c] at p1
    exact p1.elim
theorem xs_ret (h1 : XE' K mg i a dd te m) : XS' K mg i a dd (tRet te) (xRet m) := by
  intro h H0 H s σ ρ D fv fs g S ei ed df p
  refine h1 h H0 H s σ ρ _ fv fs g S ei ed df (PostS.bind p fun d s1 x A B st g1 dx p1 => ?_)
  exact p1 x A B (.refl _ _) g1 dx
end
/-- a suite as text: ts its reading by the caught error's address, class and dict -/
structure QX (X : Cx) (i : Nat) (C : Addr) (b₀ : Stmt) (suite : List Stmt) (ts : Addr → Value → Option Addr → TS) (m : MX) : Prop where
  text : ∀ (a : Addr) (oe : Obj) (cls : Value) (d : Option Addr) (pn : List (Addr × Obj)), Zc cls d oe → (∃ vs, oe.data = .fields vs) → PSs (X.suite a ((a, oe) :: pn)) (b₀ :: suite) (ts a cls d)
  read : ∀ (a dd : Addr), XS' X.K X.mg i a dd (ts a (.ref C) (some dd)) m
section
variable {X : Cx} {Wx : WX} {c n : Str} {C : Addr} {i : Nat} {body suite : List Stmt} {b₀ : Stmt} {np pos pos' : Pos} {mb : MS} {mx : MX} {ts : Addr → Value → Option Addr → TS}
theorem qs_tryAs (hs : X.stack = X.env :: X.outer) (hf : X.env.frame = some X.env.locals) (hN : X.N.Nodup) (hi : X.N[i]? = some n) (hln : X.env.kindOf n = some .local) (hm : X.mg c = some (.ref C)) (hg : Gl X c) (hdb : (c == ("__debug__" : Str)) = false) (tk : Takes X Wx)
    (he : PySem.W.exmOne X.K (.ref C) (.ref C) = some true)
    (hb : ∀ (W : WX) (pn : List (Addr × Obj)) (xe : Value → Shared → Prop), Takes (X.tr pn xe) W → PassesOwn (model X.prog X.w) X.A X.env xe → QSs (X.tr pn xe) W body mb) (hx : QX X i C b₀ suite ts mx) :
    QS X Wx (.Try body [.ExceptHandler (some (.Name c np)) (some n) (b₀ :: suite) pos'] [] [] pos) (mTryAs i c mb mx) := by
  refine ⟨_, ps_try_as (tb := fun W => cS X.K X.mg W mb) (ts := ts) (Wout := Wx) hs hf hN hi hln ⟨hg, hdb, .inl hm⟩ tk (fun W pn xe t p => (hb W pn xe t p).can) hx.text, ?_⟩
  intro h H0 H s σ ρ D g S p
  refine ⟨h, H0, s, ρ, g, S, ?_⟩
  have p : PostS X.K X.mg h (mTryAs i c mb mx ρ s) H0 H Wx D := p
  unfold mTryAs at p
  cases e : mb ρ s with
  | ok f s' =>
    rw [e] at p
    cases f with
    | nx ρ' => exact p
    | rt d => exact p
    | bk ρ' => exact p
    | ct ρ' => exact p
  | bad =>
    rw [e] at p
    exact p
  | err c' fs ρ' s' =>
    rw [e] at p
    by_cases cc : c' = c ∧ i < ρ'.length
    · obtain ⟨rfl, hl⟩ := cc
      simp only [hl, and_self, if_true] at p
      intro σ' C' dd fv A B st g' S' mc x f
      obtain rfl : C = C' := by
        rw [hm] at mc
        cases mc
        rfl
      refine ⟨true, he, fun _ a na => ?_, fun q => Bool.noConfusion q⟩
      refine hx.read a dd h A B s' (σ'.set i (some (.ref a))) (ρ'.set i .no) _ fv fs g' (S'.forget _) (List.getElem?_set_self (by rw [S'.len]; exact hl)) x f ?_
      have p := PostS.step st p
      cases em : mx fs (ρ'.set i .no) s' with
      | ok fl s2 =>
        rw [em] at p
        cases fl with
        | nx ρ2 => exact fun σ2 A2 B2 st2 g2 S2 => p (σ2.set i none) A2 B2 st2 g2 (S2.forget none)
        | rt d => exact p
        | bk ρ2 => exact fun σ2 A2 B2 st2 g2 S2 => p (σ2.set i none) A2 B2 st2 g2 (S2.forget none)
        | ct ρ2 => exact fun σ2 A2 B2 st2 g2 S2 => p (σ2.set i none) A2 B2 st2 g2 (S2.forget none)
      | err c2 fs2 ρ2 s2 =>
        rw [em] at p
        exact p.elim
      | bad =>
        rw [em] at p
        exact p.elim
    · simp only [cc, if_false] at p
      exact p.elim
end

/-! ### the law -/
def spLaw (K : Frag) : Sp := fun vs H Q _ => ∃ (a : Addr) (ns : List Int), vs = [.ref a] ∧ SqL K H a (ns.map V.int) ∧ ns.length ≤ 63 ∧ ∀ H', Q (.bl true) H'
/-- the slots behind the law's first row: the script, the hand -/
def lawE (n : Nat) : Env' := .no :: .dat .hnd :: List.replicate n .no
theorem law_run {K : Frag} {mg : Str → Option Value} {Wx : WX} {n : Nat} {vs : List V} {H : Hp} {Q : VK} {E : XK} {W : L2.St → XK} {ts : TS} {ms : MS} (hh : spLaw K vs H Q E) (hs : SS K mg Wx ts ms) (hm : ∀ s : Hd, ∃ s' : Hd, ms (lawE n) s = .ok (.rt (.bl true)) s') :
    tSeq (tAsg (tCallSD (spHand K) [] W (tCons (tVar 0) tNil)) (gName 1)) ts { nx := fun _ H' => Q .non H', rt := Q } (vs.map some ++ List.replicate (n + 1) none) H := by
  obtain ⟨a, ns, rfl, hS, hl, q⟩ := hh
  refine ⟨.ref a, rfl, a, ns, rfl, hS, hl, fun h gl g m H' s e1 e2 ne e3 e4 => ?_⟩
  obtain ⟨s', hr⟩ := hm ⟨g, m, 0⟩
  refine hs h H H' ⟨g, m, 0⟩ (some (.ref a) :: some (.ref h) :: List.replicate n none) (lawE n) _ ⟨s, e1, gl, e2, ne, e3, e4⟩ ⟨by simp [lawE], fun i o l x y => ?_, fun i j p x y z1 _ _ _ => ?_⟩ ?_
  · match i, x, y with
    | 0, x, y =>
      cases x
      cases y
      exact True.intro
    | 1, x, y =>
      cases x
      cases y
      exact .hnd
    | i + 2, x, y =>
      have y : (List.replicate n Sl.no)[i]? = some l := y
      rw [List.getElem?_replicate] at y
      split at y
      · cases y
        cases o <;> exact True.intro
      · cases y
  · match i, z1 with
    | 0, z1 => cases z1
    | 1, z1 => cases z1
    | i + 2, z1 =>
      have z1 : (List.replicate n Sl.no)[i]? = some (.own x) := z1
      rw [List.getElem?_replicate] at z1
      split at z1 <;> cases z1
  · rw [hr]
    intro v A B _ _ dv
    cases dv
    exact q B
end Mir


set_option Elab.async false
set_option linter.all false
set_option maxRecDepth 100000
namespace Mir
open PySem PySem.Spec PyProof.Rows L2
open PySem.W (Frag)

/-- a def that is called with some parameters written, dd for the others -/
def Callee (P : Program) (w : World) (K : Frag) (mg : Str → Option Value) (base : Heap) (k : Nat) (x : Str) (n : Nat) (dd : List Dt) (m : List Dt → Hd → R Dt) : Prop :=
  ∃ (f : Addr) (fd : FuncData) (ps : List Str) (dvs : List V) (dsV : List Value), FnOk P w K mg base (L2.CX P w) k f fd ps (spM K mg n m) ∧ mg x = some (.ref f) ∧ PySem.W.keepIn K (.ref f) = true ∧ Binds K fd ps dsV ∧ Vals dvs dsV ∧ ∀ (h : Addr) (H : Hp), DenA K mg h H dvs dd
section
variable {X : Cx} {Wx : WX} {e : Expr} {es : List Expr} {x : Str} {p pos : Pos} {as : MA} {k j n : Nat} {dd : List Dt} {m : List Dt → Hd → R Dt}
theorem qe_c (C : Callee X.prog X.w X.K X.mg X.base k x n dd m) (hr : Room j X.A) (hk : k ≤ j) (tk : Takes X Wx) (ha : QA X Wx (e :: es) as) (hg : Gl X x := by rfl)
    (hdb : (x == ("__debug__" : Str)) = false := by decide) (he : starEach (e :: es) X.env = (false, eval e X.env) :: starEach es X.env := by rfl) (hpl : (backTo pos (starEach es X.env)).any (·.1) = false := by rfl) :
    QE X Wx (.Call (.Name x p) (e :: es) [] pos) (mCall n dd m as) := by
  obtain ⟨f, fd, ps, dvs, dsV, F, hm, kp, hb, hd, hdd⟩ := C
  exact qe_call F (hr.mono hk) hg hm kp hb hd hdd tk ha hdb he hpl
end
/-- the class of an own error whose arguments are kept -/
def Caught (K : Frag) (mg : Str → Option Value) (c : Str) (C : Addr) : Prop := mg c = some (.ref C) ∧ PySem.W.exmOne K (.ref C) (.ref C) = some true ∧ XfC K C
def Thrown (P : Program) (w : World) (K : Frag) (mg : Str → Option Value) (base : Heap) (c : Str) (names : List Str) : Prop :=
  ∃ (C fI : Addr) (fd : FuncData) (ps : List Str), mg c = some (.ref C) ∧ OexC K C ∧ (∀ f ∈ names, PySem.W.findIn K (.ref C) f = some none) ∧ PySem.W.findIn K (.ref C) "__init__" = some (some (.ref fI)) ∧ PySem.W.typeIn K (.ref fI) = some (.type "function") ∧
    FnOk P w K mg base (L2.CX P w) 1 fI fd ps (spI K names) ∧ Binds K fd ps []
section
variable {X : Cx} {Wx : WX} {e : Expr} {es : List Expr} {c : Str} {p pos pos2 : Pos} {as : MA} {j : Nat} {names : List Str}
theorem qs_throw (T : Thrown X.prog X.w X.K X.mg X.base c names) (hr : Room j X.A) (hj : 2 ≤ j) (hc : X.calm = true) (tk : Takes X Wx) (ha : QA X Wx (e :: es) as) (hg : Gl X c := by rfl)
    (hdb : (c == ("__debug__" : Str)) = false := by decide) (he : starEach (e :: es) X.env = (false, eval e X.env) :: starEach es X.env := by rfl) (hpl : (backTo pos (starEach es X.env)).any (·.1) = false := by rfl) :
    QS X Wx (.Raise (some (.Call (.Name c p) (e :: es) [] pos)) none pos2) (mRaise c names as) := by
  obtain ⟨C, fI, fd, ps, hm, ox, no, iC, tI, F, hb⟩ := T
  exact qs_raise hc tk ⟨hm, ox, no⟩ iC tI F (hr.mono hj) hb hg ha hdb he hpl
end
/-! ### tuples of the module -/
section
variable {K : Frag} {mg : Str → Option Value}
/-- a written tuple's items -/
inductive KDen (K : Frag) : Value → Dt → Prop where
  | int (i : Int) (t : Tok) : KDen K (.int i t) (.int i)
  | str (x : Str) (t : Tok) : KDen K (.str x t) (.str x)
  | non : KDen K .none .non
  | bl (b : Bool) : KDen K (.bool b) (.bl b)
theorem KDen.den {u : Value} {d : Dt} (q : KDen K u d) : ∃ v, RelV v u ∧ ∀ (h : Addr) (H : Hp), Den K mg h H v d := by
  cases q with
  | int i t => exact ⟨.int i, ⟨t, rfl⟩, fun _ _ => .int i⟩
  | str x t => exact ⟨.str x, ⟨t, rfl⟩, fun _ _ => .str x⟩
  | non => exact ⟨.non, rfl, fun _ _ => .non⟩
  | bl b => exact ⟨.bl b, rfl, fun _ _ => .bl b⟩
theorem rat_den {Z : Addr} {od : Option Addr} {n : Nat} {sl : Array (Option Value)} {a b : Int} {ta tb : Tok} (l : K.lookup Z = some ⟨.type "tuple", od, .seq #[.int a ta, .int b tb] n, sl⟩) (h : Addr) (H : Hp) : Den K mg h H (.ref Z) (.tup [.int a, .int b]) :=
  .tup (xs := [.int a, .int b]) (.inr ⟨_, _, _, l, rfl, rfl, (by show 2 ≤ sizeLine; decide), .cons ⟨ta, rfl⟩ (.cons ⟨tb, rfl⟩ .nil)⟩) (.cons (.int a) (.cons (.int b) .nil))
end
/-! ### keywords: f(e, .., k = v) where the defaults stand between -/
def mCallK (np nk n : Nat) (mid : List Dt) (m : List Dt → Hd → R Dt) (as ks : MA) : ME := fun ρ s => (as ρ s).bind fun ds s1 => (ks ρ s1).bind fun es s2 =>
  if ds.length = np ∧ es.length = nk ∧ (ds ++ (mid ++ es)).length = n then (match m (ds ++ (mid ++ es)) s2 with
    | .ok d s3 => .ok d s3
    | .err c fs _ s3 => .err c fs ρ s3
    | .bad => .bad) else .bad
def CalleeK (P : Program) (w : World) (K : Frag) (mg : Str → Option Value) (base : Heap) (k : Nat) (x : Str) (np : Nat) (ks : List Str) (n : Nat) (mid : List Dt) (m : List Dt → Hd → R Dt) : Prop :=
  ∃ (f : Addr) (fd : FuncData) (ps : List Str) (mv : List V) (mV : List Value), FnOk P w K mg base (L2.CX P w) k f fd ps (spM K mg n m) ∧ mg x = some (.ref f) ∧ PySem.W.keepIn K (.ref f) = true ∧
    KBn K fd ps np ks (fun us ws => us ++ (mV ++ ws)) (fun vs zs => vs ++ (mv ++ zs)) ∧ ∀ (h : Addr) (H : Hp), DenA K mg h H mv mid
def QK (X : Cx) (Wx : WX) (kws : List Keyword) (m : MA) : Prop := ∃ t, PK X kws t ∧ SA X.K X.mg Wx t m
section
variable {X : Cx} {Wx : WX} {e : Expr} {es : List Expr} {x : Str} {p pos kpos : Pos} {as ks' : MA} {k j n np : Nat} {mid : List Dt} {m : List Dt → Hd → R Dt} {ks : List Str} {kws : List Keyword} {nm : Option Str} {ma : ME} {E : XK}
theorem qk_nil : QK X Wx [] mNil := ⟨_, pk_nil, sa_nil⟩
theorem qk_cons (ha : QE X Wx e ma) (hr : QK X Wx kws as) : QK X Wx (⟨nm, e, kpos⟩ :: kws) (mCons ma as) := by
  obtain ⟨t, q, s⟩ := ha
  obtain ⟨t2, q2, s2⟩ := hr
  exact ⟨_, pk_cons q q2, sa_cons s s2⟩
theorem qe_ck (C : CalleeK X.prog X.w X.K X.mg X.base k x np ks n mid m) (hr : Room j X.A) (hk : k ≤ j) (tk : Takes X (wE E)) (ha : QA X (wE E) (e :: es) as) (hw : QK X (wE E) kws ks') (hg : Gl X x := by rfl)
    (hall : (backToKw pos (keywordEach kws X.env)).all (·.1.isSome) = true := by rfl) (hks : (backToKw pos (keywordEach kws X.env)).filterMap (·.1) = ks := by rfl)
    (hdb : (x == ("__debug__" : Str)) = false := by decide) (he : starEach (e :: es) X.env = (false, eval e X.env) :: starEach es X.env := by rfl)
    (hpl : ((backTo pos (starEach (e :: es) X.env)).any (·.1) || (backToKw pos (keywordEach kws X.env)).any (·.1.isNone)) = false := by rfl) :
    QE X (wE E) (.Call (.Name x p) (e :: es) kws pos) (mCallK np ks.length n mid m as ks') := by
  obtain ⟨f, fd, ps, mv, mV, F, hm, kp, hb, hdd⟩ := C
  obtain ⟨t, q, sa⟩ := ha
  obtain ⟨t2, q2, sa2⟩ := hw
  refine ⟨_, pe_callN (E := E) F (hr.mono hk) hg hm kp hb (passes_call tk fun _ _ _ _ z => z) q q2 hall hks hdb he hpl, ?_⟩
  intro h H0 H s σ ρ Q g S pp
  refine sa h H0 H s σ ρ _ g S (Post.bind pp fun ds s1 xs A B st g1 dx p1 => sa2 h A B s1 σ ρ _ g1 (S.step st) (Post.bind p1 fun es s2 ys A2 B2 st2 g2 dy p2 => ?_))
  by_cases c : ds.length = np ∧ es.length = ks.length ∧ (ds ++ (mid ++ es)).length = n
  · rw [if_pos c] at p2
    obtain ⟨c1, c2, c3⟩ := c
    have dz := (dx.mono st2.s0).append ((hdd h A2).append dy)
    refine ⟨dx.len.trans c1, dy.len.trans c2, dz.len.trans c3, h, A2, s2, _, g2, dz, ?_⟩
    cases hm : m (ds ++ (mid ++ es)) s2 with
    | ok d s3 =>
      rw [hm] at p2
      exact p2
    | err cc fs ρ' s3 =>
      rw [hm] at p2
      exact fun C e fv A3 B3 st3 g3 mc x f => p2 σ C e fv A3 B3 st3 g3 (S.step ((st.trans st2).trans st3)) mc x f
    | bad =>
      rw [hm] at p2
      exact p2.elim
  · rw [if_neg c] at p2
    exact p2.elim
end
section
variable {K : Frag} {x qual : Str} {params : Arguments} {body : List Stmt} {scope : Scope} {dvs : List V} {f : Addr} {fd : FuncData} {ps : List Str}
/-- how f(e, .., k = v) binds: the first n written, the last ones by keywords, the defaults from the j-th on between -/
theorem kb_of (F : FunD K x qual params body scope dvs [] f fd) (n j c : Nat) (ks : List Str) (hd : dvs ≠ [])
    (hh : ∀ (T : Addr) (kV doc pm : Value) (an : Option Addr) (cdv ct : Value) (us its ws : List Value), us.length = n → its.length = dvs.length → ws.length = ks.length →
      ∃ k, bindArgs (PySem.W.fnOf x qual params body scope (.ref T) kV doc pm an cdv ct) ⟨us, ks.zip ws⟩ = seqItems? (.ref T) >>= k ∧ k (some its.toArray) = pure (ps.zip (us ++ ((its.drop j).take c ++ ws)))) :
    ∃ mV : List Value, KBn K fd ps n ks (fun us ws => us ++ (mV ++ ws)) (fun vs zs => vs ++ ((dvs.drop j).take c ++ zs)) := by
  obtain ⟨oc, od, dV, kV, doc, pm, an, cdv, ct, osl, rfl, lk, hcd, hD, hK⟩ := F.ex
  rcases hD with ⟨e, _⟩ | ⟨_, T, o, its, m, rfl, lT, oT, rT⟩
  · exact absurd e hd
  · refine ⟨(its.drop j).take c, ⟨fun s us ws X l1 l2 => ?_, fun r1 r2 => r1.append (((rT.drop j).take c).append r2)⟩⟩
    obtain ⟨k, e1, e2⟩ := hh T kV doc pm an cdv ct us its ws l1 rT.length.symm l2
    refine BindsTo.of_looks fun M => ?_
    rw [e1]
    exact looks_items X lT oT (.of_pure e2)
end
/-! ### while -/
def absS : Sl → Nat
  | .dat (.int i) => i.natAbs
  | _ => 0
def fuelE (ρ : Env') : Nat := (ρ.map absS).sum + 2
def mWhile (t : MT) (body : MS) : MS := fun ρ s => loopW t body (fuelE ρ) ρ s
section
variable {K : Frag} {mg : Str → Option Value} {Wx : WX} {tt : TT} {mt : MT} {tb : TS} {body : MS}
theorem ss_while (ht : ST K mg Wx tt mt) (hb : SS K mg Wx tb body) : SS K mg Wx (tWhile tt tb) (mWhile mt body) := by
  intro h H0 H s σ ρ D g S p
  refine ⟨fun n σ' H' => ∃ A s' ρ', Step h H0 H A H' ∧ G h A H' s' ∧ Slots K mg h A H' σ' ρ' ∧ PostS K mg h (loopW mt body n ρ' s') A H' Wx D, ⟨fuelE ρ, H0, s, ρ, .refl _ _, g, S, p⟩, ?_⟩
  rintro n σ' H' ⟨A, s', ρ', st, g', S', p'⟩
  cases n with
  | zero => exact p'.elim
  | succ n =>
    unfold loopW at p'
    refine ht h A H' s' σ' ρ' _ g' S' (PostS.bind p' fun b s1 b' A1 B1 st1 g1 e p1 => ?_)
    have e : b' = b := e
    subst e
    cases b' with
    | false => exact p1 σ' A1 B1 (.refl _ _) g1 (S'.step st1)
    | true =>
      refine iteT ⟨fun σ2 H2 => ∃ A2 s2 ρ2, Step h H0 H A2 H2 ∧ G h A2 H2 s2 ∧ Slots K mg h A2 H2 σ2 ρ2 ∧ PostS K mg h (loopW mt body n ρ2 s2) A2 H2 Wx D, fun σ2 H2 w => ⟨n, Nat.lt_succ_self n, w⟩, hb h A1 B1 s1 σ' ρ' _ g1 (S'.step st1) ?_⟩
      rw [if_pos rfl] at p1
      cases eb : body ρ' s1 with
      | ok f s2 =>
        rw [eb] at p1
        cases f with
        | nx ρ2 => exact fun σ2 A2 B2 st2 g2 S2 => ⟨A2, s2, ρ2, (st.trans st1).trans st2, g2, S2, PostS.step st2 p1⟩
        | ct ρ2 => exact fun σ2 A2 B2 st2 g2 S2 => ⟨A2, s2, ρ2, (st.trans st1).trans st2, g2, S2, PostS.step st2 p1⟩
        | bk ρ2 => exact p1
        | rt d => exact p1
      | err c fs ρ2 s2 =>
        rw [eb] at p1
        exact p1
      | bad =>
        rw [eb] at p1
        exact p1
end
theorem qs_while {X : Cx} {Wx : WX} {c : Expr} {mt : MT} {sts : List Stmt} {ms : MS} {pos : Pos} (hp : PassesOwn (model X.prog X.w) X.A X.env X.xe) (hc : QT X Wx c mt) (hb : QSs X Wx sts ms) : QS X Wx (.While c sts [] pos) (mWhile mt ms) := by
  obtain ⟨t, q, s⟩ := hc
  obtain ⟨t2, q2, s2⟩ := hb
  exact ⟨_, ps_while hp q q2, ss_while s s2⟩
theorem _root_.L2.Room.units65 {k : Nat} {A : Around} (r : Room k A) : A.units + 65 < cLine := by have := r.un; omega
theorem cx_false {P : Program} {w : World} {l : List Env} {H : Hp} {s : Shared} {e : Value} {s' : Shared} (z : L2.CX P w l H s (fun _ _ _ => False) e s') : False := by
  obtain ⟨_, _, _, _, _, _, _, _, _, _, _, _, z⟩ := z
  exact z
end Mir


set_option Elab.async false
set_option linter.all false
/-! Mathematics for the laws: kinds of data, sizes, lowest terms. -/
namespace Mir
open PySem PySem.Spec PyProof.Rows L2

/-! ### isinstance of plain data -/
theorem kit_table : kitB "int" "int" = some true ∧ kitB "bool" "int" = some true ∧ kitB "NoneType" "int" = some false ∧ kitB "str" "int" = some false ∧ kitB "tuple" "int" = some false ∧ kitB "list" "int" = some false ∧
    kitB "int" "bool" = some false ∧ kitB "bool" "bool" = some true ∧ kitB "NoneType" "bool" = some false ∧ kitB "str" "bool" = some false ∧ kitB "tuple" "bool" = some false ∧ kitB "list" "bool" = some false ∧
    kitB "int" "tuple" = some false ∧ kitB "bool" "tuple" = some false ∧ kitB "NoneType" "tuple" = some false ∧ kitB "str" "tuple" = some false ∧ kitB "tuple" "tuple" = some true ∧ kitB "list" "tuple" = some false := by decide +kernel
theorem kit_table2 : kitB "int" "list" = some false ∧ kitB "bool" "list" = some false ∧ kitB "NoneType" "list" = some false ∧ kitB "str" "list" = some false ∧ kitB "tuple" "list" = some false ∧ kitB "list" "list" = some true ∧
    kitB "int" "str" = some false ∧ kitB "bool" "str" = some false ∧ kitB "NoneType" "str" = some false ∧ kitB "str" "str" = some true ∧ kitB "tuple" "str" = some false ∧ kitB "list" "str" = some false := by decide +kernel
@[simp] theorem isi_int (d : Dt) : fIsi "int" d = (match d with | .int _ => some true | .bl _ => some true | .obj _ _ => none | .hnd => none | _ => some false) := by
  obtain ⟨a1, a2, a3, a4, a5, a6, _⟩ := kit_table
  cases d <;> first | rfl | assumption
@[simp] theorem isi_bool (d : Dt) : fIsi "bool" d = (match d with | .bl _ => some true | .obj _ _ => none | .hnd => none | _ => some false) := by
  obtain ⟨_, _, _, _, _, _, a1, a2, a3, a4, a5, a6, _⟩ := kit_table
  cases d <;> first | rfl | assumption
@[simp] theorem isi_tuple (d : Dt) : fIsi "tuple" d = (match d with | .tup _ => some true | .obj _ _ => none | .hnd => none | _ => some false) := by
  obtain ⟨_, _, _, _, _, _, _, _, _, _, _, _, a1, a2, a3, a4, a5, a6⟩ := kit_table
  cases d <;> first | rfl | assumption
@[simp] theorem isi_list (d : Dt) : fIsi "list" d = (match d with | .lst _ => some true | .obj _ _ => none | .hnd => none | _ => some false) := by
  obtain ⟨a1, a2, a3, a4, a5, a6, _⟩ := kit_table2
  cases d <;> first | rfl | assumption
@[simp] theorem isi_str (d : Dt) : fIsi "str" d = (match d with | .str _ => some true | .obj _ _ => none | .hnd => none | _ => some false) := by
  obtain ⟨_, _, _, _, _, _, a1, a2, a3, a4, a5, a6⟩ := kit_table2
  cases d <;> first | rfl | assumption

/-! ### sizes -/
def Sz (n : Nat) (i : Int) : Prop := i.natAbs < 2 ^ n
theorem Sz.mono {m n : Nat} {i : Int} (h : Sz m i) (e : m ≤ n) : Sz n i := Nat.lt_of_lt_of_le h (Nat.pow_le_pow_right (by decide) e)
theorem Sz.mul {m n : Nat} {i j : Int} (a : Sz m i) (b : Sz n j) : Sz (m + n) (i * j) := wide_lt a b
theorem Sz.add {m : Nat} {i j : Int} (a : Sz m i) (b : Sz m j) : Sz (m + 1) (i + j) := by
  unfold Sz at *
  have := Int.natAbs_add_le i j
  rw [Nat.pow_succ]
  omega
theorem Sz.neg {m : Nat} {i : Int} (a : Sz m i) : Sz m (-i) := by
  unfold Sz at *
  rw [Int.natAbs_neg]
  exact a
theorem Sz.sub {m : Nat} {i j : Int} (a : Sz m i) (b : Sz m j) : Sz (m + 1) (i - j) := by
  rw [Int.sub_eq_add_neg]
  exact a.add b.neg
theorem Sz.le {m : Nat} {i j : Int} (a : Sz m j) (h : i.natAbs ≤ j.natAbs) : Sz m i := Nat.lt_of_le_of_lt h a
theorem MulOk.of {m n : Nat} {i j : Int} (a : Sz m i) (b : Sz n j) (h : m + n ≤ 900000) : MulOk i j := by
  have a' := a.mono (Nat.le_succ m)
  have b' := b.mono (Nat.le_succ n)
  exact wide_mul a' b' (Nat.succ_pos _) (Nat.succ_pos _) (by omega)
theorem DivOk.of {n : Nat} {j : Int} (h0 : j ≠ 0) (a : Sz n j) (h : n ≤ 8900) : DivOk j :=
  ⟨h0, Nat.lt_of_lt_of_le (PySem.Flt.log2_lt_of (Nat.succ_pos n) (a.mono (Nat.le_succ n))) (by omega)⟩

/-! ### lowest terms -/
def sgcd (t b : Int) : Int := if b < 0 then -((Nat.gcd t.natAbs b.natAbs : Nat) : Int) else ((Nat.gcd t.natAbs b.natAbs : Nat) : Int)
def lowT (t b : Int) : Int := t.fdiv (sgcd t b)
def lowB (t b : Int) : Int := b.fdiv (sgcd t b)
abbrev rat (a b : Int) : Dt := .tup [.int a, .int b]
def low (t b : Int) : Dt := rat (lowT t b) (lowB t b)
theorem gcd_pos {t b : Int} (h : b ≠ 0) : 0 < Nat.gcd t.natAbs b.natAbs := Nat.gcd_pos_of_pos_right _ (by omega)
theorem sgcd_ne {t b : Int} (h : b ≠ 0) : sgcd t b ≠ 0 := by
  have := gcd_pos (t := t) h
  unfold sgcd
  split <;> omega
theorem sgcd_abs (t b : Int) : (sgcd t b).natAbs = Nat.gcd t.natAbs b.natAbs := by
  unfold sgcd
  split <;> omega
theorem sgcd_dvd_t (t b : Int) : sgcd t b ∣ t := by
  rw [← Int.natAbs_dvd_natAbs, sgcd_abs]
  exact Nat.gcd_dvd_left _ _
theorem sgcd_dvd_b (t b : Int) : sgcd t b ∣ b := by
  rw [← Int.natAbs_dvd_natAbs, sgcd_abs]
  exact Nat.gcd_dvd_right _ _
theorem low_t {t b : Int} : lowT t b * sgcd t b = t := by
  unfold lowT
  rw [Int.fdiv_eq_ediv_of_dvd (sgcd_dvd_t t b)]
  exact Int.ediv_mul_cancel (sgcd_dvd_t t b)
theorem low_b {t b : Int} : lowB t b * sgcd t b = b := by
  unfold lowB
  rw [Int.fdiv_eq_ediv_of_dvd (sgcd_dvd_b t b)]
  exact Int.ediv_mul_cancel (sgcd_dvd_b t b)
theorem lowT_abs {t b : Int} (h : b ≠ 0) : (lowT t b).natAbs ≤ t.natAbs := by
  have e : (lowT t b).natAbs * (sgcd t b).natAbs = t.natAbs := by rw [← Int.natAbs_mul, low_t]
  have p : 0 < (sgcd t b).natAbs := by rw [sgcd_abs]; exact gcd_pos h
  rw [← e]
  exact Nat.le_mul_of_pos_right _ p
theorem lowB_abs {t b : Int} (h : b ≠ 0) : (lowB t b).natAbs ≤ b.natAbs := by
  have e : (lowB t b).natAbs * (sgcd t b).natAbs = b.natAbs := by rw [← Int.natAbs_mul, low_b]
  have p : 0 < (sgcd t b).natAbs := by rw [sgcd_abs]; exact gcd_pos h
  calc (lowB t b).natAbs ≤ (lowB t b).natAbs * (sgcd t b).natAbs := Nat.le_mul_of_pos_right _ p
    _ = b.natAbs := e
theorem lowB_pos {t b : Int} (h : b ≠ 0) : 0 < lowB t b := by
  have e := low_b (t := t) (b := b)
  have p := gcd_pos (t := t) h
  have hs : (0 < b → 0 < sgcd t b) ∧ (b < 0 → sgcd t b < 0) := by
    unfold sgcd
    constructor <;> intro z
    · rw [if_neg (by omega)]
      omega
    · rw [if_pos z]
      omega
  rcases Int.lt_trichotomy b 0 with z | z | z
  · have q := hs.2 z
    rcases (Int.lt_or_le 0 (lowB t b)) with w | w
    · exact w
    · have := Int.mul_nonneg_of_nonpos_of_nonpos w (Int.le_of_lt q)
      omega
  · exact absurd z h
  · have q := hs.1 z
    rcases (Int.lt_or_le 0 (lowB t b)) with w | w
    · exact w
    · have := Int.mul_nonpos_of_nonpos_of_nonneg w (Int.le_of_lt q)
      omega
theorem low_gcd {t b : Int} (h : b ≠ 0) : Nat.gcd (lowT t b).natAbs (lowB t b).natAbs = 1 := by
  have e1 : (lowT t b).natAbs * (sgcd t b).natAbs = t.natAbs := by rw [← Int.natAbs_mul, low_t]
  have e2 : (lowB t b).natAbs * (sgcd t b).natAbs = b.natAbs := by rw [← Int.natAbs_mul, low_b]
  have p : 0 < (sgcd t b).natAbs := by rw [sgcd_abs]; exact gcd_pos h
  have e3 : Nat.gcd t.natAbs b.natAbs = Nat.gcd (lowT t b).natAbs (lowB t b).natAbs * (sgcd t b).natAbs := by rw [← Nat.gcd_mul_right, e1, e2]
  rw [← sgcd_abs] at e3
  have e4 : 1 * (sgcd t b).natAbs = Nat.gcd (lowT t b).natAbs (lowB t b).natAbs * (sgcd t b).natAbs := by rw [Nat.one_mul]; exact e3
  exact (Nat.eq_of_mul_eq_mul_right p e4).symm
/-- a ratio in lowest terms -/
structure IsR (a b : Int) : Prop where
  pos : 0 < b
  co : Nat.gcd a.natAbs b.natAbs = 1
theorem low_is {t b : Int} (h : b ≠ 0) : IsR (lowT t b) (lowB t b) := ⟨lowB_pos h, low_gcd h⟩
/-! ### stepping -/
theorem seq_nx {a b : MS} {ρ ρ' : Env'} {s s' : Hd} (h : a ρ s = .ok (.nx ρ') s') : mSeq a b ρ s = b ρ' s' := by
  unfold mSeq
  rw [h]
theorem seq_rt {a b : MS} {ρ : Env'} {d : Dt} {s s' : Hd} (h : a ρ s = .ok (.rt d) s') : mSeq a b ρ s = .ok (.rt d) s' := by
  unfold mSeq
  rw [h]
theorem def_rt {n : Nat} {b : MS} {ds : List Dt} {d : Dt} {s s' : Hd} (h : b (startE n ds) s = .ok (.rt d) s') : mDef n b ds s = .ok d s' := by
  unfold mDef
  rw [h]
theorem for_of {g : GM} {it : MA} {body : MS} {ρ : Env'} {s s' : Hd} {ds : List Dt} (h : it ρ s = .ok ds s') : mFor g it body ρ s = loopF g body ds ρ s' := by
  unfold mFor
  rw [h]
  rfl
theorem lc_of {g : GM} {it : MA} {t : MT} {a : ME} {vs : List Nat} {ρ : Env'} {s s' : Hd} {ds : List Dt} (h : it ρ s = .ok ds s') : mLc g it t a vs ρ s = loopC g t a vs ds [] ρ s' := by
  unfold mLc
  rw [h]
  rfl
end Mir


set_option Elab.async false
set_option linter.all false
set_option maxRecDepth 100000
namespace Law
open PySem PySem.Spec PyProof.Rows L2 Mir
open PySem.W (Frag)
def m__law_take : List Dt → Hd → R Dt := mTake
def b__law_gcd : MS :=
  (mSeq (mPar 0 1 (mCons (mCB fAbs (mCons (mVar 0) mNil)) (mCons (mCB fAbs (mCons (mVar 1) mNil)) mNil)))
    (mSeq (mWhile (mTru (mVar 1)) (mPar 0 1 (mCons (mVar 1) (mCons (mOp fMod (mCB fIntC (mCons (mVar 0) mNil)) (mVar 1)) mNil))))
    (mRet (mVar 0))))
def m__law_gcd : List Dt → Hd → R Dt := mDef 2 b__law_gcd
def b__law_ratio : MS :=
  (mSeq (mSet 2 (mCall 2 [] m__law_gcd (mCons (mVar 0) (mCons (mVar 1) mNil))))
    (mSeq (mIfS (mTest (mOp fLt (mVar 1) (mC (.int 0)))) (mSet 2 (mUn fNeg (mVar 2))) mNext)
    (mRet (mTup (mCons (mOp fDiv (mVar 0) (mVar 2)) (mCons (mOp fDiv (mVar 1) (mVar 2)) mNil))))))
def m__law_ratio : List Dt → Hd → R Dt := mDef 3 b__law_ratio
def b__law_less : MS :=
  (mRet (mCall 2 [] m__law_ratio (mCons (mOp fSub (mOp fMul (mOp fIx (mVar 0) (mC (.int 0))) (mOp fIx (mVar 1) (mC (.int 1)))) (mOp fMul (mOp fIx (mVar 1) (mC (.int 0))) (mOp fIx (mVar 0) (mC (.int 1))))) (mCons (mOp fMul (mOp fIx (mVar 0) (mC (.int 1))) (mOp fIx (mVar 1) (mC (.int 1)))) mNil))))
def m__law_less : List Dt → Hd → R Dt := mDef 2 b__law_less
def b__law_odd : MS :=
  (mSeq (mSet 1 (mOp fSub (mCall 2 [] m__law_take (mCons (mVar 0) (mCons (mC (.int 9)) mNil))) (mC (.int 4))))
    (mSeq (mSet 2 (mLst (mCons (mVar 1) (mCons (mLst (mCons (mVar 1) (mCons (mC (.int 1)) mNil))) (mCons (mTup (mCons (mVar 1) (mCons (mC (.int 0)) mNil))) (mCons (mTup (mCons (mOp fMul (mC (.int 2)) (mVar 1)) (mCons (mC (.int 2)) mNil))) (mCons (mTup (mCons (mVar 1) (mCons (mC (.int 1)) (mCons (mC (.int 1)) mNil)))) (mCons (mTup (mCons (mC (.bl true)) (mCons (mC (.int 1)) mNil))) mNil))))))))
    (mSeq (mSet 2 (mOp fAdd (mVar 2) (mLst (mCons (mTup (mCons (mVar 1) (mCons (mC (.bl true)) mNil))) (mCons (mC .non) (mCons (mC (.str "1")) (mCons (mTup (mCons (mVar 1) (mCons (mUn fNeg (mC (.int 1))) mNil))) (mCons (mTup (mCons (mVar 1) mNil)) (mCons (mTup mNil) mNil)))))))))
    (mRet (mOp fIx (mVar 2) (mCall 2 [] m__law_take (mCons (mVar 0) (mCons (mC (.int 12)) mNil))))))))
def m__law_odd : List Dt → Hd → R Dt := mDef 3 b__law_odd
def b_is_whole : MS :=
  (mSeq (mIfS (mOr (mNot (mTru (mIsi "int" (mVar 0)))) (mTru (mIsi "bool" (mVar 0)))) (mRet (mC (.bl false))) mNext)
    (mRet (mAndV (mOrV (mOp fIs (mVar 1) (mC .non)) (mOp fGe (mVar 0) (mVar 1))) (mOrV (mOp fIs (mVar 2) (mC .non)) (mOp fLe (mVar 0) (mVar 2))))))
def m_is_whole : List Dt → Hd → R Dt := mDef 3 b_is_whole
def b__law_wide : MS :=
  (mSeq (mSet 1 (mCall 2 [] m__law_take (mCons (mVar 0) (mCons (mC (.int 9)) mNil))))
    (mSeq (mIfS (mTest (mOp fLt (mVar 1) (mC (.int 6)))) (mRet (mOp fSub (mCall 2 [] m__law_take (mCons (mVar 0) (mCons (mC (.int 25)) mNil))) (mC (.int 12)))) mNext)
    (mSeq (mSet 2 (mC (.int 0)))
    (mSeq (mFor (gmName 3) (mRng1 (mIf (mTest (mOp fLt (mVar 1) (mC (.int 8)))) (mC (.int 1)) (mC (.int 5))))
      (mSet 2 (mOp fAdd (mOp fMul (mVar 2) (mOp fPow (mC (.int 10)) (mC (.int 9)))) (mCall 2 [] m__law_take (mCons (mVar 0) (mCons (mOp fPow (mC (.int 10)) (mC (.int 9))) mNil))))))
    (mRet (mOp fMul (mVar 2) (mOp fSub (mC (.int 1)) (mOp fMul (mC (.int 2)) (mCall 2 [] m__law_take (mCons (mVar 0) (mCons (mC (.int 2)) mNil)))))))))))
def m__law_wide : List Dt → Hd → R Dt := mDef 4 b__law_wide
def b__law_whole : MS :=
  (mSeq (mSet 1 (mCall 1 [] m__law_wide (mCons (mVar 0) mNil)))
    (mSeq (mSet 2 (mOp fSub (mVar 1) (mCall 2 [] m__law_take (mCons (mVar 0) (mCons (mC (.int 2)) mNil)))))
    (mSeq (mSet 3 (mOp fAdd (mVar 1) (mCall 2 [] m__law_take (mCons (mVar 0) (mCons (mC (.int 2)) mNil)))))
    (mSeq (mIfS (mOr (mNot (mTru (mCall 3 [.non, .non] m_is_whole (mCons (mVar 1) mNil)))) (mOr (mNot (mTru (mCall 3 [] m_is_whole (mCons (mVar 1) (mCons (mVar 2) (mCons (mVar 3) mNil)))))) (mOr (mNot (mTru (mCall 3 [] m_is_whole (mCons (mVar 1) (mCons (mC .non) (mCons (mVar 3) mNil)))))) (mNot (mTru (mCallK 1 1 3 [.non] m_is_whole (mCons (mVar 1) mNil) (mCons (mVar 3) mNil))))))) (mRet (mC (.bl false))) mNext)
    (mSeq (mIfS (mOr (mTru (mCall 3 [.non] m_is_whole (mCons (mVar 1) (mCons (mOp fAdd (mVar 1) (mC (.int 1))) mNil)))) (mOr (mTru (mCallK 1 1 3 [.non] m_is_whole (mCons (mVar 1) mNil) (mCons (mOp fSub (mVar 1) (mC (.int 1))) mNil))) (mTru (mCall 3 [] m_is_whole (mCons (mVar 1) (mCons (mVar 2) (mCons (mOp fSub (mVar 1) (mC (.int 1))) mNil))))))) (mRet (mC (.bl false))) mNext)
    (mRet (mAndV (mNotV (mCall 3 [.non, .non] m_is_whole (mCons (mC (.bl true)) mNil))) (mAndV (mNotV (mCall 3 [] m_is_whole (mCons (mC (.bl false)) (mCons (mC (.int 0)) (mCons (mC (.int 1)) mNil))))) (mAndV (mNotV (mCall 3 [.non, .non] m_is_whole (mCons (mTup (mCons (mVar 1) (mCons (mC (.int 1)) mNil))) mNil))) (mAndV (mNotV (mCall 3 [.non, .non] m_is_whole (mCons (mC .non) mNil))) (mNotV (mCall 3 [.non, .non] m_is_whole (mCons (mC (.str "1")) mNil)))))))))))))
def m__law_whole : List Dt → Hd → R Dt := mDef 4 b__law_whole
def b_negative : MS :=
  (mRet (mTup (mCons (mUn fNeg (mOp fIx (mVar 0) (mC (.int 0)))) (mCons (mOp fIx (mVar 0) (mC (.int 1))) mNil))))
def m_negative : List Dt → Hd → R Dt := mDef 1 b_negative
def b_size_of : MS :=
  (mRet (mTup (mCons (mCB fAbs (mCons (mOp fIx (mVar 0) (mC (.int 0))) mNil)) (mCons (mOp fIx (mVar 0) (mC (.int 1))) mNil))))
def m_size_of : List Dt → Hd → R Dt := mDef 1 b_size_of
def b_lowest_terms : MS :=
  (mSeq (mSet 2 (mCB fGcd (mCons (mVar 0) (mCons (mVar 1) mNil))))
    (mSeq (mIfS (mTest (mOp fLt (mVar 1) (mC (.int 0)))) (mSet 2 (mUn fNeg (mVar 2))) mNext)
    (mRet (mTup (mCons (mOp fDiv (mVar 0) (mVar 2)) (mCons (mOp fDiv (mVar 1) (mVar 2)) mNil))))))
def m_lowest_terms : List Dt → Hd → R Dt := mDef 3 b_lowest_terms
def b_times : MS :=
  (mRet (mCall 2 [] m_lowest_terms (mCons (mOp fMul (mOp fIx (mVar 0) (mC (.int 0))) (mOp fIx (mVar 1) (mC (.int 0)))) (mCons (mOp fMul (mOp fIx (mVar 0) (mC (.int 1))) (mOp fIx (mVar 1) (mC (.int 1)))) mNil))))
def m_times : List Dt → Hd → R Dt := mDef 2 b_times
def b_plus : MS :=
  (mRet (mCall 2 [] m_lowest_terms (mCons (mOp fAdd (mOp fMul (mOp fIx (mVar 0) (mC (.int 0))) (mOp fIx (mVar 1) (mC (.int 1)))) (mOp fMul (mOp fIx (mVar 1) (mC (.int 0))) (mOp fIx (mVar 0) (mC (.int 1))))) (mCons (mOp fMul (mOp fIx (mVar 0) (mC (.int 1))) (mOp fIx (mVar 1) (mC (.int 1)))) mNil))))
def m_plus : List Dt → Hd → R Dt := mDef 2 b_plus
def b_over : MS :=
  (mSeq (mIfS (mTest (mOp fEq (mVar 1) (mC (.tup [.int 0, .int 1])))) (mRaise "BadRatio" ["what"] (mCons (mC (.str "zero")) mNil)) mNext)
    (mRet (mCall 2 [] m_lowest_terms (mCons (mOp fMul (mOp fIx (mVar 0) (mC (.int 0))) (mOp fIx (mVar 1) (mC (.int 1)))) (mCons (mOp fMul (mOp fIx (mVar 0) (mC (.int 1))) (mOp fIx (mVar 1) (mC (.int 0)))) mNil)))))
def m_over : List Dt → Hd → R Dt := mDef 2 b_over
def b__law_divided : MS :=
  (mTryAs 2 "BadRatio" (mRet (mCall 2 [] m_over (mCons (mVar 0) (mCons (mVar 1) mNil)))) (xRet (xFld "what")))
def m__law_divided : List Dt → Hd → R Dt := mDef 3 b__law_divided
def b_make_ratio : MS :=
  (mSeq (mIfS (mNot (mTru (mCall 3 [.non, .non] m_is_whole (mCons (mVar 0) mNil)))) (mRaise "BadRatio" ["what"] (mCons (mC (.str "top")) mNil)) mNext)
    (mSeq (mIfS (mOr (mNot (mTru (mCall 3 [.non, .non] m_is_whole (mCons (mVar 1) mNil)))) (mTest (mOp fEq (mVar 1) (mC (.int 0))))) (mRaise "BadRatio" ["what"] (mCons (mC (.str "bottom")) mNil)) mNext)
    (mRet (mCall 2 [] m_lowest_terms (mCons (mVar 0) (mCons (mVar 1) mNil))))))
def m_make_ratio : List Dt → Hd → R Dt := mDef 2 b_make_ratio
def b_is_ratio : MS :=
  (mSeq (mIfS (mOr (mNot (mTru (mIsi "tuple" (mVar 0)))) (mTest (mOp fNe (mCB fLen (mCons (mVar 0) mNil)) (mC (.int 2))))) (mRet (mC (.bl false))) mNext)
    (mSeq (mAsg (gmSeq 2 (gmCons (gmName 1) (gmCons (gmName 2) gmNil))) (mVar 0))
    (mRet (mAndV (mCall 3 [.non, .non] m_is_whole (mCons (mVar 1) mNil)) (mAndV (mCall 3 [.non] m_is_whole (mCons (mVar 2) (mCons (mC (.int 1)) mNil))) (mOp fEq (mCB fGcd (mCons (mVar 1) (mCons (mVar 2) mNil))) (mC (.int 1))))))))
def m_is_ratio : List Dt → Hd → R Dt := mDef 3 b_is_ratio
def b__law_over : MS :=
  (mRet (mCall 2 [] m__law_ratio (mCons (mOp fMul (mOp fIx (mVar 0) (mC (.int 0))) (mOp fIx (mVar 1) (mC (.int 1)))) (mCons (mOp fMul (mOp fIx (mVar 0) (mC (.int 1))) (mOp fIx (mVar 1) (mC (.int 0)))) mNil))))
def m__law_over : List Dt → Hd → R Dt := mDef 2 b__law_over
def b_minus : MS :=
  (mRet (mCall 2 [] m_lowest_terms (mCons (mOp fSub (mOp fMul (mOp fIx (mVar 0) (mC (.int 0))) (mOp fIx (mVar 1) (mC (.int 1)))) (mOp fMul (mOp fIx (mVar 1) (mC (.int 0))) (mOp fIx (mVar 0) (mC (.int 1))))) (mCons (mOp fMul (mOp fIx (mVar 0) (mC (.int 1))) (mOp fIx (mVar 1) (mC (.int 1)))) mNil))))
def m_minus : List Dt → Hd → R Dt := mDef 2 b_minus
def b__law_compare : MS :=
  (mSeq (mPar 2 3 (mCons (mOp fMul (mOp fIx (mVar 0) (mC (.int 0))) (mOp fIx (mVar 1) (mC (.int 1)))) (mCons (mOp fMul (mOp fIx (mVar 1) (mC (.int 0))) (mOp fIx (mVar 0) (mC (.int 1)))) mNil)))
    (mSeq (mIfS (mTest (mOp fEq (mVar 2) (mVar 3))) (mRet (mC (.int 0))) mNext)
    (mRet (mIf (mTest (mOp fLt (mVar 2) (mVar 3))) (mUn fNeg (mC (.int 1))) (mC (.int 1))))))
def m__law_compare : List Dt → Hd → R Dt := mDef 4 b__law_compare
def b__law_wide_ratio : MS :=
  (mRet (mCall 2 [] m__law_ratio (mCons (mCall 1 [] m__law_wide (mCons (mVar 0) mNil)) (mCons (mOp fAdd (mC (.int 1)) (mCB fAbs (mCons (mCall 1 [] m__law_wide (mCons (mVar 0) mNil)) mNil))) mNil))))
def m__law_wide_ratio : List Dt → Hd → R Dt := mDef 1 b__law_wide_ratio
def b_compare : MS :=
  (mSeq (mSet 2 (mOp fMul (mOp fIx (mVar 0) (mC (.int 0))) (mOp fIx (mVar 1) (mC (.int 1)))))
    (mSeq (mSet 3 (mOp fMul (mOp fIx (mVar 1) (mC (.int 0))) (mOp fIx (mVar 0) (mC (.int 1)))))
    (mSeq (mIfS (mTest (mOp fLt (mVar 2) (mVar 3))) (mRet (mUn fNeg (mC (.int 1)))) mNext)
    (mRet (mIf (mTest (mOp fGt (mVar 2) (mVar 3))) (mC (.int 1)) (mC (.int 0)))))))
def m_compare : List Dt → Hd → R Dt := mDef 4 b_compare
def b_least_of : MS :=
  (mSeq (mSet 1 (mOp fIx (mVar 0) (mC (.int 0))))
    (mSeq (mFor (gmName 2) (mSeqI (mVar 0))
      (mIfS (mTest (mOp fLt (mCall 2 [] m_compare (mCons (mVar 2) (mCons (mVar 1) mNil))) (mC (.int 0)))) (mSet 1 (mVar 2)) mNext))
    (mRet (mVar 1))))
def m_least_of : List Dt → Hd → R Dt := mDef 3 b_least_of
def b__law_below : MS :=
  (mRet (mOp fLt (mOp fMul (mOp fIx (mVar 0) (mC (.int 0))) (mOp fIx (mVar 1) (mC (.int 1)))) (mOp fMul (mOp fIx (mVar 1) (mC (.int 0))) (mOp fIx (mVar 0) (mC (.int 1))))))
def m__law_below : List Dt → Hd → R Dt := mDef 2 b__law_below
def b_greatest_of : MS :=
  (mSeq (mSet 1 (mOp fIx (mVar 0) (mC (.int 0))))
    (mSeq (mFor (gmName 2) (mSeqI (mVar 0))
      (mIfS (mTest (mOp fGt (mCall 2 [] m_compare (mCons (mVar 2) (mCons (mVar 1) mNil))) (mC (.int 0)))) (mSet 1 (mVar 2)) mNext))
    (mRet (mVar 1))))
def m_greatest_of : List Dt → Hd → R Dt := mDef 3 b_greatest_of
def b_sum_of : MS :=
  (mSeq (mSet 1 (mC (.tup [.int 0, .int 1])))
    (mSeq (mFor (gmName 2) (mSeqI (mVar 0))
      (mSet 1 (mCall 2 [] m_plus (mCons (mVar 1) (mCons (mVar 2) mNil)))))
    (mRet (mVar 1))))
def m_sum_of : List Dt → Hd → R Dt := mDef 3 b_sum_of
def b__law_plain : MS :=
  (mSeq (mIfS (mOr (mNot (mTru (mIsi "tuple" (mVar 0)))) (mTest (mOp fNe (mCB fLen (mCons (mVar 0) mNil)) (mC (.int 2))))) (mRet (mC (.bl false))) mNext)
    (mSeq (mFor (gmName 2) (mSeqI (mVar 0))
      (mIfS (mOr (mNot (mTru (mIsi "int" (mVar 2)))) (mTru (mIsi "bool" (mVar 2)))) (mRet (mC (.bl false))) mNext))
    (mRet (mOp fEq (mVar 0) (mVar 1)))))
def m__law_plain : List Dt → Hd → R Dt := mDef 3 b__law_plain
def b__law_plus : MS :=
  (mRet (mCall 2 [] m__law_ratio (mCons (mOp fAdd (mOp fMul (mOp fIx (mVar 0) (mC (.int 0))) (mOp fIx (mVar 1) (mC (.int 1)))) (mOp fMul (mOp fIx (mVar 1) (mC (.int 0))) (mOp fIx (mVar 0) (mC (.int 1))))) (mCons (mOp fMul (mOp fIx (mVar 0) (mC (.int 1))) (mOp fIx (mVar 1) (mC (.int 1)))) mNil))))
def m__law_plus : List Dt → Hd → R Dt := mDef 2 b__law_plus
def b__law_sum : MS :=
  (mSeq (mSet 1 (mTup (mCons (mC (.int 0)) (mCons (mC (.int 1)) mNil))))
    (mSeq (mFor (gmName 2) (mSeqI (mVar 0))
      (mSet 1 (mCall 2 [] m__law_plus (mCons (mVar 1) (mCons (mVar 2) mNil)))))
    (mRet (mVar 1))))
def m__law_sum : List Dt → Hd → R Dt := mDef 3 b__law_sum
def b__law_rows : MS :=
  (mSeq (mSet 1 (mLc (gmName 2) (mRng1 (mOp fAdd (mC (.int 1)) (mCall 2 [] m__law_take (mCons (mVar 0) (mCons (mC (.int 5)) mNil))))) mYes (mCall 1 [] m__law_wide_ratio (mCons (mVar 0) mNil)) [2]))
    (mSeq (mIfS (mOr (mNot (mTru (mCall 2 [] m__law_plain (mCons (mCall 1 [] m_sum_of (mCons (mVar 1) mNil)) (mCons (mCall 1 [] m__law_sum (mCons (mVar 1) mNil)) mNil))))) (mNot (mTru (mCall 2 [] m__law_plain (mCons (mCall 1 [] m_sum_of (mCons (mTup mNil) mNil)) (mCons (mTup (mCons (mC (.int 0)) (mCons (mC (.int 1)) mNil))) mNil)))))) (mRet (mC (.bl false))) mNext)
    (mSeq (mAsg (gmSeq 2 (gmCons (gmName 3) (gmCons (gmName 4) gmNil))) (mTup (mCons (mCall 1 [] m_least_of (mCons (mCB fTupC (mCons (mVar 1) mNil)) mNil)) (mCons (mCall 1 [] m_greatest_of (mCons (mVar 1) mNil)) mNil))))
    (mSeq (mIfS (mOr (mTest (mOp fNotIn (mVar 3) (mVar 1))) (mTest (mOp fNotIn (mVar 4) (mVar 1)))) (mRet (mC (.bl false))) mNext)
    (mRet (mNotV (mLc (gmName 5) (mSeqI (mVar 1)) (mOr (mTru (mCall 2 [] m__law_below (mCons (mVar 5) (mCons (mVar 3) mNil)))) (mTru (mCall 2 [] m__law_below (mCons (mVar 4) (mCons (mVar 5) mNil))))) (mC (.int 1)) [5])))))))
def m__law_rows : List Dt → Hd → R Dt := mDef 6 b__law_rows
def b__law_times : MS :=
  (mRet (mCall 2 [] m__law_ratio (mCons (mOp fMul (mOp fIx (mVar 0) (mC (.int 0))) (mOp fIx (mVar 1) (mC (.int 0)))) (mCons (mOp fMul (mOp fIx (mVar 0) (mC (.int 1))) (mOp fIx (mVar 1) (mC (.int 1)))) mNil))))
def m__law_times : List Dt → Hd → R Dt := mDef 2 b__law_times
def b__law_refused : MS :=
  (mSeq (mTryAs 2 "BadRatio" (mDrop (mCall 2 [] m_make_ratio (mCons (mVar 0) (mCons (mVar 1) mNil)))) (xRet (xFld "what")))
    (mRet (mC .non)))
def m__law_refused : List Dt → Hd → R Dt := mDef 3 b__law_refused
def b_law : MS :=
  (mSeq (mIfS (mTest (mOp fNe (mTup (mCons (mC (.tup [.int 0, .int 1])) (mCons (mC (.tup [.int 1, .int 1])) (mCons (mC (.tup [.int 1, .int 2])) mNil)))) (mTup (mCons (mTup (mCons (mC (.int 0)) (mCons (mC (.int 1)) mNil))) (mCons (mTup (mCons (mC (.int 1)) (mCons (mC (.int 1)) mNil))) (mCons (mTup (mCons (mC (.int 1)) (mCons (mC (.int 2)) mNil))) mNil)))))) (mRet (mC (.bl false))) mNext)
    (mSeq (mPar 2 3 (mCons (mCall 1 [] m__law_wide (mCons (mVar 1) mNil)) (mCons (mCall 1 [] m__law_wide (mCons (mVar 1) mNil)) mNil)))
    (mSeq (mIfS (mTest (mOp fEq (mVar 3) (mC (.int 0)))) (mSeq (mIfS (mTest (mOp fNe (mCall 2 [] m__law_refused (mCons (mVar 2) (mCons (mVar 3) mNil))) (mC (.str "bottom")))) (mRet (mC (.bl false))) mNext)
    (mSet 3 (mOp fAdd (mC (.int 1)) (mCall 2 [] m__law_take (mCons (mVar 1) (mCons (mC (.int 9)) mNil)))))) mNext)
    (mSeq (mSet 4 (mOp fAdd (mC (.int 1)) (mCall 2 [] m__law_take (mCons (mVar 1) (mCons (mC (.int 30)) mNil)))))
    (mSeq (mIfS (mOr (mNot (mTru (mCall 2 [] m__law_plain (mCons (mCall 2 [] m_make_ratio (mCons (mOp fMul (mVar 2) (mVar 4)) (mCons (mOp fMul (mVar 3) (mVar 4)) mNil))) (mCons (mCall 2 [] m__law_ratio (mCons (mVar 2) (mCons (mVar 3) mNil))) mNil))))) (mNot (mTru (mCall 2 [] m__law_plain (mCons (mCall 2 [.int 1] m_make_ratio (mCons (mVar 2) mNil)) (mCons (mTup (mCons (mVar 2) (mCons (mC (.int 1)) mNil))) mNil)))))) (mRet (mC (.bl false))) mNext)
    (mSeq (mSet 5 (mOp fIx (mLst (mCons (mC .non) (mCons (mC (.bl true)) (mCons (mC (.str "1")) (mCons (mTup (mCons (mVar 2) (mCons (mC (.int 1)) mNil))) (mCons (mLst (mCons (mVar 2) mNil)) mNil)))))) (mCall 2 [] m__law_take (mCons (mVar 1) (mCons (mC (.int 5)) mNil)))))
    (mSeq (mIfS (mOr (mTest (mOp fNe (mCall 2 [] m__law_refused (mCons (mVar 5) (mCons (mC (.int 0)) mNil))) (mC (.str "top")))) (mOr (mTest (mOp fNe (mCall 2 [] m__law_refused (mCons (mVar 2) (mCons (mVar 5) mNil))) (mC (.str "bottom")))) (mTest (mOp fNe (mCall 2 [] m__law_refused (mCons (mVar 2) (mCons (mC (.int 0)) mNil))) (mC (.str "bottom")))))) (mRet (mC (.bl false))) mNext)
    (mSeq (mPar 6 7 (mCons (mCall 2 [] m__law_ratio (mCons (mVar 2) (mCons (mVar 3) mNil))) (mCons (mCall 1 [] m__law_wide_ratio (mCons (mVar 1) mNil)) mNil)))
    (mSeq (mIfS (mTest (mOp fEq (mCall 2 [] m__law_take (mCons (mVar 1) (mCons (mC (.int 6)) mNil))) (mC (.int 0)))) (mSet 7 (mVar 6)) mNext)
    (mSeq (mIfS (mOr (mNot (mTru (mCall 2 [] m__law_plain (mCons (mCall 2 [] m_plus (mCons (mVar 6) (mCons (mVar 7) mNil))) (mCons (mCall 2 [] m__law_plus (mCons (mVar 6) (mCons (mVar 7) mNil))) mNil))))) (mNot (mTru (mCall 2 [] m__law_plain (mCons (mCall 2 [] m_minus (mCons (mVar 6) (mCons (mVar 7) mNil))) (mCons (mCall 2 [] m__law_less (mCons (mVar 6) (mCons (mVar 7) mNil))) mNil)))))) (mRet (mC (.bl false))) mNext)
    (mSeq (mIfS (mOr (mNot (mTru (mCall 2 [] m__law_plain (mCons (mCall 2 [] m_times (mCons (mVar 6) (mCons (mVar 7) mNil))) (mCons (mCall 2 [] m__law_times (mCons (mVar 6) (mCons (mVar 7) mNil))) mNil))))) (mNot (mTru (mCall 2 [] m__law_plain (mCons (mCall 1 [] m_negative (mCons (mVar 6) mNil)) (mCons (mTup (mCons (mUn fNeg (mOp fIx (mVar 6) (mC (.int 0)))) (mCons (mOp fIx (mVar 6) (mC (.int 1))) mNil))) mNil)))))) (mRet (mC (.bl false))) mNext)
    (mSeq (mIfS (mNot (mTru (mCall 2 [] m__law_plain (mCons (mCall 1 [] m_size_of (mCons (mVar 6) mNil)) (mCons (mTup (mCons (mCB fAbs (mCons (mOp fIx (mVar 6) (mC (.int 0))) mNil)) (mCons (mOp fIx (mVar 6) (mC (.int 1))) mNil))) mNil))))) (mRet (mC (.bl false))) mNext)
    (mSeq (mSet 8 (mCall 2 [] m__law_divided (mCons (mVar 6) (mCons (mVar 7) mNil))))
    (mSeq (mIfS (mOr (mTest (mOp fNe (mVar 8) (mIf (mTru (mOp fIx (mVar 7) (mC (.int 0)))) (mCall 2 [] m__law_over (mCons (mVar 6) (mCons (mVar 7) mNil))) (mC (.str "zero"))))) (mAnd (mTru (mOp fIx (mVar 7) (mC (.int 0)))) (mNot (mTru (mCall 2 [] m__law_plain (mCons (mVar 8) (mCons (mVar 8) mNil))))))) (mRet (mC (.bl false))) mNext)
    (mSeq (mSet 9 (mCall 2 [] m_compare (mCons (mVar 6) (mCons (mVar 7) mNil))))
    (mSeq (mIfS (mOr (mTest (mOp fNe (mVar 9) (mCall 2 [] m__law_compare (mCons (mVar 6) (mCons (mVar 7) mNil))))) (mOr (mTest (mOp fNe (mCall 2 [] m_compare (mCons (mVar 7) (mCons (mVar 6) mNil))) (mUn fNeg (mVar 9)))) (mTru (mIsi "bool" (mVar 9))))) (mRet (mC (.bl false))) mNext)
    (mSeq (mIfS (mOr (mTest (mOp fIsNot (mCall 1 [] m_is_ratio (mCons (mVar 6) mNil)) (mC (.bl true)))) (mOr (mTru (mCall 1 [] m_is_ratio (mCons (mCB fListC (mCons (mVar 6) mNil)) mNil))) (mOr (mTru (mCall 1 [] m_is_ratio (mCons (mTup (mCons (mOp fMul (mOp fIx (mVar 6) (mC (.int 0))) (mC (.int 2))) (mCons (mOp fMul (mOp fIx (mVar 6) (mC (.int 1))) (mC (.int 2))) mNil))) mNil))) (mTru (mCall 1 [] m_is_ratio (mCons (mCall 1 [] m__law_odd (mCons (mVar 1) mNil)) mNil)))))) (mRet (mC (.bl false))) mNext)
    (mRet (mAndV (mCall 1 [] m__law_rows (mCons (mVar 1) mNil)) (mCall 1 [] m__law_whole (mCons (mVar 1) mNil)))))))))))))))))))))
end Law


set_option Elab.async false
set_option linter.all false
set_option maxRecDepth 100000
namespace Law
open PySem PySem.Spec PyProof.Rows L2 Mir

theorem take_ok (s : Hd) {n : Int} (h : manyOk n) : m__law_take [.hnd, .int n] s = .ok (.int (takeV s n)) (takeS s n) := by
  show (if manyOk n then R.ok (Dt.int (takeV s n)) (takeS s n) else .bad) = _
  rw [if_pos h]
theorem is_whole_int (i : Int) (s : Hd) : m_is_whole [.int i, .non, .non] s = .ok (.bl true) s := by
  simp [m_is_whole, mDef, b_is_whole, startE, mSeq, mIfS, mOr, mNot, mTru, mIsi, mVar, mRet, mAndV, mOrV, mOp, mC, mNext, fTru, fIs]
theorem is_whole_bl (i : Bool) (a b : Dt) (s : Hd) : m_is_whole [.bl i, a, b] s = .ok (.bl false) s := by
  simp [m_is_whole, mDef, b_is_whole, startE, mSeq, mIfS, mOr, mNot, mTru, mIsi, mVar, mRet, mAndV, mOrV, mOp, mC, mNext, fTru, fIs]
theorem is_whole_tup (i : List Dt) (a b : Dt) (s : Hd) : m_is_whole [.tup i, a, b] s = .ok (.bl false) s := by
  simp [m_is_whole, mDef, b_is_whole, startE, mSeq, mIfS, mOr, mNot, mTru, mIsi, mVar, mRet, mAndV, mOrV, mOp, mC, mNext, fTru, fIs]
theorem is_whole_lst (i : List Dt) (a b : Dt) (s : Hd) : m_is_whole [.lst i, a, b] s = .ok (.bl false) s := by
  simp [m_is_whole, mDef, b_is_whole, startE, mSeq, mIfS, mOr, mNot, mTru, mIsi, mVar, mRet, mAndV, mOrV, mOp, mC, mNext, fTru, fIs]
theorem is_whole_non (a b : Dt) (s : Hd) : m_is_whole [.non, a, b] s = .ok (.bl false) s := by
  simp [m_is_whole, mDef, b_is_whole, startE, mSeq, mIfS, mOr, mNot, mTru, mIsi, mVar, mRet, mAndV, mOrV, mOp, mC, mNext, fTru, fIs]
theorem is_whole_str (x : Str) (a b : Dt) (s : Hd) : m_is_whole [.str x, a, b] s = .ok (.bl false) s := by
  simp [m_is_whole, mDef, b_is_whole, startE, mSeq, mIfS, mOr, mNot, mTru, mIsi, mVar, mRet, mAndV, mOrV, mOp, mC, mNext, fTru, fIs]
theorem is_whole_low (i l : Int) (s : Hd) : m_is_whole [.int i, .int l, .non] s = .ok (.bl (decide (l ≤ i))) s := by
  by_cases c : l ≤ i <;> simp [m_is_whole, mDef, b_is_whole, startE, mSeq, mIfS, mOr, mNot, mTru, mIsi, mVar, mRet, mAndV, mOrV, mOp, mC, mNext, fTru, fIs, fI, c]
theorem is_whole_high (i l : Int) (s : Hd) : m_is_whole [.int i, .non, .int l] s = .ok (.bl (decide (i ≤ l))) s := by
  by_cases c : i ≤ l <;> simp [m_is_whole, mDef, b_is_whole, startE, mSeq, mIfS, mOr, mNot, mTru, mIsi, mVar, mRet, mAndV, mOrV, mOp, mC, mNext, fTru, fIs, fI, c]
theorem is_whole_both (i l k : Int) (s : Hd) : m_is_whole [.int i, .int l, .int k] s = .ok (.bl (decide (l ≤ i) && decide (i ≤ k))) s := by
  by_cases c : l ≤ i <;> by_cases c2 : i ≤ k <;> simp [m_is_whole, mDef, b_is_whole, startE, mSeq, mIfS, mOr, mNot, mTru, mIsi, mVar, mRet, mAndV, mOrV, mOp, mC, mNext, fTru, fIs, fI, c, c2]
theorem sgcd_sz {t b : Int} {n : Nat} (h : b ≠ 0) (hs : Sz n b) : Sz n (sgcd t b) := by
  refine hs.le ?_
  rw [sgcd_abs]
  exact Nat.le_of_dvd (by omega) (Nat.gcd_dvd_right _ _)
theorem lowest_ok {t b : Int} (h : b ≠ 0) (hs : Sz 8000 b) (s : Hd) : m_lowest_terms [.int t, .int b] s = .ok (low t b) s := by
  have hd : DivOk (sgcd t b) := DivOk.of (sgcd_ne h) (sgcd_sz h hs) (by decide)
  have e : sgcd t b = if b < 0 then -((Nat.gcd t.natAbs b.natAbs : Nat) : Int) else ((Nat.gcd t.natAbs b.natAbs : Nat) : Int) := rfl
  by_cases c : b < 0
  · rw [if_pos c] at e
    rw [e] at hd
    simp [m_lowest_terms, mDef, b_lowest_terms, startE, mSeq, mSet, mCB, mCons, mVar, mNil, fGcd, mIfS, mTest, mOp, fI, mC, mUn, fNeg, mNext, mRet, mTup, c, hd, low, lowT, lowB, e]
  · rw [if_neg c] at e
    rw [e] at hd
    simp [m_lowest_terms, mDef, b_lowest_terms, startE, mSeq, mSet, mCB, mCons, mVar, mNil, fGcd, mIfS, mTest, mOp, fI, mC, mUn, fNeg, mNext, mRet, mTup, c, hd, low, lowT, lowB, e]
/-- the law's own greatest divisor -/
def gcdBody : MS := mPar 0 1 (mCons (mVar 1) (mCons (mOp fMod (mCB fIntC (mCons (mVar 0) mNil)) (mVar 1)) mNil))
theorem gcd_loop (s : Hd) : ∀ (n x y : Nat), y < n → loopW (mTru (mVar 1)) gcdBody n [.dat (.int x), .dat (.int y)] s = .ok (.nx [.dat (.int (Nat.gcd x y : Nat)), .dat (.int 0)]) s
  | 0, x, y, h => by omega
  | n + 1, x, y, h => by
    unfold loopW
    by_cases c : y = 0
    · subst c
      simp [mTru, mVar, fTru]
    · have c' : ((y : Int) != 0) = true := by
        simp
        omega
      have c2 : (y : Int) ≠ 0 := by omega
      have ih := gcd_loop s n y (x % y) (by have := Nat.mod_lt x (show 0 < y by omega); omega)
      have e : Int.fmod (x : Int) (y : Int) = ((x % y : Nat) : Int) := by
        rw [Int.fmod_eq_emod_of_nonneg _ (by omega)]
        rfl
      have eb : gcdBody [.dat (.int x), .dat (.int y)] s = .ok (.nx [.dat (.int y), .dat (.int ((x % y : Nat) : Int))]) s := by
        simp [gcdBody, mPar, mCons, mVar, mOp, mCB, mNil, fIntC, fI, c2, c, e]
      have eg : Nat.gcd y (x % y) = Nat.gcd x y := by rw [Nat.gcd_comm y, ← Nat.gcd_rec, Nat.gcd_comm]
      simp only [mTru, mVar, fTru, List.getElem?_cons_succ, List.getElem?_cons_zero, R.bind_ok, liftO_some, c', if_true, eb]
      rw [ih, eg]
theorem gcd_ok (a b : Int) (s : Hd) : m__law_gcd [.int a, .int b] s = .ok (.int (Nat.gcd a.natAbs b.natAbs : Nat)) s := by
  have ea : ∀ i : Int, (if i < 0 then -i else i) = ((i.natAbs : Nat) : Int) := fun i => by split <;> omega
  have h1 : mPar 0 1 (mCons (mCB fAbs (mCons (mVar 0) mNil)) (mCons (mCB fAbs (mCons (mVar 1) mNil)) mNil)) (startE 2 [.int a, .int b]) s = .ok (.nx [.dat (.int a.natAbs), .dat (.int b.natAbs)]) s := by
    simp [mPar, mCons, mCB, mVar, mNil, fAbs, startE, ea]
  have h2 := gcd_loop s (fuelE [.dat (.int a.natAbs), .dat (.int b.natAbs)]) a.natAbs b.natAbs (by simp [fuelE, absS]; omega)
  have h3 : mWhile (mTru (mVar 1)) gcdBody [.dat (.int a.natAbs), .dat (.int b.natAbs)] s = _ := h2
  show mDef 2 (mSeq _ (mSeq (mWhile (mTru (mVar 1)) gcdBody) _)) _ _ = _
  unfold mDef mSeq
  rw [h1]
  simp only [h3]
  simp [mRet, mVar]
theorem ratio_ok {t b : Int} (h : b ≠ 0) (hs : Sz 8000 b) (s : Hd) : m__law_ratio [.int t, .int b] s = .ok (low t b) s := by
  have hd : DivOk (sgcd t b) := DivOk.of (sgcd_ne h) (sgcd_sz h hs) (by decide)
  have e : sgcd t b = if b < 0 then -((Nat.gcd t.natAbs b.natAbs : Nat) : Int) else ((Nat.gcd t.natAbs b.natAbs : Nat) : Int) := rfl
  by_cases c : b < 0
  · rw [if_pos c] at e
    rw [e] at hd
    simp [m__law_ratio, mDef, b__law_ratio, startE, mSeq, mSet, mCall, mCons, mVar, mNil, gcd_ok, mIfS, mTest, mOp, fI, mC, mUn, fNeg, mNext, mRet, mTup, c, hd, low, lowT, lowB, e]
  · rw [if_neg c] at e
    rw [e] at hd
    simp [m__law_ratio, mDef, b__law_ratio, startE, mSeq, mSet, mCall, mCons, mVar, mNil, gcd_ok, mIfS, mTest, mOp, fI, mC, mUn, fNeg, mNext, mRet, mTup, c, hd, low, lowT, lowB, e]
/-! ### ratios -/
theorem sz_ok {a b c d : Int} {n : Nat} (hn : n ≤ 3000) (h1 : Sz n a) (h2 : Sz n b) (h3 : Sz n c) (h4 : Sz n d) : MulOk a d ∧ MulOk c b ∧ MulOk b d ∧ MulOk a c ∧ MulOk b c ∧ MulOk d a :=
  ⟨MulOk.of h1 h4 (by omega), MulOk.of h3 h2 (by omega), MulOk.of h2 h4 (by omega), MulOk.of h1 h3 (by omega), MulOk.of h2 h3 (by omega), MulOk.of h4 h1 (by omega)⟩
theorem at0 (a b : Int) : atI [Dt.int a, Dt.int b] 0 = some (.int a) := rfl
theorem at1 (a b : Int) : atI [Dt.int a, Dt.int b] 1 = some (.int b) := rfl
/-- two ratios whose numbers are small enough -/
structure Rs (n : Nat) (a b c d : Int) : Prop where
  hn : n ≤ 3000
  sa : Sz n a
  sb : Sz n b
  sc : Sz n c
  sd : Sz n d
  b0 : b ≠ 0
  d0 : d ≠ 0
theorem Rs.bd {n : Nat} {a b c d : Int} (r : Rs n a b c d) : b * d ≠ 0 ∧ Sz 8000 (b * d) := ⟨Int.mul_ne_zero r.b0 r.d0, (r.sb.mul r.sd).mono (by have := r.hn; omega)⟩
theorem plus_ok {n : Nat} {a b c d : Int} (r : Rs n a b c d) (s : Hd) : m_plus [rat a b, rat c d] s = .ok (low (a * d + c * b) (b * d)) s := by
  obtain ⟨m1, m2, m3, m4, m5, m6⟩ := sz_ok r.hn r.sa r.sb r.sc r.sd
  have l := lowest_ok (t := a * d + c * b) r.bd.1 r.bd.2 s
  simp [m_plus, mDef, b_plus, startE, mRet, mCall, mCons, mNil, mOp, mVar, mC, fIx, at0, at1, fMul, fAdd, m1, m2, m3, l]
theorem lplus_ok {n : Nat} {a b c d : Int} (r : Rs n a b c d) (s : Hd) : m__law_plus [rat a b, rat c d] s = .ok (low (a * d + c * b) (b * d)) s := by
  obtain ⟨m1, m2, m3, m4, m5, m6⟩ := sz_ok r.hn r.sa r.sb r.sc r.sd
  have l := ratio_ok (t := a * d + c * b) r.bd.1 r.bd.2 s
  simp [m__law_plus, mDef, b__law_plus, startE, mRet, mCall, mCons, mNil, mOp, mVar, mC, fIx, at0, at1, fMul, fAdd, m1, m2, m3, l]
theorem minus_ok {n : Nat} {a b c d : Int} (r : Rs n a b c d) (s : Hd) : m_minus [rat a b, rat c d] s = .ok (low (a * d - c * b) (b * d)) s := by
  obtain ⟨m1, m2, m3, m4, m5, m6⟩ := sz_ok r.hn r.sa r.sb r.sc r.sd
  have l := lowest_ok (t := a * d - c * b) r.bd.1 r.bd.2 s
  simp [m_minus, mDef, b_minus, startE, mRet, mCall, mCons, mNil, mOp, mVar, mC, fIx, at0, at1, fMul, fI, m1, m2, m3, l]
theorem lless_ok {n : Nat} {a b c d : Int} (r : Rs n a b c d) (s : Hd) : m__law_less [rat a b, rat c d] s = .ok (low (a * d - c * b) (b * d)) s := by
  obtain ⟨m1, m2, m3, m4, m5, m6⟩ := sz_ok r.hn r.sa r.sb r.sc r.sd
  have l := ratio_ok (t := a * d - c * b) r.bd.1 r.bd.2 s
  simp [m__law_less, mDef, b__law_less, startE, mRet, mCall, mCons, mNil, mOp, mVar, mC, fIx, at0, at1, fMul, fI, m1, m2, m3, l]
theorem times_ok {n : Nat} {a b c d : Int} (r : Rs n a b c d) (s : Hd) : m_times [rat a b, rat c d] s = .ok (low (a * c) (b * d)) s := by
  obtain ⟨m1, m2, m3, m4, m5, m6⟩ := sz_ok r.hn r.sa r.sb r.sc r.sd
  have l := lowest_ok (t := a * c) r.bd.1 r.bd.2 s
  simp [m_times, mDef, b_times, startE, mRet, mCall, mCons, mNil, mOp, mVar, mC, fIx, at0, at1, fMul, m3, m4, l]
theorem ltimes_ok {n : Nat} {a b c d : Int} (r : Rs n a b c d) (s : Hd) : m__law_times [rat a b, rat c d] s = .ok (low (a * c) (b * d)) s := by
  obtain ⟨m1, m2, m3, m4, m5, m6⟩ := sz_ok r.hn r.sa r.sb r.sc r.sd
  have l := ratio_ok (t := a * c) r.bd.1 r.bd.2 s
  simp [m__law_times, mDef, b__law_times, startE, mRet, mCall, mCons, mNil, mOp, mVar, mC, fIx, at0, at1, fMul, m3, m4, l]
theorem neg_ok (a b : Int) (s : Hd) : m_negative [rat a b] s = .ok (rat (-a) b) s := by
  simp [m_negative, mDef, b_negative, startE, mRet, mTup, mCons, mNil, mOp, mVar, mC, fIx, at0, at1, mUn, fNeg]
theorem size_ok (a b : Int) (s : Hd) : m_size_of [rat a b] s = .ok (rat (if a < 0 then -a else a) b) s := by
  simp [m_size_of, mDef, b_size_of, startE, mRet, mTup, mCons, mNil, mOp, mVar, mC, fIx, at0, at1, mCB, fAbs]
def cmpI (x y : Int) : Int := if x < y then -1 else if y < x then 1 else 0
theorem compare_ok {n : Nat} {a b c d : Int} (r : Rs n a b c d) (s : Hd) : m_compare [rat a b, rat c d] s = .ok (.int (cmpI (a * d) (c * b))) s := by
  obtain ⟨m1, m2, m3, m4, m5, m6⟩ := sz_ok r.hn r.sa r.sb r.sc r.sd
  by_cases h1 : a * d < c * b
  · simp [m_compare, mDef, b_compare, startE, mSeq, mSet, mIfS, mTest, mRet, mIf, mCons, mNil, mOp, mVar, mC, fIx, at0, at1, mUn, fNeg, fMul, fI, m1, m2, mNext, cmpI, h1]
  · by_cases h2 : c * b < a * d <;>
    simp [m_compare, mDef, b_compare, startE, mSeq, mSet, mIfS, mTest, mRet, mIf, mCons, mNil, mOp, mVar, mC, fIx, at0, at1, mUn, fNeg, fMul, fI, m1, m2, mNext, cmpI, h1, h2]
theorem py_int (i : Int) : pyOk (.int i) = some (.int i) := by
  have e : SeqAt.shaped (.int i) = true := rfl
  simp [pyOk, toPy, e]
theorem py_str (x : Str) (h : SeqAt.shaped (.str x) = true) : pyOk (.str x) = some (.str x) := by simp [pyOk, toPy, h]
theorem py_rat (a b : Int) : pyOk (rat a b) = some (.tuple [.int a, .int b]) := by
  have e : SeqAt.shaped (.tuple [.int a, .int b]) = true := rfl
  simp [pyOk, toPy, toPyA, e]
theorem eq_int (i j : Int) : fEqB (.int i) (.int j) = some (i == j) := by simp [fEqB, py_int, PyData.eqv]
theorem eq_rat (a b c d : Int) : fEqB (rat a b) (rat c d) = some ((a == c) && (b == d)) := by simp [fEqB, py_rat, PyData.eqv, PyData.eqvAll]
theorem lcompare_ok {n : Nat} {a b c d : Int} (r : Rs n a b c d) (s : Hd) : m__law_compare [rat a b, rat c d] s = .ok (.int (cmpI (a * d) (c * b))) s := by
  obtain ⟨m1, m2, m3, m4, m5, m6⟩ := sz_ok r.hn r.sa r.sb r.sc r.sd
  by_cases h0 : a * d = c * b
  · simp [m__law_compare, mDef, b__law_compare, startE, mSeq, mPar, mIfS, mTest, mRet, mIf, mCons, mNil, mOp, mVar, mC, fIx, at0, at1, mUn, fNeg, fMul, fI, m1, m2, mNext, cmpI, fEq, Mir.fEqB, py_int, PyData.eqv, h0]
  · by_cases h1 : a * d < c * b
    · have h2 : ¬ c * b < a * d := by omega
      simp [m__law_compare, mDef, b__law_compare, startE, mSeq, mPar, mIfS, mTest, mRet, mIf, mCons, mNil, mOp, mVar, mC, fIx, at0, at1, mUn, fNeg, fMul, fI, m1, m2, mNext, cmpI, fEq, eq_int, h0, h1, h2]
    · have h2 : c * b < a * d := by omega
      simp [m__law_compare, mDef, b__law_compare, startE, mSeq, mPar, mIfS, mTest, mRet, mIf, mCons, mNil, mOp, mVar, mC, fIx, at0, at1, mUn, fNeg, fMul, fI, m1, m2, mNext, cmpI, fEq, eq_int, h0, h1, h2]
end Law


set_option Elab.async false
set_option linter.all false
set_option maxRecDepth 100000
namespace Law
open PySem PySem.Spec PyProof.Rows L2 Mir
theorem over_ok {n : Nat} {a b c d : Int} (r : Rs n a b c d) (hc : c ≠ 0) (s : Hd) : m_over [rat a b, rat c d] s = .ok (low (a * d) (b * c)) s := by
  obtain ⟨m1, m2, m3, m4, m5, m6⟩ := sz_ok r.hn r.sa r.sb r.sc r.sd
  have l := lowest_ok (t := a * d) (Int.mul_ne_zero r.b0 hc) ((r.sb.mul r.sc).mono (by have := r.hn; omega)) s
  have e : fEqB (rat c d) (rat 0 1) = some false := by
    rw [eq_rat]
    simp [hc]
  simp [m_over, mDef, b_over, startE, mSeq, mIfS, mTest, mRet, mCall, mCons, mNil, mOp, mVar, mC, fIx, at0, at1, fMul, m1, m5, mNext, fEq, e, l]
theorem over_zero {a b : Int} (s : Hd) : ∃ ρ, ρ.length = 2 ∧ m_over [rat a b, rat 0 1] s = .err "BadRatio" [("what", .str "zero")] ρ s := by
  refine ⟨startE 2 [rat a b, rat 0 1], rfl, ?_⟩
  have e : fEqB (rat 0 1) (rat 0 1) = some true := by
    rw [eq_rat]
    rfl
  simp [m_over, mDef, b_over, startE, mSeq, mIfS, mTest, mRaise, mCons, mNil, mOp, mVar, mC, fEq, e]
theorem lover_ok {n : Nat} {a b c d : Int} (r : Rs n a b c d) (hc : c ≠ 0) (s : Hd) : m__law_over [rat a b, rat c d] s = .ok (low (a * d) (b * c)) s := by
  obtain ⟨m1, m2, m3, m4, m5, m6⟩ := sz_ok r.hn r.sa r.sb r.sc r.sd
  have l := ratio_ok (t := a * d) (Int.mul_ne_zero r.b0 hc) ((r.sb.mul r.sc).mono (by have := r.hn; omega)) s
  simp [m__law_over, mDef, b__law_over, startE, mRet, mCall, mCons, mNil, mOp, mVar, mC, fIx, at0, at1, fMul, m1, m5, l]
theorem divided_ok {n : Nat} {a b c d : Int} (r : Rs n a b c d) (hc : c ≠ 0) (s : Hd) : m__law_divided [rat a b, rat c d] s = .ok (low (a * d) (b * c)) s := by
  have l := over_ok r hc s
  simp [m__law_divided, mDef, b__law_divided, startE, mTryAs, mRet, mCall, mCons, mNil, mVar, l]
theorem divided_zero {a b : Int} (s : Hd) : m__law_divided [rat a b, rat 0 1] s = .ok (.str "zero") s := by
  obtain ⟨ρ, _, l⟩ := over_zero (a := a) (b := b) s
  simp [m__law_divided, mDef, b__law_divided, startE, mTryAs, mRet, mCall, mCons, mNil, mVar, l, xRet, xFld, List.lookup]
theorem mk_top {d e : Dt} (h : ∀ s, m_is_whole [d, .non, .non] s = .ok (.bl false) s) (s : Hd) : ∃ ρ, m_make_ratio [d, e] s = .err "BadRatio" [("what", .str "top")] ρ s := by
  refine ⟨startE 2 [d, e], ?_⟩
  simp [m_make_ratio, mDef, b_make_ratio, startE, mSeq, mIfS, mNot, mTru, mCall, mCons, mNil, mVar, h, fTru, mRaise, mC]
theorem mk_bot {t : Int} {e : Dt} (h : (∀ s, m_is_whole [e, .non, .non] s = .ok (.bl false) s) ∨ e = .int 0) (s : Hd) : ∃ ρ, m_make_ratio [.int t, e] s = .err "BadRatio" [("what", .str "bottom")] ρ s := by
  refine ⟨startE 2 [.int t, e], ?_⟩
  rcases h with h | rfl
  · simp [m_make_ratio, mDef, b_make_ratio, startE, mSeq, mIfS, mNot, mOr, mTru, mCall, mCons, mNil, mVar, h, is_whole_int, fTru, mRaise, mC, mNext]
  · simp [m_make_ratio, mDef, b_make_ratio, startE, mSeq, mIfS, mNot, mOr, mTru, mTest, mOp, fEq, eq_int, mCall, mCons, mNil, mVar, is_whole_int, fTru, mRaise, mC, mNext]
theorem mk_ok {t b : Int} (h : b ≠ 0) (hs : Sz 8000 b) (s : Hd) : m_make_ratio [.int t, .int b] s = .ok (low t b) s := by
  have l := lowest_ok (t := t) h hs s
  simp [m_make_ratio, mDef, b_make_ratio, startE, mSeq, mIfS, mNot, mOr, mTru, mTest, mOp, fEq, eq_int, mCall, mCons, mNil, mVar, is_whole_int, fTru, mRaise, mC, mNext, h, l, mRet]
theorem refused_of {d e x : Dt} {s : Hd} (h : ∃ ρ, m_make_ratio [d, e] s = .err "BadRatio" [("what", x)] ρ s) : m__law_refused [d, e] s = .ok x s := by
  obtain ⟨ρ, h⟩ := h
  simp [m__law_refused, mDef, b__law_refused, startE, mSeq, mTryAs, mDrop, mCall, mCons, mNil, mVar, h, xRet, xFld, List.lookup]
theorem plain_ok (a b c d : Int) (s : Hd) : m__law_plain [rat a b, rat c d] s = .ok (.bl ((a == c) && (b == d))) s := by
  have e1 : fEqB (.int 2) (.int 2) = some true := by rw [eq_int]; rfl
  simp [m__law_plain, mDef, b__law_plain, startE, mSeq, mIfS, mOr, mNot, mTru, mIsi, mVar, fTru, mTest, mOp, mCB, mCons, mNil, fLen, fNe, e1, mC, mNext, mFor, mSeqI, loopF, gmName, mRet, fEq, eq_rat]
theorem plain_same (a b : Int) (s : Hd) : m__law_plain [rat a b, rat a b] s = .ok (.bl true) s := by
  rw [plain_ok]
  simp
theorem isr_tup (a b : Int) (s : Hd) : m_is_ratio [rat a b] s = .ok (.bl (decide (1 ≤ b) && decide (Nat.gcd a.natAbs b.natAbs = 1))) s := by
  have e1 : fEqB (.int 2) (.int 2) = some true := by rw [eq_int]; rfl
  by_cases c : 1 ≤ b
  · by_cases c2 : Nat.gcd a.natAbs b.natAbs = 1
    · simp [m_is_ratio, mDef, b_is_ratio, startE, mSeq, mIfS, mOr, mNot, mTru, mIsi, mVar, fTru, mTest, mOp, mCB, mCons, mNil, fLen, fNe, e1, mC, mNext, mAsg, gmSeq, gmCons, gmName, gmNil, mRet, mAndV, mCall, is_whole_int, is_whole_low, c, fGcd, fEq, eq_int, c2]
    · have c3 : ((Nat.gcd a.natAbs b.natAbs : Nat) : Int) ≠ 1 := by omega
      simp [m_is_ratio, mDef, b_is_ratio, startE, mSeq, mIfS, mOr, mNot, mTru, mIsi, mVar, fTru, mTest, mOp, mCB, mCons, mNil, fLen, fNe, e1, mC, mNext, mAsg, gmSeq, gmCons, gmName, gmNil, mRet, mAndV, mCall, is_whole_int, is_whole_low, c, fGcd, fEq, eq_int, c2, c3]
  · simp [m_is_ratio, mDef, b_is_ratio, startE, mSeq, mIfS, mOr, mNot, mTru, mIsi, mVar, fTru, mTest, mOp, mCB, mCons, mNil, fLen, fNe, e1, mC, mNext, mAsg, gmSeq, gmCons, gmName, gmNil, mRet, mAndV, mCall, is_whole_int, is_whole_low, c]
theorem isr_lst (ds : List Dt) (s : Hd) : m_is_ratio [.lst ds] s = .ok (.bl false) s := by
  simp [m_is_ratio, mDef, b_is_ratio, startE, mSeq, mIfS, mOr, mNot, mTru, mIsi, mVar, fTru, mRet, mC]
theorem isr_int (i : Int) (s : Hd) : m_is_ratio [.int i] s = .ok (.bl false) s := by
  simp [m_is_ratio, mDef, b_is_ratio, startE, mSeq, mIfS, mOr, mNot, mTru, mIsi, mVar, fTru, mRet, mC]
theorem isr_non (s : Hd) : m_is_ratio [.non] s = .ok (.bl false) s := by
  simp [m_is_ratio, mDef, b_is_ratio, startE, mSeq, mIfS, mOr, mNot, mTru, mIsi, mVar, fTru, mRet, mC]
theorem isr_str (x : Str) (s : Hd) : m_is_ratio [.str x] s = .ok (.bl false) s := by
  simp [m_is_ratio, mDef, b_is_ratio, startE, mSeq, mIfS, mOr, mNot, mTru, mIsi, mVar, fTru, mRet, mC]
theorem isr_len (ds : List Dt) (h : ds.length ≠ 2) (s : Hd) : m_is_ratio [.tup ds] s = .ok (.bl false) s := by
  have h2 : (ds.length : Int) ≠ 2 := by omega
  simp [m_is_ratio, mDef, b_is_ratio, startE, mSeq, mIfS, mOr, mNot, mTru, mIsi, mVar, fTru, mRet, mC, mTest, mOp, mCB, mCons, mNil, fLen, fNe, eq_int, h2, h]
theorem isr_b1 (a : Dt) (k : Bool) (s : Hd) : m_is_ratio [.tup [.bl k, a]] s = .ok (.bl false) s := by
  have e1 : fEqB (.int 2) (.int 2) = some true := by rw [eq_int]; rfl
  simp [m_is_ratio, mDef, b_is_ratio, startE, mSeq, mIfS, mOr, mNot, mTru, mIsi, mVar, fTru, mTest, mOp, mCB, mCons, mNil, fLen, fNe, e1, mC, mNext, mAsg, gmSeq, gmCons, gmName, gmNil, mRet, mAndV, mCall, is_whole_bl]
theorem isr_b2 (a : Int) (k : Bool) (s : Hd) : m_is_ratio [.tup [.int a, .bl k]] s = .ok (.bl false) s := by
  have e1 : fEqB (.int 2) (.int 2) = some true := by rw [eq_int]; rfl
  simp [m_is_ratio, mDef, b_is_ratio, startE, mSeq, mIfS, mOr, mNot, mTru, mIsi, mVar, fTru, mTest, mOp, mCB, mCons, mNil, fLen, fNe, e1, mC, mNext, mAsg, gmSeq, gmCons, gmName, gmNil, mRet, mAndV, mCall, is_whole_int, is_whole_bl]
end Law


set_option Elab.async false
set_option linter.all false
set_option maxRecDepth 100000
namespace Law
open PySem PySem.Spec PyProof.Rows L2 Mir
theorem mo9 : manyOk 9 := by decide +kernel
theorem mo25 : manyOk 25 := by decide +kernel
theorem mo2 : manyOk 2 := by decide +kernel
theorem mo5 : manyOk 5 := by decide +kernel
theorem mo6 : manyOk 6 := by decide +kernel
theorem mo30 : manyOk 30 := by decide +kernel
theorem mo12 : manyOk 12 := by decide +kernel
theorem moB : manyOk 1000000000 := by decide +kernel
theorem cp9 : CPow 10 9 := ⟨by decide, by decide, by decide⟩
/-- the loop of a wide number -/
def wBody : MS := mSet 2 (mOp fAdd (mOp fMul (mVar 2) (mOp fPow (mC (.int 10)) (mC (.int 9)))) (mCall 2 [] m__law_take (mCons (mVar 0) (mCons (mOp fPow (mC (.int 10)) (mC (.int 9))) mNil))))
theorem wide_loop (way : Int) : ∀ (ds : List Dt) (k : Nat) (t : Int) (x : Sl) (s : Hd), 0 ≤ t → Sz (30 * k) t → k + ds.length ≤ 100 →
    ∃ (t' : Int) (x' : Sl) (s' : Hd), loopF (gmName 3) wBody ds [.dat .hnd, .dat (.int way), .dat (.int t), x] s = .ok (.nx [.dat .hnd, .dat (.int way), .dat (.int t'), x']) s' ∧ Sz (30 * (k + ds.length)) t'
  | [], k, t, x, s, h0, h, hk => ⟨t, x, s, rfl, h⟩
  | d :: ds, k, t, x, s, h0, h, hk => by
    have p9 : (10 : Int) ^ (Int.toNat 9) = 1000000000 := by decide +kernel
    have m1 : MulOk t 1000000000 := MulOk.of (n := 30) h (by unfold Sz; decide) (by simp only [List.length_cons] at hk; omega)
    have g0 : 0 ≤ takeV s 1000000000 := takeV_ge (by decide)
    have g1 : takeV s 1000000000 < 1000000000 := takeV_lt (by decide)
    have h' : Sz (30 * (k + 1)) (t * 1000000000 + takeV s 1000000000) := by
      unfold Sz at *
      have e : 30 * (k + 1) = 30 * k + 30 := by omega
      rw [e, Nat.pow_add]
      have e2 : (2 : Nat) ^ 30 = 1073741824 := by decide
      rw [e2]
      omega
    obtain ⟨t', x', s', e, z⟩ := wide_loop way ds (k + 1) (t * 1000000000 + takeV s 1000000000) (.dat d) (takeS s 1000000000) (by omega) h' (by simp only [List.length_cons] at hk; omega)
    refine ⟨t', x', s', ?_, ?_⟩
    · have eb : wBody [.dat .hnd, .dat (.int way), .dat (.int t), .dat d] s = .ok (.nx [.dat .hnd, .dat (.int way), .dat (.int (t * 1000000000 + takeV s 1000000000)), .dat d]) (takeS s 1000000000) := by
        simp [wBody, mSet, mOp, mVar, mC, fMul, fPow, fI, cp9, p9, m1, mCall, mCons, mNil, take_ok s moB, fAdd]
      unfold loopF
      simp only [gmName, List.set_cons_succ, List.set_cons_zero, eb]
      exact e
    · have e2 : k + (d :: ds).length = k + 1 + ds.length := by simp only [List.length_cons]; omega
      rw [e2]
      exact z
theorem wide_ok (s : Hd) : ∃ (v : Int) (s' : Hd), m__law_wide [.hnd] s = .ok (.int v) s' ∧ Sz 160 v := by
  have g0 : 0 ≤ takeV s 9 := takeV_ge (by decide)
  have g1 : takeV s 9 < 9 := takeV_lt (by decide)
  by_cases c : takeV s 9 < 6
  · have b0 : 0 ≤ takeV (takeS s 9) 25 := takeV_ge (by decide)
    have b1 : takeV (takeS s 9) 25 < 25 := takeV_lt (by decide)
    refine ⟨takeV (takeS s 9) 25 - 12, takeS (takeS s 9) 25, ?_, ?_⟩
    · simp [m__law_wide, mDef, b__law_wide, startE, mSeq, mSet, mCall, mCons, mNil, mVar, mC, take_ok s mo9, take_ok _ mo25, mIfS, mTest, mOp, fI, c, mRet]
    · unfold Sz
      have e2 : (2 : Nat) ^ 160 = 1461501637330902918203684832716283019655932542976 := by decide
      rw [e2]
      omega
  · -- one part or five
    have tail : ∀ (ds : List Dt) (s1 : Hd), ds.length ≤ 5 → ∃ (v : Int) (s' : Hd), (mSeq (loopF (gmName 3) wBody ds) (mRet (mOp fMul (mVar 2) (mOp fSub (mC (.int 1)) (mOp fMul (mC (.int 2)) (mCall 2 [] m__law_take (mCons (mVar 0) (mCons (mC (.int 2)) mNil)))))))) [.dat .hnd, .dat (.int (takeV s 9)), .dat (.int 0), .no] s1 = .ok (.rt (.int v)) s' ∧ Sz 160 v := by
      intro ds s1 hl
      obtain ⟨t', x', s', e, z⟩ := wide_loop (takeV s 9) ds 0 0 .no s1 (by decide) (by unfold Sz; decide) (by omega)
      have z' : Sz 150 t' := z.mono (by omega)
      have b0 : 0 ≤ takeV s' 2 := takeV_ge (by decide)
      have b1 : takeV s' 2 < 2 := takeV_lt (by decide)
      have m1 : MulOk 2 (takeV s' 2) := MulOk.of (m := 2) (n := 2) (by unfold Sz; decide) (by unfold Sz; omega) (by decide)
      have q : Sz 4 (1 - 2 * takeV s' 2) := by
        unfold Sz
        omega
      have m2 : MulOk t' (1 - 2 * takeV s' 2) := MulOk.of z' q (by decide)
      refine ⟨t' * (1 - 2 * takeV s' 2), takeS s' 2, ?_, (z'.mul q).mono (by decide)⟩
      rw [seq_nx e]
      simp [mRet, mOp, mVar, mC, mCall, mCons, mNil, take_ok _ mo2, fMul, fI, m1, m2]
    have fin : ∀ (ds : List Dt), ds.length ≤ 5 → (mRng1 (mIf (mTest (mOp fLt (mVar 1) (mC (.int 8)))) (mC (.int 1)) (mC (.int 5)))) [.dat .hnd, .dat (.int (takeV s 9)), .dat (.int 0), .no] (takeS s 9) = .ok ds (takeS s 9) → ∃ (v : Int) (s' : Hd), m__law_wide [.hnd] s = .ok (.int v) s' ∧ Sz 160 v := by
      intro ds hl hr
      obtain ⟨v, s', e, z⟩ := tail ds (takeS s 9) hl
      refine ⟨v, s', ?_, z⟩
      have e' : (mSeq (mFor (gmName 3) (mRng1 (mIf (mTest (mOp fLt (mVar 1) (mC (.int 8)))) (mC (.int 1)) (mC (.int 5)))) wBody) (mRet (mOp fMul (mVar 2) (mOp fSub (mC (.int 1)) (mOp fMul (mC (.int 2)) (mCall 2 [] m__law_take (mCons (mVar 0) (mCons (mC (.int 2)) mNil)))))))) [.dat .hnd, .dat (.int (takeV s 9)), .dat (.int 0), .no] (takeS s 9) = .ok (.rt (.int v)) s' := by
        rw [← e]
        unfold mSeq
        rw [for_of hr]
      have e1 : (mSet 1 (mCall 2 [] m__law_take (mCons (mVar 0) (mCons (mC (.int 9)) mNil)))) (startE 4 [.hnd]) s = .ok (.nx [.dat .hnd, .dat (.int (takeV s 9)), .no, .no]) (takeS s 9) := by
        simp [mSet, mCall, mCons, mNil, mVar, mC, take_ok s mo9, startE]
      have e2 : (mIfS (mTest (mOp fLt (mVar 1) (mC (.int 6)))) (mRet (mOp fSub (mCall 2 [] m__law_take (mCons (mVar 0) (mCons (mC (.int 25)) mNil))) (mC (.int 12)))) mNext) [.dat .hnd, .dat (.int (takeV s 9)), .no, .no] (takeS s 9) = .ok (.nx [.dat .hnd, .dat (.int (takeV s 9)), .no, .no]) (takeS s 9) := by
        simp [mIfS, mTest, mOp, mVar, mC, fI, c, mNext]
      have e3 : (mSet 2 (mC (.int 0))) [.dat .hnd, .dat (.int (takeV s 9)), .no, .no] (takeS s 9) = .ok (.nx [.dat .hnd, .dat (.int (takeV s 9)), .dat (.int 0), .no]) (takeS s 9) := rfl
      refine def_rt ?_
      exact (seq_nx e1).trans ((seq_nx e2).trans ((seq_nx e3).trans e'))
    by_cases c8 : takeV s 9 < 8
    · exact fin (rangeD 0 1) (by decide) (by simp [mRng1, mIf, mTest, mOp, mVar, mC, fI, c8, rngOk])
    · exact fin (rangeD 0 5) (by decide) (by simp [mRng1, mIf, mTest, mOp, mVar, mC, fI, c8, rngOk])
theorem ea (i : Int) : (if i < 0 then -i else i) = ((i.natAbs : Nat) : Int) := by split <;> omega
/-- a ratio in lowest terms of not too many figures -/
structure Rt (n : Nat) (a b : Int) : Prop where
  r : IsR a b
  sa : Sz n a
  sb : Sz n b
theorem wratio_ok (s : Hd) : ∃ (a b : Int) (s' : Hd), m__law_wide_ratio [.hnd] s = .ok (rat a b) s' ∧ Rt 162 a b := by
  obtain ⟨v, s1, e1, z1⟩ := wide_ok s
  obtain ⟨w, s2, e2, z2⟩ := wide_ok s1
  have h : (1 : Int) + ((w.natAbs : Nat) : Int) ≠ 0 := by omega
  have hz : Sz 161 (1 + ((w.natAbs : Nat) : Int)) := by
    unfold Sz at *
    omega
  have l := ratio_ok (t := v) h (hz.mono (by decide)) s2
  refine ⟨_, _, s2, ?_, low_is h, (z1.le (lowT_abs h)).mono (by decide), (hz.le (lowB_abs h)).mono (by decide)⟩
  rw [← ea w] at l
  simp [m__law_wide_ratio, mDef, b__law_wide_ratio, startE, mRet, mCall, mCons, mNil, mVar, e1, e2, mOp, mC, mCB, fAbs, fAdd, l]
  rw [ea w]
  rfl
/-- what is no ratio -/
theorem odd_ok (s : Hd) : ∃ (d : Dt) (s' : Hd), m__law_odd [.hnd] s = .ok d s' ∧ ∀ s2, m_is_ratio [d] s2 = .ok (.bl false) s2 := by
  have b0 : 0 ≤ takeV (takeS s 9) 12 := takeV_ge (by decide)
  have b1 : takeV (takeS s 9) 12 < 12 := takeV_lt (by decide)
  generalize hx : takeV s 9 - 4 = x
  have m1 : MulOk 2 x := by
    have b2 : 0 ≤ takeV s 9 := takeV_ge (by decide)
    have b3 : takeV s 9 < 9 := takeV_lt (by decide)
    exact MulOk.of (m := 2) (n := 4) (by unfold Sz; decide) (by unfold Sz; omega) (by decide)
  have key : ∀ d, [Dt.int x, .lst [.int x, .int 1], rat x 0, rat (2 * x) 2, .tup [.int x, .int 1, .int 1], .tup [.bl true, .int 1], .tup [.int x, .bl true], .non, .str "1", rat x (-1), .tup [.int x], .tup []][(takeV (takeS s 9) 12).toNat]? = some d →
      m__law_odd [.hnd] s = .ok d (takeS (takeS s 9) 12) := by
    intro d hd
    have ha : atI [Dt.int x, .lst [.int x, .int 1], rat x 0, rat (2 * x) 2, .tup [.int x, .int 1, .int 1], .tup [.bl true, .int 1], .tup [.int x, .bl true], .non, .str "1", rat x (-1), .tup [.int x], .tup []] (takeV (takeS s 9) 12) = some d := by
      have := atI_nat hd
      rwa [Int.toNat_of_nonneg b0] at this
    simp [m__law_odd, mDef, b__law_odd, startE, mSeq, mSet, mCall, mCons, mNil, mVar, mC, mOp, take_ok _ mo9, take_ok _ mo12, fI, hx, mLst, mTup, fMul, m1, fAdd, Mir.sizeOk, mUn, fNeg, mRet, fIx, ha]
  have hc : ∀ k : Nat, k < 12 → (takeV (takeS s 9) 12).toNat = k → ∃ (d : Dt) (s' : Hd), m__law_odd [.hnd] s = .ok d s' ∧ ∀ s2, m_is_ratio [d] s2 = .ok (.bl false) s2 := by
    intro k hk e
    rw [e] at key
    have g2 : ∀ y : Int, ¬ Nat.gcd (2 * y).natAbs 2 = 1 := fun y => by
      rw [Int.natAbs_mul]
      show ¬ Nat.gcd (2 * y.natAbs) 2 = 1
      rw [Nat.gcd_comm, Nat.gcd_mul_right_right]
      decide
    match k, hk with
    | 0, _ => exact ⟨_, _, key _ rfl, isr_int x⟩
    | 1, _ => exact ⟨_, _, key _ rfl, isr_lst _⟩
    | 2, _ => exact ⟨_, _, key _ rfl, fun s2 => by rw [isr_tup]; simp⟩
    | 3, _ => exact ⟨_, _, key _ rfl, fun s2 => by rw [isr_tup]; simp [g2]⟩
    | 4, _ => exact ⟨_, _, key _ rfl, isr_len _ (by simp)⟩
    | 5, _ => exact ⟨_, _, key _ rfl, isr_b1 _ _⟩
    | 6, _ => exact ⟨_, _, key _ rfl, isr_b2 _ _⟩
    | 7, _ => exact ⟨_, _, key _ rfl, isr_non⟩
    | 8, _ => exact ⟨_, _, key _ rfl, isr_str _⟩
    | 9, _ => exact ⟨_, _, key _ rfl, fun s2 => by rw [isr_tup]; simp⟩
    | 10, _ => exact ⟨_, _, key _ rfl, isr_len _ (by simp)⟩
    | 11, _ => exact ⟨_, _, key _ rfl, isr_len _ (by simp)⟩
  exact hc _ (by omega) rfl
/-- whole numbers -/
theorem whole_ok (s : Hd) : ∃ s' : Hd, m__law_whole [.hnd] s = .ok (.bl true) s' := by
  obtain ⟨v, s1, e1, z1⟩ := wide_ok s
  have b0 : 0 ≤ takeV s1 2 := takeV_ge (by decide)
  have c0 : 0 ≤ takeV (takeS s1 2) 2 := takeV_ge (by decide)
  have h1 : v - takeV s1 2 ≤ v := by omega
  have h2 : v ≤ v + takeV (takeS s1 2) 2 := by omega
  have h3 : ¬ v + 1 ≤ v := by omega
  have h4 : ¬ v ≤ v - 1 := by omega
  refine ⟨takeS (takeS s1 2) 2, ?_⟩
  simp [m__law_whole, mDef, b__law_whole, startE, mSeq, mSet, mCall, mCons, mNil, mVar, e1, mOp, mC, take_ok _ mo2, fI, fAdd, mIfS, mOr, mNot, mTru, fTru, is_whole_int, is_whole_both, is_whole_high, is_whole_low, is_whole_bl, is_whole_tup, is_whole_non, is_whole_str, h1, h2, h3, h4, mCallK, mNext, mRet, mAndV, mNotV, mTup]
end Law


set_option Elab.async false
set_option linter.all false
set_option maxRecDepth 100000
namespace Law
open PySem PySem.Spec PyProof.Rows L2 Mir
abbrev rp (p : Int × Int) : Dt := rat p.1 p.2
def Small (rs : List (Int × Int)) : Prop := ∀ p ∈ rs, Rt 162 p.1 p.2
/-- rows of ratios are drawn -/
theorem row_loop (L : Env') (hL : ∀ d : Dt, (wipeE L [2]).set 2 (.dat d) = [.dat .hnd, .no, .dat d, .no, .no, .no]) : ∀ (ds : List Dt) (acc : List (Int × Int)) (s : Hd), Small acc → acc.length + ds.length ≤ 10 →
    ∃ (rs : List (Int × Int)) (s' : Hd), loopC (gmName 2) mYes (mCall 1 [] m__law_wide_ratio (mCons (mVar 0) mNil)) [2] ds (acc.map rp) L s = .ok (.lst (rs.map rp)) s' ∧ Small rs ∧ rs.length = acc.length + ds.length
  | [], acc, s, h, _ => ⟨acc, s, rfl, h, rfl⟩
  | d :: ds, acc, s, h, hl => by
    obtain ⟨a, b, s1, e, r⟩ := wratio_ok s
    have h' : Small (acc ++ [(a, b)]) := fun p hp => by
      rcases List.mem_append.mp hp with z | z
      · exact h p z
      · rw [List.mem_singleton.mp z]
        exact r
    simp only [List.length_cons] at hl
    obtain ⟨rs, s', e2, h2, l2⟩ := row_loop L hL ds (acc ++ [(a, b)]) s1 h' (by rw [List.length_append]; simp only [List.length_cons, List.length_nil]; omega)
    refine ⟨rs, s', ?_, h2, by rw [l2, List.length_append]; simp only [List.length_cons, List.length_nil]; omega⟩
    have sz : Mir.sizeOk (acc.map rp).length := by
      rw [List.length_map]
      show acc.length ≤ 100000
      omega
    unfold loopC
    simp only [gmName, hL, mYes, noErr, R.bind_ok, if_true, mCall, mCons, mNil, mVar, List.getElem?_cons_zero, List.append_nil, List.length_cons, List.length_nil, e, sz]
    rw [List.map_append] at e2
    exact e2
/-- sums -/
def sumF : List (Int × Int) → Int × Int → Int × Int
  | [], p => p
  | q :: r, p => sumF r (lowT (p.1 * q.2 + q.1 * p.2) (p.2 * q.2), lowB (p.1 * q.2 + q.1 * p.2) (p.2 * q.2))
theorem sum_loop (M : List Dt → Hd → R Dt) (hM : ∀ {n : Nat} {a b c d : Int}, Rs n a b c d → ∀ s, M [rat a b, rat c d] s = .ok (low (a * d + c * b) (b * d)) s) (D : Dt) : ∀ (rs : List (Int × Int)) (k : Nat) (p : Int × Int) (x : Sl) (s : Hd), k + rs.length ≤ 5 → Small rs → Rt (163 * 2 ^ k - 1) p.1 p.2 →
    ∃ x' : Sl, loopF (gmName 2) (mSet 1 (mCall 2 [] M (mCons (mVar 1) (mCons (mVar 2) mNil)))) (rs.map rp) [.dat D, .dat (rp p), x] s = .ok (.nx [.dat D, .dat (rp (sumF rs p)), x']) s
  | [], k, p, x, s, _, _, _ => ⟨x, rfl⟩
  | q :: r, k, p, x, s, hk, hs, hp => by
    simp only [List.length_cons] at hk
    have hq := hs q List.mem_cons_self
    have p2 : 1 ≤ 2 ^ k := Nat.one_le_two_pow
    have p3 : 2 ^ k ≤ 2 ^ 4 := Nat.pow_le_pow_right (by decide) (by omega)
    have rr : Rs (163 * 2 ^ k - 1) p.1 p.2 q.1 q.2 := ⟨by omega, hp.sa, hp.sb, hq.sa.mono (by omega), hq.sb.mono (by omega), by have := hp.r.pos; omega, by have := hq.r.pos; omega⟩
    have hp' : Rt (163 * 2 ^ (k + 1) - 1) (lowT (p.1 * q.2 + q.1 * p.2) (p.2 * q.2)) (lowB (p.1 * q.2 + q.1 * p.2) (p.2 * q.2)) := by
      have e : 163 * 2 ^ (k + 1) - 1 = (163 * 2 ^ k - 1) + (163 * 2 ^ k - 1) + 1 := by rw [Nat.pow_succ]; omega
      refine ⟨low_is rr.bd.1, ?_, ?_⟩
      · rw [e]
        exact ((rr.sa.mul rr.sd).add (rr.sc.mul rr.sb)).le (lowT_abs rr.bd.1)
      · rw [e]
        exact ((rr.sb.mul rr.sd).mono (Nat.le_succ _)).le (lowB_abs rr.bd.1)
    obtain ⟨x', e⟩ := sum_loop M hM D r (k + 1) (lowT (p.1 * q.2 + q.1 * p.2) (p.2 * q.2), lowB (p.1 * q.2 + q.1 * p.2) (p.2 * q.2)) (.dat (rp q)) s (by omega) (fun y hy => hs y (List.mem_cons_of_mem _ hy)) hp'
    refine ⟨x', ?_⟩
    have l := hM rr s
    rw [List.map_cons]
    unfold loopF
    simp only [gmName, List.set_cons_succ, List.set_cons_zero, mSet, mCall, mCons, mNil, mVar, List.getElem?_cons_zero, List.getElem?_cons_succ, R.bind_ok, List.append_nil, List.length_cons, List.length_nil, if_true]
    rw [l]
    exact e
theorem rt01 : Rt (163 * 2 ^ 0 - 1) 0 1 := ⟨⟨by decide, by decide⟩, by unfold Sz; decide, by unfold Sz; decide⟩
theorem sum_ok {rs : List (Int × Int)} (hl : rs.length ≤ 5) (hs : Small rs) (s : Hd) : m_sum_of [.lst (rs.map rp)] s = .ok (rp (sumF rs (0, 1))) s := by
  obtain ⟨x', e⟩ := sum_loop m_plus (fun r s => plus_ok r s) (.lst (rs.map rp)) rs 0 (0, 1) .no s (by omega) hs rt01
  refine def_rt ((seq_nx (ρ' := [.dat (.lst (rs.map rp)), .dat (rp (0, 1)), .no]) (s' := s) rfl).trans ((seq_nx (ρ' := [.dat (.lst (rs.map rp)), .dat (rp (sumF rs (0, 1))), x']) (s' := s) ?_).trans ?_))
  · rw [for_of (ds := rs.map rp) (s' := s) rfl]
    exact e
  · rfl
theorem lsum_ok {rs : List (Int × Int)} (hl : rs.length ≤ 5) (hs : Small rs) (s : Hd) : m__law_sum [.lst (rs.map rp)] s = .ok (rp (sumF rs (0, 1))) s := by
  obtain ⟨x', e⟩ := sum_loop m__law_plus (fun r s => lplus_ok r s) (.lst (rs.map rp)) rs 0 (0, 1) .no s (by omega) hs rt01
  refine def_rt ((seq_nx (ρ' := [.dat (.lst (rs.map rp)), .dat (rp (0, 1)), .no]) (s' := s) rfl).trans ((seq_nx (ρ' := [.dat (.lst (rs.map rp)), .dat (rp (sumF rs (0, 1))), x']) (s' := s) ?_).trans ?_))
  · rw [for_of (ds := rs.map rp) (s' := s) rfl]
    exact e
  · rfl
theorem sum_nil (s : Hd) : m_sum_of [.tup []] s = .ok (rat 0 1) s := rfl
/-- least and greatest -/
def leF (gt : Bool) : List (Int × Int) → Int × Int → Int × Int
  | [], p => p
  | q :: r, p => leF gt r (if (if gt then p.1 * q.2 < q.1 * p.2 else q.1 * p.2 < p.1 * q.2) then q else p)
theorem cmp_lt (x y : Int) : decide (cmpI x y < 0) = decide (x < y) := by
  unfold cmpI
  by_cases a : x < y
  · simp [a]
  · by_cases b : y < x <;> simp [a, b]
theorem cmp_gt (x y : Int) : decide (0 < cmpI x y) = decide (y < x) := by
  unfold cmpI
  by_cases a : x < y
  · have : ¬ y < x := by omega
    simp [a, this]
  · by_cases b : y < x <;> simp [a, b]
theorem rs162 {p q : Int × Int} (hp : Rt 162 p.1 p.2) (hq : Rt 162 q.1 q.2) : Rs 162 p.1 p.2 q.1 q.2 := ⟨by decide, hp.sa, hp.sb, hq.sa, hq.sb, by have := hp.r.pos; omega, by have := hq.r.pos; omega⟩
theorem least_loop (D : Dt) : ∀ (rs : List (Int × Int)) (p : Int × Int) (x : Sl) (s : Hd), Small rs → Rt 162 p.1 p.2 →
    ∃ x' : Sl, loopF (gmName 2) (mIfS (mTest (mOp fLt (mCall 2 [] m_compare (mCons (mVar 2) (mCons (mVar 1) mNil))) (mC (.int 0)))) (mSet 1 (mVar 2)) mNext) (rs.map rp) [.dat D, .dat (rp p), x] s = .ok (.nx [.dat D, .dat (rp (leF false rs p)), x']) s
  | [], p, x, s, _, _ => ⟨x, rfl⟩
  | q :: r, p, x, s, hs, hp => by
    have hq := hs q List.mem_cons_self
    have hr : Small r := fun y hy => hs y (List.mem_cons_of_mem _ hy)
    have l := compare_ok (rs162 hq hp) s
    by_cases c : q.1 * p.2 < p.1 * q.2
    · obtain ⟨x', e⟩ := least_loop D r q (.dat (rp q)) s hr hq
      refine ⟨x', ?_⟩
      have ec : cmpI (q.1 * p.2) (p.1 * q.2) < 0 := of_decide_eq_true (by rw [cmp_lt]; exact decide_eq_true c)
      rw [List.map_cons]
      unfold loopF
      simp [gmName, mIfS, mTest, mOp, mCall, mCons, mNil, mVar, mC, l, fI, ec, mSet, leF, c]
      exact e
    · obtain ⟨x', e⟩ := least_loop D r p (.dat (rp q)) s hr hp
      refine ⟨x', ?_⟩
      have ec : ¬ cmpI (q.1 * p.2) (p.1 * q.2) < 0 := of_decide_eq_false (by rw [cmp_lt]; exact decide_eq_false c)
      rw [List.map_cons]
      unfold loopF
      simp [gmName, mIfS, mTest, mOp, mCall, mCons, mNil, mVar, mC, l, fI, ec, mNext, leF, c]
      exact e
theorem great_loop (D : Dt) : ∀ (rs : List (Int × Int)) (p : Int × Int) (x : Sl) (s : Hd), Small rs → Rt 162 p.1 p.2 →
    ∃ x' : Sl, loopF (gmName 2) (mIfS (mTest (mOp fGt (mCall 2 [] m_compare (mCons (mVar 2) (mCons (mVar 1) mNil))) (mC (.int 0)))) (mSet 1 (mVar 2)) mNext) (rs.map rp) [.dat D, .dat (rp p), x] s = .ok (.nx [.dat D, .dat (rp (leF true rs p)), x']) s
  | [], p, x, s, _, _ => ⟨x, rfl⟩
  | q :: r, p, x, s, hs, hp => by
    have hq := hs q List.mem_cons_self
    have hr : Small r := fun y hy => hs y (List.mem_cons_of_mem _ hy)
    have l := compare_ok (rs162 hq hp) s
    by_cases c : p.1 * q.2 < q.1 * p.2
    · obtain ⟨x', e⟩ := great_loop D r q (.dat (rp q)) s hr hq
      refine ⟨x', ?_⟩
      have ec : 0 < cmpI (q.1 * p.2) (p.1 * q.2) := of_decide_eq_true (by rw [cmp_gt]; exact decide_eq_true c)
      rw [List.map_cons]
      unfold loopF
      simp [gmName, mIfS, mTest, mOp, mCall, mCons, mNil, mVar, mC, l, fI, ec, mSet, leF, c]
      exact e
    · obtain ⟨x', e⟩ := great_loop D r p (.dat (rp q)) s hr hp
      refine ⟨x', ?_⟩
      have ec : ¬ 0 < cmpI (q.1 * p.2) (p.1 * q.2) := of_decide_eq_false (by rw [cmp_gt]; exact decide_eq_false c)
      rw [List.map_cons]
      unfold loopF
      simp [gmName, mIfS, mTest, mOp, mCall, mCons, mNil, mVar, mC, l, fI, ec, mNext, leF, c]
      exact e
theorem least_ok {p : Int × Int} {rs : List (Int × Int)} (hs : Small (p :: rs)) (s : Hd) : m_least_of [.tup ((p :: rs).map rp)] s = .ok (rp (leF false (p :: rs) p)) s := by
  obtain ⟨x', e⟩ := least_loop (.tup ((p :: rs).map rp)) (p :: rs) p .no s hs (hs p List.mem_cons_self)
  have e0 : (mSet 1 (mOp fIx (mVar 0) (mC (.int 0)))) (startE 3 [.tup ((p :: rs).map rp)]) s = .ok (.nx [.dat (.tup ((p :: rs).map rp)), .dat (rp p), .no]) s := by
    have ha : atI ((p :: rs).map rp) 0 = some (rp p) := atI_nat (j := 0) rfl
    simp only [mSet, mOp, mVar, startE, mC, fIx, R.bind_ok]
    simp only [List.map_cons] at ha
    simp [ha, fIx]
  refine def_rt ((seq_nx e0).trans ((seq_nx (ρ' := [.dat (.tup ((p :: rs).map rp)), .dat (rp (leF false (p :: rs) p)), x']) (s' := s) ?_).trans ?_))
  · rw [for_of (ds := (p :: rs).map rp) (s' := s) rfl]
    exact e
  · rfl
theorem great_ok {p : Int × Int} {rs : List (Int × Int)} (hs : Small (p :: rs)) (s : Hd) : m_greatest_of [.lst ((p :: rs).map rp)] s = .ok (rp (leF true (p :: rs) p)) s := by
  obtain ⟨x', e⟩ := great_loop (.lst ((p :: rs).map rp)) (p :: rs) p .no s hs (hs p List.mem_cons_self)
  have e0 : (mSet 1 (mOp fIx (mVar 0) (mC (.int 0)))) (startE 3 [.lst ((p :: rs).map rp)]) s = .ok (.nx [.dat (.lst ((p :: rs).map rp)), .dat (rp p), .no]) s := by
    have ha : atI ((p :: rs).map rp) 0 = some (rp p) := atI_nat (j := 0) rfl
    simp only [mSet, mOp, mVar, startE, mC, fIx, R.bind_ok]
    simp only [List.map_cons] at ha
    simp [ha, fIx]
  refine def_rt ((seq_nx e0).trans ((seq_nx (ρ' := [.dat (.lst ((p :: rs).map rp)), .dat (rp (leF true (p :: rs) p)), x']) (s' := s) ?_).trans ?_))
  · rw [for_of (ds := (p :: rs).map rp) (s' := s) rfl]
    exact e
  · rfl
end Law


set_option Elab.async false
set_option linter.all false
set_option maxRecDepth 100000
namespace Law
open PySem PySem.Spec PyProof.Rows L2 Mir
/-! ### the order of ratios -/
def Le (p q : Int × Int) : Prop := p.1 * q.2 ≤ q.1 * p.2
theorem Le.refl (p : Int × Int) : Le p p := Int.le_refl _
theorem Le.trans {p q r : Int × Int} (hp : 0 < p.2) (hq : 0 < q.2) (hr : 0 < r.2) (a : Le p q) (b : Le q r) : Le p r := by
  unfold Le at *
  have a' := Int.mul_le_mul_of_nonneg_right a (Int.le_of_lt hr)
  have b' := Int.mul_le_mul_of_nonneg_right b (Int.le_of_lt hp)
  have e1 : p.1 * q.2 * r.2 = p.1 * r.2 * q.2 := by rw [Int.mul_assoc, Int.mul_comm q.2, ← Int.mul_assoc]
  have e2 : q.1 * p.2 * r.2 = q.1 * r.2 * p.2 := by rw [Int.mul_assoc, Int.mul_comm p.2, ← Int.mul_assoc]
  have e3 : r.1 * q.2 * p.2 = r.1 * p.2 * q.2 := by rw [Int.mul_assoc, Int.mul_comm q.2, ← Int.mul_assoc]
  rw [e1, e2] at a'
  rw [e3] at b'
  exact Int.le_of_mul_le_mul_right (Int.le_trans a' b') hq
def Pos (rs : List (Int × Int)) : Prop := ∀ p ∈ rs, 0 < p.2
theorem least_is : ∀ (rs : List (Int × Int)) (p : Int × Int), Pos rs → 0 < p.2 → leF false rs p ∈ p :: rs ∧ Le (leF false rs p) p ∧ ∀ q ∈ rs, Le (leF false rs p) q
  | [], p, _, _ => ⟨List.mem_cons_self, Le.refl p, fun q h => absurd h List.not_mem_nil⟩
  | q :: r, p, h, hp => by
    have hq := h q List.mem_cons_self
    have hr : Pos r := fun y hy => h y (List.mem_cons_of_mem _ hy)
    by_cases c : q.1 * p.2 < p.1 * q.2
    · have e : leF false (q :: r) p = leF false r q := by simp [leF, c]
      obtain ⟨m, l, k⟩ := least_is r q hr hq
      have hm : 0 < (leF false r q).2 := by
        rcases List.mem_cons.mp m with z | z
        · rw [z]
          exact hq
        · exact hr _ z
      rw [e]
      refine ⟨List.mem_cons_of_mem _ m, Le.trans hm hq hp l (Int.le_of_lt c), fun y hy => ?_⟩
      rcases List.mem_cons.mp hy with z | z
      · rw [z]
        exact l
      · exact k y z
    · have e : leF false (q :: r) p = leF false r p := by simp [leF, c]
      obtain ⟨m, l, k⟩ := least_is r p hr hp
      have hm : 0 < (leF false r p).2 := by
        rcases List.mem_cons.mp m with z | z
        · rw [z]
          exact hp
        · exact hr _ z
      rw [e]
      refine ⟨?_, l, fun y hy => ?_⟩
      · rcases List.mem_cons.mp m with z | z
        · exact List.mem_cons.mpr (.inl z)
        · exact List.mem_cons_of_mem _ (List.mem_cons_of_mem _ z)
      · rcases List.mem_cons.mp hy with z | z
        · rw [z]
          exact Le.trans hm hp hq l (Int.not_lt.mp c)
        · exact k y z
theorem great_is : ∀ (rs : List (Int × Int)) (p : Int × Int), Pos rs → 0 < p.2 → leF true rs p ∈ p :: rs ∧ Le p (leF true rs p) ∧ ∀ q ∈ rs, Le q (leF true rs p)
  | [], p, _, _ => ⟨List.mem_cons_self, Le.refl p, fun q h => absurd h List.not_mem_nil⟩
  | q :: r, p, h, hp => by
    have hq := h q List.mem_cons_self
    have hr : Pos r := fun y hy => h y (List.mem_cons_of_mem _ hy)
    by_cases c : p.1 * q.2 < q.1 * p.2
    · have e : leF true (q :: r) p = leF true r q := by simp [leF, c]
      obtain ⟨m, l, k⟩ := great_is r q hr hq
      have hm : 0 < (leF true r q).2 := by
        rcases List.mem_cons.mp m with z | z
        · rw [z]
          exact hq
        · exact hr _ z
      rw [e]
      refine ⟨List.mem_cons_of_mem _ m, Le.trans hp hq hm (Int.le_of_lt c) l, fun y hy => ?_⟩
      rcases List.mem_cons.mp hy with z | z
      · rw [z]
        exact l
      · exact k y z
    · have e : leF true (q :: r) p = leF true r p := by simp [leF, c]
      obtain ⟨m, l, k⟩ := great_is r p hr hp
      have hm : 0 < (leF true r p).2 := by
        rcases List.mem_cons.mp m with z | z
        · rw [z]
          exact hp
        · exact hr _ z
      rw [e]
      refine ⟨?_, l, fun y hy => ?_⟩
      · rcases List.mem_cons.mp m with z | z
        · exact List.mem_cons.mpr (.inl z)
        · exact List.mem_cons_of_mem _ (List.mem_cons_of_mem _ z)
      · rcases List.mem_cons.mp hy with z | z
        · rw [z]
          exact Le.trans hq hp hm (Int.not_lt.mp c) l
        · exact k y z
/-! ### rows of ratios compared -/
abbrev rpy (p : Int × Int) : PyData := .tuple [.int p.1, .int p.2]
theorem row_py : ∀ rs : List (Int × Int), toPyA (rs.map rp) = some (rs.map rpy)
  | [] => rfl
  | p :: rs => by
    have h := row_py rs
    simp [toPyA, toPy, h]
theorem row_lay : ∀ rs : List (Int × Int), PyData.canLayAll0 (rs.map rpy) = true
  | [] => rfl
  | p :: rs => by
    have h := row_lay rs
    simp [PyData.canLayAll0, PyData.canLay0, h]
theorem row_deep : ∀ rs : List (Int × Int), PyData.depthAll (rs.map rpy) ≤ 2
  | [] => by simp [PyData.depthAll]
  | p :: rs => by
    have h := row_deep rs
    exact Nat.max_le.mpr ⟨Nat.le_of_ble_eq_true rfl, h⟩
theorem row_ok (rs : List (Int × Int)) : pyOk (.lst (rs.map rp)) = some (.list (rs.map rpy)) := by
  have d := row_deep rs
  have hd : PyData.depth (.list (rs.map rpy)) ≤ 64 := Nat.succ_le_of_lt (Nat.lt_of_le_of_lt d (by decide))
  have e : SeqAt.shaped (.list (rs.map rpy)) = true := Bool.and_eq_true_iff.mpr ⟨row_lay rs, decide_eq_true hd⟩
  simp only [pyOk, toPy, row_py, Option.map_some, Option.bind_some, e, if_true]
theorem in_row {rs : List (Int × Int)} {p : Int × Int} (h : p ∈ rs) : fNotIn (rp p) (.lst (rs.map rp)) = some (.bl false) := by
  have e : ((rs.map rpy).any fun z => PyData.eqv z (.tuple [.int p.1, .int p.2])) = true := by
    rw [List.any_eq_true]
    exact ⟨rpy p, List.mem_map_of_mem h, by simp [PyData.eqv, PyData.eqvAll]⟩
  simp only [fNotIn, fInB, py_rat, row_ok, Option.bind_some, e, Option.map_some, Bool.not_true]
theorem below_ok {p q : Int × Int} (hp : Rt 162 p.1 p.2) (hq : Rt 162 q.1 q.2) (s : Hd) : m__law_below [rp p, rp q] s = .ok (.bl (decide (p.1 * q.2 < q.1 * p.2))) s := by
  obtain ⟨m1, m2, m3, m4, m5, m6⟩ := sz_ok (n := 162) (by decide) hp.sa hp.sb hq.sa hq.sb
  simp [m__law_below, mDef, b__law_below, startE, mRet, mCons, mNil, mOp, mVar, mC, fIx, at0, at1, fMul, fI, m1, m2]
/-- no ratio of the row lies below the least or above the greatest -/
theorem none_loop (D : Dt) {l g : Int × Int} (hl : Rt 162 l.1 l.2) (hg : Rt 162 g.1 g.2) (a b : Sl) : ∀ (rs : List (Int × Int)) (s : Hd), Small rs → (∀ q ∈ rs, Le l q) → (∀ q ∈ rs, Le q g) →
    loopC (gmName 5) (mOr (mTru (mCall 2 [] m__law_below (mCons (mVar 5) (mCons (mVar 3) mNil)))) (mTru (mCall 2 [] m__law_below (mCons (mVar 4) (mCons (mVar 5) mNil))))) (mC (.int 1)) [5] (rs.map rp) [] [a, .dat D, b, .dat (rp l), .dat (rp g), .no] s = .ok (.lst []) s
  | [], s, _, _, _ => rfl
  | q :: r, s, hs, h1, h2 => by
    have hq := hs q List.mem_cons_self
    have i := none_loop D hl hg a b r s (fun y hy => hs y (List.mem_cons_of_mem _ hy)) (fun y hy => h1 y (List.mem_cons_of_mem _ hy)) (fun y hy => h2 y (List.mem_cons_of_mem _ hy))
    have c1 : ¬ q.1 * l.2 < l.1 * q.2 := Int.not_lt.mpr (h1 q List.mem_cons_self)
    have c2 : ¬ g.1 * q.2 < q.1 * g.2 := Int.not_lt.mpr (h2 q List.mem_cons_self)
    have b1 := below_ok hq hl s
    have b2 := below_ok hg hq s
    rw [List.map_cons]
    unfold loopC
    simp [gmName, wipeE, mOr, mTru, mCall, mCons, mNil, mVar, b1, b2, c1, c2, fTru, noErr]
    exact i
end Law


set_option Elab.async false
set_option linter.all false
set_option maxRecDepth 100000
namespace Law
open PySem PySem.Spec PyProof.Rows L2 Mir
theorem rows_ok (s : Hd) : ∃ s' : Hd, m__law_rows [.hnd] s = .ok (.bl true) s' := by
  have b0 : 0 ≤ takeV s 5 := takeV_ge (by decide)
  have b1 : takeV s 5 < 5 := takeV_lt (by decide)
  have hl : (rangeD 0 (1 + takeV s 5).toNat).length = (1 + takeV s 5).toNat := by
    unfold rangeD
    rw [List.length_map, List.length_range]
  have hr : rngOk (1 + takeV s 5) := by
    unfold rngOk
    omega
  obtain ⟨rs, s1, e1, sm, len⟩ := row_loop [.dat .hnd, .no, .no, .no, .no, .no] (fun d => rfl) (rangeD 0 (1 + takeV s 5).toNat) [] (takeS s 5) (fun p hp => absurd hp List.not_mem_nil) (by
    rw [hl]
    simp only [List.length_nil]
    omega)
  rw [hl] at len
  simp only [List.length_nil] at len
  match rs, sm, len, e1 with
  | [], _, len, _ =>
    simp only [List.length_nil] at len
    omega
  | p :: rs, sm, len, e1 =>
    refine ⟨s1, ?_⟩
    have l5 : (p :: rs).length ≤ 5 := by omega
    have pos : Pos (p :: rs) := fun y hy => (sm y hy).r.pos
    have hp := sm p List.mem_cons_self
    obtain ⟨m1, _, k1⟩ := least_is (p :: rs) p pos hp.r.pos
    obtain ⟨m2, _, k2⟩ := great_is (p :: rs) p pos hp.r.pos
    have i1 : leF false (p :: rs) p ∈ p :: rs := by
      rcases List.mem_cons.mp m1 with z | z
      · rw [z]
        exact List.mem_cons_self
      · exact z
    have i2 : leF true (p :: rs) p ∈ p :: rs := by
      rcases List.mem_cons.mp m2 with z | z
      · rw [z]
        exact List.mem_cons_self
      · exact z
    have n1 := in_row i1
    have n2 := in_row i2
    have o1 := least_ok sm s1
    have o2 := great_ok sm s1
    have u1 := sum_ok l5 sm s1
    have u2 := lsum_ok l5 sm s1
    have fin := none_loop (.lst ((p :: rs).map rp)) (sm _ i1) (sm _ i2) (.dat .hnd) .no (p :: rs) s1 sm k1 k2
    generalize leF false (p :: rs) p = l at *
    generalize leF true (p :: rs) p = g at *
    generalize sumF (p :: rs) (0, 1) = w at *
    have sz : ((p :: rs).map rp).length ≤ 100000 := by
      rw [List.length_map]
      omega
    generalize hR : (p :: rs).map rp = R at *
    have a1 : (mSet 1 (mLc (gmName 2) (mRng1 (mOp fAdd (mC (.int 1)) (mCall 2 [] m__law_take (mCons (mVar 0) (mCons (mC (.int 5)) mNil))))) mYes (mCall 1 [] m__law_wide_ratio (mCons (mVar 0) mNil)) [2])) (startE 6 [.hnd]) s = .ok (.nx [.dat .hnd, .dat (.lst R), .no, .no, .no, .no]) s1 := by
      have e1' : loopC (gmName 2) mYes (mCall 1 [] m__law_wide_ratio (mCons (mVar 0) mNil)) [2] (rangeD 0 (1 + takeV s 5).toNat) [] [.dat .hnd, .no, .no, .no, .no, .no] (takeS s 5) = .ok (.lst R) s1 := e1
      simp [mSet, mLc, mRng1, mOp, mC, mCall, mCons, mNil, mVar, startE, take_ok _ mo5, fI, fAdd, hr, e1']
    refine def_rt ((seq_nx a1).trans ((seq_nx (ρ' := [.dat .hnd, .dat (.lst R), .no, .no, .no, .no]) (s' := s1) ?_).trans ((seq_nx (ρ' := [.dat .hnd, .dat (.lst R), .no, .dat (rp l), .dat (rp g), .no]) (s' := s1) ?_).trans ((seq_nx (ρ' := [.dat .hnd, .dat (.lst R), .no, .dat (rp l), .dat (rp g), .no]) (s' := s1) ?_).trans ?_))))
    · simp [mIfS, mOr, mNot, mTru, mCall, mCons, mNil, mVar, u1, u2, plain_same, fTru, mTup, sum_nil, mC, mNext]
    · simp [mAsg, gmSeq, gmCons, gmNil, gmName, mTup, mCons, mNil, mCall, mCB, fTupC, mVar, o1, o2, sz]
    · simp [mIfS, mOr, mTest, mOp, mVar, n1, n2, mNext]
    · simp [mRet, mNotV, mLc, mSeqI, mVar, fin, fTru]
end Law


set_option Elab.async false
set_option linter.all false
set_option maxRecDepth 100000
namespace Law
open PySem PySem.Spec PyProof.Rows L2 Mir
theorem ne_str (x : Str) (h : SeqAt.shaped (.str x) = true) : fNe (.str x) (.str x) = some (.bl false) := by simp [fNe, fEqB, py_str x h, PyData.eqv]
theorem ne_bottom : fNe (.str "bottom") (.str "bottom") = some (.bl false) := ne_str _ (by decide +kernel)
theorem ne_top : fNe (.str "top") (.str "top") = some (.bl false) := ne_str _ (by decide +kernel)
theorem ne_zero : fNe (.str "zero") (.str "zero") = some (.bl false) := ne_str _ (by decide +kernel)
theorem ne_int (i : Int) : fNe (.int i) (.int i) = some (.bl false) := by simp [fNe, eq_int]
theorem ne_rat (a b : Int) : fNe (rat a b) (rat a b) = some (.bl false) := by simp [fNe, eq_rat]
theorem ne_low (a b : Int) : fNe (low a b) (low a b) = some (.bl false) := ne_rat _ _
theorem consts : fNe (.tup [rat 0 1, rat 1 1, rat 1 2]) (.tup [rat 0 1, rat 1 1, rat 1 2]) = some (.bl false) := rfl
theorem sgcd_mul {t b f : Int} (h : 0 < f) : sgcd (t * f) (b * f) = sgcd t b * f := by
  have e : Nat.gcd (t * f).natAbs (b * f).natAbs = Nat.gcd t.natAbs b.natAbs * f.natAbs := by rw [Int.natAbs_mul, Int.natAbs_mul, Nat.gcd_mul_right]
  have hf : ((f.natAbs : Nat) : Int) = f := by omega
  unfold sgcd
  rw [e, Int.natCast_mul, hf]
  by_cases c : b < 0
  · rw [if_pos c, if_pos (Int.mul_neg_of_neg_of_pos c h), Int.neg_mul]
  · rw [if_neg c, if_neg (Int.not_lt.mpr (Int.mul_nonneg (Int.not_lt.mp c) (Int.le_of_lt h)))]
theorem low_mul {t b f : Int} (hb : b ≠ 0) (h : 0 < f) : low (t * f) (b * f) = low t b := by
  have g0 : sgcd t b * f ≠ 0 := Int.mul_ne_zero (sgcd_ne hb) (Int.ne_of_gt h)
  have e1 : lowT (t * f) (b * f) = lowT t b := by
    have x := low_t (t := t * f) (b := b * f)
    rw [sgcd_mul h] at x
    refine Int.eq_of_mul_eq_mul_right g0 (x.trans ?_)
    rw [← Int.mul_assoc, low_t]
  have e2 : lowB (t * f) (b * f) = lowB t b := by
    have x := low_b (t := t * f) (b := b * f)
    rw [sgcd_mul h] at x
    refine Int.eq_of_mul_eq_mul_right g0 (x.trans ?_)
    rw [← Int.mul_assoc, low_b]
  unfold low
  rw [e1, e2]
theorem low_one (t : Int) : low t 1 = rat t 1 := by
  have e : sgcd t 1 = 1 := by
    unfold sgcd
    simp
  have x := low_t (t := t) (b := 1)
  have y := low_b (t := t) (b := 1)
  rw [e, Int.mul_one] at x y
  unfold low
  rw [x, y]
theorem cmp_neg (x y : Int) : cmpI y x = -cmpI x y := by
  unfold cmpI
  by_cases a : x < y
  · have : ¬ y < x := by omega
    simp [a, this]
  · by_cases b : y < x <;> simp [a, b]
/-- what is neither top nor bottom -/
theorem thing_ok (t : Int) (s : Hd) : ∃ (d : Dt) (s' : Hd), (∀ ρ : Env', ρ[1]? = some (.dat .hnd) → ρ[2]? = some (.dat (.int t)) →
    (mOp fIx (mLst (mCons (mC .non) (mCons (mC (.bl true)) (mCons (mC (.str "1")) (mCons (mTup (mCons (mVar 2) (mCons (mC (.int 1)) mNil))) (mCons (mLst (mCons (mVar 2) mNil)) mNil)))))) (mCall 2 [] m__law_take (mCons (mVar 1) (mCons (mC (.int 5)) mNil)))) ρ s = .ok d s') ∧ ∀ s2, m_is_whole [d, .non, .non] s2 = .ok (.bl false) s2 := by
  have b0 : 0 ≤ takeV s 5 := takeV_ge (by decide)
  have b1 : takeV s 5 < 5 := takeV_lt (by decide)
  have key : ∀ d, [Dt.non, .bl true, .str "1", .tup [.int t, .int 1], .lst [.int t]][(takeV s 5).toNat]? = some d → (∀ ρ : Env', ρ[1]? = some (.dat .hnd) → ρ[2]? = some (.dat (.int t)) →
    (mOp fIx (mLst (mCons (mC .non) (mCons (mC (.bl true)) (mCons (mC (.str "1")) (mCons (mTup (mCons (mVar 2) (mCons (mC (.int 1)) mNil))) (mCons (mLst (mCons (mVar 2) mNil)) mNil)))))) (mCall 2 [] m__law_take (mCons (mVar 1) (mCons (mC (.int 5)) mNil)))) ρ s = .ok d (takeS s 5)) := by
    intro d hd ρ h1 h2
    have ha : atI [Dt.non, .bl true, .str "1", .tup [.int t, .int 1], .lst [.int t]] (takeV s 5) = some d := by
      have := atI_nat hd
      rwa [Int.toNat_of_nonneg b0] at this
    simp [mOp, mLst, mTup, mCall, mCons, mNil, mVar, mC, h1, h2, take_ok _ mo5, fIx, ha]
  have hv : (takeV s 5).toNat = 0 ∨ (takeV s 5).toNat = 1 ∨ (takeV s 5).toNat = 2 ∨ (takeV s 5).toNat = 3 ∨ (takeV s 5).toNat = 4 := by omega
  rcases hv with e | e | e | e | e <;> rw [e] at key
  · exact ⟨_, _, key _ rfl, is_whole_non _ _⟩
  · exact ⟨_, _, key _ rfl, is_whole_bl _ _ _⟩
  · exact ⟨_, _, key _ rfl, is_whole_str _ _ _⟩
  · exact ⟨_, _, key _ rfl, is_whole_tup _ _ _⟩
  · exact ⟨_, _, key _ rfl, is_whole_lst _ _ _⟩
/-- a bottom that is not 0 -/
theorem bottom_ok (t b : Int) (hb : Sz 160 b) (s : Hd) : ∃ (b' : Int) (s' : Hd), b' ≠ 0 ∧ Sz 160 b' ∧
    (mIfS (mTest (mOp fEq (mVar 3) (mC (.int 0)))) (mSeq (mIfS (mTest (mOp fNe (mCall 2 [] m__law_refused (mCons (mVar 2) (mCons (mVar 3) mNil))) (mC (.str "bottom")))) (mRet (mC (.bl false))) mNext)
    (mSet 3 (mOp fAdd (mC (.int 1)) (mCall 2 [] m__law_take (mCons (mVar 1) (mCons (mC (.int 9)) mNil)))))) mNext) [.no, .dat .hnd, .dat (.int t), .dat (.int b), .no, .no, .no, .no, .no, .no] s = .ok (.nx [.no, .dat .hnd, .dat (.int t), .dat (.int b'), .no, .no, .no, .no, .no, .no]) s' := by
  by_cases c : b = 0
  · have b0 : 0 ≤ takeV s 9 := takeV_ge (by decide)
    have b1 : takeV s 9 < 9 := takeV_lt (by decide)
    have r := refused_of (mk_bot (t := t) (e := .int 0) (.inr rfl) s)
    have e0 : fEqB (.int 0) (.int 0) = some true := by rw [eq_int]; rfl
    refine ⟨1 + takeV s 9, takeS s 9, by omega, ?_, ?_⟩
    · refine Sz.mono (m := 4) ?_ (by decide)
      unfold Sz
      omega
    · rw [c]
      simp [mIfS, mTest, mOp, mVar, mC, fEq, e0, mSeq, mCall, mCons, mNil, r, ne_bottom, mNext, mSet, take_ok _ mo9, fI, fAdd]
  · exact ⟨b, s, c, hb, by simp [mIfS, mTest, mOp, mVar, mC, fEq, eq_int, c, mNext]⟩
/-- the second ratio is now and then the first one -/
theorem second_ok (t b f : Int) (d : Dt) (p q : Int × Int) (hp : Rt 162 p.1 p.2) (hq : Rt 162 q.1 q.2) (s : Hd) : ∃ (r : Int × Int) (s' : Hd), Rt 162 r.1 r.2 ∧
    (mIfS (mTest (mOp fEq (mCall 2 [] m__law_take (mCons (mVar 1) (mCons (mC (.int 6)) mNil))) (mC (.int 0)))) (mSet 7 (mVar 6)) mNext) [.no, .dat .hnd, .dat (.int t), .dat (.int b), .dat (.int f), .dat d, .dat (rp p), .dat (rp q), .no, .no] s = .ok (.nx [.no, .dat .hnd, .dat (.int t), .dat (.int b), .dat (.int f), .dat d, .dat (rp p), .dat (rp r), .no, .no]) s' := by
  by_cases c : takeV s 6 = 0
  · have e0 : fEqB (.int 0) (.int 0) = some true := by rw [eq_int]; rfl
    exact ⟨p, takeS s 6, hp, by simp [mIfS, mTest, mOp, mVar, mC, mCall, mCons, mNil, take_ok _ mo6, fI, fEq, c, e0, mSet]⟩
  · exact ⟨q, takeS s 6, hq, by simp [mIfS, mTest, mOp, mVar, mC, mCall, mCons, mNil, take_ok _ mo6, fI, fEq, eq_int, c, mNext]⟩
end Law


set_option Elab.async false
set_option linter.all false
set_option maxRecDepth 100000
namespace Law
open PySem PySem.Spec PyProof.Rows L2 Mir
theorem rt_nx {a b : MS} {ρ ρ' : Env'} {s s' : Hd} {X : Hd → Prop} (h : a ρ s = .ok (.nx ρ') s') (k : ∃ s2, b ρ' s' = .ok (.rt (.bl true)) s2) : ∃ s2, mSeq a b ρ s = .ok (.rt (.bl true)) s2 := by
  obtain ⟨s2, e⟩ := k
  exact ⟨s2, (seq_nx h).trans e⟩
theorem over_part (p q : Int × Int) (hp : Rt 162 p.1 p.2) (hq : Rt 162 q.1 q.2) (s : Hd) : ∃ d : Dt, m__law_divided [rp p, rp q] s = .ok d s ∧ ∀ ρ : Env', ρ[6]? = some (.dat (rp p)) → ρ[7]? = some (.dat (rp q)) → ρ[8]? = some (.dat d) →
    (mIfS (mOr (mTest (mOp fNe (mVar 8) (mIf (mTru (mOp fIx (mVar 7) (mC (.int 0)))) (mCall 2 [] m__law_over (mCons (mVar 6) (mCons (mVar 7) mNil))) (mC (.str "zero"))))) (mAnd (mTru (mOp fIx (mVar 7) (mC (.int 0)))) (mNot (mTru (mCall 2 [] m__law_plain (mCons (mVar 8) (mCons (mVar 8) mNil))))))) (mRet (mC (.bl false))) mNext) ρ s = .ok (.nx ρ) s := by
  obtain ⟨c, e⟩ := q
  have r := rs162 hp hq
  by_cases h0 : c = 0
  · have he : e = 1 := by
      have p := hq.r.pos
      have g := hq.r.co
      rw [h0] at g
      simp at g
      show e = 1
      have p' : 0 < e := p
      omega
    rw [h0, he]
    refine ⟨_, divided_zero s, fun ρ h6 h7 h8 => ?_⟩
    simp [mIfS, mOr, mTest, mOp, mIf, mTru, mVar, mC, h6, h7, h8, fIx, at0, fTru, ne_zero, mAnd, mNext]
  · have u : ((c != 0) : Bool) = true := by simp [h0]
    refine ⟨_, divided_ok r h0 s, fun ρ h6 h7 h8 => ?_⟩
    have o := lover_ok r h0 s
    have pl := plain_same (lowT (p.1 * e) (p.2 * c)) (lowB (p.1 * e) (p.2 * c)) s
    have ne := ne_rat (lowT (p.1 * e) (p.2 * c)) (lowB (p.1 * e) (p.2 * c))
    simp [mIfS, mOr, mTest, mOp, mIf, mTru, mVar, mC, h6, h7, h8, fIx, at0, fTru, mCall, mCons, mNil, o, low, ne, mAnd, mNot, pl, h0, mNext]
theorem math (s : Hd) : ∃ s' : Hd, b_law (lawE 8) s = .ok (.rt (.bl true)) s' := by
  obtain ⟨t, s1, e1, z1⟩ := wide_ok s
  obtain ⟨b, s2, e2, z2⟩ := wide_ok s1
  obtain ⟨b', s3, h3, z3, e3⟩ := bottom_ok t b z2 s2
  have f0 : 0 ≤ takeV s3 30 := takeV_ge (by decide)
  have f1 : takeV s3 30 < 30 := takeV_lt (by decide)
  have hf : (0 : Int) < 1 + takeV s3 30 := by omega
  have zf : Sz 5 (1 + takeV s3 30) := by
    unfold Sz
    omega
  generalize hF : 1 + takeV s3 30 = f at *
  obtain ⟨d, s5, e5, w5⟩ := thing_ok t (takeS s3 30)
  have l1 := ratio_ok (t := t) h3 (z3.mono (by decide)) (takeS s3 30)
  have l2 := mk_ok (t := t * f) (b := b' * f) (Int.mul_ne_zero h3 (by omega)) ((z3.mul zf).mono (by decide)) (takeS s3 30)
  rw [low_mul h3 hf] at l2
  have l3 := mk_ok (t := t) (b := 1) (by decide) (by unfold Sz; decide) (takeS s3 30)
  rw [low_one] at l3
  have l4 := ratio_ok (t := t) h3 (z3.mono (by decide)) s5
  have x1 := refused_of (mk_top (d := d) (e := .int 0) w5 s5)
  have x2 := refused_of (mk_bot (t := t) (e := d) (.inl w5) s5)
  have x3 := refused_of (mk_bot (t := t) (e := .int 0) (.inr rfl) s5)
  obtain ⟨c, e, s7, e7, r7⟩ := wratio_ok s5
  have r6 : Rt 162 (lowT t b') (lowB t b') := ⟨low_is h3, (z1.le (lowT_abs h3)).mono (by decide), (z3.le (lowB_abs h3)).mono (by decide)⟩
  have pl5 := plain_same (lowT t b') (lowB t b') (takeS s3 30)
  have plt := plain_same t 1 (takeS s3 30)
  have mu1 : MulOk t f := MulOk.of z1 zf (by decide)
  have mu2 : MulOk b' f := MulOk.of z3 zf (by decide)
  obtain ⟨q, s8, r8, e8⟩ := second_ok t b' f d (lowT t b', lowB t b') (c, e) r6 r7 s7
  unfold low at l1 l2 l4
  generalize lowT t b' = a at *
  generalize lowB t b' = g at *
  have r := rs162 (p := (a, g)) (q := q) r6 r8
  have r' := rs162 (p := q) (q := (a, g)) r8 r6
  obtain ⟨d8, e9, k9⟩ := over_part (a, g) q r6 r8 s8
  obtain ⟨d17, s9, e17, k17⟩ := odd_ok s8
  obtain ⟨s10, e18⟩ := rows_ok s9
  obtain ⟨s11, e19⟩ := whole_ok s10
  unfold b_law
  refine rt_nx (X := fun _ => True) (ρ' := lawE 8) (s' := s) ?_ (rt_nx (X := fun _ => True) (ρ' := [.no, .dat .hnd, .dat (.int t), .dat (.int b), .no, .no, .no, .no, .no, .no]) (s' := s2) ?_ (rt_nx (X := fun _ => True) e3 ?_))
  · simp [mIfS, mTest, mOp, mTup, mCons, mNil, mC, consts, mNext]
  · simp [mPar, mCons, mNil, mCall, mVar, lawE, e1, e2]
  refine rt_nx (X := fun _ => True) (ρ' := [.no, .dat .hnd, .dat (.int t), .dat (.int b'), .dat (.int f), .no, .no, .no, .no, .no]) (s' := takeS s3 30) ?_ (rt_nx (X := fun _ => True) (ρ' := [.no, .dat .hnd, .dat (.int t), .dat (.int b'), .dat (.int f), .no, .no, .no, .no, .no]) (s' := takeS s3 30) ?_ (rt_nx (X := fun _ => True) (ρ' := [.no, .dat .hnd, .dat (.int t), .dat (.int b'), .dat (.int f), .dat d, .no, .no, .no, .no]) (s' := s5) ?_ (rt_nx (X := fun _ => True) (ρ' := [.no, .dat .hnd, .dat (.int t), .dat (.int b'), .dat (.int f), .dat d, .no, .no, .no, .no]) (s' := s5) ?_ ?_)))
  · simp [mSet, mOp, mC, mCall, mCons, mNil, mVar, take_ok _ mo30, fI, fAdd, hF]
  · simp [mIfS, mOr, mNot, mTru, mCall, mCons, mNil, mVar, mOp, fMul, fI, mu1, mu2, l1, l2, l3, pl5, fTru, mTup, mC, plt, mNext]
  · simp only [mSet, e5 [.no, .dat .hnd, .dat (.int t), .dat (.int b'), .dat (.int f), .no, .no, .no, .no, .no] rfl rfl, R.bind_ok, List.set_cons_succ, List.set_cons_zero]
  · simp [mIfS, mOr, mTest, mOp, mCall, mCons, mNil, mVar, mC, x1, x2, x3, ne_top, ne_bottom, mNext]
  refine rt_nx (X := fun _ => True) (ρ' := [.no, .dat .hnd, .dat (.int t), .dat (.int b'), .dat (.int f), .dat d, .dat (rat a g), .dat (rat c e), .no, .no]) (s' := s7) ?_ (rt_nx (X := fun _ => True) e8 ?_)
  · simp [mPar, mCons, mNil, mCall, mVar, l4, e7]
  obtain ⟨y, z⟩ := q
  have k9' := k9 [.no, .dat .hnd, .dat (.int t), .dat (.int b'), .dat (.int f), .dat d, .dat (rat a g), .dat (rat y z), .dat d8, .no] rfl rfl rfl
  have p1 := plus_ok r s8
  have p2 := lplus_ok r s8
  have p3 := minus_ok r s8
  have p4 := lless_ok r s8
  have p5 := times_ok r s8
  have p6 := ltimes_ok r s8
  have p7 := neg_ok a g s8
  have p8 := size_ok a g s8
  have p9 := compare_ok r s8
  have p10 := lcompare_ok r s8
  have p11 := compare_ok r' s8
  rw [cmp_neg (a * z) (y * g)] at p11
  have q1 := plain_same (lowT (a * z + y * g) (g * z)) (lowB (a * z + y * g) (g * z)) s8
  have q2 := plain_same (lowT (a * z - y * g) (g * z)) (lowB (a * z - y * g) (g * z)) s8
  have q3 := plain_same (lowT (a * y) (g * z)) (lowB (a * y) (g * z)) s8
  have q4 := plain_same (-a) g s8
  have q5 := plain_same (if a < 0 then -a else a) g s8
  have i1 := isr_tup a g s8
  rw [decide_eq_true (show 1 ≤ g from r6.r.pos), decide_eq_true (show Nat.gcd a.natAbs g.natAbs = 1 from r6.r.co), Bool.and_self] at i1
  have i2 := isr_lst [.int a, .int g] s8
  have i3 := isr_tup (a * 2) (g * 2) s8
  have g2 : ¬ Nat.gcd (a * 2).natAbs (g * 2).natAbs = 1 := by
    rw [Int.natAbs_mul, Int.natAbs_mul, Nat.gcd_mul_right]
    show ¬ Nat.gcd a.natAbs g.natAbs * 2 = 1
    omega
  rw [decide_eq_false g2, Bool.and_false] at i3
  have s2 : Sz 2 2 := by unfold Sz; decide
  have m1 : MulOk a 2 := MulOk.of r6.sa s2 (by decide)
  have m2 : MulOk g 2 := MulOk.of r6.sb s2 (by decide)
  have w1 := ne_int (cmpI (a * z) (y * g))
  have w2 := ne_int (-cmpI (a * z) (y * g))
  unfold low at p1 p2 p3 p4 p5 p6
  generalize hE : ([.no, .dat .hnd, .dat (.int t), .dat (.int b'), .dat (.int f), .dat d, .dat (rat a g), .dat (rat y z), .no, .no] : Env') = E at *
  have E1 : E[1]? = some (.dat .hnd) := by rw [← hE]; rfl
  have E6 : E[6]? = some (.dat (rat a g)) := by rw [← hE]; rfl
  have E7 : E[7]? = some (.dat (rat y z)) := by rw [← hE]; rfl
  refine rt_nx (X := fun _ => True) (ρ' := E) (s' := s8) ?_ (rt_nx (X := fun _ => True) (ρ' := E) (s' := s8) ?_ (rt_nx (X := fun _ => True) (ρ' := E) (s' := s8) ?_ ?_))
  · simp [mIfS, mOr, mNot, mTru, mCall, mCons, mNil, mVar, E6, E7, p1, p2, p3, p4, q1, q2, fTru, mNext]
  · simp [mIfS, mOr, mNot, mTru, mCall, mCons, mNil, mVar, E6, E7, p5, p6, p7, q3, q4, fTru, mNext, mTup, mUn, mOp, mC, fIx, at0, at1, fNeg]
  · simp [mIfS, mOr, mNot, mTru, mCall, mCons, mNil, mVar, E6, E7, p8, q5, fTru, mNext, mTup, mCB, mOp, mC, fIx, at0, at1, fAbs]
  subst hE
  refine rt_nx (X := fun _ => True) (ρ' := [.no, .dat .hnd, .dat (.int t), .dat (.int b'), .dat (.int f), .dat d, .dat (rat a g), .dat (rat y z), .dat d8, .no]) (s' := s8) ?_ (rt_nx (X := fun _ => True) k9' (rt_nx (X := fun _ => True) (ρ' := [.no, .dat .hnd, .dat (.int t), .dat (.int b'), .dat (.int f), .dat d, .dat (rat a g), .dat (rat y z), .dat d8, .dat (.int (cmpI (a * z) (y * g)))]) (s' := s8) ?_ (rt_nx (X := fun _ => True) (ρ' := [.no, .dat .hnd, .dat (.int t), .dat (.int b'), .dat (.int f), .dat d, .dat (rat a g), .dat (rat y z), .dat d8, .dat (.int (cmpI (a * z) (y * g)))]) (s' := s8) ?_ (rt_nx (X := fun _ => True) (ρ' := [.no, .dat .hnd, .dat (.int t), .dat (.int b'), .dat (.int f), .dat d, .dat (rat a g), .dat (rat y z), .dat d8, .dat (.int (cmpI (a * z) (y * g)))]) (s' := s9) ?_ ⟨s11, ?_⟩))))
  · simp [mSet, mCall, mCons, mNil, mVar, e9]
  · simp [mSet, mCall, mCons, mNil, mVar, p9]
  · simp [mIfS, mOr, mTest, mOp, mCall, mCons, mNil, mVar, p10, p11, w1, w2, mUn, fNeg, mTru, mIsi, fTru, mNext]
  · simp [mIfS, mOr, mTest, mOp, mCall, mCons, mNil, mVar, i1, fIsNot, fIs, mC, mTru, mCB, fListC, i2, fTru, mTup, fIx, at0, at1, fMul, fI, m1, m2, i3, e17, k17, mNext]
  · simp [mRet, mAndV, mCall, mCons, mNil, mVar, e18, e19, fTru]
end Law


set_option Elab.async false
set_option linter.all false
set_option maxRecDepth 100000
set_option maxHeartbeats 4000000
namespace Law
open PySem PySem.Spec PyProof.Rows L2 Mir
open PySem.W (Frag)
def topS (i : Nat) : Stmt := PySem.Challenge.pw_stillarms_k01_whole_ratios_reckoned.main.body.getD i (.Pass ⟨0, 0, 0, 0⟩)
abbrev st__law_hand : Stmt := topS 23
theorem sc__law_hand : FnScope ["_law_script", "_law_great", "_law_mixed", "_law_cell", "_law_size"] ["_law_script"] (defScope st__law_hand) := ⟨rfl, rfl, rfl, by decide +kernel, rfl, by decide +kernel, by decide +kernel⟩
abbrev st__law_take : Stmt := topS 24
theorem sc__law_take : FnScope ["_law_hand_here", "_law_many", "_law_cell", "_law_once", "_law_twice"] ["_law_hand_here", "_law_many"] (defScope st__law_take) := ⟨rfl, rfl, rfl, by decide +kernel, rfl, by decide +kernel, by decide +kernel⟩
abbrev st__law_gcd : Stmt := topS 25
theorem sc__law_gcd : FnScope ["_law_one", "_law_other"] ["_law_one", "_law_other"] (defScope st__law_gcd) := ⟨rfl, rfl, rfl, by decide +kernel, rfl, by decide +kernel, by decide +kernel⟩
abbrev st__law_ratio : Stmt := topS 26
theorem sc__law_ratio : FnScope ["_law_top", "_law_bottom", "_law_part"] ["_law_top", "_law_bottom"] (defScope st__law_ratio) := ⟨rfl, rfl, rfl, by decide +kernel, rfl, by decide +kernel, by decide +kernel⟩
abbrev st__law_less : Stmt := topS 28
theorem sc__law_less : FnScope ["_law_one", "_law_other"] ["_law_one", "_law_other"] (defScope st__law_less) := ⟨rfl, rfl, rfl, by decide +kernel, rfl, by decide +kernel, by decide +kernel⟩
abbrev st__law_odd : Stmt := topS 37
theorem sc__law_odd : FnScope ["_law_hand_here", "_law_top", "_law_odds"] ["_law_hand_here"] (defScope st__law_odd) := ⟨rfl, rfl, rfl, by decide +kernel, rfl, by decide +kernel, by decide +kernel⟩
abbrev st_is_whole : Stmt := topS 8
theorem sc_is_whole : FnScope ["thing", "low", "high"] ["thing", "low", "high"] (defScope st_is_whole) := ⟨rfl, rfl, rfl, by decide +kernel, rfl, by decide +kernel, by decide +kernel⟩
abbrev st__law_wide : Stmt := topS 34
theorem sc__law_wide : FnScope ["_law_hand_here", "_law_way", "_law_total", "_law_turn"] ["_law_hand_here"] (defScope st__law_wide) := ⟨rfl, rfl, rfl, by decide +kernel, rfl, by decide +kernel, by decide +kernel⟩
abbrev st__law_whole : Stmt := topS 41
theorem sc__law_whole : FnScope ["_law_hand_here", "_law_number", "_law_low", "_law_high"] ["_law_hand_here"] (defScope st__law_whole) := ⟨rfl, rfl, rfl, by decide +kernel, rfl, by decide +kernel, by decide +kernel⟩
abbrev st_negative : Stmt := topS 16
theorem sc_negative : FnScope ["one"] ["one"] (defScope st_negative) := ⟨rfl, rfl, rfl, by decide +kernel, rfl, by decide +kernel, by decide +kernel⟩
abbrev st_size_of : Stmt := topS 17
theorem sc_size_of : FnScope ["one"] ["one"] (defScope st_size_of) := ⟨rfl, rfl, rfl, by decide +kernel, rfl, by decide +kernel, by decide +kernel⟩
abbrev st_lowest_terms : Stmt := topS 11
theorem sc_lowest_terms : FnScope ["top", "bottom", "part"] ["top", "bottom"] (defScope st_lowest_terms) := ⟨rfl, rfl, rfl, by decide +kernel, rfl, by decide +kernel, by decide +kernel⟩
abbrev st_times : Stmt := topS 14
theorem sc_times : FnScope ["one", "other"] ["one", "other"] (defScope st_times) := ⟨rfl, rfl, rfl, by decide +kernel, rfl, by decide +kernel, by decide +kernel⟩
abbrev st_plus : Stmt := topS 12
theorem sc_plus : FnScope ["one", "other"] ["one", "other"] (defScope st_plus) := ⟨rfl, rfl, rfl, by decide +kernel, rfl, by decide +kernel, by decide +kernel⟩
abbrev st_over : Stmt := topS 15
theorem sc_over : FnScope ["one", "other"] ["one", "other"] (defScope st_over) := ⟨rfl, rfl, rfl, by decide +kernel, rfl, by decide +kernel, by decide +kernel⟩
abbrev st__law_divided : Stmt := topS 39
theorem sc__law_divided : FnScope ["_law_one", "_law_other", "wrong"] ["_law_one", "_law_other"] (defScope st__law_divided) := ⟨rfl, rfl, rfl, by decide +kernel, rfl, by decide +kernel, by decide +kernel⟩
abbrev st_make_ratio : Stmt := topS 10
theorem sc_make_ratio : FnScope ["top", "bottom"] ["top", "bottom"] (defScope st_make_ratio) := ⟨rfl, rfl, rfl, by decide +kernel, rfl, by decide +kernel, by decide +kernel⟩
abbrev st_is_ratio : Stmt := topS 9
theorem sc_is_ratio : FnScope ["thing", "top", "bottom"] ["thing"] (defScope st_is_ratio) := ⟨rfl, rfl, rfl, by decide +kernel, rfl, by decide +kernel, by decide +kernel⟩
abbrev st__law_over : Stmt := topS 30
theorem sc__law_over : FnScope ["_law_one", "_law_other"] ["_law_one", "_law_other"] (defScope st__law_over) := ⟨rfl, rfl, rfl, by decide +kernel, rfl, by decide +kernel, by decide +kernel⟩
abbrev st_minus : Stmt := topS 13
theorem sc_minus : FnScope ["one", "other"] ["one", "other"] (defScope st_minus) := ⟨rfl, rfl, rfl, by decide +kernel, rfl, by decide +kernel, by decide +kernel⟩
abbrev st__law_compare : Stmt := topS 33
theorem sc__law_compare : FnScope ["_law_one", "_law_other", "_law_left", "_law_right"] ["_law_one", "_law_other"] (defScope st__law_compare) := ⟨rfl, rfl, rfl, by decide +kernel, rfl, by decide +kernel, by decide +kernel⟩
abbrev st__law_wide_ratio : Stmt := topS 35
theorem sc__law_wide_ratio : FnScope ["_law_hand_here"] ["_law_hand_here"] (defScope st__law_wide_ratio) := ⟨rfl, rfl, rfl, by decide +kernel, rfl, by decide +kernel, by decide +kernel⟩
abbrev st_compare : Stmt := topS 18
theorem sc_compare : FnScope ["one", "other", "left", "right"] ["one", "other"] (defScope st_compare) := ⟨rfl, rfl, rfl, by decide +kernel, rfl, by decide +kernel, by decide +kernel⟩
abbrev st_least_of : Stmt := topS 20
theorem sc_least_of : FnScope ["row", "least", "entry"] ["row"] (defScope st_least_of) := ⟨rfl, rfl, rfl, by decide +kernel, rfl, by decide +kernel, by decide +kernel⟩
abbrev st__law_below : Stmt := topS 31
theorem sc__law_below : FnScope ["_law_one", "_law_other"] ["_law_one", "_law_other"] (defScope st__law_below) := ⟨rfl, rfl, rfl, by decide +kernel, rfl, by decide +kernel, by decide +kernel⟩
abbrev st_greatest_of : Stmt := topS 21
theorem sc_greatest_of : FnScope ["row", "greatest", "entry"] ["row"] (defScope st_greatest_of) := ⟨rfl, rfl, rfl, by decide +kernel, rfl, by decide +kernel, by decide +kernel⟩
abbrev st_sum_of : Stmt := topS 19
theorem sc_sum_of : FnScope ["row", "total", "entry"] ["row"] (defScope st_sum_of) := ⟨rfl, rfl, rfl, by decide +kernel, rfl, by decide +kernel, by decide +kernel⟩
abbrev st__law_plain : Stmt := topS 36
theorem sc__law_plain : FnScope ["_law_told", "_law_due", "_law_part"] ["_law_told", "_law_due"] (defScope st__law_plain) := ⟨rfl, rfl, rfl, by decide +kernel, rfl, by decide +kernel, by decide +kernel⟩
abbrev st__law_plus : Stmt := topS 27
theorem sc__law_plus : FnScope ["_law_one", "_law_other"] ["_law_one", "_law_other"] (defScope st__law_plus) := ⟨rfl, rfl, rfl, by decide +kernel, rfl, by decide +kernel, by decide +kernel⟩
abbrev st__law_sum : Stmt := topS 32
theorem sc__law_sum : FnScope ["_law_rows_here", "_law_total", "_law_entry"] ["_law_rows_here"] (defScope st__law_sum) := ⟨rfl, rfl, rfl, by decide +kernel, rfl, by decide +kernel, by decide +kernel⟩
abbrev st__law_rows : Stmt := topS 40
theorem sc__law_rows : FnScope ["_law_hand_here", "_law_row", "_law_turn", "_law_least", "_law_most", "_law_one"] ["_law_hand_here"] (defScope st__law_rows) := ⟨rfl, rfl, rfl, by decide +kernel, rfl, by decide +kernel, by decide +kernel⟩
abbrev st__law_times : Stmt := topS 29
theorem sc__law_times : FnScope ["_law_one", "_law_other"] ["_law_one", "_law_other"] (defScope st__law_times) := ⟨rfl, rfl, rfl, by decide +kernel, rfl, by decide +kernel, by decide +kernel⟩
abbrev st__law_refused : Stmt := topS 38
theorem sc__law_refused : FnScope ["_law_top", "_law_bottom", "wrong"] ["_law_top", "_law_bottom"] (defScope st__law_refused) := ⟨rfl, rfl, rfl, by decide +kernel, rfl, by decide +kernel, by decide +kernel⟩
abbrev st_law : Stmt := topS 42
theorem sc_law : FnScope ["_law_script", "_law_hand_here", "_law_top", "_law_bottom", "_law_factor", "_law_odd_here", "_law_one", "_law_other", "_law_told", "_law_order"] ["_law_script"] (defScope st_law) := ⟨rfl, rfl, rfl, by decide +kernel, rfl, by decide +kernel, by decide +kernel⟩
abbrev st_BadRatio : Stmt := inClass (topS 3) 0
theorem sc_BadRatio : FnScope ["self", "what"] ["self", "what"] (defScope st_BadRatio) := ⟨rfl, rfl, rfl, by decide +kernel, rfl, by decide +kernel, by decide +kernel⟩
/-- what the top has written -/
structure Txt (K : Frag) (mg : Str → Option Value) : Prop where
  F__law_hand : ∃ (f : Addr) (fd : FuncData), Fun K "_law_hand" "_law_hand" st__law_hand f fd ∧ mg "_law_hand" = some (.ref f)
  F__law_take : ∃ (f : Addr) (fd : FuncData), Fun K "_law_take" "_law_take" st__law_take f fd ∧ mg "_law_take" = some (.ref f)
  F__law_gcd : ∃ (f : Addr) (fd : FuncData), Fun K "_law_gcd" "_law_gcd" st__law_gcd f fd ∧ mg "_law_gcd" = some (.ref f)
  F__law_ratio : ∃ (f : Addr) (fd : FuncData), Fun K "_law_ratio" "_law_ratio" st__law_ratio f fd ∧ mg "_law_ratio" = some (.ref f)
  F__law_less : ∃ (f : Addr) (fd : FuncData), Fun K "_law_less" "_law_less" st__law_less f fd ∧ mg "_law_less" = some (.ref f)
  F__law_odd : ∃ (f : Addr) (fd : FuncData), Fun K "_law_odd" "_law_odd" st__law_odd f fd ∧ mg "_law_odd" = some (.ref f)
  F_is_whole : ∃ (f : Addr) (fd : FuncData), FunD K "is_whole" "is_whole" (defArgs st_is_whole) (defBody st_is_whole) (defScope st_is_whole) [.non, .non] [] f fd ∧ mg "is_whole" = some (.ref f)
  F__law_wide : ∃ (f : Addr) (fd : FuncData), Fun K "_law_wide" "_law_wide" st__law_wide f fd ∧ mg "_law_wide" = some (.ref f)
  F__law_whole : ∃ (f : Addr) (fd : FuncData), Fun K "_law_whole" "_law_whole" st__law_whole f fd ∧ mg "_law_whole" = some (.ref f)
  F_negative : ∃ (f : Addr) (fd : FuncData), Fun K "negative" "negative" st_negative f fd ∧ mg "negative" = some (.ref f)
  F_size_of : ∃ (f : Addr) (fd : FuncData), Fun K "size_of" "size_of" st_size_of f fd ∧ mg "size_of" = some (.ref f)
  F_lowest_terms : ∃ (f : Addr) (fd : FuncData), Fun K "lowest_terms" "lowest_terms" st_lowest_terms f fd ∧ mg "lowest_terms" = some (.ref f)
  F_times : ∃ (f : Addr) (fd : FuncData), Fun K "times" "times" st_times f fd ∧ mg "times" = some (.ref f)
  F_plus : ∃ (f : Addr) (fd : FuncData), Fun K "plus" "plus" st_plus f fd ∧ mg "plus" = some (.ref f)
  F_over : ∃ (f : Addr) (fd : FuncData), Fun K "over" "over" st_over f fd ∧ mg "over" = some (.ref f)
  F__law_divided : ∃ (f : Addr) (fd : FuncData), Fun K "_law_divided" "_law_divided" st__law_divided f fd ∧ mg "_law_divided" = some (.ref f)
  F_make_ratio : ∃ (f : Addr) (fd : FuncData), FunD K "make_ratio" "make_ratio" (defArgs st_make_ratio) (defBody st_make_ratio) (defScope st_make_ratio) [.int 1] [] f fd ∧ mg "make_ratio" = some (.ref f)
  F_is_ratio : ∃ (f : Addr) (fd : FuncData), Fun K "is_ratio" "is_ratio" st_is_ratio f fd ∧ mg "is_ratio" = some (.ref f)
  F__law_over : ∃ (f : Addr) (fd : FuncData), Fun K "_law_over" "_law_over" st__law_over f fd ∧ mg "_law_over" = some (.ref f)
  F_minus : ∃ (f : Addr) (fd : FuncData), Fun K "minus" "minus" st_minus f fd ∧ mg "minus" = some (.ref f)
  F__law_compare : ∃ (f : Addr) (fd : FuncData), Fun K "_law_compare" "_law_compare" st__law_compare f fd ∧ mg "_law_compare" = some (.ref f)
  F__law_wide_ratio : ∃ (f : Addr) (fd : FuncData), Fun K "_law_wide_ratio" "_law_wide_ratio" st__law_wide_ratio f fd ∧ mg "_law_wide_ratio" = some (.ref f)
  F_compare : ∃ (f : Addr) (fd : FuncData), Fun K "compare" "compare" st_compare f fd ∧ mg "compare" = some (.ref f)
  F_least_of : ∃ (f : Addr) (fd : FuncData), Fun K "least_of" "least_of" st_least_of f fd ∧ mg "least_of" = some (.ref f)
  F__law_below : ∃ (f : Addr) (fd : FuncData), Fun K "_law_below" "_law_below" st__law_below f fd ∧ mg "_law_below" = some (.ref f)
  F_greatest_of : ∃ (f : Addr) (fd : FuncData), Fun K "greatest_of" "greatest_of" st_greatest_of f fd ∧ mg "greatest_of" = some (.ref f)
  F_sum_of : ∃ (f : Addr) (fd : FuncData), Fun K "sum_of" "sum_of" st_sum_of f fd ∧ mg "sum_of" = some (.ref f)
  F__law_plain : ∃ (f : Addr) (fd : FuncData), Fun K "_law_plain" "_law_plain" st__law_plain f fd ∧ mg "_law_plain" = some (.ref f)
  F__law_plus : ∃ (f : Addr) (fd : FuncData), Fun K "_law_plus" "_law_plus" st__law_plus f fd ∧ mg "_law_plus" = some (.ref f)
  F__law_sum : ∃ (f : Addr) (fd : FuncData), Fun K "_law_sum" "_law_sum" st__law_sum f fd ∧ mg "_law_sum" = some (.ref f)
  F__law_rows : ∃ (f : Addr) (fd : FuncData), Fun K "_law_rows" "_law_rows" st__law_rows f fd ∧ mg "_law_rows" = some (.ref f)
  F__law_times : ∃ (f : Addr) (fd : FuncData), Fun K "_law_times" "_law_times" st__law_times f fd ∧ mg "_law_times" = some (.ref f)
  F__law_refused : ∃ (f : Addr) (fd : FuncData), Fun K "_law_refused" "_law_refused" st__law_refused f fd ∧ mg "_law_refused" = some (.ref f)
  F_law : ∃ (f : Addr) (fd : FuncData), Fun K "law" "law" st_law f fd ∧ mg "law" = some (.ref f)
  X_BadRatio : ∃ (C fI : Addr) (fd : FuncData), mg "BadRatio" = some (.ref C) ∧ OexC K C ∧ (∀ f ∈ [("what" : Str)], PySem.W.findIn K (.ref C) f = some none) ∧ PySem.W.findIn K (.ref C) "__init__" = some (some (.ref fI)) ∧ PySem.W.typeIn K (.ref fI) = some (.type "function") ∧ Fun K "__init__" "BadRatio.__init__" st_BadRatio fI fd ∧ PySem.W.exmOne K (.ref C) (.ref C) = some true ∧ XfC K C
  g_HALF : ∃ Z : Addr, mg "HALF" = some (.ref Z) ∧ ∀ (h : Addr) (H : Hp), Den K mg h H (.ref Z) (.tup [.int 1, .int 2])
  g_ONE : ∃ Z : Addr, mg "ONE" = some (.ref Z) ∧ ∀ (h : Addr) (H : Hp), Den K mg h H (.ref Z) (.tup [.int 1, .int 1])
  g_ZERO : ∃ Z : Addr, mg "ZERO" = some (.ref Z) ∧ ∀ (h : Addr) (H : Hp), Den K mg h H (.ref Z) (.tup [.int 0, .int 1])
  i_gcd : mg "gcd" = some (.builtin "math.gcd")
  z_abs : mg "abs" = none
  z_bool : mg "bool" = none
  z_int : mg "int" = none
  z_isinstance : mg "isinstance" = none
  z_len : mg "len" = none
  z_list : mg "list" = none
  z_range : mg "range" = none
  z_tuple : mg "tuple" = none
section
variable {P : Program} {w : World} {K : Frag} {mg : Str → Option Value} {base : Heap}
theorem t_BadRatio (T : Txt K mg) : Thrown P w K mg base "BadRatio" ["what"] := by
  obtain ⟨C, fI, fd, h1, h2, h3, h4, h5, F, h6, h7⟩ := T.X_BadRatio
  exact ⟨C, fI, fd, ["self", "what"], h1, h2, h3, h4, h5, init1 F sc_BadRatio rfl, F.binds fun _ _ _ _ _ _ us hl => match us, hl with | [_, _], _ => rfl⟩
theorem f__law_hand (T : Txt K mg) {f : Addr} {fd : FuncData} (F : Fun K "_law_hand" "_law_hand" st__law_hand f fd) : FnOk P w K mg base (L2.CX P w) 1 f fd ["_law_script"] (spHand K) := by
  refine F.okX (k := 0) sc__law_hand (fun vs H Q E h => ?_) (fun cdv A outer s H vs Q E hr h => ⟨tHand K, ?_, ?_⟩)
  · obtain ⟨a, ns, rfl, _⟩ := h
    rfl
  · exact pss_cons (ps_set (i := 1) sc__law_hand.nd rfl (.inl rfl) (pe_lst pa_nil)) (pss_cons (ps_set (i := 2) sc__law_hand.nd rfl (.inl rfl) (pe_op op_add (pe_callB call_lenA (by rfl) T.z_len (by decide +kernel) (pa_cons (pv 0) pa_nil)) pe_int)) (pss_cons (ps_for (passes_of rfl) rfl (pi_list (pv 0)) (pg_name (i := 3) sc__law_hand.nd rfl (.inl rfl)) (pss_cons (ps_set (i := 4) sc__law_hand.nd rfl (.inl rfl) (pe_callB call_abs (by rfl) T.z_abs (by decide +kernel) (pa_cons (pe_callTy call_int1 (by rfl) T.z_int (by decide +kernel) (pa_cons (pv 3) pa_nil)) pa_nil))) (pss_cons (ps_set (i := 2) sc__law_hand.nd rfl (.inl rfl) (pe_op op_add (pe_op op_mod (pe_callTy call_int1 (by rfl) T.z_int (by decide +kernel) (pa_cons (pe_op op_add (pe_op op_mul (pv 2) pe_int) (pv 4)) pa_nil)) pe_int) pe_int)) (pss_one (ps_if (pt_cmpR op_ge (pv 4) (pe_op op_pow pe_int pe_int) (nomark _)) (pss_one (ps_expr (pe_bm PySem.F.plainAttrs_list PySem.F.slot_list_append PySem.F.type_list_append mt_append (pv 1) (pa_cons (pv 4) pa_nil)))) pss_nil))))) (pss_one (ps_ret (pe_lst (pa_cons (pv 1) (pa_cons (pv 2) (pa_cons pe_int pa_nil))))))))
  · have h' := h
    obtain ⟨a, ns, rfl, _⟩ := h'
    exact hand_run h
theorem f__law_take (T : Txt K mg) {f : Addr} {fd : FuncData} (F : Fun K "_law_take" "_law_take" st__law_take f fd) : FnOk P w K mg base (L2.CX P w) 1 f fd ["_law_hand_here", "_law_many"] (spM K mg 2 m__law_take) := by
  refine F.okX (k := 0) sc__law_take (fun vs H Q E h => h.1) (fun cdv A outer s H vs Q E hr h => ⟨tTake K, ?_, ?_⟩)
  · exact pss_cons (ps_while (passes_of rfl) (pw_and (pt_truth (pe_ix ix_list (pv 0) pe_int (fun _ _ => rfl)) (fun _ => rfl)) (pw_and1 (pt_cmpR op_eq (pe_ix ix_list (pe_ix ix_list (pv 0) pe_int (fun _ _ => rfl)) pe_int (fun _ _ => rfl)) pe_int (nomark _)))).pt (pss_one (ps_asg (pe_slice sl_list (pe_ix ix_list (pv 0) pe_int (fun _ _ => rfl)) (po_some pe_int) po_none) (pg_sub (pv 0) pe_int set_list)))) (pss_cons (ps_if (pt_truth (pe_ix ix_list (pv 0) pe_int (fun _ _ => rfl)) (fun _ => rfl)) (pss_cons (ps_set (i := 2) sc__law_take.nd rfl (.inl rfl) (pe_ix ix_list (pe_ix ix_list (pv 0) pe_int (fun _ _ => rfl)) pe_int (fun _ _ => rfl))) (pss_cons (ps_asg (pe_op op_fdivW (pe_callTy call_int1 (by rfl) T.z_int (by decide +kernel) (pa_cons (pv 2) pa_nil)) (pv 1)) (pg_sub (pe_ix ix_list (pv 0) pe_int (fun _ _ => rfl)) pe_int set_list)) (pss_one (ps_ret (pe_op op_mod (pe_callTy call_int1 (by rfl) T.z_int (by decide +kernel) (pa_cons (pv 2) pa_nil)) (pv 1)))))) pss_nil) (pss_cons (ps_asg (pe_op op_add (pe_ix ix_list (pv 0) pe_int (fun _ _ => rfl)) pe_int) (pg_sub (pv 0) pe_int set_list)) (pss_cons (ps_asg (pe_op op_mod (pe_callTy call_int1 (by rfl) T.z_int (by decide +kernel) (pa_cons (pe_op op_add (pe_op op_mul (pe_ix ix_list (pv 0) pe_int (fun _ _ => rfl)) pe_int) pe_int) pa_nil)) pe_int) (pg_sub (pv 0) pe_int set_list)) (pss_cons (ps_set (i := 3) sc__law_take.nd rfl (.inl rfl) (pe_op op_mod (pe_callTy call_int1 (by rfl) T.z_int (by decide +kernel) (pa_cons (pe_op op_add (pe_op op_mul (pe_ix ix_list (pv 0) pe_int (fun _ _ => rfl)) pe_int) (pe_op op_mul (pe_ix ix_list (pv 0) pe_int (fun _ _ => rfl)) pe_int)) pa_nil)) pe_int)) (pss_cons (ps_set (i := 4) sc__law_take.nd rfl (.inl rfl) (pe_op op_mod (pe_callTy call_int1 (by rfl) T.z_int (by decide +kernel) (pa_cons (pe_op op_add (pe_op op_add (pe_op op_mul (pv 3) (pv 3)) (pe_op op_mul (pe_ix ix_list (pv 0) pe_int (fun _ _ => rfl)) pe_int)) (pe_op op_fdiv (pv 3) pe_int)) pa_nil)) pe_int)) (pss_one (ps_ret (pe_op op_mod (pe_callTy call_int1 (by rfl) T.z_int (by decide +kernel) (pa_cons (pe_op op_fdiv (pv 4) pe_int) pa_nil)) (pv 1)))))))))
  · have h' := h
    obtain ⟨hl, _⟩ := h'
    obtain ⟨a, b, rfl⟩ : ∃ a b, vs = [a, b] := by
      match vs, hl with
      | [a, b], _ => exact ⟨a, b, rfl⟩
    exact take_run h
theorem c__law_take (T : Txt K mg) : Callee P w K mg base 1 "_law_take" 2 [] m__law_take := by
  obtain ⟨f, fd, F, hm⟩ := T.F__law_take
  exact ⟨f, fd, ["_law_hand_here", "_law_many"], [], [], f__law_take T F, hm, F.kp, F.binds (ps := ["_law_hand_here", "_law_many"]) (fun _ _ _ _ _ _ us hl => match us, hl with | [_, _], _ => rfl), .nil, fun _ _ => .nil⟩
theorem f__law_gcd (T : Txt K mg) {f : Addr} {fd : FuncData} (F : Fun K "_law_gcd" "_law_gcd" st__law_gcd f fd) : FnOk P w K mg base (L2.CX P w) 1 f fd ["_law_one", "_law_other"] (spM K mg 2 m__law_gcd) := by
  have z_abs := T.z_abs
  have z_int := T.z_int
  show FnOk P w K mg base (L2.CX P w) (0 + 1) f fd ["_law_one", "_law_other"] (spM K mg 2 (mDef 2 b__law_gcd))
  refine okM F sc__law_gcd rfl rfl (fun cdv A outer s H E hr => ?_)
  exact (qss_cons (qs_par 0 1 rfl sc__law_gcd.nd (by decide) (qa_cons (qe_callB call_abs cs_abs (by rfl) z_abs (by decide +kernel) (qa_cons (qe_var 0) qa_nil)) (qa_cons (qe_callB call_abs cs_abs (by rfl) z_abs (by decide +kernel) (qa_cons (qe_var 1) qa_nil)) qa_nil))) (qss_cons (qs_while cx_pass (qt_tru (qe_var 1)) (qss_one (qs_par 0 1 rfl sc__law_gcd.nd (by decide) (qa_cons (qe_var 1) (qa_cons (qe_op op_modN os_mod (qe_callTy call_int1 cs_int (by rfl) z_int (by decide +kernel) (qa_cons (qe_var 0) qa_nil)) (qe_var 1)) qa_nil))))) (qss_one (qs_ret (qe_var 0)))))
theorem c__law_gcd (T : Txt K mg) : Callee P w K mg base 1 "_law_gcd" 2 [] m__law_gcd := by
  obtain ⟨f, fd, F, hm⟩ := T.F__law_gcd
  exact ⟨f, fd, ["_law_one", "_law_other"], [], [], f__law_gcd T  F, hm, F.kp, F.binds (ps := ["_law_one", "_law_other"]) (fun _ _ _ _ _ _ us hl => match us, hl with | [_, _], _ => rfl), .nil, fun _ _ => .nil⟩
theorem f__law_ratio (T : Txt K mg) (C__law_gcd : Callee P w K mg base 1 "_law_gcd" 2 [] m__law_gcd) {f : Addr} {fd : FuncData} (F : Fun K "_law_ratio" "_law_ratio" st__law_ratio f fd) : FnOk P w K mg base (L2.CX P w) 2 f fd ["_law_top", "_law_bottom"] (spM K mg 2 m__law_ratio) := by
  show FnOk P w K mg base (L2.CX P w) (1 + 1) f fd ["_law_top", "_law_bottom"] (spM K mg 2 (mDef 3 b__law_ratio))
  refine okM F sc__law_ratio rfl rfl (fun cdv A outer s H E hr => ?_)
  exact (qss_cons (qs_set 2 sc__law_ratio.nd (qe_c C__law_gcd hr (by decide) cx_takes (qa_cons (qe_var 0) (qa_cons (qe_var 1) qa_nil)))) (qss_cons (qs_if (qt_cmp op_lt os_lt (qe_var 1) qe_int (nomark _)) (qss_one (qs_set 2 sc__law_ratio.nd (qe_un un_neg us_neg (qe_var 2)))) qss_nil) (qss_one (qs_ret (qe_tup (qa_cons (qe_op op_divA os_div (qe_var 0) (qe_var 2)) (qa_cons (qe_op op_divA os_div (qe_var 1) (qe_var 2)) qa_nil)))))))
theorem c__law_ratio (T : Txt K mg) (C__law_gcd : Callee P w K mg base 1 "_law_gcd" 2 [] m__law_gcd) : Callee P w K mg base 2 "_law_ratio" 2 [] m__law_ratio := by
  obtain ⟨f, fd, F, hm⟩ := T.F__law_ratio
  exact ⟨f, fd, ["_law_top", "_law_bottom"], [], [], f__law_ratio T C__law_gcd F, hm, F.kp, F.binds (ps := ["_law_top", "_law_bottom"]) (fun _ _ _ _ _ _ us hl => match us, hl with | [_, _], _ => rfl), .nil, fun _ _ => .nil⟩
theorem f__law_less (T : Txt K mg) (C__law_ratio : Callee P w K mg base 2 "_law_ratio" 2 [] m__law_ratio) {f : Addr} {fd : FuncData} (F : Fun K "_law_less" "_law_less" st__law_less f fd) : FnOk P w K mg base (L2.CX P w) 3 f fd ["_law_one", "_law_other"] (spM K mg 2 m__law_less) := by
  show FnOk P w K mg base (L2.CX P w) (2 + 1) f fd ["_law_one", "_law_other"] (spM K mg 2 (mDef 2 b__law_less))
  refine okM F sc__law_less rfl rfl (fun cdv A outer s H E hr => ?_)
  exact (qss_one (qs_ret (qe_c C__law_ratio hr (by decide) cx_takes (qa_cons (qe_op op_sub os_sub (qe_op op_mulA os_mul (qe_ix (qe_var 0) qe_int) (qe_ix (qe_var 1) qe_int)) (qe_op op_mulA os_mul (qe_ix (qe_var 1) qe_int) (qe_ix (qe_var 0) qe_int))) (qa_cons (qe_op op_mulA os_mul (qe_ix (qe_var 0) qe_int) (qe_ix (qe_var 1) qe_int)) qa_nil)))))
theorem c__law_less (T : Txt K mg) (C__law_ratio : Callee P w K mg base 2 "_law_ratio" 2 [] m__law_ratio) : Callee P w K mg base 3 "_law_less" 2 [] m__law_less := by
  obtain ⟨f, fd, F, hm⟩ := T.F__law_less
  exact ⟨f, fd, ["_law_one", "_law_other"], [], [], f__law_less T C__law_ratio F, hm, F.kp, F.binds (ps := ["_law_one", "_law_other"]) (fun _ _ _ _ _ _ us hl => match us, hl with | [_, _], _ => rfl), .nil, fun _ _ => .nil⟩
theorem f__law_odd (T : Txt K mg) (C__law_take : Callee P w K mg base 1 "_law_take" 2 [] m__law_take) {f : Addr} {fd : FuncData} (F : Fun K "_law_odd" "_law_odd" st__law_odd f fd) : FnOk P w K mg base (L2.CX P w) 2 f fd ["_law_hand_here"] (spM K mg 1 m__law_odd) := by
  show FnOk P w K mg base (L2.CX P w) (1 + 1) f fd ["_law_hand_here"] (spM K mg 1 (mDef 3 b__law_odd))
  refine okM F sc__law_odd rfl rfl (fun cdv A outer s H E hr => ?_)
  exact (qss_cons (qs_set 1 sc__law_odd.nd (qe_op op_sub os_sub (qe_c C__law_take hr (by decide) cx_takes (qa_cons (qe_var 0) (qa_cons qe_int qa_nil))) qe_int)) (qss_cons (qs_set 2 sc__law_odd.nd (qe_lst (qa_cons (qe_var 1) (qa_cons (qe_lst (qa_cons (qe_var 1) (qa_cons qe_int qa_nil))) (qa_cons (qe_tup (qa_cons (qe_var 1) (qa_cons qe_int qa_nil))) (qa_cons (qe_tup (qa_cons (qe_op op_mulA os_mul qe_int (qe_var 1)) (qa_cons qe_int qa_nil))) (qa_cons (qe_tup (qa_cons (qe_var 1) (qa_cons qe_int (qa_cons qe_int qa_nil)))) (qa_cons (qe_tup (qa_cons qe_bl (qa_cons qe_int qa_nil))) qa_nil)))))))) (qss_cons (qs_set 2 sc__law_odd.nd (qe_op op_addA os_add (qe_var 2) (qe_lst (qa_cons (qe_tup (qa_cons (qe_var 1) (qa_cons qe_bl qa_nil))) (qa_cons qe_non (qa_cons qe_str (qa_cons (qe_tup (qa_cons (qe_var 1) (qa_cons (qe_un un_neg us_neg qe_int) qa_nil))) (qa_cons (qe_tup (qa_cons (qe_var 1) qa_nil)) (qa_cons (qe_tup qa_nil) qa_nil))))))))) (qss_one (qs_ret (qe_ix (qe_var 2) (qe_c C__law_take hr (by decide) cx_takes (qa_cons (qe_var 0) (qa_cons qe_int qa_nil)))))))))
theorem c__law_odd (T : Txt K mg) (C__law_take : Callee P w K mg base 1 "_law_take" 2 [] m__law_take) : Callee P w K mg base 2 "_law_odd" 1 [] m__law_odd := by
  obtain ⟨f, fd, F, hm⟩ := T.F__law_odd
  exact ⟨f, fd, ["_law_hand_here"], [], [], f__law_odd T C__law_take F, hm, F.kp, F.binds (ps := ["_law_hand_here"]) (fun _ _ _ _ _ _ us hl => match us, hl with | [_], _ => rfl), .nil, fun _ _ => .nil⟩
theorem f_is_whole (T : Txt K mg) {f : Addr} {fd : FuncData} (F : FunD K "is_whole" "is_whole" (defArgs st_is_whole) (defBody st_is_whole) (defScope st_is_whole) [.non, .non] [] f fd) : FnOk P w K mg base (L2.CX P w) 1 f fd ["thing", "low", "high"] (spM K mg 3 m_is_whole) := by
  have z_bool := T.z_bool
  have z_int := T.z_int
  have z_isinstance := T.z_isinstance
  show FnOk P w K mg base (L2.CX P w) (0 + 1) f fd ["thing", "low", "high"] (spM K mg 3 (mDef 3 b_is_whole))
  refine okMD F sc_is_whole rfl rfl (fun cdv A outer s H E hr => ?_)
  exact (qss_cons (qs_if (qt_w (qw_or (qt_not (qt_tru (qe_isi (qe_var 0) (by rfl) z_isinstance (by rfl) z_int (by decide +kernel)))) (qw_or1 (qt_tru (qe_isi (qe_var 0) (by rfl) z_isinstance (by rfl) z_bool (by decide +kernel)))))) (qss_one (qs_ret qe_bl)) qss_nil) (qss_one (qs_ret (qe_and (qe_or (qe_cmp op_isA os_is (qe_var 1) qe_non (nomark _)) (qe_one (qe_cmp op_ge os_ge (qe_var 0) (qe_var 1) (nomark _)))) (qe_one (qe_or (qe_cmp op_isA os_is (qe_var 2) qe_non (nomark _)) (qe_one (qe_cmp op_le os_le (qe_var 0) (qe_var 2) (nomark _)))))))))
theorem c_is_whole_1_high (T : Txt K mg) : CalleeK P w K mg base 1 "is_whole" 1 ["high"] 3 [.non] m_is_whole := by
  obtain ⟨f, fd, F, hm⟩ := T.F_is_whole
  obtain ⟨mV, kb⟩ := kb_of (ps := ["thing", "low", "high"]) F 1 0 1 ["high"] (by simp) (fun T kV doc pm an cdv ct us its ws l1 l2 l3 => match us, its, ws, l1, l2, l3 with | [_], [_, _], [_], _, _, _ => ⟨_, rfl, rfl⟩)
  exact ⟨f, fd, ["thing", "low", "high"], _, mV, f_is_whole T  F, hm, F.kp, kb, fun _ _ => .cons .non (.nil)⟩
theorem c_is_whole_1 (T : Txt K mg) : Callee P w K mg base 1 "is_whole" 3 [.non, .non] m_is_whole := by
  obtain ⟨f, fd, F, hm⟩ := T.F_is_whole
  obtain ⟨ds, hv, hb⟩ := FunD.binds1 (ps := ["thing", "low", "high"]) F 1 0 (by simp) rfl (fun T kV doc pm an cdv ct us its l1 l2 => match us, its, l1, l2 with | [_], [_, _], _, _ => ⟨_, rfl, rfl⟩)
  exact ⟨f, fd, ["thing", "low", "high"], _, ds, f_is_whole T  F, hm, F.kp, hb, hv, fun _ _ => .cons .non (.cons .non (.nil))⟩
theorem c_is_whole_2 (T : Txt K mg) : Callee P w K mg base 1 "is_whole" 3 [.non] m_is_whole := by
  obtain ⟨f, fd, F, hm⟩ := T.F_is_whole
  obtain ⟨ds, hv, hb⟩ := FunD.binds1 (ps := ["thing", "low", "high"]) F 2 1 (by simp) rfl (fun T kV doc pm an cdv ct us its l1 l2 => match us, its, l1, l2 with | [_, _], [_, _], _, _ => ⟨_, rfl, rfl⟩)
  exact ⟨f, fd, ["thing", "low", "high"], _, ds, f_is_whole T  F, hm, F.kp, hb, hv, fun _ _ => .cons .non (.nil)⟩
theorem c_is_whole (T : Txt K mg) : Callee P w K mg base 1 "is_whole" 3 [] m_is_whole := by
  obtain ⟨f, fd, F, hm⟩ := T.F_is_whole
  obtain ⟨ds, hv, hb⟩ := FunD.binds1 (ps := ["thing", "low", "high"]) F 3 2 (by simp) rfl (fun T kV doc pm an cdv ct us its l1 l2 => match us, its, l1, l2 with | [_, _, _], [_, _], _, _ => ⟨_, rfl, rfl⟩)
  exact ⟨f, fd, ["thing", "low", "high"], _, ds, f_is_whole T  F, hm, F.kp, hb, hv, fun _ _ => .nil⟩
theorem f__law_wide (T : Txt K mg) (C__law_take : Callee P w K mg base 1 "_law_take" 2 [] m__law_take) {f : Addr} {fd : FuncData} (F : Fun K "_law_wide" "_law_wide" st__law_wide f fd) : FnOk P w K mg base (L2.CX P w) 2 f fd ["_law_hand_here"] (spM K mg 1 m__law_wide) := by
  have z_range := T.z_range
  show FnOk P w K mg base (L2.CX P w) (1 + 1) f fd ["_law_hand_here"] (spM K mg 1 (mDef 4 b__law_wide))
  refine okM F sc__law_wide rfl rfl (fun cdv A outer s H E hr => ?_)
  exact (qss_cons (qs_set 1 sc__law_wide.nd (qe_c C__law_take hr (by decide) cx_takes (qa_cons (qe_var 0) (qa_cons qe_int qa_nil)))) (qss_cons (qs_if (qt_cmp op_lt os_lt (qe_var 1) qe_int (nomark _)) (qss_one (qs_ret (qe_op op_sub os_sub (qe_c C__law_take hr (by decide) cx_takes (qa_cons (qe_var 0) (qa_cons qe_int qa_nil))) qe_int))) qss_nil) (qss_cons (qs_set 2 sc__law_wide.nd qe_int) (qss_cons (qs_for cx_pass rfl (qi_rng1 (by rfl) z_range (qe_if (qt_cmp op_lt os_lt (qe_var 1) qe_int (nomark _)) qe_int qe_int)) (qg_name 3 sc__law_wide.nd) (qss_one (qs_set 2 sc__law_wide.nd (qe_op op_addA os_add (qe_op op_mulA os_mul (qe_var 2) (qe_op op_pow os_pow qe_int qe_int)) (qe_c C__law_take hr (by decide) cx_takes (qa_cons (qe_var 0) (qa_cons (qe_op op_pow os_pow qe_int qe_int) qa_nil))))))) (qss_one (qs_ret (qe_op op_mulA os_mul (qe_var 2) (qe_op op_sub os_sub qe_int (qe_op op_mulA os_mul qe_int (qe_c C__law_take hr (by decide) cx_takes (qa_cons (qe_var 0) (qa_cons qe_int qa_nil))))))))))))
theorem c__law_wide (T : Txt K mg) (C__law_take : Callee P w K mg base 1 "_law_take" 2 [] m__law_take) : Callee P w K mg base 2 "_law_wide" 1 [] m__law_wide := by
  obtain ⟨f, fd, F, hm⟩ := T.F__law_wide
  exact ⟨f, fd, ["_law_hand_here"], [], [], f__law_wide T C__law_take F, hm, F.kp, F.binds (ps := ["_law_hand_here"]) (fun _ _ _ _ _ _ us hl => match us, hl with | [_], _ => rfl), .nil, fun _ _ => .nil⟩
theorem f__law_whole (T : Txt K mg) (C__law_take : Callee P w K mg base 1 "_law_take" 2 [] m__law_take) (C__law_wide : Callee P w K mg base 2 "_law_wide" 1 [] m__law_wide) (C_is_whole_1 : Callee P w K mg base 1 "is_whole" 3 [.non, .non] m_is_whole) (C_is_whole_2 : Callee P w K mg base 1 "is_whole" 3 [.non] m_is_whole) (C_is_whole : Callee P w K mg base 1 "is_whole" 3 [] m_is_whole) (C_is_whole_1_high : CalleeK P w K mg base 1 "is_whole" 1 ["high"] 3 [.non] m_is_whole) {f : Addr} {fd : FuncData} (F : Fun K "_law_whole" "_law_whole" st__law_whole f fd) : FnOk P w K mg base (L2.CX P w) 3 f fd ["_law_hand_here"] (spM K mg 1 m__law_whole) := by
  show FnOk P w K mg base (L2.CX P w) (2 + 1) f fd ["_law_hand_here"] (spM K mg 1 (mDef 4 b__law_whole))
  refine okM F sc__law_whole rfl rfl (fun cdv A outer s H E hr => ?_)
  exact (qss_cons (qs_set 1 sc__law_whole.nd (qe_c C__law_wide hr (by decide) cx_takes (qa_cons (qe_var 0) qa_nil))) (qss_cons (qs_set 2 sc__law_whole.nd (qe_op op_sub os_sub (qe_var 1) (qe_c C__law_take hr (by decide) cx_takes (qa_cons (qe_var 0) (qa_cons qe_int qa_nil))))) (qss_cons (qs_set 3 sc__law_whole.nd (qe_op op_addA os_add (qe_var 1) (qe_c C__law_take hr (by decide) cx_takes (qa_cons (qe_var 0) (qa_cons qe_int qa_nil))))) (qss_cons (qs_if (qt_w (qw_or (qt_not (qt_tru (qe_c C_is_whole_1 hr (by decide) cx_takes (qa_cons (qe_var 1) qa_nil)))) (qw_or (qt_not (qt_tru (qe_c C_is_whole hr (by decide) cx_takes (qa_cons (qe_var 1) (qa_cons (qe_var 2) (qa_cons (qe_var 3) qa_nil)))))) (qw_or (qt_not (qt_tru (qe_c C_is_whole hr (by decide) cx_takes (qa_cons (qe_var 1) (qa_cons qe_non (qa_cons (qe_var 3) qa_nil)))))) (qw_or1 (qt_not (qt_tru (qe_ck C_is_whole_1_high hr (by decide) cx_takes (qa_cons (qe_var 1) qa_nil) (qk_cons (qe_var 3) qk_nil))))))))) (qss_one (qs_ret qe_bl)) qss_nil) (qss_cons (qs_if (qt_w (qw_or (qt_tru (qe_c C_is_whole_2 hr (by decide) cx_takes (qa_cons (qe_var 1) (qa_cons (qe_op op_addA os_add (qe_var 1) qe_int) qa_nil)))) (qw_or (qt_tru (qe_ck C_is_whole_1_high hr (by decide) cx_takes (qa_cons (qe_var 1) qa_nil) (qk_cons (qe_op op_sub os_sub (qe_var 1) qe_int) qk_nil))) (qw_or1 (qt_tru (qe_c C_is_whole hr (by decide) cx_takes (qa_cons (qe_var 1) (qa_cons (qe_var 2) (qa_cons (qe_op op_sub os_sub (qe_var 1) qe_int) qa_nil))))))))) (qss_one (qs_ret qe_bl)) qss_nil) (qss_one (qs_ret (qe_and (qe_not (qe_c C_is_whole_1 hr (by decide) cx_takes (qa_cons qe_bl qa_nil))) (qe_and (qe_not (qe_c C_is_whole hr (by decide) cx_takes (qa_cons qe_bl (qa_cons qe_int (qa_cons qe_int qa_nil))))) (qe_and (qe_not (qe_c C_is_whole_1 hr (by decide) cx_takes (qa_cons (qe_tup (qa_cons (qe_var 1) (qa_cons qe_int qa_nil))) qa_nil))) (qe_and (qe_not (qe_c C_is_whole_1 hr (by decide) cx_takes (qa_cons qe_non qa_nil))) (qe_one (qe_not (qe_c C_is_whole_1 hr (by decide) cx_takes (qa_cons qe_str qa_nil)))))))))))))))
theorem c__law_whole (T : Txt K mg) (C__law_take : Callee P w K mg base 1 "_law_take" 2 [] m__law_take) (C__law_wide : Callee P w K mg base 2 "_law_wide" 1 [] m__law_wide) (C_is_whole_1 : Callee P w K mg base 1 "is_whole" 3 [.non, .non] m_is_whole) (C_is_whole_2 : Callee P w K mg base 1 "is_whole" 3 [.non] m_is_whole) (C_is_whole : Callee P w K mg base 1 "is_whole" 3 [] m_is_whole) (C_is_whole_1_high : CalleeK P w K mg base 1 "is_whole" 1 ["high"] 3 [.non] m_is_whole) : Callee P w K mg base 3 "_law_whole" 1 [] m__law_whole := by
  obtain ⟨f, fd, F, hm⟩ := T.F__law_whole
  exact ⟨f, fd, ["_law_hand_here"], [], [], f__law_whole T C__law_take C__law_wide C_is_whole_1 C_is_whole_2 C_is_whole C_is_whole_1_high F, hm, F.kp, F.binds (ps := ["_law_hand_here"]) (fun _ _ _ _ _ _ us hl => match us, hl with | [_], _ => rfl), .nil, fun _ _ => .nil⟩
theorem f_negative (T : Txt K mg) {f : Addr} {fd : FuncData} (F : Fun K "negative" "negative" st_negative f fd) : FnOk P w K mg base (L2.CX P w) 1 f fd ["one"] (spM K mg 1 m_negative) := by
  show FnOk P w K mg base (L2.CX P w) (0 + 1) f fd ["one"] (spM K mg 1 (mDef 1 b_negative))
  refine okM F sc_negative rfl rfl (fun cdv A outer s H E hr => ?_)
  exact (qss_one (qs_ret (qe_tup (qa_cons (qe_un un_neg us_neg (qe_ix (qe_var 0) qe_int)) (qa_cons (qe_ix (qe_var 0) qe_int) qa_nil)))))
theorem c_negative (T : Txt K mg) : Callee P w K mg base 1 "negative" 1 [] m_negative := by
  obtain ⟨f, fd, F, hm⟩ := T.F_negative
  exact ⟨f, fd, ["one"], [], [], f_negative T  F, hm, F.kp, F.binds (ps := ["one"]) (fun _ _ _ _ _ _ us hl => match us, hl with | [_], _ => rfl), .nil, fun _ _ => .nil⟩
theorem f_size_of (T : Txt K mg) {f : Addr} {fd : FuncData} (F : Fun K "size_of" "size_of" st_size_of f fd) : FnOk P w K mg base (L2.CX P w) 1 f fd ["one"] (spM K mg 1 m_size_of) := by
  have z_abs := T.z_abs
  show FnOk P w K mg base (L2.CX P w) (0 + 1) f fd ["one"] (spM K mg 1 (mDef 1 b_size_of))
  refine okM F sc_size_of rfl rfl (fun cdv A outer s H E hr => ?_)
  exact (qss_one (qs_ret (qe_tup (qa_cons (qe_callB call_abs cs_abs (by rfl) z_abs (by decide +kernel) (qa_cons (qe_ix (qe_var 0) qe_int) qa_nil)) (qa_cons (qe_ix (qe_var 0) qe_int) qa_nil)))))
theorem c_size_of (T : Txt K mg) : Callee P w K mg base 1 "size_of" 1 [] m_size_of := by
  obtain ⟨f, fd, F, hm⟩ := T.F_size_of
  exact ⟨f, fd, ["one"], [], [], f_size_of T  F, hm, F.kp, F.binds (ps := ["one"]) (fun _ _ _ _ _ _ us hl => match us, hl with | [_], _ => rfl), .nil, fun _ _ => .nil⟩
theorem f_lowest_terms (T : Txt K mg) {f : Addr} {fd : FuncData} (F : Fun K "lowest_terms" "lowest_terms" st_lowest_terms f fd) : FnOk P w K mg base (L2.CX P w) 1 f fd ["top", "bottom"] (spM K mg 2 m_lowest_terms) := by
  have i_gcd := T.i_gcd
  show FnOk P w K mg base (L2.CX P w) (0 + 1) f fd ["top", "bottom"] (spM K mg 2 (mDef 3 b_lowest_terms))
  refine okM F sc_lowest_terms rfl rfl (fun cdv A outer s H E hr => ?_)
  exact (qss_cons (qs_set 2 sc_lowest_terms.nd (qe_callBfun cr_gcd cs_gcd (by rfl) i_gcd (qa_cons (qe_var 0) (qa_cons (qe_var 1) qa_nil)))) (qss_cons (qs_if (qt_cmp op_lt os_lt (qe_var 1) qe_int (nomark _)) (qss_one (qs_set 2 sc_lowest_terms.nd (qe_un un_neg us_neg (qe_var 2)))) qss_nil) (qss_one (qs_ret (qe_tup (qa_cons (qe_op op_divA os_div (qe_var 0) (qe_var 2)) (qa_cons (qe_op op_divA os_div (qe_var 1) (qe_var 2)) qa_nil)))))))
theorem c_lowest_terms (T : Txt K mg) : Callee P w K mg base 1 "lowest_terms" 2 [] m_lowest_terms := by
  obtain ⟨f, fd, F, hm⟩ := T.F_lowest_terms
  exact ⟨f, fd, ["top", "bottom"], [], [], f_lowest_terms T  F, hm, F.kp, F.binds (ps := ["top", "bottom"]) (fun _ _ _ _ _ _ us hl => match us, hl with | [_, _], _ => rfl), .nil, fun _ _ => .nil⟩
theorem f_times (T : Txt K mg) (C_lowest_terms : Callee P w K mg base 1 "lowest_terms" 2 [] m_lowest_terms) {f : Addr} {fd : FuncData} (F : Fun K "times" "times" st_times f fd) : FnOk P w K mg base (L2.CX P w) 2 f fd ["one", "other"] (spM K mg 2 m_times) := by
  show FnOk P w K mg base (L2.CX P w) (1 + 1) f fd ["one", "other"] (spM K mg 2 (mDef 2 b_times))
  refine okM F sc_times rfl rfl (fun cdv A outer s H E hr => ?_)
  exact (qss_one (qs_ret (qe_c C_lowest_terms hr (by decide) cx_takes (qa_cons (qe_op op_mulA os_mul (qe_ix (qe_var 0) qe_int) (qe_ix (qe_var 1) qe_int)) (qa_cons (qe_op op_mulA os_mul (qe_ix (qe_var 0) qe_int) (qe_ix (qe_var 1) qe_int)) qa_nil)))))
theorem c_times (T : Txt K mg) (C_lowest_terms : Callee P w K mg base 1 "lowest_terms" 2 [] m_lowest_terms) : Callee P w K mg base 2 "times" 2 [] m_times := by
  obtain ⟨f, fd, F, hm⟩ := T.F_times
  exact ⟨f, fd, ["one", "other"], [], [], f_times T C_lowest_terms F, hm, F.kp, F.binds (ps := ["one", "other"]) (fun _ _ _ _ _ _ us hl => match us, hl with | [_, _], _ => rfl), .nil, fun _ _ => .nil⟩
theorem f_plus (T : Txt K mg) (C_lowest_terms : Callee P w K mg base 1 "lowest_terms" 2 [] m_lowest_terms) {f : Addr} {fd : FuncData} (F : Fun K "plus" "plus" st_plus f fd) : FnOk P w K mg base (L2.CX P w) 2 f fd ["one", "other"] (spM K mg 2 m_plus) := by
  show FnOk P w K mg base (L2.CX P w) (1 + 1) f fd ["one", "other"] (spM K mg 2 (mDef 2 b_plus))
  refine okM F sc_plus rfl rfl (fun cdv A outer s H E hr => ?_)
  exact (qss_one (qs_ret (qe_c C_lowest_terms hr (by decide) cx_takes (qa_cons (qe_op op_addA os_add (qe_op op_mulA os_mul (qe_ix (qe_var 0) qe_int) (qe_ix (qe_var 1) qe_int)) (qe_op op_mulA os_mul (qe_ix (qe_var 1) qe_int) (qe_ix (qe_var 0) qe_int))) (qa_cons (qe_op op_mulA os_mul (qe_ix (qe_var 0) qe_int) (qe_ix (qe_var 1) qe_int)) qa_nil)))))
theorem c_plus (T : Txt K mg) (C_lowest_terms : Callee P w K mg base 1 "lowest_terms" 2 [] m_lowest_terms) : Callee P w K mg base 2 "plus" 2 [] m_plus := by
  obtain ⟨f, fd, F, hm⟩ := T.F_plus
  exact ⟨f, fd, ["one", "other"], [], [], f_plus T C_lowest_terms F, hm, F.kp, F.binds (ps := ["one", "other"]) (fun _ _ _ _ _ _ us hl => match us, hl with | [_, _], _ => rfl), .nil, fun _ _ => .nil⟩
theorem f_over (T : Txt K mg) (C_lowest_terms : Callee P w K mg base 1 "lowest_terms" 2 [] m_lowest_terms) {f : Addr} {fd : FuncData} (F : Fun K "over" "over" st_over f fd) : FnOk P w K mg base (L2.CX P w) 3 f fd ["one", "other"] (spM K mg 2 m_over) := by
  obtain ⟨_, g_ZERO⟩ := T.g_ZERO
  have T_BadRatio : Thrown P w K mg base "BadRatio" ["what"] := t_BadRatio T
  show FnOk P w K mg base (L2.CX P w) (2 + 1) f fd ["one", "other"] (spM K mg 2 (mDef 2 b_over))
  refine okM F sc_over rfl rfl (fun cdv A outer s H E hr => ?_)
  exact (qss_cons (qs_if (qt_cmp (op_eqD hr.units) os_eq (qe_var 1) (qe_glob (v := .ref _) (by rfl) g_ZERO.1 rfl g_ZERO.2) (nomark _)) (qss_one (qs_throw T_BadRatio hr (by decide) rfl cx_takes (qa_cons qe_str qa_nil))) qss_nil) (qss_one (qs_ret (qe_c C_lowest_terms hr (by decide) cx_takes (qa_cons (qe_op op_mulA os_mul (qe_ix (qe_var 0) qe_int) (qe_ix (qe_var 1) qe_int)) (qa_cons (qe_op op_mulA os_mul (qe_ix (qe_var 0) qe_int) (qe_ix (qe_var 1) qe_int)) qa_nil))))))
theorem c_over (T : Txt K mg) (C_lowest_terms : Callee P w K mg base 1 "lowest_terms" 2 [] m_lowest_terms) : Callee P w K mg base 3 "over" 2 [] m_over := by
  obtain ⟨f, fd, F, hm⟩ := T.F_over
  exact ⟨f, fd, ["one", "other"], [], [], f_over T C_lowest_terms F, hm, F.kp, F.binds (ps := ["one", "other"]) (fun _ _ _ _ _ _ us hl => match us, hl with | [_, _], _ => rfl), .nil, fun _ _ => .nil⟩
theorem f__law_divided (T : Txt K mg) (C_over : Callee P w K mg base 3 "over" 2 [] m_over) {f : Addr} {fd : FuncData} (F : Fun K "_law_divided" "_law_divided" st__law_divided f fd) : FnOk P w K mg base (L2.CX P w) 4 f fd ["_law_one", "_law_other"] (spM K mg 2 m__law_divided) := by
  have K_BadRatio : ∃ C : Addr, mg "BadRatio" = some (.ref C) ∧ PySem.W.exmOne K (.ref C) (.ref C) = some true ∧ XfC K C ∧ PySem.W.findIn K (.ref C) "what" = some none := by
    obtain ⟨C, fI, fd, h1, h2, h3, h4, h5, F, h6, h7⟩ := T.X_BadRatio
    exact ⟨C, h1, h6, h7, h3 _ (by simp)⟩
  show FnOk P w K mg base (L2.CX P w) (3 + 1) f fd ["_law_one", "_law_other"] (spM K mg 2 (mDef 3 b__law_divided))
  refine okM F sc__law_divided rfl rfl (fun cdv A outer s H E hr => ?_)
  exact (qss_one (by obtain ⟨CC, hm_C, he_C, xf_C, no_what⟩ := K_BadRatio; exact qs_tryAs (C := CC) rfl rfl sc__law_divided.nd rfl rfl hm_C (by rfl) (by decide) cx_takes he_C (fun W pn xe tkT psT => (qss_one (qs_ret (qe_c C_over hr (by decide) tkT (qa_cons (qe_var 0) (qa_cons (qe_var 1) qa_nil)))))) ⟨fun a oe cls d pn hz hf => pss_one (ps_ret (pe_xf xf_C no_what hz hf (pv 2))), fun a dd => xs_ret xe_fld⟩))
theorem c__law_divided (T : Txt K mg) (C_over : Callee P w K mg base 3 "over" 2 [] m_over) : Callee P w K mg base 4 "_law_divided" 2 [] m__law_divided := by
  obtain ⟨f, fd, F, hm⟩ := T.F__law_divided
  exact ⟨f, fd, ["_law_one", "_law_other"], [], [], f__law_divided T C_over F, hm, F.kp, F.binds (ps := ["_law_one", "_law_other"]) (fun _ _ _ _ _ _ us hl => match us, hl with | [_, _], _ => rfl), .nil, fun _ _ => .nil⟩
theorem f_make_ratio (T : Txt K mg) (C_is_whole_1 : Callee P w K mg base 1 "is_whole" 3 [.non, .non] m_is_whole) (C_lowest_terms : Callee P w K mg base 1 "lowest_terms" 2 [] m_lowest_terms) {f : Addr} {fd : FuncData} (F : FunD K "make_ratio" "make_ratio" (defArgs st_make_ratio) (defBody st_make_ratio) (defScope st_make_ratio) [.int 1] [] f fd) : FnOk P w K mg base (L2.CX P w) 3 f fd ["top", "bottom"] (spM K mg 2 m_make_ratio) := by
  have T_BadRatio : Thrown P w K mg base "BadRatio" ["what"] := t_BadRatio T
  show FnOk P w K mg base (L2.CX P w) (2 + 1) f fd ["top", "bottom"] (spM K mg 2 (mDef 2 b_make_ratio))
  refine okMD F sc_make_ratio rfl rfl (fun cdv A outer s H E hr => ?_)
  exact (qss_cons (qs_if (qt_not (qt_tru (qe_c C_is_whole_1 hr (by decide) cx_takes (qa_cons (qe_var 0) qa_nil)))) (qss_one (qs_throw T_BadRatio hr (by decide) rfl cx_takes (qa_cons qe_str qa_nil))) qss_nil) (qss_cons (qs_if (qt_w (qw_or (qt_not (qt_tru (qe_c C_is_whole_1 hr (by decide) cx_takes (qa_cons (qe_var 1) qa_nil)))) (qw_or1 (qt_cmp (op_eqD hr.units) os_eq (qe_var 1) qe_int (nomark _))))) (qss_one (qs_throw T_BadRatio hr (by decide) rfl cx_takes (qa_cons qe_str qa_nil))) qss_nil) (qss_one (qs_ret (qe_c C_lowest_terms hr (by decide) cx_takes (qa_cons (qe_var 0) (qa_cons (qe_var 1) qa_nil)))))))
theorem c_make_ratio_1 (T : Txt K mg) (C_is_whole_1 : Callee P w K mg base 1 "is_whole" 3 [.non, .non] m_is_whole) (C_lowest_terms : Callee P w K mg base 1 "lowest_terms" 2 [] m_lowest_terms) : Callee P w K mg base 3 "make_ratio" 2 [.int 1] m_make_ratio := by
  obtain ⟨f, fd, F, hm⟩ := T.F_make_ratio
  obtain ⟨ds, hv, hb⟩ := FunD.binds1 (ps := ["top", "bottom"]) F 1 0 (by simp) rfl (fun T kV doc pm an cdv ct us its l1 l2 => match us, its, l1, l2 with | [_], [_], _, _ => ⟨_, rfl, rfl⟩)
  exact ⟨f, fd, ["top", "bottom"], _, ds, f_make_ratio T C_is_whole_1 C_lowest_terms F, hm, F.kp, hb, hv, fun _ _ => .cons (.int _) (.nil)⟩
theorem c_make_ratio (T : Txt K mg) (C_is_whole_1 : Callee P w K mg base 1 "is_whole" 3 [.non, .non] m_is_whole) (C_lowest_terms : Callee P w K mg base 1 "lowest_terms" 2 [] m_lowest_terms) : Callee P w K mg base 3 "make_ratio" 2 [] m_make_ratio := by
  obtain ⟨f, fd, F, hm⟩ := T.F_make_ratio
  obtain ⟨ds, hv, hb⟩ := FunD.binds1 (ps := ["top", "bottom"]) F 2 1 (by simp) rfl (fun T kV doc pm an cdv ct us its l1 l2 => match us, its, l1, l2 with | [_, _], [_], _, _ => ⟨_, rfl, rfl⟩)
  exact ⟨f, fd, ["top", "bottom"], _, ds, f_make_ratio T C_is_whole_1 C_lowest_terms F, hm, F.kp, hb, hv, fun _ _ => .nil⟩
theorem f_is_ratio (T : Txt K mg) (C_is_whole_1 : Callee P w K mg base 1 "is_whole" 3 [.non, .non] m_is_whole) (C_is_whole_2 : Callee P w K mg base 1 "is_whole" 3 [.non] m_is_whole) {f : Addr} {fd : FuncData} (F : Fun K "is_ratio" "is_ratio" st_is_ratio f fd) : FnOk P w K mg base (L2.CX P w) 2 f fd ["thing"] (spM K mg 1 m_is_ratio) := by
  have i_gcd := T.i_gcd
  have z_isinstance := T.z_isinstance
  have z_len := T.z_len
  have z_tuple := T.z_tuple
  show FnOk P w K mg base (L2.CX P w) (1 + 1) f fd ["thing"] (spM K mg 1 (mDef 3 b_is_ratio))
  refine okM F sc_is_ratio rfl rfl (fun cdv A outer s H E hr => ?_)
  exact (qss_cons (qs_if (qt_w (qw_or (qt_not (qt_tru (qe_isi (qe_var 0) (by rfl) z_isinstance (by rfl) z_tuple (by decide +kernel)))) (qw_or1 (qt_cmp (op_neD hr.units) os_ne (qe_callB call_lenA cs_len (by rfl) z_len (by decide +kernel) (qa_cons (qe_var 0) qa_nil)) qe_int (nomark _))))) (qss_one (qs_ret qe_bl)) qss_nil) (qss_cons (qs_asg (qe_var 0) (qg_seq 2 rfl (qgs_cons (qg_name 1 sc_is_ratio.nd) (qgs_cons (qg_name 2 sc_is_ratio.nd) qgs_nil)))) (qss_one (qs_ret (qe_and (qe_c C_is_whole_1 hr (by decide) cx_takes (qa_cons (qe_var 1) qa_nil)) (qe_and (qe_c C_is_whole_2 hr (by decide) cx_takes (qa_cons (qe_var 2) (qa_cons qe_int qa_nil))) (qe_one (qe_cmp (op_eqD hr.units) os_eq (qe_callBfun cr_gcd cs_gcd (by rfl) i_gcd (qa_cons (qe_var 1) (qa_cons (qe_var 2) qa_nil))) qe_int (nomark _)))))))))
theorem c_is_ratio (T : Txt K mg) (C_is_whole_1 : Callee P w K mg base 1 "is_whole" 3 [.non, .non] m_is_whole) (C_is_whole_2 : Callee P w K mg base 1 "is_whole" 3 [.non] m_is_whole) : Callee P w K mg base 2 "is_ratio" 1 [] m_is_ratio := by
  obtain ⟨f, fd, F, hm⟩ := T.F_is_ratio
  exact ⟨f, fd, ["thing"], [], [], f_is_ratio T C_is_whole_1 C_is_whole_2 F, hm, F.kp, F.binds (ps := ["thing"]) (fun _ _ _ _ _ _ us hl => match us, hl with | [_], _ => rfl), .nil, fun _ _ => .nil⟩
theorem f__law_over (T : Txt K mg) (C__law_ratio : Callee P w K mg base 2 "_law_ratio" 2 [] m__law_ratio) {f : Addr} {fd : FuncData} (F : Fun K "_law_over" "_law_over" st__law_over f fd) : FnOk P w K mg base (L2.CX P w) 3 f fd ["_law_one", "_law_other"] (spM K mg 2 m__law_over) := by
  show FnOk P w K mg base (L2.CX P w) (2 + 1) f fd ["_law_one", "_law_other"] (spM K mg 2 (mDef 2 b__law_over))
  refine okM F sc__law_over rfl rfl (fun cdv A outer s H E hr => ?_)
  exact (qss_one (qs_ret (qe_c C__law_ratio hr (by decide) cx_takes (qa_cons (qe_op op_mulA os_mul (qe_ix (qe_var 0) qe_int) (qe_ix (qe_var 1) qe_int)) (qa_cons (qe_op op_mulA os_mul (qe_ix (qe_var 0) qe_int) (qe_ix (qe_var 1) qe_int)) qa_nil)))))
theorem c__law_over (T : Txt K mg) (C__law_ratio : Callee P w K mg base 2 "_law_ratio" 2 [] m__law_ratio) : Callee P w K mg base 3 "_law_over" 2 [] m__law_over := by
  obtain ⟨f, fd, F, hm⟩ := T.F__law_over
  exact ⟨f, fd, ["_law_one", "_law_other"], [], [], f__law_over T C__law_ratio F, hm, F.kp, F.binds (ps := ["_law_one", "_law_other"]) (fun _ _ _ _ _ _ us hl => match us, hl with | [_, _], _ => rfl), .nil, fun _ _ => .nil⟩
theorem f_minus (T : Txt K mg) (C_lowest_terms : Callee P w K mg base 1 "lowest_terms" 2 [] m_lowest_terms) {f : Addr} {fd : FuncData} (F : Fun K "minus" "minus" st_minus f fd) : FnOk P w K mg base (L2.CX P w) 2 f fd ["one", "other"] (spM K mg 2 m_minus) := by
  show FnOk P w K mg base (L2.CX P w) (1 + 1) f fd ["one", "other"] (spM K mg 2 (mDef 2 b_minus))
  refine okM F sc_minus rfl rfl (fun cdv A outer s H E hr => ?_)
  exact (qss_one (qs_ret (qe_c C_lowest_terms hr (by decide) cx_takes (qa_cons (qe_op op_sub os_sub (qe_op op_mulA os_mul (qe_ix (qe_var 0) qe_int) (qe_ix (qe_var 1) qe_int)) (qe_op op_mulA os_mul (qe_ix (qe_var 1) qe_int) (qe_ix (qe_var 0) qe_int))) (qa_cons (qe_op op_mulA os_mul (qe_ix (qe_var 0) qe_int) (qe_ix (qe_var 1) qe_int)) qa_nil)))))
theorem c_minus (T : Txt K mg) (C_lowest_terms : Callee P w K mg base 1 "lowest_terms" 2 [] m_lowest_terms) : Callee P w K mg base 2 "minus" 2 [] m_minus := by
  obtain ⟨f, fd, F, hm⟩ := T.F_minus
  exact ⟨f, fd, ["one", "other"], [], [], f_minus T C_lowest_terms F, hm, F.kp, F.binds (ps := ["one", "other"]) (fun _ _ _ _ _ _ us hl => match us, hl with | [_, _], _ => rfl), .nil, fun _ _ => .nil⟩
theorem f__law_compare (T : Txt K mg) {f : Addr} {fd : FuncData} (F : Fun K "_law_compare" "_law_compare" st__law_compare f fd) : FnOk P w K mg base (L2.CX P w) 1 f fd ["_law_one", "_law_other"] (spM K mg 2 m__law_compare) := by
  show FnOk P w K mg base (L2.CX P w) (0 + 1) f fd ["_law_one", "_law_other"] (spM K mg 2 (mDef 4 b__law_compare))
  refine okM F sc__law_compare rfl rfl (fun cdv A outer s H E hr => ?_)
  exact (qss_cons (qs_par 2 3 rfl sc__law_compare.nd (by decide) (qa_cons (qe_op op_mulA os_mul (qe_ix (qe_var 0) qe_int) (qe_ix (qe_var 1) qe_int)) (qa_cons (qe_op op_mulA os_mul (qe_ix (qe_var 1) qe_int) (qe_ix (qe_var 0) qe_int)) qa_nil))) (qss_cons (qs_if (qt_cmp (op_eqD hr.units) os_eq (qe_var 2) (qe_var 3) (nomark _)) (qss_one (qs_ret qe_int)) qss_nil) (qss_one (qs_ret (qe_if (qt_cmp op_lt os_lt (qe_var 2) (qe_var 3) (nomark _)) (qe_un un_neg us_neg qe_int) qe_int)))))
theorem c__law_compare (T : Txt K mg) : Callee P w K mg base 1 "_law_compare" 2 [] m__law_compare := by
  obtain ⟨f, fd, F, hm⟩ := T.F__law_compare
  exact ⟨f, fd, ["_law_one", "_law_other"], [], [], f__law_compare T  F, hm, F.kp, F.binds (ps := ["_law_one", "_law_other"]) (fun _ _ _ _ _ _ us hl => match us, hl with | [_, _], _ => rfl), .nil, fun _ _ => .nil⟩
theorem f__law_wide_ratio (T : Txt K mg) (C__law_ratio : Callee P w K mg base 2 "_law_ratio" 2 [] m__law_ratio) (C__law_wide : Callee P w K mg base 2 "_law_wide" 1 [] m__law_wide) {f : Addr} {fd : FuncData} (F : Fun K "_law_wide_ratio" "_law_wide_ratio" st__law_wide_ratio f fd) : FnOk P w K mg base (L2.CX P w) 3 f fd ["_law_hand_here"] (spM K mg 1 m__law_wide_ratio) := by
  have z_abs := T.z_abs
  show FnOk P w K mg base (L2.CX P w) (2 + 1) f fd ["_law_hand_here"] (spM K mg 1 (mDef 1 b__law_wide_ratio))
  refine okM F sc__law_wide_ratio rfl rfl (fun cdv A outer s H E hr => ?_)
  exact (qss_one (qs_ret (qe_c C__law_ratio hr (by decide) cx_takes (qa_cons (qe_c C__law_wide hr (by decide) cx_takes (qa_cons (qe_var 0) qa_nil)) (qa_cons (qe_op op_addA os_add qe_int (qe_callB call_abs cs_abs (by rfl) z_abs (by decide +kernel) (qa_cons (qe_c C__law_wide hr (by decide) cx_takes (qa_cons (qe_var 0) qa_nil)) qa_nil))) qa_nil)))))
theorem c__law_wide_ratio (T : Txt K mg) (C__law_ratio : Callee P w K mg base 2 "_law_ratio" 2 [] m__law_ratio) (C__law_wide : Callee P w K mg base 2 "_law_wide" 1 [] m__law_wide) : Callee P w K mg base 3 "_law_wide_ratio" 1 [] m__law_wide_ratio := by
  obtain ⟨f, fd, F, hm⟩ := T.F__law_wide_ratio
  exact ⟨f, fd, ["_law_hand_here"], [], [], f__law_wide_ratio T C__law_ratio C__law_wide F, hm, F.kp, F.binds (ps := ["_law_hand_here"]) (fun _ _ _ _ _ _ us hl => match us, hl with | [_], _ => rfl), .nil, fun _ _ => .nil⟩
theorem f_compare (T : Txt K mg) {f : Addr} {fd : FuncData} (F : Fun K "compare" "compare" st_compare f fd) : FnOk P w K mg base (L2.CX P w) 1 f fd ["one", "other"] (spM K mg 2 m_compare) := by
  show FnOk P w K mg base (L2.CX P w) (0 + 1) f fd ["one", "other"] (spM K mg 2 (mDef 4 b_compare))
  refine okM F sc_compare rfl rfl (fun cdv A outer s H E hr => ?_)
  exact (qss_cons (qs_set 2 sc_compare.nd (qe_op op_mulA os_mul (qe_ix (qe_var 0) qe_int) (qe_ix (qe_var 1) qe_int))) (qss_cons (qs_set 3 sc_compare.nd (qe_op op_mulA os_mul (qe_ix (qe_var 1) qe_int) (qe_ix (qe_var 0) qe_int))) (qss_cons (qs_if (qt_cmp op_lt os_lt (qe_var 2) (qe_var 3) (nomark _)) (qss_one (qs_ret (qe_un un_neg us_neg qe_int))) qss_nil) (qss_one (qs_ret (qe_if (qt_cmp op_gt os_gt (qe_var 2) (qe_var 3) (nomark _)) qe_int qe_int))))))
theorem c_compare (T : Txt K mg) : Callee P w K mg base 1 "compare" 2 [] m_compare := by
  obtain ⟨f, fd, F, hm⟩ := T.F_compare
  exact ⟨f, fd, ["one", "other"], [], [], f_compare T  F, hm, F.kp, F.binds (ps := ["one", "other"]) (fun _ _ _ _ _ _ us hl => match us, hl with | [_, _], _ => rfl), .nil, fun _ _ => .nil⟩
theorem f_least_of (T : Txt K mg) (C_compare : Callee P w K mg base 1 "compare" 2 [] m_compare) {f : Addr} {fd : FuncData} (F : Fun K "least_of" "least_of" st_least_of f fd) : FnOk P w K mg base (L2.CX P w) 2 f fd ["row"] (spM K mg 1 m_least_of) := by
  show FnOk P w K mg base (L2.CX P w) (1 + 1) f fd ["row"] (spM K mg 1 (mDef 3 b_least_of))
  refine okM F sc_least_of rfl rfl (fun cdv A outer s H E hr => ?_)
  exact (qss_cons (qs_set 1 sc_least_of.nd (qe_ix (qe_var 0) qe_int)) (qss_cons (qs_for cx_pass rfl (qi_seq (qe_var 0)) (qg_name 2 sc_least_of.nd) (qss_one (qs_if (qt_cmp op_lt os_lt (qe_c C_compare hr (by decide) cx_takes (qa_cons (qe_var 2) (qa_cons (qe_var 1) qa_nil))) qe_int (nomark _)) (qss_one (qs_set 1 sc_least_of.nd (qe_var 2))) qss_nil))) (qss_one (qs_ret (qe_var 1)))))
theorem c_least_of (T : Txt K mg) (C_compare : Callee P w K mg base 1 "compare" 2 [] m_compare) : Callee P w K mg base 2 "least_of" 1 [] m_least_of := by
  obtain ⟨f, fd, F, hm⟩ := T.F_least_of
  exact ⟨f, fd, ["row"], [], [], f_least_of T C_compare F, hm, F.kp, F.binds (ps := ["row"]) (fun _ _ _ _ _ _ us hl => match us, hl with | [_], _ => rfl), .nil, fun _ _ => .nil⟩
theorem f__law_below (T : Txt K mg) {f : Addr} {fd : FuncData} (F : Fun K "_law_below" "_law_below" st__law_below f fd) : FnOk P w K mg base (L2.CX P w) 1 f fd ["_law_one", "_law_other"] (spM K mg 2 m__law_below) := by
  show FnOk P w K mg base (L2.CX P w) (0 + 1) f fd ["_law_one", "_law_other"] (spM K mg 2 (mDef 2 b__law_below))
  refine okM F sc__law_below rfl rfl (fun cdv A outer s H E hr => ?_)
  exact (qss_one (qs_ret (qe_cmp op_lt os_lt (qe_op op_mulA os_mul (qe_ix (qe_var 0) qe_int) (qe_ix (qe_var 1) qe_int)) (qe_op op_mulA os_mul (qe_ix (qe_var 1) qe_int) (qe_ix (qe_var 0) qe_int)) (nomark _))))
theorem c__law_below (T : Txt K mg) : Callee P w K mg base 1 "_law_below" 2 [] m__law_below := by
  obtain ⟨f, fd, F, hm⟩ := T.F__law_below
  exact ⟨f, fd, ["_law_one", "_law_other"], [], [], f__law_below T  F, hm, F.kp, F.binds (ps := ["_law_one", "_law_other"]) (fun _ _ _ _ _ _ us hl => match us, hl with | [_, _], _ => rfl), .nil, fun _ _ => .nil⟩
theorem f_greatest_of (T : Txt K mg) (C_compare : Callee P w K mg base 1 "compare" 2 [] m_compare) {f : Addr} {fd : FuncData} (F : Fun K "greatest_of" "greatest_of" st_greatest_of f fd) : FnOk P w K mg base (L2.CX P w) 2 f fd ["row"] (spM K mg 1 m_greatest_of) := by
  show FnOk P w K mg base (L2.CX P w) (1 + 1) f fd ["row"] (spM K mg 1 (mDef 3 b_greatest_of))
  refine okM F sc_greatest_of rfl rfl (fun cdv A outer s H E hr => ?_)
  exact (qss_cons (qs_set 1 sc_greatest_of.nd (qe_ix (qe_var 0) qe_int)) (qss_cons (qs_for cx_pass rfl (qi_seq (qe_var 0)) (qg_name 2 sc_greatest_of.nd) (qss_one (qs_if (qt_cmp op_gt os_gt (qe_c C_compare hr (by decide) cx_takes (qa_cons (qe_var 2) (qa_cons (qe_var 1) qa_nil))) qe_int (nomark _)) (qss_one (qs_set 1 sc_greatest_of.nd (qe_var 2))) qss_nil))) (qss_one (qs_ret (qe_var 1)))))
theorem c_greatest_of (T : Txt K mg) (C_compare : Callee P w K mg base 1 "compare" 2 [] m_compare) : Callee P w K mg base 2 "greatest_of" 1 [] m_greatest_of := by
  obtain ⟨f, fd, F, hm⟩ := T.F_greatest_of
  exact ⟨f, fd, ["row"], [], [], f_greatest_of T C_compare F, hm, F.kp, F.binds (ps := ["row"]) (fun _ _ _ _ _ _ us hl => match us, hl with | [_], _ => rfl), .nil, fun _ _ => .nil⟩
theorem f_sum_of (T : Txt K mg) (C_plus : Callee P w K mg base 2 "plus" 2 [] m_plus) {f : Addr} {fd : FuncData} (F : Fun K "sum_of" "sum_of" st_sum_of f fd) : FnOk P w K mg base (L2.CX P w) 3 f fd ["row"] (spM K mg 1 m_sum_of) := by
  obtain ⟨_, g_ZERO⟩ := T.g_ZERO
  show FnOk P w K mg base (L2.CX P w) (2 + 1) f fd ["row"] (spM K mg 1 (mDef 3 b_sum_of))
  refine okM F sc_sum_of rfl rfl (fun cdv A outer s H E hr => ?_)
  exact (qss_cons (qs_set 1 sc_sum_of.nd (qe_glob (v := .ref _) (by rfl) g_ZERO.1 rfl g_ZERO.2)) (qss_cons (qs_for cx_pass rfl (qi_seq (qe_var 0)) (qg_name 2 sc_sum_of.nd) (qss_one (qs_set 1 sc_sum_of.nd (qe_c C_plus hr (by decide) cx_takes (qa_cons (qe_var 1) (qa_cons (qe_var 2) qa_nil)))))) (qss_one (qs_ret (qe_var 1)))))
theorem c_sum_of (T : Txt K mg) (C_plus : Callee P w K mg base 2 "plus" 2 [] m_plus) : Callee P w K mg base 3 "sum_of" 1 [] m_sum_of := by
  obtain ⟨f, fd, F, hm⟩ := T.F_sum_of
  exact ⟨f, fd, ["row"], [], [], f_sum_of T C_plus F, hm, F.kp, F.binds (ps := ["row"]) (fun _ _ _ _ _ _ us hl => match us, hl with | [_], _ => rfl), .nil, fun _ _ => .nil⟩
theorem f__law_plain (T : Txt K mg) {f : Addr} {fd : FuncData} (F : Fun K "_law_plain" "_law_plain" st__law_plain f fd) : FnOk P w K mg base (L2.CX P w) 1 f fd ["_law_told", "_law_due"] (spM K mg 2 m__law_plain) := by
  have z_bool := T.z_bool
  have z_int := T.z_int
  have z_isinstance := T.z_isinstance
  have z_len := T.z_len
  have z_tuple := T.z_tuple
  show FnOk P w K mg base (L2.CX P w) (0 + 1) f fd ["_law_told", "_law_due"] (spM K mg 2 (mDef 3 b__law_plain))
  refine okM F sc__law_plain rfl rfl (fun cdv A outer s H E hr => ?_)
  exact (qss_cons (qs_if (qt_w (qw_or (qt_not (qt_tru (qe_isi (qe_var 0) (by rfl) z_isinstance (by rfl) z_tuple (by decide +kernel)))) (qw_or1 (qt_cmp (op_neD hr.units) os_ne (qe_callB call_lenA cs_len (by rfl) z_len (by decide +kernel) (qa_cons (qe_var 0) qa_nil)) qe_int (nomark _))))) (qss_one (qs_ret qe_bl)) qss_nil) (qss_cons (qs_for cx_pass rfl (qi_seq (qe_var 0)) (qg_name 2 sc__law_plain.nd) (qss_one (qs_if (qt_w (qw_or (qt_not (qt_tru (qe_isi (qe_var 2) (by rfl) z_isinstance (by rfl) z_int (by decide +kernel)))) (qw_or1 (qt_tru (qe_isi (qe_var 2) (by rfl) z_isinstance (by rfl) z_bool (by decide +kernel)))))) (qss_one (qs_ret qe_bl)) qss_nil))) (qss_one (qs_ret (qe_cmp (op_eqD hr.units) os_eq (qe_var 0) (qe_var 1) (nomark _))))))
theorem c__law_plain (T : Txt K mg) : Callee P w K mg base 1 "_law_plain" 2 [] m__law_plain := by
  obtain ⟨f, fd, F, hm⟩ := T.F__law_plain
  exact ⟨f, fd, ["_law_told", "_law_due"], [], [], f__law_plain T  F, hm, F.kp, F.binds (ps := ["_law_told", "_law_due"]) (fun _ _ _ _ _ _ us hl => match us, hl with | [_, _], _ => rfl), .nil, fun _ _ => .nil⟩
theorem f__law_plus (T : Txt K mg) (C__law_ratio : Callee P w K mg base 2 "_law_ratio" 2 [] m__law_ratio) {f : Addr} {fd : FuncData} (F : Fun K "_law_plus" "_law_plus" st__law_plus f fd) : FnOk P w K mg base (L2.CX P w) 3 f fd ["_law_one", "_law_other"] (spM K mg 2 m__law_plus) := by
  show FnOk P w K mg base (L2.CX P w) (2 + 1) f fd ["_law_one", "_law_other"] (spM K mg 2 (mDef 2 b__law_plus))
  refine okM F sc__law_plus rfl rfl (fun cdv A outer s H E hr => ?_)
  exact (qss_one (qs_ret (qe_c C__law_ratio hr (by decide) cx_takes (qa_cons (qe_op op_addA os_add (qe_op op_mulA os_mul (qe_ix (qe_var 0) qe_int) (qe_ix (qe_var 1) qe_int)) (qe_op op_mulA os_mul (qe_ix (qe_var 1) qe_int) (qe_ix (qe_var 0) qe_int))) (qa_cons (qe_op op_mulA os_mul (qe_ix (qe_var 0) qe_int) (qe_ix (qe_var 1) qe_int)) qa_nil)))))
theorem c__law_plus (T : Txt K mg) (C__law_ratio : Callee P w K mg base 2 "_law_ratio" 2 [] m__law_ratio) : Callee P w K mg base 3 "_law_plus" 2 [] m__law_plus := by
  obtain ⟨f, fd, F, hm⟩ := T.F__law_plus
  exact ⟨f, fd, ["_law_one", "_law_other"], [], [], f__law_plus T C__law_ratio F, hm, F.kp, F.binds (ps := ["_law_one", "_law_other"]) (fun _ _ _ _ _ _ us hl => match us, hl with | [_, _], _ => rfl), .nil, fun _ _ => .nil⟩
theorem f__law_sum (T : Txt K mg) (C__law_plus : Callee P w K mg base 3 "_law_plus" 2 [] m__law_plus) {f : Addr} {fd : FuncData} (F : Fun K "_law_sum" "_law_sum" st__law_sum f fd) : FnOk P w K mg base (L2.CX P w) 4 f fd ["_law_rows_here"] (spM K mg 1 m__law_sum) := by
  show FnOk P w K mg base (L2.CX P w) (3 + 1) f fd ["_law_rows_here"] (spM K mg 1 (mDef 3 b__law_sum))
  refine okM F sc__law_sum rfl rfl (fun cdv A outer s H E hr => ?_)
  exact (qss_cons (qs_set 1 sc__law_sum.nd (qe_tup (qa_cons qe_int (qa_cons qe_int qa_nil)))) (qss_cons (qs_for cx_pass rfl (qi_seq (qe_var 0)) (qg_name 2 sc__law_sum.nd) (qss_one (qs_set 1 sc__law_sum.nd (qe_c C__law_plus hr (by decide) cx_takes (qa_cons (qe_var 1) (qa_cons (qe_var 2) qa_nil)))))) (qss_one (qs_ret (qe_var 1)))))
theorem c__law_sum (T : Txt K mg) (C__law_plus : Callee P w K mg base 3 "_law_plus" 2 [] m__law_plus) : Callee P w K mg base 4 "_law_sum" 1 [] m__law_sum := by
  obtain ⟨f, fd, F, hm⟩ := T.F__law_sum
  exact ⟨f, fd, ["_law_rows_here"], [], [], f__law_sum T C__law_plus F, hm, F.kp, F.binds (ps := ["_law_rows_here"]) (fun _ _ _ _ _ _ us hl => match us, hl with | [_], _ => rfl), .nil, fun _ _ => .nil⟩
theorem f__law_rows (T : Txt K mg) (C__law_below : Callee P w K mg base 1 "_law_below" 2 [] m__law_below) (C__law_plain : Callee P w K mg base 1 "_law_plain" 2 [] m__law_plain) (C__law_sum : Callee P w K mg base 4 "_law_sum" 1 [] m__law_sum) (C__law_take : Callee P w K mg base 1 "_law_take" 2 [] m__law_take) (C__law_wide_ratio : Callee P w K mg base 3 "_law_wide_ratio" 1 [] m__law_wide_ratio) (C_greatest_of : Callee P w K mg base 2 "greatest_of" 1 [] m_greatest_of) (C_least_of : Callee P w K mg base 2 "least_of" 1 [] m_least_of) (C_sum_of : Callee P w K mg base 3 "sum_of" 1 [] m_sum_of) {f : Addr} {fd : FuncData} (F : Fun K "_law_rows" "_law_rows" st__law_rows f fd) : FnOk P w K mg base (L2.CX P w) 5 f fd ["_law_hand_here"] (spM K mg 1 m__law_rows) := by
  have z_range := T.z_range
  have z_tuple := T.z_tuple
  show FnOk P w K mg base (L2.CX P w) (4 + 1) f fd ["_law_hand_here"] (spM K mg 1 (mDef 6 b__law_rows))
  refine okM F sc__law_rows rfl rfl (fun cdv A outer s H E hr => ?_)
  exact (qss_cons (qs_setLc 1 rfl sc__law_rows.nd (qi_rng1 (by rfl) z_range (qe_op op_addA os_add qe_int (qe_c C__law_take hr (by decide) cx_takes (qa_cons (qe_var 0) (qa_cons qe_int qa_nil))))) (blkOk_by (N := ["_law_hand_here", "_law_row", "_law_turn", "_law_least", "_law_most", "_law_one"]) (sc := defScope st__law_rows) (own := [("_law_turn", 2)]) (by decide +kernel)) rfl (by decide) sg_name (g := gName 2) (fun _ _ _ _ _ => (qg_name 2 sc__law_rows.nd).1) (fun _ _ _ _ _ => qts_nil) (fun _ _ _ _ _ => (qe_c C__law_wide_ratio hr (by decide) takes0 (qa_cons (qe_var 0) qa_nil)))) (qss_cons (qs_if (qt_w (qw_or (qt_not (qt_tru (qe_c C__law_plain hr (by decide) cx_takes (qa_cons (qe_c C_sum_of hr (by decide) cx_takes (qa_cons (qe_var 1) qa_nil)) (qa_cons (qe_c C__law_sum hr (by decide) cx_takes (qa_cons (qe_var 1) qa_nil)) qa_nil))))) (qw_or1 (qt_not (qt_tru (qe_c C__law_plain hr (by decide) cx_takes (qa_cons (qe_c C_sum_of hr (by decide) cx_takes (qa_cons (qe_tup qa_nil) qa_nil)) (qa_cons (qe_tup (qa_cons qe_int (qa_cons qe_int qa_nil))) qa_nil)))))))) (qss_one (qs_ret qe_bl)) qss_nil) (qss_cons (qs_asg (qe_tup (qa_cons (qe_c C_least_of hr (by decide) cx_takes (qa_cons (qe_callTy call_tuple_of cs_tuple (by rfl) z_tuple (by decide +kernel) (qa_cons (qe_var 1) qa_nil)) qa_nil)) (qa_cons (qe_c C_greatest_of hr (by decide) cx_takes (qa_cons (qe_var 1) qa_nil)) qa_nil))) (qg_seq 2 rfl (qgs_cons (qg_name 3 sc__law_rows.nd) (qgs_cons (qg_name 4 sc__law_rows.nd) qgs_nil)))) (qss_cons (qs_if (qt_w (qw_or (qt_cmp (op_notInD hr.units65) os_notIn (qe_var 3) (qe_var 1) rfl) (qw_or1 (qt_cmp (op_notInD hr.units65) os_notIn (qe_var 4) (qe_var 1) rfl)))) (qss_one (qs_ret qe_bl)) qss_nil) (qss_one (qs_ret (qe_not (qe_lc rfl sc__law_rows.nd (qi_seq (qe_var 1)) (blkOk_by (N := ["_law_hand_here", "_law_row", "_law_turn", "_law_least", "_law_most", "_law_one"]) (sc := defScope st__law_rows) (own := [("_law_one", 5)]) (by decide +kernel)) rfl (by decide) sg_name (g := gName 5) (fun _ _ _ _ _ => (qg_name 5 sc__law_rows.nd).1) (fun _ _ _ _ _ => (qts_one (qt_w (qw_or (qt_tru (qe_c C__law_below hr (by decide) takes0 (qa_cons (qe_var 5) (qa_cons (qe_var 3) qa_nil)))) (qw_or1 (qt_tru (qe_c C__law_below hr (by decide) takes0 (qa_cons (qe_var 4) (qa_cons (qe_var 5) qa_nil))))))))) (fun _ _ _ _ _ => qe_int)))))))))
theorem c__law_rows (T : Txt K mg) (C__law_below : Callee P w K mg base 1 "_law_below" 2 [] m__law_below) (C__law_plain : Callee P w K mg base 1 "_law_plain" 2 [] m__law_plain) (C__law_sum : Callee P w K mg base 4 "_law_sum" 1 [] m__law_sum) (C__law_take : Callee P w K mg base 1 "_law_take" 2 [] m__law_take) (C__law_wide_ratio : Callee P w K mg base 3 "_law_wide_ratio" 1 [] m__law_wide_ratio) (C_greatest_of : Callee P w K mg base 2 "greatest_of" 1 [] m_greatest_of) (C_least_of : Callee P w K mg base 2 "least_of" 1 [] m_least_of) (C_sum_of : Callee P w K mg base 3 "sum_of" 1 [] m_sum_of) : Callee P w K mg base 5 "_law_rows" 1 [] m__law_rows := by
  obtain ⟨f, fd, F, hm⟩ := T.F__law_rows
  exact ⟨f, fd, ["_law_hand_here"], [], [], f__law_rows T C__law_below C__law_plain C__law_sum C__law_take C__law_wide_ratio C_greatest_of C_least_of C_sum_of F, hm, F.kp, F.binds (ps := ["_law_hand_here"]) (fun _ _ _ _ _ _ us hl => match us, hl with | [_], _ => rfl), .nil, fun _ _ => .nil⟩
theorem f__law_times (T : Txt K mg) (C__law_ratio : Callee P w K mg base 2 "_law_ratio" 2 [] m__law_ratio) {f : Addr} {fd : FuncData} (F : Fun K "_law_times" "_law_times" st__law_times f fd) : FnOk P w K mg base (L2.CX P w) 3 f fd ["_law_one", "_law_other"] (spM K mg 2 m__law_times) := by
  show FnOk P w K mg base (L2.CX P w) (2 + 1) f fd ["_law_one", "_law_other"] (spM K mg 2 (mDef 2 b__law_times))
  refine okM F sc__law_times rfl rfl (fun cdv A outer s H E hr => ?_)
  exact (qss_one (qs_ret (qe_c C__law_ratio hr (by decide) cx_takes (qa_cons (qe_op op_mulA os_mul (qe_ix (qe_var 0) qe_int) (qe_ix (qe_var 1) qe_int)) (qa_cons (qe_op op_mulA os_mul (qe_ix (qe_var 0) qe_int) (qe_ix (qe_var 1) qe_int)) qa_nil)))))
theorem c__law_times (T : Txt K mg) (C__law_ratio : Callee P w K mg base 2 "_law_ratio" 2 [] m__law_ratio) : Callee P w K mg base 3 "_law_times" 2 [] m__law_times := by
  obtain ⟨f, fd, F, hm⟩ := T.F__law_times
  exact ⟨f, fd, ["_law_one", "_law_other"], [], [], f__law_times T C__law_ratio F, hm, F.kp, F.binds (ps := ["_law_one", "_law_other"]) (fun _ _ _ _ _ _ us hl => match us, hl with | [_, _], _ => rfl), .nil, fun _ _ => .nil⟩
theorem f__law_refused (T : Txt K mg) (C_make_ratio : Callee P w K mg base 3 "make_ratio" 2 [] m_make_ratio) {f : Addr} {fd : FuncData} (F : Fun K "_law_refused" "_law_refused" st__law_refused f fd) : FnOk P w K mg base (L2.CX P w) 4 f fd ["_law_top", "_law_bottom"] (spM K mg 2 m__law_refused) := by
  have K_BadRatio : ∃ C : Addr, mg "BadRatio" = some (.ref C) ∧ PySem.W.exmOne K (.ref C) (.ref C) = some true ∧ XfC K C ∧ PySem.W.findIn K (.ref C) "what" = some none := by
    obtain ⟨C, fI, fd, h1, h2, h3, h4, h5, F, h6, h7⟩ := T.X_BadRatio
    exact ⟨C, h1, h6, h7, h3 _ (by simp)⟩
  show FnOk P w K mg base (L2.CX P w) (3 + 1) f fd ["_law_top", "_law_bottom"] (spM K mg 2 (mDef 3 b__law_refused))
  refine okM F sc__law_refused rfl rfl (fun cdv A outer s H E hr => ?_)
  exact (qss_cons (by obtain ⟨CC, hm_C, he_C, xf_C, no_what⟩ := K_BadRatio; exact qs_tryAs (C := CC) rfl rfl sc__law_refused.nd rfl rfl hm_C (by rfl) (by decide) cx_takes he_C (fun W pn xe tkT psT => (qss_one (qs_expr (qe_c C_make_ratio hr (by decide) tkT (qa_cons (qe_var 0) (qa_cons (qe_var 1) qa_nil)))))) ⟨fun a oe cls d pn hz hf => pss_one (ps_ret (pe_xf xf_C no_what hz hf (pv 2))), fun a dd => xs_ret xe_fld⟩) (qss_one (qs_ret qe_non)))
theorem c__law_refused (T : Txt K mg) (C_make_ratio : Callee P w K mg base 3 "make_ratio" 2 [] m_make_ratio) : Callee P w K mg base 4 "_law_refused" 2 [] m__law_refused := by
  obtain ⟨f, fd, F, hm⟩ := T.F__law_refused
  exact ⟨f, fd, ["_law_top", "_law_bottom"], [], [], f__law_refused T C_make_ratio F, hm, F.kp, F.binds (ps := ["_law_top", "_law_bottom"]) (fun _ _ _ _ _ _ us hl => match us, hl with | [_, _], _ => rfl), .nil, fun _ _ => .nil⟩
theorem f_law (T : Txt K mg) (C__law_compare : Callee P w K mg base 1 "_law_compare" 2 [] m__law_compare) (C__law_divided : Callee P w K mg base 4 "_law_divided" 2 [] m__law_divided) (C__law_less : Callee P w K mg base 3 "_law_less" 2 [] m__law_less) (C__law_odd : Callee P w K mg base 2 "_law_odd" 1 [] m__law_odd) (C__law_over : Callee P w K mg base 3 "_law_over" 2 [] m__law_over) (C__law_plain : Callee P w K mg base 1 "_law_plain" 2 [] m__law_plain) (C__law_plus : Callee P w K mg base 3 "_law_plus" 2 [] m__law_plus) (C__law_ratio : Callee P w K mg base 2 "_law_ratio" 2 [] m__law_ratio) (C__law_refused : Callee P w K mg base 4 "_law_refused" 2 [] m__law_refused) (C__law_rows : Callee P w K mg base 5 "_law_rows" 1 [] m__law_rows) (C__law_take : Callee P w K mg base 1 "_law_take" 2 [] m__law_take) (C__law_times : Callee P w K mg base 3 "_law_times" 2 [] m__law_times) (C__law_whole : Callee P w K mg base 3 "_law_whole" 1 [] m__law_whole) (C__law_wide : Callee P w K mg base 2 "_law_wide" 1 [] m__law_wide) (C__law_wide_ratio : Callee P w K mg base 3 "_law_wide_ratio" 1 [] m__law_wide_ratio) (C_compare : Callee P w K mg base 1 "compare" 2 [] m_compare) (C_is_ratio : Callee P w K mg base 2 "is_ratio" 1 [] m_is_ratio) (C_make_ratio_1 : Callee P w K mg base 3 "make_ratio" 2 [.int 1] m_make_ratio) (C_make_ratio : Callee P w K mg base 3 "make_ratio" 2 [] m_make_ratio) (C_minus : Callee P w K mg base 2 "minus" 2 [] m_minus) (C_negative : Callee P w K mg base 1 "negative" 1 [] m_negative) (C_plus : Callee P w K mg base 2 "plus" 2 [] m_plus) (C_size_of : Callee P w K mg base 1 "size_of" 1 [] m_size_of) (C_times : Callee P w K mg base 2 "times" 2 [] m_times) (M : ∀ s : Hd, ∃ s' : Hd, b_law (lawE 8) s = .ok (.rt (.bl true)) s') {f : Addr} {fd : FuncData} (F : Fun K "law" "law" st_law f fd) : FnOk P w K mg base (L2.CX P w) 6 f fd ["_law_script"] (spLaw K) := by
  obtain ⟨_, g_HALF⟩ := T.g_HALF
  obtain ⟨_, g_ONE⟩ := T.g_ONE
  obtain ⟨_, g_ZERO⟩ := T.g_ZERO
  have z_abs := T.z_abs
  have z_bool := T.z_bool
  have z_isinstance := T.z_isinstance
  have z_list := T.z_list
  obtain ⟨fh, fdh, Fh, hmh⟩ := T.F__law_hand
  have Gh : FnOk P w K mg base (L2.CX P w) 1 fh fdh ["_law_script"] (spHand K) := f__law_hand T Fh
  have bh : Binds K fdh ["_law_script"] [] := Fh.binds (ps := ["_law_script"]) (fun _ _ _ _ _ _ us hl => match us, hl with | [_], _ => rfl)
  refine F.okX (k := 5) sc_law (fun vs H Q E h => ?_) (fun cdv A outer s H vs Q E hr h => ?_)
  · obtain ⟨a, ns, rfl, _⟩ := h
    rfl
  · have h' := h
    obtain ⟨a, ns, rfl, _⟩ := h'
    obtain ⟨ts, q, ss⟩ : QSs (cxD P w K mg base ["_law_script", "_law_hand_here", "_law_top", "_law_bottom", "_law_factor", "_law_odd_here", "_law_one", "_law_other", "_law_told", "_law_order"] "law" (defScope st_law) f cdv A outer s H E) (wE E) ((defBody st_law).drop 1) b_law := by
      exact (qss_cons (qs_if (qt_cmp (op_neD hr.units) os_ne (qe_tup (qa_cons (qe_glob (v := .ref _) (by rfl) g_ZERO.1 rfl g_ZERO.2) (qa_cons (qe_glob (v := .ref _) (by rfl) g_ONE.1 rfl g_ONE.2) (qa_cons (qe_glob (v := .ref _) (by rfl) g_HALF.1 rfl g_HALF.2) qa_nil)))) (qe_tup (qa_cons (qe_tup (qa_cons qe_int (qa_cons qe_int qa_nil))) (qa_cons (qe_tup (qa_cons qe_int (qa_cons qe_int qa_nil))) (qa_cons (qe_tup (qa_cons qe_int (qa_cons qe_int qa_nil))) qa_nil)))) (nomark _)) (qss_one (qs_ret qe_bl)) qss_nil) (qss_cons (qs_par 2 3 rfl sc_law.nd (by decide) (qa_cons (qe_c C__law_wide hr (by decide) cx_takes (qa_cons (qe_var 1) qa_nil)) (qa_cons (qe_c C__law_wide hr (by decide) cx_takes (qa_cons (qe_var 1) qa_nil)) qa_nil))) (qss_cons (qs_if (qt_cmp (op_eqD hr.units) os_eq (qe_var 3) qe_int (nomark _)) (qss_cons (qs_if (qt_cmp (op_neD hr.units) os_ne (qe_c C__law_refused hr (by decide) cx_takes (qa_cons (qe_var 2) (qa_cons (qe_var 3) qa_nil))) qe_str (nomark _)) (qss_one (qs_ret qe_bl)) qss_nil) (qss_one (qs_set 3 sc_law.nd (qe_op op_addA os_add qe_int (qe_c C__law_take hr (by decide) cx_takes (qa_cons (qe_var 1) (qa_cons qe_int qa_nil))))))) qss_nil) (qss_cons (qs_set 4 sc_law.nd (qe_op op_addA os_add qe_int (qe_c C__law_take hr (by decide) cx_takes (qa_cons (qe_var 1) (qa_cons qe_int qa_nil))))) (qss_cons (qs_if (qt_w (qw_or (qt_not (qt_tru (qe_c C__law_plain hr (by decide) cx_takes (qa_cons (qe_c C_make_ratio hr (by decide) cx_takes (qa_cons (qe_op op_mulA os_mul (qe_var 2) (qe_var 4)) (qa_cons (qe_op op_mulA os_mul (qe_var 3) (qe_var 4)) qa_nil))) (qa_cons (qe_c C__law_ratio hr (by decide) cx_takes (qa_cons (qe_var 2) (qa_cons (qe_var 3) qa_nil))) qa_nil))))) (qw_or1 (qt_not (qt_tru (qe_c C__law_plain hr (by decide) cx_takes (qa_cons (qe_c C_make_ratio_1 hr (by decide) cx_takes (qa_cons (qe_var 2) qa_nil)) (qa_cons (qe_tup (qa_cons (qe_var 2) (qa_cons qe_int qa_nil))) qa_nil)))))))) (qss_one (qs_ret qe_bl)) qss_nil) (qss_cons (qs_set 5 sc_law.nd (qe_ix (qe_lst (qa_cons qe_non (qa_cons qe_bl (qa_cons qe_str (qa_cons (qe_tup (qa_cons (qe_var 2) (qa_cons qe_int qa_nil))) (qa_cons (qe_lst (qa_cons (qe_var 2) qa_nil)) qa_nil)))))) (qe_c C__law_take hr (by decide) cx_takes (qa_cons (qe_var 1) (qa_cons qe_int qa_nil))))) (qss_cons (qs_if (qt_w (qw_or (qt_cmp (op_neD hr.units) os_ne (qe_c C__law_refused hr (by decide) cx_takes (qa_cons (qe_var 5) (qa_cons qe_int qa_nil))) qe_str (nomark _)) (qw_or (qt_cmp (op_neD hr.units) os_ne (qe_c C__law_refused hr (by decide) cx_takes (qa_cons (qe_var 2) (qa_cons (qe_var 5) qa_nil))) qe_str (nomark _)) (qw_or1 (qt_cmp (op_neD hr.units) os_ne (qe_c C__law_refused hr (by decide) cx_takes (qa_cons (qe_var 2) (qa_cons qe_int qa_nil))) qe_str (nomark _)))))) (qss_one (qs_ret qe_bl)) qss_nil) (qss_cons (qs_par 6 7 rfl sc_law.nd (by decide) (qa_cons (qe_c C__law_ratio hr (by decide) cx_takes (qa_cons (qe_var 2) (qa_cons (qe_var 3) qa_nil))) (qa_cons (qe_c C__law_wide_ratio hr (by decide) cx_takes (qa_cons (qe_var 1) qa_nil)) qa_nil))) (qss_cons (qs_if (qt_cmp (op_eqD hr.units) os_eq (qe_c C__law_take hr (by decide) cx_takes (qa_cons (qe_var 1) (qa_cons qe_int qa_nil))) qe_int (nomark _)) (qss_one (qs_set 7 sc_law.nd (qe_var 6))) qss_nil) (qss_cons (qs_if (qt_w (qw_or (qt_not (qt_tru (qe_c C__law_plain hr (by decide) cx_takes (qa_cons (qe_c C_plus hr (by decide) cx_takes (qa_cons (qe_var 6) (qa_cons (qe_var 7) qa_nil))) (qa_cons (qe_c C__law_plus hr (by decide) cx_takes (qa_cons (qe_var 6) (qa_cons (qe_var 7) qa_nil))) qa_nil))))) (qw_or1 (qt_not (qt_tru (qe_c C__law_plain hr (by decide) cx_takes (qa_cons (qe_c C_minus hr (by decide) cx_takes (qa_cons (qe_var 6) (qa_cons (qe_var 7) qa_nil))) (qa_cons (qe_c C__law_less hr (by decide) cx_takes (qa_cons (qe_var 6) (qa_cons (qe_var 7) qa_nil))) qa_nil)))))))) (qss_one (qs_ret qe_bl)) qss_nil) (qss_cons (qs_if (qt_w (qw_or (qt_not (qt_tru (qe_c C__law_plain hr (by decide) cx_takes (qa_cons (qe_c C_times hr (by decide) cx_takes (qa_cons (qe_var 6) (qa_cons (qe_var 7) qa_nil))) (qa_cons (qe_c C__law_times hr (by decide) cx_takes (qa_cons (qe_var 6) (qa_cons (qe_var 7) qa_nil))) qa_nil))))) (qw_or1 (qt_not (qt_tru (qe_c C__law_plain hr (by decide) cx_takes (qa_cons (qe_c C_negative hr (by decide) cx_takes (qa_cons (qe_var 6) qa_nil)) (qa_cons (qe_tup (qa_cons (qe_un un_neg us_neg (qe_ix (qe_var 6) qe_int)) (qa_cons (qe_ix (qe_var 6) qe_int) qa_nil))) qa_nil)))))))) (qss_one (qs_ret qe_bl)) qss_nil) (qss_cons (qs_if (qt_not (qt_tru (qe_c C__law_plain hr (by decide) cx_takes (qa_cons (qe_c C_size_of hr (by decide) cx_takes (qa_cons (qe_var 6) qa_nil)) (qa_cons (qe_tup (qa_cons (qe_callB call_abs cs_abs (by rfl) z_abs (by decide +kernel) (qa_cons (qe_ix (qe_var 6) qe_int) qa_nil)) (qa_cons (qe_ix (qe_var 6) qe_int) qa_nil))) qa_nil))))) (qss_one (qs_ret qe_bl)) qss_nil) (qss_cons (qs_set 8 sc_law.nd (qe_c C__law_divided hr (by decide) cx_takes (qa_cons (qe_var 6) (qa_cons (qe_var 7) qa_nil)))) (qss_cons (qs_if (qt_w (qw_or (qt_cmp (op_neD hr.units) os_ne (qe_var 8) (qe_if (qt_tru (qe_ix (qe_var 7) qe_int)) (qe_c C__law_over hr (by decide) cx_takes (qa_cons (qe_var 6) (qa_cons (qe_var 7) qa_nil))) qe_str) (nomark _)) (qw_or1 (qt_w (qw_and (qt_tru (qe_ix (qe_var 7) qe_int)) (qw_and1 (qt_not (qt_tru (qe_c C__law_plain hr (by decide) cx_takes (qa_cons (qe_var 8) (qa_cons (qe_var 8) qa_nil))))))))))) (qss_one (qs_ret qe_bl)) qss_nil) (qss_cons (qs_set 9 sc_law.nd (qe_c C_compare hr (by decide) cx_takes (qa_cons (qe_var 6) (qa_cons (qe_var 7) qa_nil)))) (qss_cons (qs_if (qt_w (qw_or (qt_cmp (op_neD hr.units) os_ne (qe_var 9) (qe_c C__law_compare hr (by decide) cx_takes (qa_cons (qe_var 6) (qa_cons (qe_var 7) qa_nil))) (nomark _)) (qw_or (qt_cmp (op_neD hr.units) os_ne (qe_c C_compare hr (by decide) cx_takes (qa_cons (qe_var 7) (qa_cons (qe_var 6) qa_nil))) (qe_un un_neg us_neg (qe_var 9)) (nomark _)) (qw_or1 (qt_tru (qe_isi (qe_var 9) (by rfl) z_isinstance (by rfl) z_bool (by decide +kernel))))))) (qss_one (qs_ret qe_bl)) qss_nil) (qss_cons (qs_if (qt_w (qw_or (qt_cmp op_isNotA os_isNot (qe_c C_is_ratio hr (by decide) cx_takes (qa_cons (qe_var 6) qa_nil)) qe_bl (nomark _)) (qw_or (qt_tru (qe_c C_is_ratio hr (by decide) cx_takes (qa_cons (qe_callTy call_list_of cs_list (by rfl) z_list (by decide +kernel) (qa_cons (qe_var 6) qa_nil)) qa_nil))) (qw_or (qt_tru (qe_c C_is_ratio hr (by decide) cx_takes (qa_cons (qe_tup (qa_cons (qe_op op_mulA os_mul (qe_ix (qe_var 6) qe_int) qe_int) (qa_cons (qe_op op_mulA os_mul (qe_ix (qe_var 6) qe_int) qe_int) qa_nil))) qa_nil))) (qw_or1 (qt_tru (qe_c C_is_ratio hr (by decide) cx_takes (qa_cons (qe_c C__law_odd hr (by decide) cx_takes (qa_cons (qe_var 1) qa_nil)) qa_nil)))))))) (qss_one (qs_ret qe_bl)) qss_nil) (qss_one (qs_ret (qe_and (qe_c C__law_rows hr (by decide) cx_takes (qa_cons (qe_var 1) qa_nil)) (qe_one (qe_c C__law_whole hr (by decide) cx_takes (qa_cons (qe_var 1) qa_nil)))))))))))))))))))))))
    exact ⟨_, pss_cons (ps_set (i := 1) sc_law.nd rfl (.inl rfl) (pe_callSD Gh (hr.mono (by decide)) (by rfl) hmh Fh.kp bh .nil (fun σ => passAt (W := wE E) cx_takes σ) (pa_cons (pv 0) pa_nil))) q, law_run h ss M⟩
end
end Law


set_option Elab.async false
set_option linter.all false
set_option maxRecDepth 100000
namespace Law
open PySem PySem.Spec PyProof.Rows L2 Mir
open PySem.W (Frag)
theorem txt_mk {K : Frag} {h : Heap} {mg : Str → Option Value} (X : K.In h) (G : h.Ns mainGlobals mg)
    {f__law_hand : Addr} {od__law_hand an__law_hand : Option Addr} {sl__law_hand : Array (Option Value)} {oc__law_hand kV__law_hand dc__law_hand pm__law_hand cd__law_hand ct__law_hand : Value}
    (a__law_hand : PySem.W.nsIn K mainGlobals "_law_hand" = some (some (.ref f__law_hand)))
    (l__law_hand : K.lookup f__law_hand = some ⟨oc__law_hand, od__law_hand, .func (PySem.W.fnOf "_law_hand" "_law_hand" (defArgs st__law_hand) (defBody st__law_hand) (defScope st__law_hand) .none kV__law_hand dc__law_hand pm__law_hand an__law_hand cd__law_hand ct__law_hand), sl__law_hand⟩)
    (c__law_hand : PySem.W.codeIn K cd__law_hand "_law_hand" = true)
    (k__law_hand : PySem.W.keepIn K (.ref f__law_hand) = true)
    {f__law_take : Addr} {od__law_take an__law_take : Option Addr} {sl__law_take : Array (Option Value)} {oc__law_take kV__law_take dc__law_take pm__law_take cd__law_take ct__law_take : Value}
    (a__law_take : PySem.W.nsIn K mainGlobals "_law_take" = some (some (.ref f__law_take)))
    (l__law_take : K.lookup f__law_take = some ⟨oc__law_take, od__law_take, .func (PySem.W.fnOf "_law_take" "_law_take" (defArgs st__law_take) (defBody st__law_take) (defScope st__law_take) .none kV__law_take dc__law_take pm__law_take an__law_take cd__law_take ct__law_take), sl__law_take⟩)
    (c__law_take : PySem.W.codeIn K cd__law_take "_law_take" = true)
    (k__law_take : PySem.W.keepIn K (.ref f__law_take) = true)
    {f__law_gcd : Addr} {od__law_gcd an__law_gcd : Option Addr} {sl__law_gcd : Array (Option Value)} {oc__law_gcd kV__law_gcd dc__law_gcd pm__law_gcd cd__law_gcd ct__law_gcd : Value}
    (a__law_gcd : PySem.W.nsIn K mainGlobals "_law_gcd" = some (some (.ref f__law_gcd)))
    (l__law_gcd : K.lookup f__law_gcd = some ⟨oc__law_gcd, od__law_gcd, .func (PySem.W.fnOf "_law_gcd" "_law_gcd" (defArgs st__law_gcd) (defBody st__law_gcd) (defScope st__law_gcd) .none kV__law_gcd dc__law_gcd pm__law_gcd an__law_gcd cd__law_gcd ct__law_gcd), sl__law_gcd⟩)
    (c__law_gcd : PySem.W.codeIn K cd__law_gcd "_law_gcd" = true)
    (k__law_gcd : PySem.W.keepIn K (.ref f__law_gcd) = true)
    {f__law_ratio : Addr} {od__law_ratio an__law_ratio : Option Addr} {sl__law_ratio : Array (Option Value)} {oc__law_ratio kV__law_ratio dc__law_ratio pm__law_ratio cd__law_ratio ct__law_ratio : Value}
    (a__law_ratio : PySem.W.nsIn K mainGlobals "_law_ratio" = some (some (.ref f__law_ratio)))
    (l__law_ratio : K.lookup f__law_ratio = some ⟨oc__law_ratio, od__law_ratio, .func (PySem.W.fnOf "_law_ratio" "_law_ratio" (defArgs st__law_ratio) (defBody st__law_ratio) (defScope st__law_ratio) .none kV__law_ratio dc__law_ratio pm__law_ratio an__law_ratio cd__law_ratio ct__law_ratio), sl__law_ratio⟩)
    (c__law_ratio : PySem.W.codeIn K cd__law_ratio "_law_ratio" = true)
    (k__law_ratio : PySem.W.keepIn K (.ref f__law_ratio) = true)
    {f__law_less : Addr} {od__law_less an__law_less : Option Addr} {sl__law_less : Array (Option Value)} {oc__law_less kV__law_less dc__law_less pm__law_less cd__law_less ct__law_less : Value}
    (a__law_less : PySem.W.nsIn K mainGlobals "_law_less" = some (some (.ref f__law_less)))
    (l__law_less : K.lookup f__law_less = some ⟨oc__law_less, od__law_less, .func (PySem.W.fnOf "_law_less" "_law_less" (defArgs st__law_less) (defBody st__law_less) (defScope st__law_less) .none kV__law_less dc__law_less pm__law_less an__law_less cd__law_less ct__law_less), sl__law_less⟩)
    (c__law_less : PySem.W.codeIn K cd__law_less "_law_less" = true)
    (k__law_less : PySem.W.keepIn K (.ref f__law_less) = true)
    {f__law_odd : Addr} {od__law_odd an__law_odd : Option Addr} {sl__law_odd : Array (Option Value)} {oc__law_odd kV__law_odd dc__law_odd pm__law_odd cd__law_odd ct__law_odd : Value}
    (a__law_odd : PySem.W.nsIn K mainGlobals "_law_odd" = some (some (.ref f__law_odd)))
    (l__law_odd : K.lookup f__law_odd = some ⟨oc__law_odd, od__law_odd, .func (PySem.W.fnOf "_law_odd" "_law_odd" (defArgs st__law_odd) (defBody st__law_odd) (defScope st__law_odd) .none kV__law_odd dc__law_odd pm__law_odd an__law_odd cd__law_odd ct__law_odd), sl__law_odd⟩)
    (c__law_odd : PySem.W.codeIn K cd__law_odd "_law_odd" = true)
    (k__law_odd : PySem.W.keepIn K (.ref f__law_odd) = true)
    {f_is_whole : Addr} {od_is_whole an_is_whole : Option Addr} {sl_is_whole : Array (Option Value)} {oc_is_whole kV_is_whole dc_is_whole pm_is_whole cd_is_whole ct_is_whole : Value}
    {t_is_whole : Addr} {td_is_whole : Option Addr} {tn_is_whole : Nat} {tl_is_whole : Array (Option Value)}
    (a_is_whole : PySem.W.nsIn K mainGlobals "is_whole" = some (some (.ref f_is_whole)))
    (l_is_whole : K.lookup f_is_whole = some ⟨oc_is_whole, od_is_whole, .func (PySem.W.fnOf "is_whole" "is_whole" (defArgs st_is_whole) (defBody st_is_whole) (defScope st_is_whole) (.ref t_is_whole) kV_is_whole dc_is_whole pm_is_whole an_is_whole cd_is_whole ct_is_whole), sl_is_whole⟩)
    (c_is_whole : PySem.W.codeIn K cd_is_whole "is_whole" = true)
    (k_is_whole : PySem.W.keepIn K (.ref f_is_whole) = true)
    (e_is_whole : K.lookup t_is_whole = some ⟨.type "tuple", td_is_whole, .seq #[Value.none, Value.none] tn_is_whole, tl_is_whole⟩)
    {f__law_wide : Addr} {od__law_wide an__law_wide : Option Addr} {sl__law_wide : Array (Option Value)} {oc__law_wide kV__law_wide dc__law_wide pm__law_wide cd__law_wide ct__law_wide : Value}
    (a__law_wide : PySem.W.nsIn K mainGlobals "_law_wide" = some (some (.ref f__law_wide)))
    (l__law_wide : K.lookup f__law_wide = some ⟨oc__law_wide, od__law_wide, .func (PySem.W.fnOf "_law_wide" "_law_wide" (defArgs st__law_wide) (defBody st__law_wide) (defScope st__law_wide) .none kV__law_wide dc__law_wide pm__law_wide an__law_wide cd__law_wide ct__law_wide), sl__law_wide⟩)
    (c__law_wide : PySem.W.codeIn K cd__law_wide "_law_wide" = true)
    (k__law_wide : PySem.W.keepIn K (.ref f__law_wide) = true)
    {f__law_whole : Addr} {od__law_whole an__law_whole : Option Addr} {sl__law_whole : Array (Option Value)} {oc__law_whole kV__law_whole dc__law_whole pm__law_whole cd__law_whole ct__law_whole : Value}
    (a__law_whole : PySem.W.nsIn K mainGlobals "_law_whole" = some (some (.ref f__law_whole)))
    (l__law_whole : K.lookup f__law_whole = some ⟨oc__law_whole, od__law_whole, .func (PySem.W.fnOf "_law_whole" "_law_whole" (defArgs st__law_whole) (defBody st__law_whole) (defScope st__law_whole) .none kV__law_whole dc__law_whole pm__law_whole an__law_whole cd__law_whole ct__law_whole), sl__law_whole⟩)
    (c__law_whole : PySem.W.codeIn K cd__law_whole "_law_whole" = true)
    (k__law_whole : PySem.W.keepIn K (.ref f__law_whole) = true)
    {f_negative : Addr} {od_negative an_negative : Option Addr} {sl_negative : Array (Option Value)} {oc_negative kV_negative dc_negative pm_negative cd_negative ct_negative : Value}
    (a_negative : PySem.W.nsIn K mainGlobals "negative" = some (some (.ref f_negative)))
    (l_negative : K.lookup f_negative = some ⟨oc_negative, od_negative, .func (PySem.W.fnOf "negative" "negative" (defArgs st_negative) (defBody st_negative) (defScope st_negative) .none kV_negative dc_negative pm_negative an_negative cd_negative ct_negative), sl_negative⟩)
    (c_negative : PySem.W.codeIn K cd_negative "negative" = true)
    (k_negative : PySem.W.keepIn K (.ref f_negative) = true)
    {f_size_of : Addr} {od_size_of an_size_of : Option Addr} {sl_size_of : Array (Option Value)} {oc_size_of kV_size_of dc_size_of pm_size_of cd_size_of ct_size_of : Value}
    (a_size_of : PySem.W.nsIn K mainGlobals "size_of" = some (some (.ref f_size_of)))
    (l_size_of : K.lookup f_size_of = some ⟨oc_size_of, od_size_of, .func (PySem.W.fnOf "size_of" "size_of" (defArgs st_size_of) (defBody st_size_of) (defScope st_size_of) .none kV_size_of dc_size_of pm_size_of an_size_of cd_size_of ct_size_of), sl_size_of⟩)
    (c_size_of : PySem.W.codeIn K cd_size_of "size_of" = true)
    (k_size_of : PySem.W.keepIn K (.ref f_size_of) = true)
    {f_lowest_terms : Addr} {od_lowest_terms an_lowest_terms : Option Addr} {sl_lowest_terms : Array (Option Value)} {oc_lowest_terms kV_lowest_terms dc_lowest_terms pm_lowest_terms cd_lowest_terms ct_lowest_terms : Value}
    (a_lowest_terms : PySem.W.nsIn K mainGlobals "lowest_terms" = some (some (.ref f_lowest_terms)))
    (l_lowest_terms : K.lookup f_lowest_terms = some ⟨oc_lowest_terms, od_lowest_terms, .func (PySem.W.fnOf "lowest_terms" "lowest_terms" (defArgs st_lowest_terms) (defBody st_lowest_terms) (defScope st_lowest_terms) .none kV_lowest_terms dc_lowest_terms pm_lowest_terms an_lowest_terms cd_lowest_terms ct_lowest_terms), sl_lowest_terms⟩)
    (c_lowest_terms : PySem.W.codeIn K cd_lowest_terms "lowest_terms" = true)
    (k_lowest_terms : PySem.W.keepIn K (.ref f_lowest_terms) = true)
    {f_times : Addr} {od_times an_times : Option Addr} {sl_times : Array (Option Value)} {oc_times kV_times dc_times pm_times cd_times ct_times : Value}
    (a_times : PySem.W.nsIn K mainGlobals "times" = some (some (.ref f_times)))
    (l_times : K.lookup f_times = some ⟨oc_times, od_times, .func (PySem.W.fnOf "times" "times" (defArgs st_times) (defBody st_times) (defScope st_times) .none kV_times dc_times pm_times an_times cd_times ct_times), sl_times⟩)
    (c_times : PySem.W.codeIn K cd_times "times" = true)
    (k_times : PySem.W.keepIn K (.ref f_times) = true)
    {f_plus : Addr} {od_plus an_plus : Option Addr} {sl_plus : Array (Option Value)} {oc_plus kV_plus dc_plus pm_plus cd_plus ct_plus : Value}
    (a_plus : PySem.W.nsIn K mainGlobals "plus" = some (some (.ref f_plus)))
    (l_plus : K.lookup f_plus = some ⟨oc_plus, od_plus, .func (PySem.W.fnOf "plus" "plus" (defArgs st_plus) (defBody st_plus) (defScope st_plus) .none kV_plus dc_plus pm_plus an_plus cd_plus ct_plus), sl_plus⟩)
    (c_plus : PySem.W.codeIn K cd_plus "plus" = true)
    (k_plus : PySem.W.keepIn K (.ref f_plus) = true)
    {f_over : Addr} {od_over an_over : Option Addr} {sl_over : Array (Option Value)} {oc_over kV_over dc_over pm_over cd_over ct_over : Value}
    (a_over : PySem.W.nsIn K mainGlobals "over" = some (some (.ref f_over)))
    (l_over : K.lookup f_over = some ⟨oc_over, od_over, .func (PySem.W.fnOf "over" "over" (defArgs st_over) (defBody st_over) (defScope st_over) .none kV_over dc_over pm_over an_over cd_over ct_over), sl_over⟩)
    (c_over : PySem.W.codeIn K cd_over "over" = true)
    (k_over : PySem.W.keepIn K (.ref f_over) = true)
    {f__law_divided : Addr} {od__law_divided an__law_divided : Option Addr} {sl__law_divided : Array (Option Value)} {oc__law_divided kV__law_divided dc__law_divided pm__law_divided cd__law_divided ct__law_divided : Value}
    (a__law_divided : PySem.W.nsIn K mainGlobals "_law_divided" = some (some (.ref f__law_divided)))
    (l__law_divided : K.lookup f__law_divided = some ⟨oc__law_divided, od__law_divided, .func (PySem.W.fnOf "_law_divided" "_law_divided" (defArgs st__law_divided) (defBody st__law_divided) (defScope st__law_divided) .none kV__law_divided dc__law_divided pm__law_divided an__law_divided cd__law_divided ct__law_divided), sl__law_divided⟩)
    (c__law_divided : PySem.W.codeIn K cd__law_divided "_law_divided" = true)
    (k__law_divided : PySem.W.keepIn K (.ref f__law_divided) = true)
    {f_make_ratio : Addr} {od_make_ratio an_make_ratio : Option Addr} {sl_make_ratio : Array (Option Value)} {oc_make_ratio kV_make_ratio dc_make_ratio pm_make_ratio cd_make_ratio ct_make_ratio : Value}
    {t_make_ratio : Addr} {td_make_ratio : Option Addr} {tn_make_ratio : Nat} {tl_make_ratio : Array (Option Value)}
    (a_make_ratio : PySem.W.nsIn K mainGlobals "make_ratio" = some (some (.ref f_make_ratio)))
    (l_make_ratio : K.lookup f_make_ratio = some ⟨oc_make_ratio, od_make_ratio, .func (PySem.W.fnOf "make_ratio" "make_ratio" (defArgs st_make_ratio) (defBody st_make_ratio) (defScope st_make_ratio) (.ref t_make_ratio) kV_make_ratio dc_make_ratio pm_make_ratio an_make_ratio cd_make_ratio ct_make_ratio), sl_make_ratio⟩)
    (c_make_ratio : PySem.W.codeIn K cd_make_ratio "make_ratio" = true)
    (k_make_ratio : PySem.W.keepIn K (.ref f_make_ratio) = true)
    {u0_make_ratio : Tok}
    (e_make_ratio : K.lookup t_make_ratio = some ⟨.type "tuple", td_make_ratio, .seq #[Value.int 1 u0_make_ratio] tn_make_ratio, tl_make_ratio⟩)
    {f_is_ratio : Addr} {od_is_ratio an_is_ratio : Option Addr} {sl_is_ratio : Array (Option Value)} {oc_is_ratio kV_is_ratio dc_is_ratio pm_is_ratio cd_is_ratio ct_is_ratio : Value}
    (a_is_ratio : PySem.W.nsIn K mainGlobals "is_ratio" = some (some (.ref f_is_ratio)))
    (l_is_ratio : K.lookup f_is_ratio = some ⟨oc_is_ratio, od_is_ratio, .func (PySem.W.fnOf "is_ratio" "is_ratio" (defArgs st_is_ratio) (defBody st_is_ratio) (defScope st_is_ratio) .none kV_is_ratio dc_is_ratio pm_is_ratio an_is_ratio cd_is_ratio ct_is_ratio), sl_is_ratio⟩)
    (c_is_ratio : PySem.W.codeIn K cd_is_ratio "is_ratio" = true)
    (k_is_ratio : PySem.W.keepIn K (.ref f_is_ratio) = true)
    {f__law_over : Addr} {od__law_over an__law_over : Option Addr} {sl__law_over : Array (Option Value)} {oc__law_over kV__law_over dc__law_over pm__law_over cd__law_over ct__law_over : Value}
    (a__law_over : PySem.W.nsIn K mainGlobals "_law_over" = some (some (.ref f__law_over)))
    (l__law_over : K.lookup f__law_over = some ⟨oc__law_over, od__law_over, .func (PySem.W.fnOf "_law_over" "_law_over" (defArgs st__law_over) (defBody st__law_over) (defScope st__law_over) .none kV__law_over dc__law_over pm__law_over an__law_over cd__law_over ct__law_over), sl__law_over⟩)
    (c__law_over : PySem.W.codeIn K cd__law_over "_law_over" = true)
    (k__law_over : PySem.W.keepIn K (.ref f__law_over) = true)
    {f_minus : Addr} {od_minus an_minus : Option Addr} {sl_minus : Array (Option Value)} {oc_minus kV_minus dc_minus pm_minus cd_minus ct_minus : Value}
    (a_minus : PySem.W.nsIn K mainGlobals "minus" = some (some (.ref f_minus)))
    (l_minus : K.lookup f_minus = some ⟨oc_minus, od_minus, .func (PySem.W.fnOf "minus" "minus" (defArgs st_minus) (defBody st_minus) (defScope st_minus) .none kV_minus dc_minus pm_minus an_minus cd_minus ct_minus), sl_minus⟩)
    (c_minus : PySem.W.codeIn K cd_minus "minus" = true)
    (k_minus : PySem.W.keepIn K (.ref f_minus) = true)
    {f__law_compare : Addr} {od__law_compare an__law_compare : Option Addr} {sl__law_compare : Array (Option Value)} {oc__law_compare kV__law_compare dc__law_compare pm__law_compare cd__law_compare ct__law_compare : Value}
    (a__law_compare : PySem.W.nsIn K mainGlobals "_law_compare" = some (some (.ref f__law_compare)))
    (l__law_compare : K.lookup f__law_compare = some ⟨oc__law_compare, od__law_compare, .func (PySem.W.fnOf "_law_compare" "_law_compare" (defArgs st__law_compare) (defBody st__law_compare) (defScope st__law_compare) .none kV__law_compare dc__law_compare pm__law_compare an__law_compare cd__law_compare ct__law_compare), sl__law_compare⟩)
    (c__law_compare : PySem.W.codeIn K cd__law_compare "_law_compare" = true)
    (k__law_compare : PySem.W.keepIn K (.ref f__law_compare) = true)
    {f__law_wide_ratio : Addr} {od__law_wide_ratio an__law_wide_ratio : Option Addr} {sl__law_wide_ratio : Array (Option Value)} {oc__law_wide_ratio kV__law_wide_ratio dc__law_wide_ratio pm__law_wide_ratio cd__law_wide_ratio ct__law_wide_ratio : Value}
    (a__law_wide_ratio : PySem.W.nsIn K mainGlobals "_law_wide_ratio" = some (some (.ref f__law_wide_ratio)))
    (l__law_wide_ratio : K.lookup f__law_wide_ratio = some ⟨oc__law_wide_ratio, od__law_wide_ratio, .func (PySem.W.fnOf "_law_wide_ratio" "_law_wide_ratio" (defArgs st__law_wide_ratio) (defBody st__law_wide_ratio) (defScope st__law_wide_ratio) .none kV__law_wide_ratio dc__law_wide_ratio pm__law_wide_ratio an__law_wide_ratio cd__law_wide_ratio ct__law_wide_ratio), sl__law_wide_ratio⟩)
    (c__law_wide_ratio : PySem.W.codeIn K cd__law_wide_ratio "_law_wide_ratio" = true)
    (k__law_wide_ratio : PySem.W.keepIn K (.ref f__law_wide_ratio) = true)
    {f_compare : Addr} {od_compare an_compare : Option Addr} {sl_compare : Array (Option Value)} {oc_compare kV_compare dc_compare pm_compare cd_compare ct_compare : Value}
    (a_compare : PySem.W.nsIn K mainGlobals "compare" = some (some (.ref f_compare)))
    (l_compare : K.lookup f_compare = some ⟨oc_compare, od_compare, .func (PySem.W.fnOf "compare" "compare" (defArgs st_compare) (defBody st_compare) (defScope st_compare) .none kV_compare dc_compare pm_compare an_compare cd_compare ct_compare), sl_compare⟩)
    (c_compare : PySem.W.codeIn K cd_compare "compare" = true)
    (k_compare : PySem.W.keepIn K (.ref f_compare) = true)
    {f_least_of : Addr} {od_least_of an_least_of : Option Addr} {sl_least_of : Array (Option Value)} {oc_least_of kV_least_of dc_least_of pm_least_of cd_least_of ct_least_of : Value}
    (a_least_of : PySem.W.nsIn K mainGlobals "least_of" = some (some (.ref f_least_of)))
    (l_least_of : K.lookup f_least_of = some ⟨oc_least_of, od_least_of, .func (PySem.W.fnOf "least_of" "least_of" (defArgs st_least_of) (defBody st_least_of) (defScope st_least_of) .none kV_least_of dc_least_of pm_least_of an_least_of cd_least_of ct_least_of), sl_least_of⟩)
    (c_least_of : PySem.W.codeIn K cd_least_of "least_of" = true)
    (k_least_of : PySem.W.keepIn K (.ref f_least_of) = true)
    {f__law_below : Addr} {od__law_below an__law_below : Option Addr} {sl__law_below : Array (Option Value)} {oc__law_below kV__law_below dc__law_below pm__law_below cd__law_below ct__law_below : Value}
    (a__law_below : PySem.W.nsIn K mainGlobals "_law_below" = some (some (.ref f__law_below)))
    (l__law_below : K.lookup f__law_below = some ⟨oc__law_below, od__law_below, .func (PySem.W.fnOf "_law_below" "_law_below" (defArgs st__law_below) (defBody st__law_below) (defScope st__law_below) .none kV__law_below dc__law_below pm__law_below an__law_below cd__law_below ct__law_below), sl__law_below⟩)
    (c__law_below : PySem.W.codeIn K cd__law_below "_law_below" = true)
    (k__law_below : PySem.W.keepIn K (.ref f__law_below) = true)
    {f_greatest_of : Addr} {od_greatest_of an_greatest_of : Option Addr} {sl_greatest_of : Array (Option Value)} {oc_greatest_of kV_greatest_of dc_greatest_of pm_greatest_of cd_greatest_of ct_greatest_of : Value}
    (a_greatest_of : PySem.W.nsIn K mainGlobals "greatest_of" = some (some (.ref f_greatest_of)))
    (l_greatest_of : K.lookup f_greatest_of = some ⟨oc_greatest_of, od_greatest_of, .func (PySem.W.fnOf "greatest_of" "greatest_of" (defArgs st_greatest_of) (defBody st_greatest_of) (defScope st_greatest_of) .none kV_greatest_of dc_greatest_of pm_greatest_of an_greatest_of cd_greatest_of ct_greatest_of), sl_greatest_of⟩)
    (c_greatest_of : PySem.W.codeIn K cd_greatest_of "greatest_of" = true)
    (k_greatest_of : PySem.W.keepIn K (.ref f_greatest_of) = true)
    {f_sum_of : Addr} {od_sum_of an_sum_of : Option Addr} {sl_sum_of : Array (Option Value)} {oc_sum_of kV_sum_of dc_sum_of pm_sum_of cd_sum_of ct_sum_of : Value}
    (a_sum_of : PySem.W.nsIn K mainGlobals "sum_of" = some (some (.ref f_sum_of)))
    (l_sum_of : K.lookup f_sum_of = some ⟨oc_sum_of, od_sum_of, .func (PySem.W.fnOf "sum_of" "sum_of" (defArgs st_sum_of) (defBody st_sum_of) (defScope st_sum_of) .none kV_sum_of dc_sum_of pm_sum_of an_sum_of cd_sum_of ct_sum_of), sl_sum_of⟩)
    (c_sum_of : PySem.W.codeIn K cd_sum_of "sum_of" = true)
    (k_sum_of : PySem.W.keepIn K (.ref f_sum_of) = true)
    {f__law_plain : Addr} {od__law_plain an__law_plain : Option Addr} {sl__law_plain : Array (Option Value)} {oc__law_plain kV__law_plain dc__law_plain pm__law_plain cd__law_plain ct__law_plain : Value}
    (a__law_plain : PySem.W.nsIn K mainGlobals "_law_plain" = some (some (.ref f__law_plain)))
    (l__law_plain : K.lookup f__law_plain = some ⟨oc__law_plain, od__law_plain, .func (PySem.W.fnOf "_law_plain" "_law_plain" (defArgs st__law_plain) (defBody st__law_plain) (defScope st__law_plain) .none kV__law_plain dc__law_plain pm__law_plain an__law_plain cd__law_plain ct__law_plain), sl__law_plain⟩)
    (c__law_plain : PySem.W.codeIn K cd__law_plain "_law_plain" = true)
    (k__law_plain : PySem.W.keepIn K (.ref f__law_plain) = true)
    {f__law_plus : Addr} {od__law_plus an__law_plus : Option Addr} {sl__law_plus : Array (Option Value)} {oc__law_plus kV__law_plus dc__law_plus pm__law_plus cd__law_plus ct__law_plus : Value}
    (a__law_plus : PySem.W.nsIn K mainGlobals "_law_plus" = some (some (.ref f__law_plus)))
    (l__law_plus : K.lookup f__law_plus = some ⟨oc__law_plus, od__law_plus, .func (PySem.W.fnOf "_law_plus" "_law_plus" (defArgs st__law_plus) (defBody st__law_plus) (defScope st__law_plus) .none kV__law_plus dc__law_plus pm__law_plus an__law_plus cd__law_plus ct__law_plus), sl__law_plus⟩)
    (c__law_plus : PySem.W.codeIn K cd__law_plus "_law_plus" = true)
    (k__law_plus : PySem.W.keepIn K (.ref f__law_plus) = true)
    {f__law_sum : Addr} {od__law_sum an__law_sum : Option Addr} {sl__law_sum : Array (Option Value)} {oc__law_sum kV__law_sum dc__law_sum pm__law_sum cd__law_sum ct__law_sum : Value}
    (a__law_sum : PySem.W.nsIn K mainGlobals "_law_sum" = some (some (.ref f__law_sum)))
    (l__law_sum : K.lookup f__law_sum = some ⟨oc__law_sum, od__law_sum, .func (PySem.W.fnOf "_law_sum" "_law_sum" (defArgs st__law_sum) (defBody st__law_sum) (defScope st__law_sum) .none kV__law_sum dc__law_sum pm__law_sum an__law_sum cd__law_sum ct__law_sum), sl__law_sum⟩)
    (c__law_sum : PySem.W.codeIn K cd__law_sum "_law_sum" = true)
    (k__law_sum : PySem.W.keepIn K (.ref f__law_sum) = true)
    {f__law_rows : Addr} {od__law_rows an__law_rows : Option Addr} {sl__law_rows : Array (Option Value)} {oc__law_rows kV__law_rows dc__law_rows pm__law_rows cd__law_rows ct__law_rows : Value}
    (a__law_rows : PySem.W.nsIn K mainGlobals "_law_rows" = some (some (.ref f__law_rows)))
    (l__law_rows : K.lookup f__law_rows = some ⟨oc__law_rows, od__law_rows, .func (PySem.W.fnOf "_law_rows" "_law_rows" (defArgs st__law_rows) (defBody st__law_rows) (defScope st__law_rows) .none kV__law_rows dc__law_rows pm__law_rows an__law_rows cd__law_rows ct__law_rows), sl__law_rows⟩)
    (c__law_rows : PySem.W.codeIn K cd__law_rows "_law_rows" = true)
    (k__law_rows : PySem.W.keepIn K (.ref f__law_rows) = true)
    {f__law_times : Addr} {od__law_times an__law_times : Option Addr} {sl__law_times : Array (Option Value)} {oc__law_times kV__law_times dc__law_times pm__law_times cd__law_times ct__law_times : Value}
    (a__law_times : PySem.W.nsIn K mainGlobals "_law_times" = some (some (.ref f__law_times)))
    (l__law_times : K.lookup f__law_times = some ⟨oc__law_times, od__law_times, .func (PySem.W.fnOf "_law_times" "_law_times" (defArgs st__law_times) (defBody st__law_times) (defScope st__law_times) .none kV__law_times dc__law_times pm__law_times an__law_times cd__law_times ct__law_times), sl__law_times⟩)
    (c__law_times : PySem.W.codeIn K cd__law_times "_law_times" = true)
    (k__law_times : PySem.W.keepIn K (.ref f__law_times) = true)
    {f__law_refused : Addr} {od__law_refused an__law_refused : Option Addr} {sl__law_refused : Array (Option Value)} {oc__law_refused kV__law_refused dc__law_refused pm__law_refused cd__law_refused ct__law_refused : Value}
    (a__law_refused : PySem.W.nsIn K mainGlobals "_law_refused" = some (some (.ref f__law_refused)))
    (l__law_refused : K.lookup f__law_refused = some ⟨oc__law_refused, od__law_refused, .func (PySem.W.fnOf "_law_refused" "_law_refused" (defArgs st__law_refused) (defBody st__law_refused) (defScope st__law_refused) .none kV__law_refused dc__law_refused pm__law_refused an__law_refused cd__law_refused ct__law_refused), sl__law_refused⟩)
    (c__law_refused : PySem.W.codeIn K cd__law_refused "_law_refused" = true)
    (k__law_refused : PySem.W.keepIn K (.ref f__law_refused) = true)
    {f_law : Addr} {od_law an_law : Option Addr} {sl_law : Array (Option Value)} {oc_law kV_law dc_law pm_law cd_law ct_law : Value}
    (a_law : PySem.W.nsIn K mainGlobals "law" = some (some (.ref f_law)))
    (l_law : K.lookup f_law = some ⟨oc_law, od_law, .func (PySem.W.fnOf "law" "law" (defArgs st_law) (defBody st_law) (defScope st_law) .none kV_law dc_law pm_law an_law cd_law ct_law), sl_law⟩)
    (c_law : PySem.W.codeIn K cd_law "law" = true)
    (k_law : PySem.W.keepIn K (.ref f_law) = true)
    {C_BadRatio N_BadRatio f_BadRatio : Addr} {nm_BadRatio qn_BadRatio : Str} {bs_BadRatio bm_BadRatio sub_BadRatio : List Value} {sn_BadRatio : List Str} {ab_BadRatio : Bool} {co_BadRatio : Option Bool} {dd_BadRatio : Option Addr} {m0_BadRatio m1_BadRatio m2_BadRatio m3_BadRatio m5_BadRatio : Option Value}
    {od_BadRatio an_BadRatio : Option Addr} {sl_BadRatio : Array (Option Value)} {oc_BadRatio kV_BadRatio dc_BadRatio pm_BadRatio cd_BadRatio ct_BadRatio : Value}
    (a_BadRatio : PySem.W.nsIn K mainGlobals "BadRatio" = some (some (.ref C_BadRatio)))
    (x_BadRatio : K.lookup C_BadRatio = some (excClassObj nm_BadRatio qn_BadRatio C_BadRatio N_BadRatio bs_BadRatio bm_BadRatio true sn_BadRatio sub_BadRatio ab_BadRatio co_BadRatio dd_BadRatio m0_BadRatio m1_BadRatio m2_BadRatio m3_BadRatio m5_BadRatio "ValueError.__new__"))
    (r_BadRatio : PySem.HandSPX.refsVE bm_BadRatio = true)
    (sa_BadRatio : PySem.W.findIn K (.ref C_BadRatio) "__setattr__" = some (some (.builtin "object.__setattr__")))
    (ga_BadRatio : PySem.W.findIn K (.ref C_BadRatio) "__getattribute__" = some (some (.builtin "BaseException.__getattribute__")))
    (gg_BadRatio : PySem.W.findIn K (.ref C_BadRatio) "__getattr__" = some none)
    (n_what_BadRatio : PySem.W.findIn K (.ref C_BadRatio) "what" = some none)
    (i_BadRatio : PySem.W.findIn K (.ref C_BadRatio) "__init__" = some (some (.ref f_BadRatio)))
    (ti_BadRatio : PySem.W.typeIn K (.ref f_BadRatio) = some (.type "function"))
    (l_BadRatio : K.lookup f_BadRatio = some ⟨oc_BadRatio, od_BadRatio, .func (PySem.W.fnOf "__init__" "BadRatio.__init__" (defArgs st_BadRatio) (defBody st_BadRatio) (defScope st_BadRatio) .none kV_BadRatio dc_BadRatio pm_BadRatio an_BadRatio cd_BadRatio ct_BadRatio), sl_BadRatio⟩)
    (c_BadRatio : PySem.W.codeIn K cd_BadRatio "BadRatio.__init__" = true)
    (ki_BadRatio : PySem.W.keepIn K (.ref f_BadRatio) = true)
    (k_BadRatio : PySem.W.keepIn K (.ref C_BadRatio) = true)
    (ex_BadRatio : PySem.W.subIn K (.ref C_BadRatio) (.type "BaseException") = some true)
    (ty_BadRatio : PySem.W.typeIn K (.ref C_BadRatio) = some (.type "type"))
    (hd_BadRatio : PySem.W.hasDictIn K C_BadRatio = true)
    (se_BadRatio : PySem.W.subIn K (.ref C_BadRatio) (.ref C_BadRatio) = some true)
    {Z_HALF : Addr} {zd_HALF : Option Addr} {zn_HALF : Nat} {zs_HALF : Array (Option Value)} {za_HALF zb_HALF : Tok}
    (g_HALF : PySem.W.nsIn K mainGlobals "HALF" = some (some (.ref Z_HALF)))
    (q_HALF : K.lookup Z_HALF = some ⟨.type "tuple", zd_HALF, .seq #[.int 1 za_HALF, .int 2 zb_HALF] zn_HALF, zs_HALF⟩)
    {Z_ONE : Addr} {zd_ONE : Option Addr} {zn_ONE : Nat} {zs_ONE : Array (Option Value)} {za_ONE zb_ONE : Tok}
    (g_ONE : PySem.W.nsIn K mainGlobals "ONE" = some (some (.ref Z_ONE)))
    (q_ONE : K.lookup Z_ONE = some ⟨.type "tuple", zd_ONE, .seq #[.int 1 za_ONE, .int 1 zb_ONE] zn_ONE, zs_ONE⟩)
    {Z_ZERO : Addr} {zd_ZERO : Option Addr} {zn_ZERO : Nat} {zs_ZERO : Array (Option Value)} {za_ZERO zb_ZERO : Tok}
    (g_ZERO : PySem.W.nsIn K mainGlobals "ZERO" = some (some (.ref Z_ZERO)))
    (q_ZERO : K.lookup Z_ZERO = some ⟨.type "tuple", zd_ZERO, .seq #[.int 0 za_ZERO, .int 1 zb_ZERO] zn_ZERO, zs_ZERO⟩)
    (i_gcd : PySem.W.nsIn K mainGlobals "gcd" = some (some (.builtin "math.gcd")))
    (z_abs : PySem.W.nsIn K mainGlobals "abs" = some none)
    (z_bool : PySem.W.nsIn K mainGlobals "bool" = some none)
    (z_int : PySem.W.nsIn K mainGlobals "int" = some none)
    (z_isinstance : PySem.W.nsIn K mainGlobals "isinstance" = some none)
    (z_len : PySem.W.nsIn K mainGlobals "len" = some none)
    (z_list : PySem.W.nsIn K mainGlobals "list" = some none)
    (z_range : PySem.W.nsIn K mainGlobals "range" = some none)
    (z_tuple : PySem.W.nsIn K mainGlobals "tuple" = some none) : Txt K mg where
  F__law_hand := ⟨_, _, fun_mk (st := st__law_hand) l__law_hand c__law_hand k__law_hand, PySem.W.mg_of X G a__law_hand⟩
  F__law_take := ⟨_, _, fun_mk (st := st__law_take) l__law_take c__law_take k__law_take, PySem.W.mg_of X G a__law_take⟩
  F__law_gcd := ⟨_, _, fun_mk (st := st__law_gcd) l__law_gcd c__law_gcd k__law_gcd, PySem.W.mg_of X G a__law_gcd⟩
  F__law_ratio := ⟨_, _, fun_mk (st := st__law_ratio) l__law_ratio c__law_ratio k__law_ratio, PySem.W.mg_of X G a__law_ratio⟩
  F__law_less := ⟨_, _, fun_mk (st := st__law_less) l__law_less c__law_less k__law_less, PySem.W.mg_of X G a__law_less⟩
  F__law_odd := ⟨_, _, fun_mk (st := st__law_odd) l__law_odd c__law_odd k__law_odd, PySem.W.mg_of X G a__law_odd⟩
  F_is_whole := ⟨_, _, ⟨⟨_, _, _, _, _, _, _, _, _, _, rfl, l_is_whole, c_is_whole, .inr ⟨by simp, _, _, [Value.none, Value.none], _, rfl, e_is_whole, rfl, .cons rfl (.cons rfl (.nil))⟩, .inl rfl⟩, k_is_whole⟩, PySem.W.mg_of X G a_is_whole⟩
  F__law_wide := ⟨_, _, fun_mk (st := st__law_wide) l__law_wide c__law_wide k__law_wide, PySem.W.mg_of X G a__law_wide⟩
  F__law_whole := ⟨_, _, fun_mk (st := st__law_whole) l__law_whole c__law_whole k__law_whole, PySem.W.mg_of X G a__law_whole⟩
  F_negative := ⟨_, _, fun_mk (st := st_negative) l_negative c_negative k_negative, PySem.W.mg_of X G a_negative⟩
  F_size_of := ⟨_, _, fun_mk (st := st_size_of) l_size_of c_size_of k_size_of, PySem.W.mg_of X G a_size_of⟩
  F_lowest_terms := ⟨_, _, fun_mk (st := st_lowest_terms) l_lowest_terms c_lowest_terms k_lowest_terms, PySem.W.mg_of X G a_lowest_terms⟩
  F_times := ⟨_, _, fun_mk (st := st_times) l_times c_times k_times, PySem.W.mg_of X G a_times⟩
  F_plus := ⟨_, _, fun_mk (st := st_plus) l_plus c_plus k_plus, PySem.W.mg_of X G a_plus⟩
  F_over := ⟨_, _, fun_mk (st := st_over) l_over c_over k_over, PySem.W.mg_of X G a_over⟩
  F__law_divided := ⟨_, _, fun_mk (st := st__law_divided) l__law_divided c__law_divided k__law_divided, PySem.W.mg_of X G a__law_divided⟩
  F_make_ratio := ⟨_, _, ⟨⟨_, _, _, _, _, _, _, _, _, _, rfl, l_make_ratio, c_make_ratio, .inr ⟨by simp, _, _, [Value.int 1 u0_make_ratio], _, rfl, e_make_ratio, rfl, .cons ⟨u0_make_ratio, rfl⟩ (.nil)⟩, .inl rfl⟩, k_make_ratio⟩, PySem.W.mg_of X G a_make_ratio⟩
  F_is_ratio := ⟨_, _, fun_mk (st := st_is_ratio) l_is_ratio c_is_ratio k_is_ratio, PySem.W.mg_of X G a_is_ratio⟩
  F__law_over := ⟨_, _, fun_mk (st := st__law_over) l__law_over c__law_over k__law_over, PySem.W.mg_of X G a__law_over⟩
  F_minus := ⟨_, _, fun_mk (st := st_minus) l_minus c_minus k_minus, PySem.W.mg_of X G a_minus⟩
  F__law_compare := ⟨_, _, fun_mk (st := st__law_compare) l__law_compare c__law_compare k__law_compare, PySem.W.mg_of X G a__law_compare⟩
  F__law_wide_ratio := ⟨_, _, fun_mk (st := st__law_wide_ratio) l__law_wide_ratio c__law_wide_ratio k__law_wide_ratio, PySem.W.mg_of X G a__law_wide_ratio⟩
  F_compare := ⟨_, _, fun_mk (st := st_compare) l_compare c_compare k_compare, PySem.W.mg_of X G a_compare⟩
  F_least_of := ⟨_, _, fun_mk (st := st_least_of) l_least_of c_least_of k_least_of, PySem.W.mg_of X G a_least_of⟩
  F__law_below := ⟨_, _, fun_mk (st := st__law_below) l__law_below c__law_below k__law_below, PySem.W.mg_of X G a__law_below⟩
  F_greatest_of := ⟨_, _, fun_mk (st := st_greatest_of) l_greatest_of c_greatest_of k_greatest_of, PySem.W.mg_of X G a_greatest_of⟩
  F_sum_of := ⟨_, _, fun_mk (st := st_sum_of) l_sum_of c_sum_of k_sum_of, PySem.W.mg_of X G a_sum_of⟩
  F__law_plain := ⟨_, _, fun_mk (st := st__law_plain) l__law_plain c__law_plain k__law_plain, PySem.W.mg_of X G a__law_plain⟩
  F__law_plus := ⟨_, _, fun_mk (st := st__law_plus) l__law_plus c__law_plus k__law_plus, PySem.W.mg_of X G a__law_plus⟩
  F__law_sum := ⟨_, _, fun_mk (st := st__law_sum) l__law_sum c__law_sum k__law_sum, PySem.W.mg_of X G a__law_sum⟩
  F__law_rows := ⟨_, _, fun_mk (st := st__law_rows) l__law_rows c__law_rows k__law_rows, PySem.W.mg_of X G a__law_rows⟩
  F__law_times := ⟨_, _, fun_mk (st := st__law_times) l__law_times c__law_times k__law_times, PySem.W.mg_of X G a__law_times⟩
  F__law_refused := ⟨_, _, fun_mk (st := st__law_refused) l__law_refused c__law_refused k__law_refused, PySem.W.mg_of X G a__law_refused⟩
  F_law := ⟨_, _, fun_mk (st := st_law) l_law c_law k_law, PySem.W.mg_of X G a_law⟩
  X_BadRatio := ⟨C_BadRatio, f_BadRatio, _, PySem.W.mg_of X G a_BadRatio, ⟨⟨_, _, _, _, _, _, _, _, _, _, _, _, _, _, _, x_BadRatio, r_BadRatio⟩, sa_BadRatio, ex_BadRatio, ty_BadRatio, k_BadRatio⟩, fun f hf => by simp only [List.mem_cons, List.not_mem_nil, or_false] at hf; subst hf; exact n_what_BadRatio, i_BadRatio, ti_BadRatio, fun_mk (st := st_BadRatio) l_BadRatio c_BadRatio ki_BadRatio, PySem.W.exm_ref ex_BadRatio hd_BadRatio ty_BadRatio se_BadRatio, ⟨ga_BadRatio, gg_BadRatio, ex_BadRatio, hd_BadRatio⟩⟩
  g_HALF := ⟨Z_HALF, PySem.W.mg_of X G g_HALF, rat_den q_HALF⟩
  g_ONE := ⟨Z_ONE, PySem.W.mg_of X G g_ONE, rat_den q_ONE⟩
  g_ZERO := ⟨Z_ZERO, PySem.W.mg_of X G g_ZERO, rat_den q_ZERO⟩
  i_gcd := PySem.W.mg_of X G i_gcd
  z_abs := PySem.W.mg_none_of X G z_abs
  z_bool := PySem.W.mg_none_of X G z_bool
  z_int := PySem.W.mg_none_of X G z_int
  z_isinstance := PySem.W.mg_none_of X G z_isinstance
  z_len := PySem.W.mg_none_of X G z_len
  z_list := PySem.W.mg_none_of X G z_list
  z_range := PySem.W.mg_none_of X G z_range
  z_tuple := PySem.W.mg_none_of X G z_tuple
theorem law_mk {l : PySem.W.OpenLaw} {w : World} {K : Frag} {mg : Str → Option Value} {fa : Addr} (T : Txt K mg) (hfa : mg "law" = some (.ref fa)) (M : ∀ s : Hd, ∃ s' : Hd, b_law (lawE 8) s = .ok (.rt (.bl true)) s') :
    ∃ fd : FuncData, (∀ (s : Shared) (v : Value), BindsTo s fd ⟨[v], []⟩ [("_law_script", v)]) ∧ ∀ base : Heap, K.In base → base.Ns mainGlobals mg → FnOk l.prog w K mg base (L2.CX l.prog w) 6 fa fd ["_law_script"] (spLaw K) := by
  obtain ⟨f, fd, F, hm⟩ := T.F_law
  have e := hfa.symm.trans hm
  cases e
  refine ⟨fd, fun s v => ?_, fun base _ _ => ?_⟩
  · obtain ⟨oc, od, kV, doc, pm, an, cdv, ct, osl, rfl, _, _⟩ := F.ex
    exact .of_eq rfl
  · have C__law_take := c__law_take (P := l.prog) (w := w) (base := base) T
    have C__law_gcd := c__law_gcd (P := l.prog) (w := w) (base := base) T 
    have C__law_ratio := c__law_ratio (P := l.prog) (w := w) (base := base) T C__law_gcd
    have C__law_less := c__law_less (P := l.prog) (w := w) (base := base) T C__law_ratio
    have C__law_odd := c__law_odd (P := l.prog) (w := w) (base := base) T C__law_take
    have C_is_whole_1_high := c_is_whole_1_high (P := l.prog) (w := w) (base := base) T 
    have C_is_whole_1 := c_is_whole_1 (P := l.prog) (w := w) (base := base) T 
    have C_is_whole_2 := c_is_whole_2 (P := l.prog) (w := w) (base := base) T 
    have C_is_whole := c_is_whole (P := l.prog) (w := w) (base := base) T 
    have C__law_wide := c__law_wide (P := l.prog) (w := w) (base := base) T C__law_take
    have C__law_whole := c__law_whole (P := l.prog) (w := w) (base := base) T C__law_take C__law_wide C_is_whole_1 C_is_whole_2 C_is_whole C_is_whole_1_high
    have C_negative := c_negative (P := l.prog) (w := w) (base := base) T 
    have C_size_of := c_size_of (P := l.prog) (w := w) (base := base) T 
    have C_lowest_terms := c_lowest_terms (P := l.prog) (w := w) (base := base) T 
    have C_times := c_times (P := l.prog) (w := w) (base := base) T C_lowest_terms
    have C_plus := c_plus (P := l.prog) (w := w) (base := base) T C_lowest_terms
    have C_over := c_over (P := l.prog) (w := w) (base := base) T C_lowest_terms
    have C__law_divided := c__law_divided (P := l.prog) (w := w) (base := base) T C_over
    have C_make_ratio_1 := c_make_ratio_1 (P := l.prog) (w := w) (base := base) T C_is_whole_1 C_lowest_terms
    have C_make_ratio := c_make_ratio (P := l.prog) (w := w) (base := base) T C_is_whole_1 C_lowest_terms
    have C_is_ratio := c_is_ratio (P := l.prog) (w := w) (base := base) T C_is_whole_1 C_is_whole_2
    have C__law_over := c__law_over (P := l.prog) (w := w) (base := base) T C__law_ratio
    have C_minus := c_minus (P := l.prog) (w := w) (base := base) T C_lowest_terms
    have C__law_compare := c__law_compare (P := l.prog) (w := w) (base := base) T 
    have C__law_wide_ratio := c__law_wide_ratio (P := l.prog) (w := w) (base := base) T C__law_ratio C__law_wide
    have C_compare := c_compare (P := l.prog) (w := w) (base := base) T 
    have C_least_of := c_least_of (P := l.prog) (w := w) (base := base) T C_compare
    have C__law_below := c__law_below (P := l.prog) (w := w) (base := base) T 
    have C_greatest_of := c_greatest_of (P := l.prog) (w := w) (base := base) T C_compare
    have C_sum_of := c_sum_of (P := l.prog) (w := w) (base := base) T C_plus
    have C__law_plain := c__law_plain (P := l.prog) (w := w) (base := base) T 
    have C__law_plus := c__law_plus (P := l.prog) (w := w) (base := base) T C__law_ratio
    have C__law_sum := c__law_sum (P := l.prog) (w := w) (base := base) T C__law_plus
    have C__law_rows := c__law_rows (P := l.prog) (w := w) (base := base) T C__law_below C__law_plain C__law_sum C__law_take C__law_wide_ratio C_greatest_of C_least_of C_sum_of
    have C__law_times := c__law_times (P := l.prog) (w := w) (base := base) T C__law_ratio
    have C__law_refused := c__law_refused (P := l.prog) (w := w) (base := base) T C_make_ratio
    exact f_law T C__law_compare C__law_divided C__law_less C__law_odd C__law_over C__law_plain C__law_plus C__law_ratio C__law_refused C__law_rows C__law_take C__law_times C__law_whole C__law_wide C__law_wide_ratio C_compare C_is_ratio C_make_ratio_1 C_make_ratio C_minus C_negative C_plus C_size_of C_times M F
end Law
open PySem PySem.W PyProof.Rows
set_option maxRecDepth 100000 in
set_option maxHeartbeats 0 in
theorem PySem.Challenge.cw_stillarms_k01_whole_ratios_reckoned_holds : PySem.Challenge.rw_stillarms_k01_whole_ratios_reckoned.Holds := by
  w_on; o_law; k_head; (case hw => w_witness2)
  k_fill
  refine L2.walk_of (l := PySem.Challenge.rw_stillarms_k01_whole_ratios_reckoned) (n := 63) (k := 6) (x := "_law_script") (CX := fun w => L2.CX PySem.Challenge.rw_stillarms_k01_whole_ratios_reckoned.prog w) (sp := fun w => Mir.spLaw _) rfl (by decide) rfl ⟨rfl, by decide, by decide⟩ (fun w h Y => PySem.W.kIn_of Y) ?F (fun _ _ a ns hl _ hS => ⟨a, ns, rfl, hS, hl, fun _ => rfl⟩) (fun _ _ _ _ _ z => Mir.cx_false z)
  case F =>
    intro w mg fa h KX G hmg
    refine' Law.law_mk (Law.txt_mk KX G ?a__law_hand ?l__law_hand ?c__law_hand ?k__law_hand ?a__law_take ?l__law_take ?c__law_take ?k__law_take ?a__law_gcd ?l__law_gcd ?c__law_gcd ?k__law_gcd ?a__law_ratio ?l__law_ratio ?c__law_ratio ?k__law_ratio ?a__law_less ?l__law_less ?c__law_less ?k__law_less ?a__law_odd ?l__law_odd ?c__law_odd ?k__law_odd ?a_is_whole ?l_is_whole ?c_is_whole ?k_is_whole ?e_is_whole ?a__law_wide ?l__law_wide ?c__law_wide ?k__law_wide ?a__law_whole ?l__law_whole ?c__law_whole ?k__law_whole ?a_negative ?l_negative ?c_negative ?k_negative ?a_size_of ?l_size_of ?c_size_of ?k_size_of ?a_lowest_terms ?l_lowest_terms ?c_lowest_terms ?k_lowest_terms ?a_times ?l_times ?c_times ?k_times ?a_plus ?l_plus ?c_plus ?k_plus ?a_over ?l_over ?c_over ?k_over ?a__law_divided ?l__law_divided ?c__law_divided ?k__law_divided ?a_make_ratio ?l_make_ratio ?c_make_ratio ?k_make_ratio ?e_make_ratio ?a_is_ratio ?l_is_ratio ?c_is_ratio ?k_is_ratio ?a__law_over ?l__law_over ?c__law_over ?k__law_over ?a_minus ?l_minus ?c_minus ?k_minus ?a__law_compare ?l__law_compare ?c__law_compare ?k__law_compare ?a__law_wide_ratio ?l__law_wide_ratio ?c__law_wide_ratio ?k__law_wide_ratio ?a_compare ?l_compare ?c_compare ?k_compare ?a_least_of ?l_least_of ?c_least_of ?k_least_of ?a__law_below ?l__law_below ?c__law_below ?k__law_below ?a_greatest_of ?l_greatest_of ?c_greatest_of ?k_greatest_of ?a_sum_of ?l_sum_of ?c_sum_of ?k_sum_of ?a__law_plain ?l__law_plain ?c__law_plain ?k__law_plain ?a__law_plus ?l__law_plus ?c__law_plus ?k__law_plus ?a__law_sum ?l__law_sum ?c__law_sum ?k__law_sum ?a__law_rows ?l__law_rows ?c__law_rows ?k__law_rows ?a__law_times ?l__law_times ?c__law_times ?k__law_times ?a__law_refused ?l__law_refused ?c__law_refused ?k__law_refused ?a_law ?l_law ?c_law ?k_law ?a_BadRatio ?x_BadRatio ?r_BadRatio ?sa_BadRatio ?ga_BadRatio ?gg_BadRatio ?n_what_BadRatio ?i_BadRatio ?ti_BadRatio ?l_BadRatio ?c_BadRatio ?ki_BadRatio ?k_BadRatio ?ex_BadRatio ?ty_BadRatio ?hd_BadRatio ?se_BadRatio ?g_HALF ?q_HALF ?g_ONE ?q_ONE ?g_ZERO ?q_ZERO ?i_gcd ?z_abs ?z_bool ?z_int ?z_isinstance ?z_len ?z_list ?z_range ?z_tuple) hmg Law.math
    (case a__law_hand => k_is)
    (case l__law_hand => k_is)
    (case c__law_hand => k_is)
    (case k__law_hand => k_is)
    (case a__law_take => k_is)
    (case l__law_take => k_is)
    (case c__law_take => k_is)
    (case k__law_take => k_is)
    (case a__law_gcd => k_is)
    (case l__law_gcd => k_is)
    (case c__law_gcd => k_is)
    (case k__law_gcd => k_is)
    (case a__law_ratio => k_is)
    (case l__law_ratio => k_is)
    (case c__law_ratio => k_is)
    (case k__law_ratio => k_is)
    (case a__law_less => k_is)
    (case l__law_less => k_is)
    (case c__law_less => k_is)
    (case k__law_less => k_is)
    (case a__law_odd => k_is)
    (case l__law_odd => k_is)
    (case c__law_odd => k_is)
    (case k__law_odd => k_is)
    (case a_is_whole => k_is)
    (case l_is_whole => k_is)
    (case c_is_whole => k_is)
    (case k_is_whole => k_is)
    (case e_is_whole => k_is)
    (case a__law_wide => k_is)
    (case l__law_wide => k_is)
    (case c__law_wide => k_is)
    (case k__law_wide => k_is)
    (case a__law_whole => k_is)
    (case l__law_whole => k_is)
    (case c__law_whole => k_is)
    (case k__law_whole => k_is)
    (case a_negative => k_is)
    (case l_negative => k_is)
    (case c_negative => k_is)
    (case k_negative => k_is)
    (case a_size_of => k_is)
    (case l_size_of => k_is)
    (case c_size_of => k_is)
    (case k_size_of => k_is)
    (case a_lowest_terms => k_is)
    (case l_lowest_terms => k_is)
    (case c_lowest_terms => k_is)
    (case k_lowest_terms => k_is)
    (case a_times => k_is)
    (case l_times => k_is)
    (case c_times => k_is)
    (case k_times => k_is)
    (case a_plus => k_is)
    (case l_plus => k_is)
    (case c_plus => k_is)
    (case k_plus => k_is)
    (case a_over => k_is)
    (case l_over => k_is)
    (case c_over => k_is)
    (case k_over => k_is)
    (case a__law_divided => k_is)
    (case l__law_divided => k_is)
    (case c__law_divided => k_is)
    (case k__law_divided => k_is)
    (case a_make_ratio => k_is)
    (case l_make_ratio => k_is)
    (case c_make_ratio => k_is)
    (case k_make_ratio => k_is)
    (case e_make_ratio => k_is)
    (case a_is_ratio => k_is)
    (case l_is_ratio => k_is)
    (case c_is_ratio => k_is)
    (case k_is_ratio => k_is)
    (case a__law_over => k_is)
    (case l__law_over => k_is)
    (case c__law_over => k_is)
    (case k__law_over => k_is)
    (case a_minus => k_is)
    (case l_minus => k_is)
    (case c_minus => k_is)
    (case k_minus => k_is)
    (case a__law_compare => k_is)
    (case l__law_compare => k_is)
    (case c__law_compare => k_is)
    (case k__law_compare => k_is)
    (case a__law_wide_ratio => k_is)
    (case l__law_wide_ratio => k_is)
    (case c__law_wide_ratio => k_is)
    (case k__law_wide_ratio => k_is)
    (case a_compare => k_is)
    (case l_compare => k_is)
    (case c_compare => k_is)
    (case k_compare => k_is)
    (case a_least_of => k_is)
    (case l_least_of => k_is)
    (case c_least_of => k_is)
    (case k_least_of => k_is)
    (case a__law_below => k_is)
    (case l__law_below => k_is)
    (case c__law_below => k_is)
    (case k__law_below => k_is)
    (case a_greatest_of => k_is)
    (case l_greatest_of => k_is)
    (case c_greatest_of => k_is)
    (case k_greatest_of => k_is)
    (case a_sum_of => k_is)
    (case l_sum_of => k_is)
    (case c_sum_of => k_is)
    (case k_sum_of => k_is)
    (case a__law_plain => k_is)
    (case l__law_plain => k_is)
    (case c__law_plain => k_is)
    (case k__law_plain => k_is)
    (case a__law_plus => k_is)
    (case l__law_plus => k_is)
    (case c__law_plus => k_is)
    (case k__law_plus => k_is)
    (case a__law_sum => k_is)
    (case l__law_sum => k_is)
    (case c__law_sum => k_is)
    (case k__law_sum => k_is)
    (case a__law_rows => k_is)
    (case l__law_rows => k_is)
    (case c__law_rows => k_is)
    (case k__law_rows => k_is)
    (case a__law_times => k_is)
    (case l__law_times => k_is)
    (case c__law_times => k_is)
    (case k__law_times => k_is)
    (case a__law_refused => k_is)
    (case l__law_refused => k_is)
    (case c__law_refused => k_is)
    (case k__law_refused => k_is)
    (case a_law => k_is)
    (case l_law => k_is)
    (case c_law => k_is)
    (case k_law => k_is)
    (case a_BadRatio => k_is)
    (case x_BadRatio => k_is)
    (case r_BadRatio => decide +kernel)
    (case sa_BadRatio => k_is)
    (case ga_BadRatio => k_is)
    (case gg_BadRatio => k_is)
    (case n_what_BadRatio => k_is)
    (case i_BadRatio => k_is)
    (case ti_BadRatio => k_is)
    (case l_BadRatio => k_is)
    (case c_BadRatio => k_is)
    (case ki_BadRatio => k_is)
    (case k_BadRatio => k_is)
    (case ex_BadRatio => k_is)
    (case ty_BadRatio => k_is)
    (case hd_BadRatio => k_is)
    (case se_BadRatio => k_is)
    (case g_HALF => k_is)
    (case q_HALF => k_is)
    (case g_ONE => k_is)
    (case q_ONE => k_is)
    (case g_ZERO => k_is)
    (case q_ZERO => k_is)
    (case i_gcd => k_is)
    (case z_abs => k_is)
    (case z_bool => k_is)
    (case z_int => k_is)
    (case z_isinstance => k_is)
    (case z_len => k_is)
    (case z_list => k_is)
    (case z_range => k_is)
    (case z_tuple => k_is)


