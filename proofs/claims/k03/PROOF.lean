import PyProof.Rows.All
import HandS.Head0
import HandS.Head1
import HandS.Head2
import HandS.Head3
import HandS.HeadHook1
import HandS.HeadHook2
import HandS.ExcField
import HandS.ExcInit
import HandS.ExcIs
import HandS.Words
import HandS.Defaults
import HandS.Property
import PySem.Challenge.RW_stillarms_k03_whole_arms_made_and_refuse
import Wide.All
import OpenK.AllK
import Wide.FinOn
import PyProof.EqAt
import PyProof.EqKinds
import PyProof.TupleCall
import HandS.ForMost
import HandS.ForExc
import HandS.Flow
import HandS.Gcd
import HandS.Wide
import HandS.Deep
import HandS.IsInst
import HandS.CallSlots
import KE.KMathG
import HandS.TupAny
import HandS.TryOnly
import HandS.Small
import OpenK.KOps
import HandS.StrMore
import HandS.Style
import HandS.Codes
import HandS.Zip
import HandS.Iter
import KE.GoesEnum
import KE.GoesMore
import KE.GoesZip
import HandS.CallLocal
import HandS.SortInts
import HandS.Conv
import HandS.TupMul
import OpenK.KMeth
import PyProof.InstNe
import HandS.More
import KE.LtData
import KE.KEqSeq
set_option Elab.async false
set_option linter.all false
set_option maxRecDepth 100000
namespace Hk
open PySem PySem.Spec PyProof.Rows L2
open PySem.W (Frag)
/-! the head by one kernel run; what the walk asks is told at fixed places -/
/-! ### looks at a value -/
def isRef (v : Option (Option Value)) (a : Addr) : Bool := match v with
  | some (some (.ref b)) => Nat.beq b a
  | _ => false
def isNo (v : Option (Option Value)) : Bool := match v with
  | some none => true
  | _ => false
def isInt (v : Option (Option Value)) (i : Int) : Bool := match v with
  | some (some (.int j _)) => decide (j = i)
  | _ => false
def isNon (v : Option (Option Value)) : Bool := match v with
  | some (some .none) => true
  | _ => false
def isBi (v : Option (Option Value)) (n : String) : Bool := match v with
  | some (some (.builtin m)) => decide (m = n)
  | _ => false
def isTyp (v : Option Value) (n : String) : Bool := match v with
  | some (.type m) => decide (m = n)
  | _ => false
def isB (v : Option Bool) (b : Bool) : Bool := match v with
  | some c => c == b
  | none => false
section
variable {v : Option (Option Value)} {a : Addr}
theorem ref_eq (h : isRef v a = true) : v = some (some (.ref a)) := by
  unfold isRef at h
  split at h
  · rw [Nat.eq_of_beq_eq_true h]
  · cases h
theorem no_eq (h : isNo v = true) : v = some none := by
  unfold isNo at h
  split at h
  · rfl
  · cases h
theorem int_eq {i : Int} (h : isInt v i = true) : ∃ t, v = some (some (.int i t)) := by
  unfold isInt at h
  split at h
  · exact ⟨_, by rw [of_decide_eq_true h]⟩
  · cases h
theorem non_eq (h : isNon v = true) : v = some (some .none) := by
  unfold isNon at h
  split at h
  · rfl
  · cases h
theorem bi_eq {n : String} (h : isBi v n = true) : v = some (some (.builtin n)) := by
  unfold isBi at h
  split at h
  · rw [of_decide_eq_true h]
  · cases h
theorem typ_eq {v : Option Value} {n : String} (h : isTyp v n = true) : v = some (.type n) := by
  unfold isTyp at h
  split at h
  · rw [of_decide_eq_true h]
  · cases h
theorem b_eq {v : Option Bool} {b : Bool} (h : isB v b = true) : v = some b := by
  unfold isB at h
  split at h
  · rw [eq_of_beq h]
  · cases h
end
theorem two {a b : Bool} (h : (a && b) = true) : a = true ∧ b = true := Bool.and_eq_true_iff.mp h
/-! ### a def's text and what stands beside it -/
abbrev Tx : Type := Str × Str × Arguments × FuncBody × Scope
def tx (K : Frag) (f : Addr) : Option Tx := match K.lookup f with
  | some ⟨_, _, .func d, _⟩ => some (d.name, d.qualname, d.params, d.body, d.scope)
  | _ => none
def plainF (K : Frag) (f : Addr) (q : Str) (vs : List V) : Bool := match K.lookup f with
  | some ⟨_, _, .func d, _⟩ => (Nat.beq d.globals mainGlobals && d.closure.isEmpty) && (Nat.beq d.builtins builtinsNs && (PySem.W.codeIn K d.code q && He.dflB K d.defaults vs))
  | _ => false
section
variable {K : Frag} {f : Addr} {x q : Str} {p : Arguments} {b : List Stmt} {sc : Scope} {vs : List V}
theorem funD (t : tx K f = some (x, q, p, .stmts b, sc)) (c : plainF K f q vs = true) : ∃ fd, FunD K x q p b sc vs [] f fd := by
  unfold tx at t
  unfold plainF at c
  split at t
  · rename_i oc od d sl lk
    rw [lk] at c
    obtain ⟨n1, n2, n3, n4, n5, n6, n7, n8, n9, n10, n11, n12, n13, n14, n15⟩ := d
    simp only [Option.some.injEq, Prod.mk.injEq] at t
    obtain ⟨h1, h2, h3, h4, h5⟩ := t
    subst h1 h2 h3 h4 h5
    obtain ⟨c1, c2⟩ := two c
    obtain ⟨c3, c4⟩ := two c1
    obtain ⟨c5, c6⟩ := two c2
    obtain ⟨c7, c8⟩ := two c6
    have e6 : n6 = mainGlobals := Nat.eq_of_beq_eq_true c3
    have e7 : n7 = [] := List.isEmpty_iff.mp c4
    have e15 : n15 = builtinsNs := Nat.eq_of_beq_eq_true c5
    subst e6 e7 e15
    refine ⟨_, ⟨oc, od, n8, n9, n10, n11, n12, n13, n14, sl, rfl, lk, c7, He.dflB_ok c8, .inl rfl⟩, ?_⟩
    show (match K.lookup f with
      | some ⟨_, _, .func _, _⟩ => true
      | some ⟨_, _, .cls _, _⟩ => _
      | _ => false) = true
    rw [lk]
  · cases t
theorem fun_ {st : Stmt} (t : tx K f = some (x, q, defArgs st, .stmts (defBody st), defScope st)) (c : plainF K f q [] = true) : ∃ fd, Fun K x q st f fd := by
  obtain ⟨fd, F⟩ := funD t c
  obtain ⟨oc, od, dV, kV, doc, pm, an, cdv, ct, osl, e, lk, k, dv, _⟩ := F.ex
  rcases dv with ⟨_, rfl⟩ | ⟨h, _⟩
  · exact ⟨fd, ⟨oc, od, kV, doc, pm, an, cdv, ct, osl, e, lk, k⟩, F.kp⟩
  · exact absurd rfl h
end
/-! ### classes -/
def clsB (K : Frag) (C : Addr) : Bool := (PySem.W.plainGet K C Str.empty && PySem.W.hasDictIn K C) && (PySem.W.plainOver K C && isBi (PySem.W.findIn K (.ref C) "__setattr__") "object.__setattr__")
def methB (K : Frag) (C : Addr) (m : Str) (f : Addr) : Bool := isRef (PySem.W.findIn K (.ref C) m) f && (PySem.W.isFn K (.ref f) && PySem.W.keepIn K (.ref f))
def mkB (K : Frag) (C f : Addr) : Bool := (PySem.W.makesIn K C && isRef (PySem.W.findIn K (.ref C) "__init__") f) && (PySem.W.isFn K (.ref f) && PySem.W.keepIn K (.ref C))
def oexB (K : Frag) (C : Addr) : Bool := match K.lookup C with
  | some ⟨.type t, _, .cls cd, sl⟩ => (match cd.mro, sl.toList with
    | .ref D :: bm, [_, _, _, _, some (.builtin n), _] => (decide (t = "type") && Nat.beq D C) && ((decide (n = "ValueError.__new__") && cd.hasDict) && (!cd.hasDel && PySem.HandSPX.refsVE bm))
    | _, _ => false)
  | _ => false
def errB (K : Frag) (C : Addr) : Bool := (isBi (PySem.W.findIn K (.ref C) "__setattr__") "object.__setattr__" && isB (PySem.W.subIn K (.ref C) (.type "BaseException")) true) && (isTyp (PySem.W.typeIn K (.ref C)) "type" && PySem.W.keepIn K (.ref C))
def getB (K : Frag) (C : Addr) : Bool := (isBi (PySem.W.findIn K (.ref C) "__getattribute__") "BaseException.__getattribute__" && isNo (PySem.W.findIn K (.ref C) "__getattr__")) && (isB (PySem.W.subIn K (.ref C) (.type "BaseException")) true && PySem.W.hasDictIn K C)
def thrB (K : Frag) (C : Addr) : Bool := (PySem.W.excIn K C [.type "ValueError", .type "Exception", .type "BaseException", .type "object"] "ValueError.__new__" && PySem.W.keepIn K (.ref C)) &&
  (isB (PySem.W.subIn K (.ref C) (.type "BaseException")) true && isTyp (PySem.W.typeIn K (.ref C)) "type")
section
variable {K : Frag} {C f : Addr}
theorem cls_ (h : clsB K C = true) : Cls K C := by
  obtain ⟨h1, h2⟩ := two h
  obtain ⟨h3, h4⟩ := two h1
  obtain ⟨h5, h6⟩ := two h2
  exact ⟨h3, h4, h5, bi_eq h6⟩
theorem meth_ {m : Str} (h : methB K C m f = true) : Meth K C m f := by
  obtain ⟨h1, h2⟩ := two h
  obtain ⟨h3, h4⟩ := two h2
  exact ⟨ref_eq h1, h3, h4⟩
theorem mk_ (h : mkB K C f = true) : Mk K C f := by
  obtain ⟨h1, h2⟩ := two h
  obtain ⟨h3, h4⟩ := two h1
  obtain ⟨h5, h6⟩ := two h2
  exact ⟨h3, ref_eq h4, h5, h6⟩
theorem oex_ (h : oexB K C = true) (g : errB K C = true) : OexC K C := by
  obtain ⟨g1, g2⟩ := two g
  obtain ⟨g3, g4⟩ := two g1
  obtain ⟨g5, g6⟩ := two g2
  refine ⟨?_, bi_eq g3, b_eq g4, typ_eq g5, g6⟩
  unfold oexB at h
  split at h
  · rename_i t dd cd sl lk
    split at h
    · rename_i D bm k0 k1 k2 k3 n k5 hm hs
      obtain ⟨nm, bs, mro, ns, qn, hd, sn, sub, ab, col, del⟩ := cd
      obtain ⟨h1, h2⟩ := two h
      obtain ⟨h3, h4⟩ := two h1
      obtain ⟨h5, h6⟩ := two h2
      obtain ⟨h7, h8⟩ := two h5
      obtain ⟨h9, h10⟩ := two h6
      have e1 : t = "type" := of_decide_eq_true h3
      have e2 : D = C := Nat.eq_of_beq_eq_true h4
      have e3 : n = "ValueError.__new__" := of_decide_eq_true h7
      have e4 : hd = true := h8
      have e5 : del = false := by
        cases del with
        | false => rfl
        | true => cases h9
      have e6 : mro = .ref D :: bm := hm
      subst e1 e2 e3 e4 e5 e6
      have e7 : sl = #[k0, k1, k2, k3, some (.builtin "ValueError.__new__"), k5] := by
        obtain ⟨l⟩ := sl
        have z : l = _ := hs
        rw [z]
      subst e7
      exact ⟨_, _, _, _, _, _, _, _, _, _, _, _, _, _, _, lk, h10⟩
    · cases h
  · cases h
theorem xf_ (h : getB K C = true) : XfC K C := by
  obtain ⟨h1, h2⟩ := two h
  obtain ⟨h3, h4⟩ := two h1
  obtain ⟨h5, h6⟩ := two h2
  exact ⟨bi_eq h3, no_eq h4, b_eq h5, h6⟩
end
/-! ### tuples -/
/-- a tuple of whole numbers and of tuples that stand elsewhere -/
def tupB (K : Frag) (Z : Addr) (vs : List V) : Bool := match K.lookup Z with
  | some ⟨.type t, _, .seq its _, _⟩ => decide (t = "tuple") && He.relAll vs its.toList
  | _ => false
theorem tup_ {K : Frag} {Z : Addr} {vs : List V} (h : tupB K Z vs = true) : ∃ (its : Array Value) (od : Option Addr) (n : Nat) (sl : Array (Option Value)), K.lookup Z = some ⟨.type "tuple", od, .seq its n, sl⟩ ∧ Vals vs its.toList := by
  unfold tupB at h
  split at h
  · rename_i t od its n sl lk
    obtain ⟨h1, h2⟩ := two h
    have e : t = "tuple" := of_decide_eq_true h1
    subst e
    exact ⟨its, od, n, sl, lk, He.relAll_ok h2⟩
  · cases h
/-! ### names -/
section
variable {K : Frag} {h : Heap} {mg : Str → Option Value} (X : K.In h) (G : h.Ns mainGlobals mg)
include X G
theorem ref {x : Str} {a : Addr} (c : isRef (PySem.W.nsIn K mainGlobals x) a = true) : mg x = some (.ref a) := PySem.W.mg_of X G (ref_eq c)
theorem free {x : Str} (c : isNo (PySem.W.nsIn K mainGlobals x) = true) : mg x = none := PySem.W.mg_none_of X G (no_eq c)
theorem num {x : Str} {i : Int} (c : isInt (PySem.W.nsIn K mainGlobals x) i = true) : ∃ t : Tok, mg x = some (.int i t) := by
  obtain ⟨t, e⟩ := int_eq c
  exact ⟨t, PySem.W.mg_of X G e⟩
theorem non {x : Str} (c : isNon (PySem.W.nsIn K mainGlobals x) = true) : mg x = some .none := PySem.W.mg_of X G (non_eq c)
theorem bi {x : Str} {n : String} (c : isBi (PySem.W.nsIn K mainGlobals x) n = true) : mg x = some (.builtin n) := PySem.W.mg_of X G (bi_eq c)
end
/-! ### the Hook -/
abbrev Fs : Type := Frag → List Bool
abbrev Ts : Type := List (Addr × Tx)
def obsK (fs : Fs) (ts : Ts) (K : Frag) : Bool × List (Option Tx) := ((fs K).all fun b => b, ts.map fun q => tx K q.1)
def valK (ts : Ts) : Bool × List (Option Tx) := (true, ts.map fun q => some q.2)
def Says (fs : Fs) (ts : Ts) (K : Frag) : Prop := obsK fs ts K = valK ts
def obsG (as : List Addr) (fs : Fs) (ts : Ts) (g : Addr → Option Obj) : Bool × List (Option Tx) := obsK fs ts (He.frG g as)
abbrev hook (as : List Addr) (fs : Fs) (ts : Ts) : PySem.W.Hook where
  α := Bool × List (Option Tx)
  obs := fun s => obsG as fs ts s.heap.get?
  val := fun _ => valK ts
  says := fun _ h => ∃ K : Frag, K.In h ∧ Says fs ts K
  of := fun _ s e => ⟨He.frG s.heap.get? as, He.frG_in, e⟩
  keeps := fun _ _ _ ⟨K, hK, c⟩ k => ⟨K, PySem.W.Frag.In.keeps hK k, c⟩
theorem obs_eq {as : List Addr} {fs : Fs} {ts : Ts} (s : PySem.W.SharedT) : obsG as fs ts (HandSHeadRun.getT s) = (hook as fs ts).obs s.abs := by
  have e : HandSHeadRun.getT s = s.abs.heap.get? := funext fun a => HandSHeadRun.getT_eq s a
  rw [e]
section
variable {fs : Fs} {ts : Ts} {K : Frag}
theorem Says.f (c : Says fs ts K) (i : Nat) {b : Bool} (e : (fs K)[i]? = some b := by kernel_rfl) : b = true := by
  have h : ((fs K).all fun b => b) = true := congrArg Prod.fst c
  exact List.all_eq_true.mp h b (List.mem_of_getElem? e)
theorem Says.t (c : Says fs ts K) (i : Nat) {f : Addr} {t : Tx} (e : ts[i]? = some (f, t) := by kernel_rfl) : tx K f = some t := by
  have h : (ts.map fun q => tx K q.1) = ts.map fun q => some q.2 := congrArg Prod.snd c
  have z : (ts.map fun q => tx K q.1)[i]? = (ts.map fun q => some q.2)[i]? := by rw [h]
  rw [List.getElem?_map, List.getElem?_map, e] at z
  exact Option.some.inj z
end
/-- three runs of one top, each for itself -/
theorem both {α β γ δ : Type} {o : Option α} {f : α → β} {f' : α → γ} {g : α → δ} {b : β} {b' : γ} {c : δ} (h1 : o.map f = some b) (h2 : o.map f' = some b') (h3 : o.map g = some c) : (o.map fun x => (f x, f' x, g x)) = some (b, b', c) := by
  cases o with
  | none => cases h1
  | some x =>
    have e1 : f x = b := Option.some.inj h1
    have e2 : f' x = b' := Option.some.inj h2
    have e3 : g x = c := Option.some.inj h3
    cases e1
    cases e2
    cases e3
    rfl
end Hk


set_option Elab.async false
set_option linter.all false
namespace Hk
open PySem PySem.Spec PyProof.Rows L2
open PySem.W (Frag)
/-- a property's getter -/
def recB (K : Frag) (p g : Addr) : Bool := match PySem.W.recIn K p "property" with
  | some (.ref a :: _) => Nat.beq a g
  | _ => false
theorem rec_ {K : Frag} {p g : Addr} (h : recB K p g = true) : ∃ rest, PySem.W.recIn K p "property" = some (.ref g :: rest) := by
  unfold recB at h
  split at h
  · rename_i a rest e
    rw [Nat.eq_of_beq_eq_true h] at e
    exact ⟨rest, e⟩
  · cases h
end Hk


set_option Elab.async false
set_option linter.all false
set_option maxRecDepth 100000
namespace Law
open PySem PySem.Spec PyProof.Rows L2
open PySem.W (Frag)
open Hk PySem.Calls
def topS (i : Nat) : Stmt := PySem.Challenge.pw_stillarms_k03_whole_arms_made_and_refuse.main.body.getD i (.Pass ⟨0, 0, 0, 0⟩)
abbrev st__law_hand : Stmt := topS 19
abbrev st__law_take : Stmt := topS 20
abbrev st_Arms____eq__ : Stmt := inClass (topS 17) 2
abbrev st_is_whole : Stmt := topS 6
abbrev st_is_ratio : Stmt := topS 7
abbrev st_is_row : Stmt := topS 9
abbrev st__check_bar : Stmt := topS 15
abbrev st__check_bars : Stmt := topS 14
abbrev st__count_letters : Stmt := topS 16
abbrev st_Arms____init__ : Stmt := inClass (topS 17) 0
abbrev st_Arms____len__ : Stmt := inClass (topS 17) 1
abbrev st__law_letters : Stmt := topS 25
abbrev st__law_gcd : Stmt := topS 21
abbrev st__law_ratio : Stmt := topS 22
abbrev st__law_mark : Stmt := topS 24
abbrev st__law_bars : Stmt := topS 26
abbrev st__law_made : Stmt := topS 33
abbrev st__law_most : Stmt := topS 27
abbrev st__law_gaps : Stmt := topS 36
abbrev st__law_lists : Stmt := topS 31
abbrev st__law_plus : Stmt := topS 23
abbrev st__law_tuples : Stmt := topS 30
abbrev st__law_wide : Stmt := topS 28
abbrev st__law_wide_ratio : Stmt := topS 29
abbrev st__law_odd : Stmt := topS 32
abbrev st__law_faults : Stmt := topS 34
abbrev st__law_wrong : Stmt := topS 35
abbrev st_law : Stmt := topS 37
abbrev st_BadArms : Stmt := inClass (topS 4) 0
abbrev hdR : PySem.W.OpenRow := PySem.W.OpenLaw.row PySem.Challenge.rw_stillarms_k03_whole_arms_made_and_refuse
abbrev hdV : Program := PySem.W.view hdR.prog [0, 37]
def hdN0 : List PySem.Str := [PySem.Str.ofString "_wall", PySem.Str.ofString "ArmError", PySem.Str.ofString "BadArms", PySem.Str.ofString "is_whole", PySem.Str.ofString "is_ratio", PySem.Str.ofString "is_row", PySem.Str.ofString "MAST", PySem.Str.ofString "MOST_BARS", PySem.Str.ofString "MOST_LETTERS", PySem.Str.ofString "_check_bars", PySem.Str.ofString "_check_bar", PySem.Str.ofString "_count_letters", PySem.Str.ofString "Arms", PySem.Str.ofString "_law_hand", PySem.Str.ofString "_law_take", PySem.Str.ofString "_law_gcd", PySem.Str.ofString "_law_ratio", PySem.Str.ofString "_law_plus", PySem.Str.ofString "_law_mark", PySem.Str.ofString "_law_letters", PySem.Str.ofString "_law_bars", PySem.Str.ofString "_law_most", PySem.Str.ofString "_law_wide", PySem.Str.ofString "_law_wide_ratio", PySem.Str.ofString "_law_tuples", PySem.Str.ofString "_law_lists", PySem.Str.ofString "_law_odd", PySem.Str.ofString "_law_made", PySem.Str.ofString "_law_faults", PySem.Str.ofString "_law_wrong", PySem.Str.ofString "_law_gaps"]
def hdN : List PySem.Str := hdN0
def hdA : List Addr := [3, 58, 59, 78, 79, 200, 201, 75, 76, 82, 88, 89, 95, 96, 97, 103, 104, 110, 111, 117, 118, 122, 123, 134, 135, 141, 142, 148, 149, 211, 212, 218, 219, 225, 226, 232, 233, 239, 240, 246, 247, 251, 252, 253, 259, 260, 264, 265, 271, 272, 278, 279, 283, 284, 288, 289, 295, 296, 302, 303, 309, 310, 314, 315, 319, 320, 326, 327]
def hdT0 : Ts := [(212, ("_law_hand", "_law_hand", defArgs st__law_hand, .stmts (defBody st__law_hand), defScope st__law_hand)), (219, ("_law_take", "_law_take", defArgs st__law_take, .stmts (defBody st__law_take), defScope st__law_take)), (149, ("__eq__", "Arms.__eq__", defArgs st_Arms____eq__, .stmts (defBody st_Arms____eq__), defScope st_Arms____eq__)), (89, ("is_whole", "is_whole", defArgs st_is_whole, .stmts (defBody st_is_whole), defScope st_is_whole)), (96, ("is_ratio", "is_ratio", defArgs st_is_ratio, .stmts (defBody st_is_ratio), defScope st_is_ratio)), (104, ("is_row", "is_row", defArgs st_is_row, .stmts (defBody st_is_row), defScope st_is_row)), (118, ("_check_bar", "_check_bar", defArgs st__check_bar, .stmts (defBody st__check_bar), defScope st__check_bar)), (111, ("_check_bars", "_check_bars", defArgs st__check_bars, .stmts (defBody st__check_bars), defScope st__check_bars)), (123, ("_count_letters", "_count_letters", defArgs st__count_letters, .stmts (defBody st__count_letters), defScope st__count_letters)), (135, ("__init__", "Arms.__init__", defArgs st_Arms____init__, .stmts (defBody st_Arms____init__), defScope st_Arms____init__)), (142, ("__len__", "Arms.__len__", defArgs st_Arms____len__, .stmts (defBody st_Arms____len__), defScope st_Arms____len__)), (252, ("_law_letters", "_law_letters", defArgs st__law_letters, .stmts (defBody st__law_letters), defScope st__law_letters)), (226, ("_law_gcd", "_law_gcd", defArgs st__law_gcd, .stmts (defBody st__law_gcd), defScope st__law_gcd)), (233, ("_law_ratio", "_law_ratio", defArgs st__law_ratio, .stmts (defBody st__law_ratio), defScope st__law_ratio)), (247, ("_law_mark", "_law_mark", defArgs st__law_mark, .stmts (defBody st__law_mark), defScope st__law_mark)), (260, ("_law_bars", "_law_bars", defArgs st__law_bars, .stmts (defBody st__law_bars), defScope st__law_bars)), (303, ("_law_made", "_law_made", defArgs st__law_made, .stmts (defBody st__law_made), defScope st__law_made)), (265, ("_law_most", "_law_most", defArgs st__law_most, .stmts (defBody st__law_most), defScope st__law_most)), (320, ("_law_gaps", "_law_gaps", defArgs st__law_gaps, .stmts (defBody st__law_gaps), defScope st__law_gaps)), (289, ("_law_lists", "_law_lists", defArgs st__law_lists, .stmts (defBody st__law_lists), defScope st__law_lists))]
def hdT1 : Ts := [(240, ("_law_plus", "_law_plus", defArgs st__law_plus, .stmts (defBody st__law_plus), defScope st__law_plus)), (284, ("_law_tuples", "_law_tuples", defArgs st__law_tuples, .stmts (defBody st__law_tuples), defScope st__law_tuples)), (272, ("_law_wide", "_law_wide", defArgs st__law_wide, .stmts (defBody st__law_wide), defScope st__law_wide)), (279, ("_law_wide_ratio", "_law_wide_ratio", defArgs st__law_wide_ratio, .stmts (defBody st__law_wide_ratio), defScope st__law_wide_ratio)), (296, ("_law_odd", "_law_odd", defArgs st__law_odd, .stmts (defBody st__law_odd), defScope st__law_odd)), (310, ("_law_faults", "_law_faults", defArgs st__law_faults, .stmts (defBody st__law_faults), defScope st__law_faults)), (315, ("_law_wrong", "_law_wrong", defArgs st__law_wrong, .stmts (defBody st__law_wrong), defScope st__law_wrong)), (327, ("law", "law", defArgs st_law, .stmts (defBody st_law), defScope st_law)), (76, ("__init__", "BadArms.__init__", defArgs st_BadArms, .stmts (defBody st_BadArms), defScope st_BadArms))]
def hdT : Ts := hdT0 ++ hdT1
def hdF0 (K : Frag) : List Bool := [plainF K 212 "_law_hand" [], isRef (PySem.W.nsIn K mainGlobals "_law_hand") 212, plainF K 219 "_law_take" [], isRef (PySem.W.nsIn K mainGlobals "_law_take") 219, plainF K 149 "Arms.__eq__" [], isRef (PySem.W.nsIn K mainGlobals "Arms") 201, clsB K 201, methB K 201 "__eq__" 149, plainF K 89 "is_whole" [.non, .non], isRef (PySem.W.nsIn K mainGlobals "is_whole") 89, plainF K 96 "is_ratio" [], isRef (PySem.W.nsIn K mainGlobals "is_ratio") 96, plainF K 104 "is_row" [.int 0, .non], isRef (PySem.W.nsIn K mainGlobals "is_row") 104, plainF K 118 "_check_bar" [], isRef (PySem.W.nsIn K mainGlobals "_check_bar") 118, plainF K 111 "_check_bars" [], isRef (PySem.W.nsIn K mainGlobals "_check_bars") 111, plainF K 123 "_count_letters" [], isRef (PySem.W.nsIn K mainGlobals "_count_letters") 123, plainF K 135 "Arms.__init__" [], mkB K 201 135, plainF K 142 "Arms.__len__" [], methB K 201 "__len__" 142, plainF K 252 "_law_letters" [], isRef (PySem.W.nsIn K mainGlobals "_law_letters") 252, plainF K 226 "_law_gcd" [], isRef (PySem.W.nsIn K mainGlobals "_law_gcd") 226, plainF K 233 "_law_ratio" [], isRef (PySem.W.nsIn K mainGlobals "_law_ratio") 233, plainF K 247 "_law_mark" [], isRef (PySem.W.nsIn K mainGlobals "_law_mark") 247, plainF K 260 "_law_bars" [.int 2], isRef (PySem.W.nsIn K mainGlobals "_law_bars") 260, plainF K 303 "_law_made" [], isRef (PySem.W.nsIn K mainGlobals "_law_made") 303, plainF K 265 "_law_most" [], isRef (PySem.W.nsIn K mainGlobals "_law_most") 265, plainF K 320 "_law_gaps" [], isRef (PySem.W.nsIn K mainGlobals "_law_gaps") 320]
def hdF1 (K : Frag) : List Bool := [plainF K 289 "_law_lists" [], isRef (PySem.W.nsIn K mainGlobals "_law_lists") 289, plainF K 240 "_law_plus" [], isRef (PySem.W.nsIn K mainGlobals "_law_plus") 240, plainF K 284 "_law_tuples" [], isRef (PySem.W.nsIn K mainGlobals "_law_tuples") 284, plainF K 272 "_law_wide" [], isRef (PySem.W.nsIn K mainGlobals "_law_wide") 272, plainF K 279 "_law_wide_ratio" [], isRef (PySem.W.nsIn K mainGlobals "_law_wide_ratio") 279, plainF K 296 "_law_odd" [], isRef (PySem.W.nsIn K mainGlobals "_law_odd") 296, plainF K 310 "_law_faults" [], isRef (PySem.W.nsIn K mainGlobals "_law_faults") 310, plainF K 315 "_law_wrong" [], isRef (PySem.W.nsIn K mainGlobals "_law_wrong") 315, plainF K 327 "law" [], isRef (PySem.W.nsIn K mainGlobals "law") 327, plainF K 76 "BadArms.__init__" [], isNo (PySem.W.findIn K (.ref 79) "index"), isNo (PySem.W.findIn K (.ref 79) "what"), isRef (PySem.W.nsIn K mainGlobals "BadArms") 79, oexB K 79, errB K 79, isRef (PySem.W.findIn K (.ref 79) "__init__") 76, isTyp (PySem.W.typeIn K (.ref 76)) "function", isB (PySem.W.exmOne K (.ref 79) (.ref 79)) true, getB K 79, isInt (PySem.W.nsIn K mainGlobals "MAST") (-1), isInt (PySem.W.nsIn K mainGlobals "MOST_BARS") 6, isInt (PySem.W.nsIn K mainGlobals "MOST_LETTERS") 4, isNo (PySem.W.findIn K (.ref 201) "bars"), isNo (PySem.W.findIn K (.ref 201) "letters"), isBi (PySem.W.nsIn K mainGlobals "gcd") "math.gcd", isBi (PySem.W.findIn K (.ref 201) "__class__") "object.__class__", isBi (PySem.W.specialIn K (.builtin "object.__class__") "__get__") "getset_descriptor.__get__", isB (PySem.W.takesIn K (.builtin "object.__class__")) true, isB (PySem.W.mroIn K 201 (.type "object")) true, isB (PySem.W.kitOne K (.type "NoneType") (.ref 201)) false, isB (PySem.W.kitOne K (.type "bool") (.ref 201)) false]
def hdF2 (K : Frag) : List Bool := [isB (PySem.W.kitOne K (.type "int") (.ref 201)) false, isB (PySem.W.kitOne K (.type "str") (.ref 201)) false, isB (PySem.W.kitOne K (.type "tuple") (.ref 201)) false, isB (PySem.W.kitOne K (.type "list") (.ref 201)) false, isB (PySem.W.kitOne K (.type "dict") (.ref 201)) false, isBi (PySem.W.findIn K (.ref 201) "__ne__") "object.__ne__", isNo (PySem.W.nsIn K mainGlobals "abs"), isNo (PySem.W.nsIn K mainGlobals "all"), isNo (PySem.W.nsIn K mainGlobals "bool"), isNo (PySem.W.nsIn K mainGlobals "enumerate"), isNo (PySem.W.nsIn K mainGlobals "int"), isNo (PySem.W.nsIn K mainGlobals "isinstance"), isNo (PySem.W.nsIn K mainGlobals "len"), isNo (PySem.W.nsIn K mainGlobals "list"), isNo (PySem.W.nsIn K mainGlobals "max"), isNo (PySem.W.nsIn K mainGlobals "min"), isNo (PySem.W.nsIn K mainGlobals "range"), isNo (PySem.W.nsIn K mainGlobals "str"), isNo (PySem.W.nsIn K mainGlobals "tuple")]
def hdF (K : Frag) : List Bool := hdF0 K ++ hdF1 K ++ hdF2 K
abbrev hdK : PySem.W.Hook := Hk.hook hdA hdF hdT
def hdO (s : PySem.W.SharedT) : Bool × List (Option Tx) := obsG hdA hdF hdT (HandSHeadRun.getT s)
set_option maxHeartbeats 0 in
theorem hd_run1 (w : World) : ((HandSHeadRun.wholeF (fun p => HandSHeadRun.stepQ (HandSHeadRun.denQ HandSHeadRun.tabQ) p w) HandSHeadRun.fenceQ 30000 hdR.prog).map fun x => HandSHeadRun.looksF hdR.prog x.1.heap x.2.abs) = some true := by
  kernel_rfl
set_option maxHeartbeats 0 in
theorem hd_run2 (w : World) : ((HandSHeadRun.wholeF (fun p => HandSHeadRun.stepQ (HandSHeadRun.denQ HandSHeadRun.tabQ) p w) HandSHeadRun.fenceQ 30000 hdR.prog).map fun x => HandSHeadRun.seenQ hdV hdN (importedModules hdR.prog.main.body) (fun s => PySem.W.xlAt hdV [] s && PySem.W.recOk hdR.toRowW.records s) x.2.abs) = some (PySem.W.openGood hdV hdN) := by
  kernel_rfl
set_option maxHeartbeats 0 in
theorem hd_run3 (w : World) : ((HandSHeadRun.wholeF (fun p => HandSHeadRun.stepQ (HandSHeadRun.denQ HandSHeadRun.tabQ) p w) HandSHeadRun.fenceQ 30000 hdR.prog).map fun x => hdO x.2) = some (hdK.val w) := by
  kernel_rfl
theorem hd_run (w : World) : HandSHeadRun.RunEqI hdR hdV hdK hdO 30000 hdN w := by
  unfold HandSHeadRun.RunEqI
  exact Hk.both (hd_run1 w) (hd_run2 w) (hd_run3 w)
end Law


set_option Elab.async false
set_option linter.all false
set_option maxRecDepth 100000
/-! Mir: data without addresses, functions on them, and what it is that a piece of text follows such a function. -/
namespace Mir
open PySem L2
open PySem.W (Frag)

/-- data -/
inductive Dt where
  | non | bl (b : Bool) | int (i : Int) | str (x : Str) | tup (ds : List Dt) | lst (ds : List Dt) | obj (c : Str) (fs : List (Str × Dt)) | hnd | dct | fn (c : Str)
/-- the hand that a law draws from: great cells, mixed, count -/
structure Hd where
  g : List Int
  m : Int
  c : Int
/-- a slot: nothing known, data, a list of one's own that is still growing -/
inductive Sl where
  | no | dat (d : Dt) | own (ds : List Dt) | slf (c : Str) (fs : List (Str × Dt))
abbrev Env' := List Sl
inductive R (α : Type) where
  | ok (a : α) (s : Hd)
  | err (c : Str) (fs : List (Str × Dt)) (ρ : Env') (s : Hd)
  | bad
def R.bind {α β : Type} (r : R α) (k : α → Hd → R β) : R β := match r with
  | .ok a s => k a s
  | .err c fs ρ s => .err c fs ρ s
  | .bad => .bad
@[simp] theorem R.bind_ok {α β : Type} (a : α) (s : Hd) (k : α → Hd → R β) : (R.ok a s).bind k = k a s := rfl
@[simp] theorem R.bind_err {α β : Type} (c : Str) (fs : List (Str × Dt)) (ρ : Env') (s : Hd) (k : α → Hd → R β) : (R.err c fs ρ s : R α).bind k = .err c fs ρ s := rfl
@[simp] theorem R.bind_bad {α β : Type} (k : α → Hd → R β) : (R.bad : R α).bind k = .bad := rfl
inductive Fl where
  | nx (ρ : Env') | rt (d : Dt) | bk (ρ : Env') | ct (ρ : Env')

section
variable (K : Frag) (mg : Str → Option Value) (h : Addr) (H : Hp)
mutual
inductive Den : V → Dt → Prop
  | non : Den .non .non
  | bl (b : Bool) : Den (.bl b) (.bl b)
  | int (i : Int) : Den (.int i) (.int i)
  | str (x : Str) : Den (.str x) (.str x)
  | tup {a : Addr} {xs : List V} {ds : List Dt} : SqT K H a xs → DenA xs ds → Den (.ref a) (.tup ds)
  | lst {a : Addr} {xs : List V} {ds : List Dt} : H a = some (.lst xs) → DenA xs ds → Den (.ref a) (.lst ds)
  | obj {a C dx : Addr} {c : Str} {fs : List (Str × V)} {ds : List (Str × Dt)} : mg c = some (.ref C) → H a = some (.ins C dx fs) → DenF fs ds → Den (.ref a) (.obj c ds)
  | hnd : Den (.ref h) .hnd
  | dct {a : Addr} {kvs : List (Key × V)} : H a = some (.dK kvs) → Den (.ref a) .dct
  | fn {f : Addr} {c : Str} : mg c = some (.ref f) → Den (.ref f) (.fn c)
inductive DenA : List V → List Dt → Prop
  | nil : DenA [] []
  | cons {v : V} {vs : List V} {d : Dt} {ds : List Dt} : Den v d → DenA vs ds → DenA (v :: vs) (d :: ds)
inductive DenF : List (Str × V) → List (Str × Dt) → Prop
  | nil : DenF [] []
  | cons {n : Str} {v : V} {vs : List (Str × V)} {d : Dt} {ds : List (Str × Dt)} : Den v d → DenF vs ds → DenF ((n, v) :: vs) ((n, d) :: ds)
end
end

section
variable {K : Frag} {mg : Str → Option Value} {h : Addr} {H H' : Hp}
theorem sqt_mono {a : Addr} {xs : List V} (e : Same H H') (q : SqT K H a xs) : SqT K H' a xs := by
  rcases q with (q | ⟨o, q⟩) | q
  · exact .inl (.inl (e _ _ q))
  · exact .inl (.inr ⟨o, e _ _ q⟩)
  · exact .inr q
mutual
theorem Den.mono (e : Same H H') : ∀ {v : V} {d : Dt}, Den K mg h H v d → Den K mg h H' v d
  | _, _, .non => .non
  | _, _, .bl b => .bl b
  | _, _, .int i => .int i
  | _, _, .str x => .str x
  | _, _, .tup q r => .tup (sqt_mono e q) (DenA.mono e r)
  | _, _, .lst q r => .lst (e _ _ q) (DenA.mono e r)
  | _, _, .obj c q r => .obj c (e _ _ q) (DenF.mono e r)
  | _, _, .hnd => .hnd
  | _, _, .dct q => .dct (e _ _ q)
  | _, _, .fn q => .fn q
theorem DenA.mono (e : Same H H') : ∀ {v : List V} {d : List Dt}, DenA K mg h H v d → DenA K mg h H' v d
  | _, _, .nil => .nil
  | _, _, .cons q r => .cons (Den.mono e q) (DenA.mono e r)
theorem DenF.mono (e : Same H H') : ∀ {v : List (Str × V)} {d : List (Str × Dt)}, DenF K mg h H v d → DenF K mg h H' v d
  | _, _, .nil => .nil
  | _, _, .cons q r => .cons (Den.mono e q) (DenF.mono e r)
end
theorem DenA.len : ∀ {vs : List V} {ds : List Dt}, DenA K mg h H vs ds → vs.length = ds.length
  | _, _, .nil => rfl
  | _, _, .cons _ r => congrArg Nat.succ (DenA.len r)
theorem DenA.get : ∀ {vs : List V} {ds : List Dt} {i : Nat} {d : Dt}, DenA K mg h H vs ds → ds[i]? = some d → ∃ v, vs[i]? = some v ∧ Den K mg h H v d
  | _, _, _, _, .nil, e => by simp at e
  | _, _, 0, _, .cons r _, e => by
    simp at e
    subst e
    exact ⟨_, rfl, r⟩
  | _, _, i + 1, d, .cons _ t, e => by
    obtain ⟨u, h1, h2⟩ := DenA.get (i := i) (d := d) t (by simpa using e)
    exact ⟨u, by simpa using h1, h2⟩
theorem DenA.getV : ∀ {vs : List V} {ds : List Dt} {i : Nat} {v : V}, DenA K mg h H vs ds → vs[i]? = some v → ∃ d, ds[i]? = some d ∧ Den K mg h H v d
  | _, _, _, _, .nil, e => by simp at e
  | _, _, 0, _, .cons r _, e => by
    simp at e
    subst e
    exact ⟨_, rfl, r⟩
  | _, _, i + 1, d, .cons _ t, e => by
    obtain ⟨u, h1, h2⟩ := DenA.getV (i := i) (v := d) t (by simpa using e)
    exact ⟨u, by simpa using h1, h2⟩
theorem DenA.append : ∀ {vs ws : List V} {ds es : List Dt}, DenA K mg h H vs ds → DenA K mg h H ws es → DenA K mg h H (vs ++ ws) (ds ++ es)
  | _, _, _, _, .nil, s => s
  | _, _, _, _, .cons r t, s => .cons r (DenA.append t s)
theorem DenA.take : ∀ {vs : List V} {ds : List Dt} (n : Nat), DenA K mg h H vs ds → DenA K mg h H (vs.take n) (ds.take n)
  | _, _, 0, _ => by
    rw [List.take_zero, List.take_zero]
    exact .nil
  | _, _, _ + 1, .nil => .nil
  | _, _, n + 1, .cons r t => .cons r (DenA.take n t)
theorem DenA.drop : ∀ {vs : List V} {ds : List Dt} (n : Nat), DenA K mg h H vs ds → DenA K mg h H (vs.drop n) (ds.drop n)
  | _, _, 0, r => r
  | _, _, _ + 1, .nil => .nil
  | _, _, n + 1, .cons _ t => DenA.drop n t
theorem DenA.set {v : V} {d : Dt} (r : Den K mg h H v d) : ∀ {vs : List V} {ds : List Dt} (i : Nat), DenA K mg h H vs ds → DenA K mg h H (vs.set i v) (ds.set i d)
  | _, _, _, .nil => .nil
  | _, _, 0, .cons _ t => .cons r t
  | _, _, i + 1, .cons q t => .cons q (DenA.set r i t)
theorem DenA.ints : ∀ (ns : List Int), DenA K mg h H (ns.map V.int) (ns.map Dt.int)
  | [] => .nil
  | n :: ns => .cons (.int n) (DenA.ints ns)
theorem DenA.ofInts : ∀ {vs : List V} {ns : List Int}, DenA K mg h H vs (ns.map Dt.int) → vs = ns.map V.int
  | _, [], .nil => rfl
  | _, n :: ns, .cons (.int _) r => by
    rw [DenA.ofInts r]
    rfl
end

/-! ### heaps: the part on which data rest, the hand, the step -/
def isH (h : Addr) (H : Hp) (p : Addr) : Prop := p = h ∨ ∃ r, H h = some (.lst (.ref p :: r))
structure Step (h : Addr) (H0 H H0' H' : Hp) : Prop where
  s0 : Same H0 H0'
  fr : ∀ p o, H p = some o → H0 p = none → ¬ isH h H p → H' p = some o ∧ H0' p = none ∧ ¬ isH h H' p
structure G (h : Addr) (H0 H : Hp) (s : Hd) : Prop where
  ex : Same H0 H
  h0 : H0 h = none
  gl : ∃ gl : Addr, H0 gl = none ∧ gl ≠ h ∧ H h = some (.lst [.ref gl, .int s.m, .int s.c]) ∧ H gl = some (.lst (s.g.map V.int))
section
variable {h : Addr} {H0 H H0' H' H0'' H'' : Hp} {s : Hd} {p : Addr} {o : HO}
theorem Step.refl (H0 H : Hp) : Step h H0 H H0 H := ⟨Same.refl _, fun _ _ a b c => ⟨a, b, c⟩⟩
theorem Step.trans (a : Step h H0 H H0' H') (b : Step h H0' H' H0'' H'') : Step h H0 H H0'' H'' :=
  ⟨a.s0.trans b.s0, fun p o x y z => by
    obtain ⟨x1, y1, z1⟩ := a.fr p o x y z
    exact b.fr p o x1 y1 z1⟩
theorem G.alloc (g : G h H0 H s) (hp : H p = none) : G h (upd H0 p o) (upd H p o) s ∧ Step h H0 H (upd H0 p o) (upd H p o) := by
  obtain ⟨gl, a1, a2, a3, a4⟩ := g.gl
  have n0 : H0 p = none := g.ex.free hp
  have e1 : h ≠ p := ne_of_none a3 hp
  have e2 : gl ≠ p := ne_of_none a4 hp
  refine ⟨⟨fun b u q => ?_, by rw [upd_ne e1]; exact g.h0, gl, by rw [upd_ne e2]; exact a1, a2, by rw [upd_ne e1]; exact a3, by rw [upd_ne e2]; exact a4⟩, ⟨fun b u q => ?_, fun q u x y z => ?_⟩⟩
  · by_cases hb : b = p
    · subst hb
      rw [upd_same] at q ⊢
      exact q
    · rw [upd_ne hb] at q ⊢
      exact g.ex _ _ q
  · rw [upd_ne (ne_of_none q n0)]
    exact q
  · have nq : q ≠ p := ne_of_none x hp
    refine ⟨by rw [upd_ne nq]; exact x, by rw [upd_ne nq]; exact y, fun w => z ?_⟩
    rcases w with w | ⟨r, w⟩
    · exact .inl w
    · rw [upd_ne e1] at w
      exact .inr ⟨r, w⟩
/-- a new object that no data rest on -/
theorem G.side (g : G h H0 H s) (hp : H p = none) : G h H0 (upd H p o) s ∧ Step h H0 H H0 (upd H p o) := by
  obtain ⟨gl, a1, a2, a3, a4⟩ := g.gl
  have n0 : H0 p = none := g.ex.free hp
  have e1 : h ≠ p := ne_of_none a3 hp
  have e2 : gl ≠ p := ne_of_none a4 hp
  refine ⟨⟨fun b u q => ?_, g.h0, gl, a1, a2, by rw [upd_ne e1]; exact a3, by rw [upd_ne e2]; exact a4⟩, ⟨Same.refl _, fun q u x y z => ?_⟩⟩
  · rw [upd_ne (ne_of_none q n0)]
    exact g.ex _ _ q
  · have nq : q ≠ p := ne_of_none x hp
    refine ⟨by rw [upd_ne nq]; exact x, y, fun w => z ?_⟩
    rcases w with w | ⟨r, w⟩
    · exact .inl w
    · rw [upd_ne e1] at w
      exact .inr ⟨r, w⟩
end

/-! ### slots -/
/-- a def's run: the hand, and the heaps at its entry -/
structure Ent where
  a : Addr
  E0 : Hp
  E : Hp
  sf : Addr
instance : CoeHead Ent Addr := ⟨Ent.a⟩
/-- none of the callers' own things -/
def NF (h : Ent) (p : Addr) : Prop := ∀ o, h.E p = some o → h.E0 p = none → isH h.a h.E p
def Sl.mine : Sl → Bool
  | .own _ => true
  | .slf _ _ => true
  | _ => false
section
variable (K : Frag) (mg : Str → Option Value) (h : Ent) (H0 H : Hp)
def SlOk : Option V → Sl → Prop
  | _, .no => True
  | some v, .dat d => Den K mg h.a H0 v d
  | some v, .own ds => ∃ p vs, v = .ref p ∧ H p = some (.lst vs) ∧ H0 p = none ∧ ¬ isH h.a H p ∧ NF h p ∧ DenA K mg h.a H0 vs ds
  | some v, .slf c fs => ∃ p C dx vs, v = .ref p ∧ p = h.sf ∧ mg c = some (.ref C) ∧ H p = some (.ins C dx vs) ∧ H0 p = none ∧ ¬ isH h.a H p ∧ NF h p ∧ DenF K mg h.a H0 vs fs
  | none, _ => False
structure Slots (σ : St) (ρ : Env') : Prop where
  len : σ.length = ρ.length
  at_ : ∀ (i : Nat) (o : Option V) (l : Sl), σ[i]? = some o → ρ[i]? = some l → SlOk K mg h H0 H o l
  ds : ∀ (i j : Nat) (p : Addr) (a b : Sl), ρ[i]? = some a → ρ[j]? = some b → a.mine = true → b.mine = true → σ[i]? = some (some (.ref p)) → σ[j]? = some (some (.ref p)) → i = j
  st : Step h.a h.E0 h.E H0 H
end
section
variable {K : Frag} {mg : Str → Option Value} {h : Ent} {H0 H H0' H' : Hp} {σ : St} {ρ : Env'}
theorem SlOk.step {o : Option V} {l : Sl} (st : Step h.a H0 H H0' H') (q : SlOk K mg h H0 H o l) : SlOk K mg h H0' H' o l := by
  cases o with
  | none =>
    cases l with
    | no => exact True.intro
    | dat d => exact q
    | own ds => exact q
    | slf c fs => exact q
  | some v =>
    cases l with
    | no => exact True.intro
    | dat d => exact Den.mono st.s0 q
    | own ds =>
      obtain ⟨p, vs, e, a, b, c, n, d⟩ := q
      obtain ⟨a1, b1, c1⟩ := st.fr p _ a b c
      exact ⟨p, vs, e, a1, b1, c1, n, d.mono st.s0⟩
    | slf c fs =>
      obtain ⟨p, C, dx, vs, e, ep, m, a, b, c, n, d⟩ := q
      obtain ⟨a1, b1, c1⟩ := st.fr p _ a b c
      exact ⟨p, C, dx, vs, e, ep, m, a1, b1, c1, n, d.mono st.s0⟩
theorem Slots.step (S : Slots K mg h H0 H σ ρ) (st : Step h.a H0 H H0' H') : Slots K mg h H0' H' σ ρ :=
  ⟨S.len, fun i o l a b => (S.at_ i o l a b).step st, S.ds, S.st.trans st⟩
theorem Slots.dat {i : Nat} {d : Dt} (S : Slots K mg h H0 H σ ρ) (e : ρ[i]? = some (.dat d)) : ∃ v, σ[i]? = some (some v) ∧ Den K mg h.a H0 v d := by
  obtain ⟨hl, _⟩ := List.getElem?_eq_some_iff.mp e
  have hl2 : i < σ.length := by rw [S.len]; exact hl
  have q := S.at_ i σ[i] _ (List.getElem?_eq_getElem hl2) e
  cases hv : σ[i] with
  | none =>
    rw [hv] at q
    exact q.elim
  | some v =>
    rw [hv] at q
    exact ⟨v, by rw [List.getElem?_eq_getElem hl2, hv], q⟩
theorem Slots.own {i : Nat} {ds : List Dt} (S : Slots K mg h H0 H σ ρ) (e : ρ[i]? = some (.own ds)) : ∃ p vs, σ[i]? = some (some (.ref p)) ∧ H p = some (.lst vs) ∧ H0 p = none ∧ ¬ isH h.a H p ∧ NF h p ∧ DenA K mg h.a H0 vs ds := by
  obtain ⟨hl, _⟩ := List.getElem?_eq_some_iff.mp e
  have hl2 : i < σ.length := by rw [S.len]; exact hl
  have q := S.at_ i σ[i] _ (List.getElem?_eq_getElem hl2) e
  cases hv : σ[i] with
  | none =>
    rw [hv] at q
    exact q.elim
  | some v =>
    rw [hv] at q
    obtain ⟨p, vs, rfl, q⟩ := q
    exact ⟨p, vs, by rw [List.getElem?_eq_getElem hl2, hv], q⟩
theorem Slots.slf {i : Nat} {c : Str} {fs : List (Str × Dt)} (S : Slots K mg h H0 H σ ρ) (e : ρ[i]? = some (.slf c fs)) : ∃ p C dx vs, σ[i]? = some (some (.ref p)) ∧ p = h.sf ∧ mg c = some (.ref C) ∧ H p = some (.ins C dx vs) ∧ H0 p = none ∧ ¬ isH h.a H p ∧ NF h p ∧ DenF K mg h.a H0 vs fs := by
  obtain ⟨hl, _⟩ := List.getElem?_eq_some_iff.mp e
  have hl2 : i < σ.length := by rw [S.len]; exact hl
  have q := S.at_ i σ[i] _ (List.getElem?_eq_getElem hl2) e
  cases hv : σ[i] with
  | none =>
    rw [hv] at q
    exact q.elim
  | some v =>
    rw [hv] at q
    obtain ⟨p, C, dx, vs, rfl, q⟩ := q
    exact ⟨p, C, dx, vs, by rw [List.getElem?_eq_getElem hl2, hv], q⟩
/-- another thing in one slot; p: if it is one's own, no other slot has it -/
theorem Slots.put {i : Nat} {o : Option V} {l : Sl} (S : Slots K mg h H0 H σ ρ) (q : SlOk K mg h H0 H o l) (nd : ∀ p, o = some (.ref p) → l.mine = true → ∀ (j : Nat) (b : Sl), j ≠ i → ρ[j]? = some b → b.mine = true → σ[j]? ≠ some (some (.ref p))) : Slots K mg h H0 H (σ.set i o) (ρ.set i l) := by
  refine ⟨by rw [List.length_set, List.length_set]; exact S.len, fun j o' l' a b => ?_, fun j k p a b e1 e2 m1 m2 e3 e4 => ?_, S.st⟩
  · by_cases hj : i = j
    · subst hj
      have hl : i < σ.length := by
        obtain ⟨q, _⟩ := List.getElem?_eq_some_iff.mp a
        rwa [List.length_set] at q
      rw [List.getElem?_set_self hl] at a
      rw [List.getElem?_set_self (by rw [← S.len]; exact hl)] at b
      cases a
      cases b
      exact q
    · rw [List.getElem?_set_ne hj] at a b
      exact S.at_ j o' l' a b
  · have self : ∀ (j : Nat) (a : Sl), (ρ.set i l)[j]? = some a → (σ.set i o)[j]? = some (some (.ref p)) → i = j → a = l ∧ o = some (.ref p) := fun j a x y z => by
      subst z
      have hl : i < ρ.length := by
        obtain ⟨q, _⟩ := List.getElem?_eq_some_iff.mp x
        rwa [List.length_set] at q
      rw [List.getElem?_set_self hl] at x
      rw [List.getElem?_set_self (by rw [S.len]; exact hl)] at y
      cases x
      cases y
      exact ⟨rfl, rfl⟩
    by_cases nj : i = j
    · obtain ⟨ea, eo⟩ := self j a e1 e3 nj
      by_cases nk : i = k
      · rw [← nj, ← nk]
      · rw [List.getElem?_set_ne nk] at e2 e4
        exact absurd e4 (nd p eo (by rw [← ea]; exact m1) k b (fun z => nk z.symm) e2 m2)
    · by_cases nk : i = k
      · obtain ⟨eb, eo⟩ := self k b e2 e4 nk
        rw [List.getElem?_set_ne nj] at e1 e3
        exact absurd e3 (nd p eo (by rw [← eb]; exact m2) j a (fun z => nj z.symm) e1 m1)
      · rw [List.getElem?_set_ne nj] at e1 e3
        rw [List.getElem?_set_ne nk] at e2 e4
        exact S.ds j k p a b e1 e2 m1 m2 e3 e4
theorem Slots.set {i : Nat} {v : V} {d : Dt} (S : Slots K mg h H0 H σ ρ) (q : Den K mg h.a H0 v d) : Slots K mg h H0 H (σ.set i (some v)) (ρ.set i (.dat d)) := S.put q fun _ _ z => Bool.noConfusion z
theorem Slots.forget {i : Nat} (S : Slots K mg h H0 H σ ρ) (o : Option V) : Slots K mg h H0 H (σ.set i o) (ρ.set i .no) := S.put (by cases o <;> exact True.intro) fun _ _ z => Bool.noConfusion z
/-- p is the own thing of slot i alone: what is there changes -/
theorem SlOk.other {o : Option V} {l : Sl} {p : Addr} {u : HO} (nh : p ≠ h.a) (q : SlOk K mg h H0 H o l) (n : o = some (.ref p) → l.mine = false) : SlOk K mg h H0 (upd H p u) o l := by
  have hi : ∀ q, ¬ isH h.a H q → ¬ isH h.a (upd H p u) q := fun q w z => by
    rcases z with z | ⟨r, z⟩
    · exact w (.inl z)
    · rw [upd_ne fun y => nh y.symm] at z
      exact w (.inr ⟨r, z⟩)
  cases o with
  | none =>
    cases l with
    | no => exact True.intro
    | dat d => exact q
    | own ds => exact q
    | slf c fs => exact q
  | some v =>
    cases l with
    | no => exact True.intro
    | dat d => exact q
    | own ds =>
      obtain ⟨p', vs, rfl, a, b, c, nf, d⟩ := q
      have ne : p' ≠ p := fun z => by
        subst z
        have := n rfl
        cases this
      exact ⟨p', vs, rfl, by rw [upd_ne ne]; exact a, b, hi _ c, nf, d⟩
    | slf c fs =>
      obtain ⟨p', C, dx, vs, rfl, ep, m, a, b, c, nf, d⟩ := q
      have ne : p' ≠ p := fun z => by
        subst z
        have := n rfl
        cases this
      exact ⟨p', C, dx, vs, rfl, ep, m, by rw [upd_ne ne]; exact a, b, hi _ c, nf, d⟩
theorem G.at {h : Addr} {s : Hd} {p : Addr} {u : HO} (g : G h H0 H s) (n0 : H0 p = none) (nh : ¬ isH h H p) : G h H0 (upd H p u) s := by
  obtain ⟨gl, a1, a2, a3, a4⟩ := g.gl
  have e1 : h ≠ p := fun z => nh (.inl z.symm)
  have e2 : gl ≠ p := fun z => nh (.inr ⟨_, by rw [← z]; exact a3⟩)
  refine ⟨fun b o q => ?_, g.h0, gl, a1, a2, by rw [upd_ne e1]; exact a3, by rw [upd_ne e2]; exact a4⟩
  rw [upd_ne (ne_of_none q n0)]
  exact g.ex _ _ q
theorem Step.at {p : Addr} {u : HO} (st : Step h.a h.E0 h.E H0 H) (nh : p ≠ h.a) (nf : NF h p) : Step h.a h.E0 h.E H0 (upd H p u) := by
  refine ⟨st.s0, fun q o x y z => ?_⟩
  have ne : q ≠ p := fun w => by
    subst w
    exact z (nf o x y)
  obtain ⟨a, b, c⟩ := st.fr q o x y z
  refine ⟨by rw [upd_ne ne]; exact a, b, fun w => c ?_⟩
  rcases w with w | ⟨r, w⟩
  · exact .inl w
  · rw [upd_ne fun y => nh y.symm] at w
    exact .inr ⟨r, w⟩
/-- what stands at one's own thing changes -/
theorem Slots.mut {i : Nat} {p : Addr} {a l : Sl} {u : HO} (S : Slots K mg h H0 H σ ρ) (e : ρ[i]? = some a) (m : a.mine = true) (es : σ[i]? = some (some (.ref p))) (nh : ¬ isH h.a H p) (nf : NF h p) (ml : l.mine = true)
    (ok : SlOk K mg h H0 (upd H p u) (some (.ref p)) l) : Slots K mg h H0 (upd H p u) σ (ρ.set i l) := by
  have nha : p ≠ h.a := fun z => nh (.inl z)
  have S1 : Slots K mg h H0 (upd H p u) (σ.set i none) (ρ.set i .no) := by
    have S0 := S.forget (i := i) none
    refine ⟨S0.len, fun j o l' x y => SlOk.other nha (S0.at_ j o l' x y) fun z => ?_, S0.ds, S.st.at nha nf⟩
    subst z
    by_cases hj : i = j
    · subst hj
      have hl : i < ρ.length := by
        obtain ⟨q, _⟩ := List.getElem?_eq_some_iff.mp y
        rwa [List.length_set] at q
      rw [List.getElem?_set_self hl] at y
      cases y
      rfl
    · rw [List.getElem?_set_ne hj] at x y
      cases hm : l'.mine with
      | false => rfl
      | true => exact absurd (S.ds i j p a l' e y m hm es x) hj
  have S2 := S1.put (i := i) (o := some (.ref p)) (l := l) ok fun q eq _ j b nj y mb x => by
    cases eq
    rw [List.getElem?_set_ne (Ne.symm nj)] at x y
    exact nj (S.ds j i p b a y e mb m x es)
  rw [List.set_set, List.set_set] at S2
  have id : σ.set i (some (.ref p)) = σ := by
    apply List.ext_getElem?
    intro j
    by_cases hj : i = j
    · subst hj
      obtain ⟨hl, _⟩ := List.getElem?_eq_some_iff.mp es
      rw [List.getElem?_set_self hl, es]
    · rw [List.getElem?_set_ne hj]
  rwa [id] at S2
end

/-! ### what is wanted behind a reading, by what its function says -/
section
variable (K : Frag) (mg : Str → Option Value) (h : Ent)
/-- a raised error's fields; none: it has no dict -/
def XdOk (h : Addr) (H0 H : Hp) : Option Addr → List (Str × Dt) → Prop
  | some dd, fs => fs ≠ [] ∧ ∃ fv, H dd = some (.xd fv) ∧ DenF K mg h H0 fv fs
  | none, fs => fs = []
def ErrP (H0 : Hp) (c : Str) (fs : List (Str × Dt)) (ρ : Env') (s : Hd) (Wx : WX) : Prop := ∀ (σ' : St) (C : Addr) (od : Option Addr) (H0' H' : Hp), Same H0 H0' → G h.a H0' H' s → Slots K mg h H0' H' σ' ρ → mg c = some (.ref C) → XdOk K mg h.a H0' H' od fs → Wx (.ref C) od σ' H'
def Post {α β : Type} (rel : Hp → α → β → Prop) (r : R β) (H0 H : Hp) (Wx : WX) (Q : α → Hp → Prop) : Prop := match r with
  | .ok b s => ∀ a H0' H', Step h.a H0 H H0' H' → G h.a H0' H' s → rel H0' a b → Q a H'
  | .err c fs ρ s => ErrP K mg h H0 c fs ρ s Wx
  | .bad => False
def PostS (r : R Fl) (H0 H : Hp) (Wx : WX) (D : Ends) : Prop := match r with
  | .ok (.nx ρ) s => ∀ σ' H0' H', Same H0 H0' → G h.a H0' H' s → Slots K mg h H0' H' σ' ρ → D.nx σ' H'
  | .ok (.rt d) s => ∀ v H0' H', Step h.a h.E0 h.E H0' H' → G h.a H0' H' s → Den K mg h.a H0' v d → D.rt v H'
  | .ok (.bk ρ) s => ∀ σ' H0' H', Same H0 H0' → G h.a H0' H' s → Slots K mg h H0' H' σ' ρ → D.bk σ' H'
  | .ok (.ct ρ) s => ∀ σ' H0' H', Same H0 H0' → G h.a H0' H' s → Slots K mg h H0' H' σ' ρ → D.ct σ' H'
  | .err c fs ρ s => ErrP K mg h H0 c fs ρ s Wx
  | .bad => False
end
section
variable {K : Frag} {mg : Str → Option Value} {h : Ent} {H0 H H0' H' : Hp} {Wx : WX}
theorem ErrP.step {c : Str} {fs : List (Str × Dt)} {ρ : Env'} {s : Hd} (st : Same H0 H0') (p : ErrP K mg h H0 c fs ρ s Wx) : ErrP K mg h H0' c fs ρ s Wx :=
  fun σ' C od A B s2 g S m x => p σ' C od A B (st.trans s2) g S m x
theorem Post.step {α β : Type} {rel : Hp → α → β → Prop} {r : R β} {Q : α → Hp → Prop} (st : Step h.a H0 H H0' H') (p : Post K mg h rel r H0 H Wx Q) : Post K mg h rel r H0' H' Wx Q := by
  cases r with
  | ok b s => exact fun a A B s2 g q => p a A B (st.trans s2) g q
  | err c fs ρ s => exact ErrP.step st.s0 p
  | bad => exact p
theorem PostS.step {r : R Fl} {D : Ends} (st : Same H0 H0') (p : PostS K mg h r H0 H Wx D) : PostS K mg h r H0' H' Wx D := by
  cases r with
  | ok f s =>
    cases f with
    | nx ρ => exact fun a A B s2 g q => p a A B (st.trans s2) g q
    | rt d => exact p
    | bk ρ => exact fun a A B s2 g q => p a A B (st.trans s2) g q
    | ct ρ => exact fun a A B s2 g q => p a A B (st.trans s2) g q
  | err c fs ρ s => exact ErrP.step st p
  | bad => exact p
theorem Post.bind {α β γ δ : Type} {rel1 : Hp → α → β → Prop} {rel2 : Hp → γ → δ → Prop} {r : R β} {k : β → Hd → R δ} {Q : γ → Hp → Prop} {Q1 : α → Hp → Prop} (p : Post K mg h rel2 (r.bind k) H0 H Wx Q)
    (f : ∀ b s a H0' H', Step h.a H0 H H0' H' → G h.a H0' H' s → rel1 H0' a b → Post K mg h rel2 (k b s) H0' H' Wx Q → Q1 a H') : Post K mg h rel1 r H0 H Wx Q1 := by
  cases r with
  | ok b s => exact fun a A B st g q => f b s a A B st g q (Post.step st p)
  | err c fs ρ s => exact p
  | bad => exact p
theorem PostS.bind {α β : Type} {rel1 : Hp → α → β → Prop} {r : R β} {k : β → Hd → R Fl} {D : Ends} {Q1 : α → Hp → Prop} (p : PostS K mg h (r.bind k) H0 H Wx D)
    (f : ∀ b s a H0' H', Step h.a H0 H H0' H' → G h.a H0' H' s → rel1 H0' a b → PostS K mg h (k b s) H0' H' Wx D → Q1 a H') : Post K mg h rel1 r H0 H Wx Q1 := by
  cases r with
  | ok b s => exact fun a A B st g q => f b s a A B st g q (PostS.step st.s0 p)
  | err c fs ρ s => exact p
  | bad => exact p
end

/-! ### readings that follow a function -/
abbrev ME := Env' → Hd → R Dt
abbrev MT := Env' → Hd → R Bool
abbrev MA := Env' → Hd → R (List Dt)
abbrev MS := Env' → Hd → R Fl
abbrev EqB : Hp → Bool → Bool → Prop := fun _ a b => a = b
section
variable (K : Frag) (mg : Str → Option Value) (Wx : WX)
def SE (te : TE) (m : ME) : Prop := ∀ (h : Ent) (H0 H : Hp) (s : Hd) (σ : St) (ρ : Env') (Q : VK), G h.a H0 H s → Slots K mg h H0 H σ ρ → Post K mg h (Den K mg h.a) (m ρ s) H0 H Wx Q → te σ H Q
def SA (ta : TA) (m : MA) : Prop := ∀ (h : Ent) (H0 H : Hp) (s : Hd) (σ : St) (ρ : Env') (Q : List V → Hp → Prop), G h.a H0 H s → Slots K mg h H0 H σ ρ → Post K mg h (DenA K mg h.a) (m ρ s) H0 H Wx Q → ta σ H Q
def ST (tt : TT) (m : MT) : Prop := ∀ (h : Ent) (H0 H : Hp) (s : Hd) (σ : St) (ρ : Env') (Q : Bool → Hp → Prop), G h.a H0 H s → Slots K mg h H0 H σ ρ → Post K mg h EqB (m ρ s) H0 H Wx Q → tt σ H Q
def SS (ts : TS) (m : MS) : Prop := ∀ (h : Ent) (H0 H : Hp) (s : Hd) (σ : St) (ρ : Env') (D : Ends), G h.a H0 H s → Slots K mg h H0 H σ ρ → PostS K mg h (m ρ s) H0 H Wx D → ts D σ H
end
/-! ### texts that follow a function -/
def QE (X : Cx) (Wx : WX) (e : Expr) (m : ME) : Prop := ∃ t, PE X e t ∧ SE X.K X.mg Wx t m
def QT (X : Cx) (Wx : WX) (e : Expr) (m : MT) : Prop := ∃ t, PT X e t ∧ ST X.K X.mg Wx t m
def QW (X : Cx) (Wx : WX) (e : Expr) (m : MT) : Prop := ∃ t, PW X e t ∧ ST X.K X.mg Wx t m
def QA (X : Cx) (Wx : WX) (es : List Expr) (m : MA) : Prop := ∃ t, PA X es t ∧ SA X.K X.mg Wx t m
def QS (X : Cx) (Wx : WX) (st : Stmt) (m : MS) : Prop := ∃ t, PS X st t ∧ SS X.K X.mg Wx t m
def QSs (X : Cx) (Wx : WX) (sts : List Stmt) (m : MS) : Prop := ∃ t, PSs X sts t ∧ SS X.K X.mg Wx t m
end Mir


set_option Elab.async false
set_option linter.all false
set_option maxRecDepth 100000
namespace Mir
open PySem PySem.Spec PyProof.Rows L2
open PySem.W (Frag)

/-! ### functions on data -/
def liftO {α : Type} (o : Option α) (s : Hd) : R α := match o with
  | some a => .ok a s
  | none => .bad
@[simp] theorem liftO_some {α : Type} (a : α) (s : Hd) : liftO (some a) s = .ok a s := rfl
@[simp] theorem liftO_none {α : Type} (s : Hd) : liftO (none : Option α) s = .bad := rfl
def mVar (i : Nat) : ME := fun ρ s => match ρ[i]? with
  | some (.dat d) => .ok d s
  | _ => .bad
def mC (d : Dt) : ME := fun _ s => .ok d s
def mOp (f : Dt → Dt → Option Dt) (a b : ME) : ME := fun ρ s => (a ρ s).bind fun d s1 => (b ρ s1).bind fun e s2 => liftO (f d e) s2
def mUn (f : Dt → Option Dt) (a : ME) : ME := fun ρ s => (a ρ s).bind fun d s1 => liftO (f d) s1
def mTest (a : ME) : MT := fun ρ s => (a ρ s).bind fun d s1 => match d with
  | .bl b => .ok b s1
  | _ => .bad
def fTru : Dt → Option Bool
  | .non => some false
  | .bl b => some b
  | .int i => some (i != 0)
  | .str x => if x.length ≤ 100000 then some ((x.length : Int) != 0) else none
  | .tup ds => some (!ds.isEmpty)
  | .lst ds => some (!ds.isEmpty)
  | _ => none
def mTru (a : ME) : MT := fun ρ s => (a ρ s).bind fun d s1 => liftO (fTru d) s1
def mAnd (a b : MT) : MT := fun ρ s => (a ρ s).bind fun c s1 => if c = true then b ρ s1 else .ok false s1
def mOr (a b : MT) : MT := fun ρ s => (a ρ s).bind fun c s1 => if c = true then .ok true s1 else b ρ s1
def mNot (a : MT) : MT := fun ρ s => (a ρ s).bind fun c s1 => .ok (!c) s1
def mIf (t : MT) (a b : ME) : ME := fun ρ s => (t ρ s).bind fun c s1 => if c = true then a ρ s1 else b ρ s1
def mAndV (a b : ME) : ME := fun ρ s => (a ρ s).bind fun d s1 => (liftO (fTru d) s1).bind fun c s2 => if c = true then b ρ s2 else .ok d s2
def mOrV (a b : ME) : ME := fun ρ s => (a ρ s).bind fun d s1 => (liftO (fTru d) s1).bind fun c s2 => if c = true then .ok d s2 else b ρ s2
def mNotV (a : ME) : ME := fun ρ s => (a ρ s).bind fun d s1 => (liftO (fTru d) s1).bind fun c s2 => .ok (.bl (!c)) s2
def mNil : MA := fun _ s => .ok [] s
def mCons (a : ME) (r : MA) : MA := fun ρ s => (a ρ s).bind fun d s1 => (r ρ s1).bind fun ds s2 => .ok (d :: ds) s2
def mTup (as : MA) : ME := fun ρ s => (as ρ s).bind fun ds s1 => if ds.length ≤ 100000 then .ok (.tup ds) s1 else .bad
def mLst (as : MA) : ME := fun ρ s => (as ρ s).bind fun ds s1 => if ds.length ≤ 100000 then .ok (.lst ds) s1 else .bad
def mCB (f : List Dt → Option Dt) (as : MA) : ME := fun ρ s => (as ρ s).bind fun ds s1 => liftO (f ds) s1
/-- a def called: n parameters, the defaults dd fill up -/
def mCall (n : Nat) (dd : List Dt) (m : List Dt → Hd → R Dt) (as : MA) : ME := fun ρ s => (as ρ s).bind fun ds s1 =>
  if (ds ++ dd).length = n then (match m (ds ++ dd) s1 with
    | .ok d s2 => .ok d s2
    | .err c fs _ s2 => .err c fs ρ s2
    | .bad => .bad) else .bad

section
variable (K : Frag) (mg : Str → Option Value)
def OpS (r : R2) (f : Dt → Dt → Option Dt) : Prop := ∀ (h : Addr) (H0 H : Hp) (s : Hd) (x y : V) (d e z : Dt) (Q : VK), G h H0 H s → Den K mg h H0 x d → Den K mg h H0 y e → f d e = some z →
  (∀ u H0' H', Step h H0 H H0' H' → G h H0' H' s → Den K mg h H0' u z → Q u H') → r x y H Q
def UnS (r : V → Hp → VK → Prop) (f : Dt → Option Dt) : Prop := ∀ (h : Addr) (H0 H : Hp) (s : Hd) (x : V) (d z : Dt) (Q : VK), G h H0 H s → Den K mg h H0 x d → f d = some z →
  (∀ u H0' H', Step h H0 H H0' H' → G h H0' H' s → Den K mg h H0' u z → Q u H') → r x H Q
def CaS (r : List V → Hp → VK → Prop) (f : List Dt → Option Dt) : Prop := ∀ (h : Addr) (H0 H : Hp) (s : Hd) (xs : List V) (ds : List Dt) (z : Dt) (Q : VK), G h H0 H s → DenA K mg h H0 xs ds → f ds = some z →
  (∀ u H0' H', Step h H0 H H0' H' → G h H0' H' s → Den K mg h H0' u z → Q u H') → r xs H Q
end
section
variable {K : Frag} {mg : Str → Option Value}
theorem OpS.or {r r' : R2} {f f' g : Dt → Dt → Option Dt} (a : OpS K mg r f) (b : OpS K mg r' f') (hg : ∀ d e z, g d e = some z → f d e = some z ∨ f' d e = some z) : OpS K mg (fun x y H Q => r x y H Q ∨ r' x y H Q) g :=
  fun h H0 H s x y d e z Q g0 hx hy hz q => (hg d e z hz).elim (fun z1 => .inl (a h H0 H s x y d e z Q g0 hx hy z1 q)) fun z1 => .inr (b h H0 H s x y d e z Q g0 hx hy z1 q)
theorem CaS.or {r r' : List V → Hp → VK → Prop} {f f' g : List Dt → Option Dt} (a : CaS K mg r f) (b : CaS K mg r' f') (hg : ∀ d z, g d = some z → f d = some z ∨ f' d = some z) : CaS K mg (fun x H Q => r x H Q ∨ r' x H Q) g :=
  fun h H0 H s x d z Q g0 hx hz q => (hg d z hz).elim (fun z1 => .inl (a h H0 H s x d z Q g0 hx z1 q)) fun z1 => .inr (b h H0 H s x d z Q g0 hx z1 q)
end

/-! ### operators -/
/-- ints -/
def fI (C : Int → Int → Prop) [∀ i j, Decidable (C i j)] (g : Int → Int → Dt) : Dt → Dt → Option Dt
  | .int i, .int j => if C i j then some (g i j) else none
  | _, _ => none
abbrev fSub := fI (fun _ _ => True) fun i j => .int (i - j)
abbrev fLt := fI (fun _ _ => True) fun i j => .bl (decide (i < j))
abbrev fLe := fI (fun _ _ => True) fun i j => .bl (decide (i ≤ j))
abbrev fGt := fI (fun _ _ => True) fun i j => .bl (decide (j < i))
abbrev fGe := fI (fun _ _ => True) fun i j => .bl (decide (j ≤ i))
def sizeOk (n : Nat) : Prop := n ≤ 100000
instance (n : Nat) : Decidable (sizeOk n) := inferInstanceAs (Decidable (n ≤ 100000))
theorem sizeOk.le {n : Nat} (h : sizeOk n) : n ≤ sizeLine := Nat.le_trans h (by decide)
theorem sizeOk.lt {n : Nat} (h : sizeOk n) : n < sizeLine := Nat.lt_of_le_of_lt h (by decide)
def fAdd : Dt → Dt → Option Dt
  | .int i, .int j => some (.int (i + j))
  | .tup a, .tup b => if a ≠ [] ∧ sizeOk (a.length + b.length) then some (.tup (a ++ b)) else none
  | .lst a, .lst b => if sizeOk (a.length + b.length) then some (.lst (a ++ b)) else none
  | .str a, .str b => if sizeOk (a.length + b.length) then some (.str (a ++ b)) else none
  | _, _ => none
def MulOk (i j : Int) : Prop := i.natAbs.log2 + j.natAbs.log2 < 1000000
instance (i j : Int) : Decidable (MulOk i j) := inferInstanceAs (Decidable (_ < _))
def DivOk (j : Int) : Prop := j ≠ 0 ∧ j.natAbs.log2 < 9000
instance (j : Int) : Decidable (DivOk j) := inferInstanceAs (Decidable (_ ∧ _))
def fMul : Dt → Dt → Option Dt
  | .int i, .int j => if MulOk i j then some (.int (i * j)) else none
  | .lst a, .int j => if j ≤ 1000 ∧ -1000 ≤ j ∧ sizeOk (a.length * j.toNat) then some (.lst (List.replicate j.toNat a).flatten) else none
  | _, _ => none
abbrev fDiv := fI (fun _ j => DivOk j) fun i j => .int (i.fdiv j)
abbrev fMod := fI (fun _ j => j ≠ 0) fun i j => .int (i.fmod j)
instance (i j : Int) : Decidable (CPow i j) := inferInstanceAs (Decidable (_ ∧ _ ∧ _))
abbrev fPow := fI CPow fun i j => .int (i ^ j.toNat)
def fNeg : Dt → Option Dt
  | .int i => some (.int (-i))
  | _ => none
section
variable {X : Cx} {K : Frag} {mg : Str → Option Value}
theorem fI_some {C : Int → Int → Prop} [∀ i j, Decidable (C i j)] {g : Int → Int → Dt} {d e z : Dt} (h : fI C g d e = some z) : ∃ i j, d = .int i ∧ e = .int j ∧ C i j ∧ z = g i j := by
  unfold fI at h
  split at h
  · split at h
    · cases h
      exact ⟨_, _, rfl, rfl, by assumption, rfl⟩
    · cases h
  · cases h
theorem os_I {C C' : Int → Int → Prop} [∀ i j, Decidable (C i j)] {g : Int → Int → Dt} {gv : Int → Int → V} (hc : ∀ i j, C i j → C' i j) (hd : ∀ (h : Addr) (H : Hp) i j, Den K mg h H (gv i j) (g i j)) : OpS K mg (rI C' gv) (fI C g) := by
  intro h H0 H s x y d e z Q g0 hx hy hz q
  obtain ⟨i, j, rfl, rfl, c, rfl⟩ := fI_some hz
  cases hx
  cases hy
  exact ⟨i, j, rfl, rfl, hc i j c, q _ H0 H (.refl _ _) g0 (hd h H0 i j)⟩
theorem os_I0 {g : Int → Int → Dt} {gv : Int → Int → V} (hd : ∀ (h : Addr) (H : Hp) i j, Den K mg h H (gv i j) (g i j)) : OpS K mg (rI0 gv) (fI (fun _ _ => True) g) := by
  intro h H0 H s x y d e z Q g0 hx hy hz q
  obtain ⟨i, j, rfl, rfl, c, rfl⟩ := fI_some hz
  cases hx
  cases hy
  exact ⟨i, j, rfl, rfl, q _ H0 H (.refl _ _) g0 (hd h H0 i j)⟩
theorem os_sub : OpS K mg (rI0 fun i j => .int (i - j)) fSub := os_I0 fun _ _ _ _ => .int _
theorem os_lt : OpS K mg (rI0 fun i j => .bl (decide (i < j))) fLt := os_I0 fun _ _ _ _ => .bl _
theorem os_le : OpS K mg (rI0 fun i j => .bl (decide (i ≤ j))) fLe := os_I0 fun _ _ _ _ => .bl _
theorem os_gt : OpS K mg (rI0 fun i j => .bl (decide (j < i))) fGt := os_I0 fun _ _ _ _ => .bl _
theorem os_ge : OpS K mg (rI0 fun i j => .bl (decide (j ≤ i))) fGe := os_I0 fun _ _ _ _ => .bl _
def CDivA (_ j : Int) : Prop := j ≠ 0 ∧ j.natAbs.log2 < 9000
theorem op_divA : OpR X (binaryOp .FloorDiv) (rI CDivA fun i j => .int (i.fdiv j)) := opI fun _ _ _ _ _ _ _ hc q => floordiv_int hc.1 q (.inl (PyProof.noPylong_of_log2 hc.2))
theorem os_div : OpS K mg (rI CDivA fun i j => .int (i.fdiv j)) fDiv := os_I (fun _ _ c => c) fun _ _ _ _ => .int _
theorem os_mod : OpS K mg (rI (fun _ j => j ≠ 0) fun i j => .int (i.fmod j)) fMod := os_I (fun _ _ c => c) fun _ _ _ _ => .int _
theorem os_pow : OpS K mg (rI CPow fun i j => .int (i ^ j.toNat)) fPow := os_I (fun _ _ c => c) fun _ _ _ _ => .int _
theorem us_neg : UnS K mg (rU fun i => .int (-i)) fNeg := by
  intro h H0 H s x d z Q g0 hx hz q
  cases hx <;> first | cases hz | skip
  exact ⟨_, rfl, q _ H0 H (.refl _ _) g0 (.int _)⟩
/-- + -/
def rAddA (K : Frag) : R2 := fun x y H Q => (rI0 fun i j => V.int (i + j)) x y H Q ∨ (rCatT K x y H Q ∨ (rCat x y H Q ∨ (∃ i j, x = .str i ∧ y = .str j ∧ i.length + j.length ≤ sizeLine ∧ Q (.str (i ++ j)) H)))
theorem op_addA : OpR X (binaryOp .Add) (rAddA X.K) := op_add.or (op_catT.or (op_cat.or op_add_str))
theorem os_add : OpS K mg (rAddA K) fAdd := by
  intro h H0 H s x y d e z Q g0 hx hy hz q
  unfold fAdd at hz
  split at hz
  · cases hx
    cases hy
    cases hz
    exact .inl ⟨_, _, rfl, rfl, q _ H0 H (.refl _ _) g0 (.int _)⟩
  · split at hz
    · rename_i c
      cases hz
      cases hx with
      | tup qa ra =>
        cases hy with
        | tup qb rb =>
          have la := ra.len
          have lb := rb.len
          refine .inr (.inl ⟨_, _, _, _, rfl, rfl, sqt_mono g0.ex qa, sqt_mono g0.ex qb, fun z => c.1 ?_, ?_, fun z => ?_, fun _ p hp => ?_⟩)
          · rw [z] at la
            exact List.length_eq_zero_iff.mp la.symm
          · rw [la, lb]
            exact c.2.le
          · rw [z] at lb
            rw [List.length_eq_zero_iff.mp lb.symm, List.append_nil] at q
            exact q _ H0 H (.refl _ _) g0 (.tup qa ra)
          · obtain ⟨g1, st⟩ := g0.alloc (o := .tup _) hp
            exact q _ _ _ st g1 (.tup (SqT.of upd_same) ((ra.append rb).mono st.s0))
    · cases hz
  · split at hz
    · rename_i c
      cases hz
      cases hx with
      | lst qa ra =>
        cases hy with
        | lst qb rb =>
          have la := ra.len
          have lb := rb.len
          refine .inr (.inr (.inl ⟨_, _, _, _, rfl, rfl, g0.ex _ _ qa, g0.ex _ _ qb, ?_, fun p hp => ?_⟩))
          · rw [la, lb]
            exact c.le
          · obtain ⟨g1, st⟩ := g0.alloc (o := .lst _) hp
            exact q _ _ _ st g1 (.lst upd_same ((ra.append rb).mono st.s0))
    · cases hz
  · split at hz
    · rename_i c
      cases hz
      cases hx
      cases hy
      exact .inr (.inr (.inr ⟨_, _, rfl, rfl, c.le, q _ H0 H (.refl _ _) g0 (.str _)⟩))
    · cases hz
  · cases hz
/-- * -/
def rMulA : R2 := fun x y H Q => rI CMulW (fun i j => .int (i * j)) x y H Q ∨ rRep x y H Q
theorem op_mulA : OpR X (binaryOp .Mult) rMulA := op_mulW.or op_rep
theorem DenA.rep {h : Addr} {H : Hp} {vs : List V} {ds : List Dt} (r : DenA K mg h H vs ds) : ∀ k : Nat, DenA K mg h H (List.replicate k vs).flatten (List.replicate k ds).flatten
  | 0 => .nil
  | k + 1 => by
    rw [List.replicate_succ, List.replicate_succ, List.flatten_cons, List.flatten_cons]
    exact r.append (DenA.rep r k)
theorem os_mul : OpS K mg rMulA fMul := by
  intro h H0 H s x y d e z Q g0 hx hy hz q
  unfold fMul at hz
  split at hz
  · split at hz
    · cases hx
      cases hy
      cases hz
      exact .inl ⟨_, _, rfl, rfl, by assumption, q _ H0 H (.refl _ _) g0 (.int _)⟩
    · cases hz
  · split at hz
    · rename_i c
      cases hz
      cases hy
      cases hx with
      | lst qa ra =>
        have la := ra.len
        refine .inr ⟨_, _, _, rfl, rfl, g0.ex _ _ qa, by omega, by omega, ?_, fun p hp => ?_⟩
        · rw [la]
          exact c.2.2.le
        · obtain ⟨g1, st⟩ := g0.alloc (o := .lst _) hp
          exact q _ _ _ st g1 (.lst upd_same ((ra.rep _).mono st.s0))
    · cases hz
  · cases hz
end

/-! ### equality -/
mutual
def toPy : Dt → Option PyData
  | .non => some .none
  | .bl b => some (.bool b)
  | .int i => some (.int i)
  | .str x => some (.str x)
  | .tup ds => (toPyA ds).map .tuple
  | .lst ds => (toPyA ds).map .list
  | .obj _ _ => none
  | .hnd => none
  | .dct => none
  | .fn _ => none
def toPyA : List Dt → Option (List PyData)
  | [] => some []
  | d :: ds => (toPy d).bind fun p => (toPyA ds).map fun ps => p :: ps
end
section
variable {K : Frag} {mg : Str → Option Value} {h : Addr} {H : Hp}
mutual
theorem Den.dp : ∀ {v : V} {d : Dt} {p : PyData}, Den K mg h H v d → toPy d = some p → Dp K H v p
  | _, _, _, .non, e => by
    cases e
    exact .non
  | _, _, _, .bl b, e => by
    cases e
    exact .bl b
  | _, _, _, .int i, e => by
    cases e
    exact .int i
  | _, _, _, .str x, e => by
    cases e
    exact .str x
  | _, .tup ds, p, .tup q r, e => by
    unfold toPy at e
    cases hp : toPyA ds with
    | none =>
      rw [hp] at e
      cases e
    | some ps =>
      rw [hp] at e
      cases e
      exact .tup q (DenA.dp r hp)
  | _, .lst ds, p, .lst q r, e => by
    unfold toPy at e
    cases hp : toPyA ds with
    | none =>
      rw [hp] at e
      cases e
    | some ps =>
      rw [hp] at e
      cases e
      exact .lst (SqL.of q) (DenA.dp r hp)
  | _, _, _, .obj _ _ _, e => by
    unfold toPy at e
    cases e
  | _, _, _, .hnd, e => by
    unfold toPy at e
    cases e
  | _, _, _, .dct _, e => by
    unfold toPy at e
    cases e
  | _, _, _, .fn _, e => by
    unfold toPy at e
    cases e
theorem DenA.dp : ∀ {vs : List V} {ds : List Dt} {ps : List PyData}, DenA K mg h H vs ds → toPyA ds = some ps → DpAll K H vs ps
  | _, _, _, .nil, e => by
    cases e
    exact .nil
  | _, d :: ds, ps, .cons q r, e => by
    unfold toPyA at e
    cases hp : toPy d with
    | none =>
      rw [hp] at e
      cases e
    | some p =>
      rw [hp] at e
      cases hq : toPyA ds with
      | none =>
        rw [hq] at e
        cases e
      | some qs =>
        rw [hq] at e
        cases e
        exact .cons (Den.dp q hp) (DenA.dp r hq)
end
end
/-- data that may be compared -/
def pyOk (d : Dt) : Option PyData := (toPy d).bind fun p => if SeqAt.shaped p = true then some p else none
theorem pyOk_some {d : Dt} {p : PyData} (h : pyOk d = some p) : toPy d = some p ∧ SeqAt.shaped p = true := by
  unfold pyOk at h
  cases e : toPy d with
  | none =>
    rw [e] at h
    cases h
  | some q =>
    rw [e] at h
    have h' : (if SeqAt.shaped q = true then some q else none) = some p := h
    by_cases c : SeqAt.shaped q = true
    · rw [if_pos c] at h'
      cases h'
      exact ⟨rfl, c⟩
    · rw [if_neg c] at h'
      cases h'
def fEqB (d e : Dt) : Option Bool := (pyOk d).bind fun p => (pyOk e).bind fun q => some (PyData.eqv p q)
def fEq (d e : Dt) : Option Dt := (fEqB d e).map .bl
def fNe (d e : Dt) : Option Dt := (fEqB d e).map fun b => .bl (!b)
def fIs : Dt → Dt → Option Dt
  | .bl a, .bl b => some (.bl (a == b))
  | .non, .non => some (.bl true)
  | .bl _, .non => some (.bl false)
  | .int _, .non => some (.bl false)
  | .str _, .non => some (.bl false)
  | .tup _, .non => some (.bl false)
  | .lst _, .non => some (.bl false)
  | .obj _ _, .non => some (.bl false)
  | _, _ => none
def fIsNot (d e : Dt) : Option Dt := match fIs d e with
  | some (.bl b) => some (.bl (!b))
  | _ => none
/-- x in xs, a list -/
def fInB (d : Dt) : Dt → Option Bool
  | .lst es => (pyOk d).bind fun p => (pyOk (.lst es)).bind fun q => match q with
    | .list qs => some (qs.any fun z => PyData.eqv z p)
    | _ => none
  | _ => none
def fIn (d e : Dt) : Option Dt := (fInB d e).map .bl
def fNotIn (d e : Dt) : Option Dt := (fInB d e).map fun b => .bl (!b)
section
variable {X : Cx} {K : Frag} {mg : Str → Option Value}
theorem fEqB_some {d e : Dt} {b : Bool} (h : fEqB d e = some b) : ∃ p q, toPy d = some p ∧ toPy e = some q ∧ SeqAt.shaped p = true ∧ SeqAt.shaped q = true ∧ b = PyData.eqv p q := by
  unfold fEqB at h
  cases e1 : pyOk d with
  | none =>
    rw [e1] at h
    cases h
  | some p =>
    rw [e1] at h
    cases e2 : pyOk e with
    | none =>
      rw [e2] at h
      cases h
    | some q =>
      rw [e2] at h
      cases h
      exact ⟨p, q, (pyOk_some e1).1, (pyOk_some e2).1, (pyOk_some e1).2, (pyOk_some e2).2, rfl⟩
theorem os_eq : OpS K mg (rEqD K) fEq := by
  intro h H0 H s x y d e z Q g0 hx hy hz q
  unfold fEq at hz
  cases hb : fEqB d e with
  | none =>
    rw [hb] at hz
    cases hz
  | some b =>
    rw [hb] at hz
    cases hz
    obtain ⟨p, p', a1, a2, a3, a4, rfl⟩ := fEqB_some hb
    exact ⟨p, p', (hx.mono g0.ex).dp a1, (hy.mono g0.ex).dp a2, a3, a4, q _ H0 H (.refl _ _) g0 (.bl _)⟩
theorem os_ne : OpS K mg (rNeD K) fNe := by
  intro h H0 H s x y d e z Q g0 hx hy hz q
  unfold fNe at hz
  cases hb : fEqB d e with
  | none =>
    rw [hb] at hz
    cases hz
  | some b =>
    rw [hb] at hz
    cases hz
    obtain ⟨p, p', a1, a2, a3, a4, rfl⟩ := fEqB_some hb
    exact ⟨p, p', (hx.mono g0.ex).dp a1, (hy.mono g0.ex).dp a2, a3, a4, q _ H0 H (.refl _ _) g0 (.bl _)⟩
def rIsA : R2 := fun x y H Q => (y = .non ∧ Q (.bl (decide (x = .non))) H) ∨ ∃ a b, x = .bl a ∧ y = .bl b ∧ Q (.bl (a == b)) H
def rIsNotA : R2 := fun x y H Q => (y = .non ∧ Q (.bl (!decide (x = .non))) H) ∨ ∃ a b, x = .bl a ∧ y = .bl b ∧ Q (.bl (!(a == b))) H
theorem op_isB : OpR X (compareOp .Is) (fun x y H Q => ∃ a b, x = .bl a ∧ y = .bl b ∧ Q (.bl (a == b)) H) := by
  intro pins s σ H x y v u Q I rx ry hh
  obtain ⟨a, b, rfl, rfl, q⟩ := hh
  cases rx
  cases ry
  exact is_bool ⟨.bl _, H, I, rfl, q⟩
theorem op_isA : OpR X (compareOp .Is) rIsA := op_isN.or op_isB
theorem isnot_bool' {M : Model} {A : Around} {Q : Value → Shared → Prop} {E : Value → Shared → Prop} {s : Shared} {c d : Bool} (h : Q (.bool (!(c == d))) s) : wpAny M A (compareOp .IsNot (.bool c) (.bool d)) Q E s := by
  have e : isSame (.bool c) (.bool d) = pure (c == d) := by cases c <;> cases d <;> rfl
  show wpAny M A (do return Value.bool (!(← isSame (.bool c) (.bool d)))) Q E s
  rw [e]
  exact wpAny_bind (wpAny_pure (wpAny_pure h))
theorem op_isNotB : OpR X (compareOp .IsNot) (fun x y H Q => ∃ a b, x = .bl a ∧ y = .bl b ∧ Q (.bl (!(a == b))) H) := by
  intro pins s σ H x y v u Q I rx ry hh
  obtain ⟨a, b, rfl, rfl, q⟩ := hh
  cases rx
  cases ry
  exact isnot_bool' ⟨.bl _, H, I, rfl, q⟩
theorem op_isNotA : OpR X (compareOp .IsNot) rIsNotA := op_notN.or op_isNotB
theorem fIs_cases {d e : Dt} {z : Dt} (hz : fIs d e = some z) {h : Addr} {H : Hp} {x y : V} (hx : Den K mg h H x d) (hy : Den K mg h H y e) : (y = .non ∧ z = .bl (decide (x = .non))) ∨ ∃ a b, x = .bl a ∧ y = .bl b ∧ z = .bl (a == b) := by
  unfold fIs at hz
  split at hz <;> first
    | (cases hz; done)
    | (cases hz; cases hx; cases hy; exact .inr ⟨_, _, rfl, rfl, rfl⟩)
    | (cases hz; cases hx <;> cases hy; exact .inl ⟨rfl, rfl⟩)
theorem os_is : OpS K mg rIsA fIs := by
  intro h H0 H s x y d e z Q g0 hx hy hz q
  rcases fIs_cases hz hx hy with ⟨rfl, rfl⟩ | ⟨a, b, rfl, rfl, rfl⟩
  · exact .inl ⟨rfl, q _ H0 H (.refl _ _) g0 (.bl _)⟩
  · exact .inr ⟨a, b, rfl, rfl, q _ H0 H (.refl _ _) g0 (.bl _)⟩
theorem os_isNot : OpS K mg rIsNotA fIsNot := by
  intro h H0 H s x y d e z Q g0 hx hy hz q
  unfold fIsNot at hz
  split at hz
  · rename_i b hb
    cases hz
    rcases fIs_cases hb hx hy with ⟨rfl, eb⟩ | ⟨a, c, rfl, rfl, eb⟩
    · cases eb
      exact .inl ⟨rfl, q _ H0 H (.refl _ _) g0 (.bl _)⟩
    · cases eb
      exact .inr ⟨a, c, rfl, rfl, q _ H0 H (.refl _ _) g0 (.bl _)⟩
  · cases hz
theorem fInB_some {d e : Dt} {b : Bool} (h : fInB d e = some b) : ∃ es p qs, e = .lst es ∧ toPy d = some p ∧ toPy e = some (.list qs) ∧ SeqAt.shaped p = true ∧ SeqAt.shaped (.list qs) = true ∧ b = qs.any fun z => PyData.eqv z p := by
  unfold fInB at h
  split at h
  · rename_i es
    cases e1 : pyOk d with
    | none =>
      rw [e1] at h
      cases h
    | some p =>
      rw [e1] at h
      cases e2 : pyOk (.lst es) with
      | none =>
        rw [e2] at h
        cases h
      | some q =>
        rw [e2] at h
        obtain ⟨b1, b2⟩ := pyOk_some e1
        obtain ⟨c1, c2⟩ := pyOk_some e2
        cases q with
        | list qs =>
          cases h
          exact ⟨es, p, qs, rfl, b1, c1, b2, c2, rfl⟩
        | _ => cases h
  · cases h
theorem os_in : OpS K mg (rInD K) fIn := by
  intro h H0 H s x y d e z Q g0 hx hy hz q
  unfold fIn at hz
  cases hb : fInB d e with
  | none =>
    rw [hb] at hz
    cases hz
  | some b =>
    rw [hb] at hz
    cases hz
    obtain ⟨es, p, qs, rfl, a1, a2, a3, a4, rfl⟩ := fInB_some hb
    exact ⟨p, qs, (hx.mono g0.ex).dp a1, (hy.mono g0.ex).dp a2, a3, a4, q _ H0 H (.refl _ _) g0 (.bl _)⟩
theorem os_notIn : OpS K mg (rNotInD K) fNotIn := by
  intro h H0 H s x y d e z Q g0 hx hy hz q
  unfold fNotIn at hz
  cases hb : fInB d e with
  | none =>
    rw [hb] at hz
    cases hz
  | some b =>
    rw [hb] at hz
    cases hz
    obtain ⟨es, p, qs, rfl, a1, a2, a3, a4, rfl⟩ := fInB_some hb
    exact ⟨p, qs, (hx.mono g0.ex).dp a1, (hy.mono g0.ex).dp a2, a3, a4, q _ H0 H (.refl _ _) g0 (.bl _)⟩
end

/-! ### places, lengths, types -/
def fIx : Dt → Dt → Option Dt
  | .tup ds, .int i => atI ds i
  | .lst ds, .int i => atI ds i
  | .str x, .int i => if sizeOk x.length then (atI x.cps.toList i).map fun c => .str ⟨#[c]⟩ else none
  | _, _ => none
def fLen : List Dt → Option Dt
  | [.tup ds] => some (.int ds.length)
  | [.lst ds] => some (.int ds.length)
  | [.str x] => if sizeOk x.length then some (.int x.length) else none
  | _ => none
def fAbs : List Dt → Option Dt
  | [.int i] => some (.int (if i < 0 then -i else i))
  | _ => none
def fIntC : List Dt → Option Dt
  | [.int i] => some (.int i)
  | [.bl k] => some (.int (if k then 1 else 0))
  | _ => none
def fGcd : List Dt → Option Dt
  | [.int a, .int b] => some (.int ((Nat.gcd a.natAbs b.natAbs : Nat) : Int))
  | _ => none
def fListC : List Dt → Option Dt
  | [.tup ds] => some (.lst ds)
  | [.lst ds] => some (.lst ds)
  | _ => none
def fTupC : List Dt → Option Dt
  | [.tup ds] => some (.tup ds)
  | [.lst ds] => some (.tup ds)
  | _ => none
def tyN : Dt → Option String
  | .non => some "NoneType"
  | .bl _ => some "bool"
  | .int _ => some "int"
  | .str _ => some "str"
  | .tup _ => some "tuple"
  | .lst _ => some "list"
  | .dct => some "dict"
  | _ => none
def fIsi (T : String) (d : Dt) : Option Bool := (tyN d).bind fun n => kitB n T
section
variable {X : Cx} {K : Frag} {mg : Str → Option Value}
theorem DenA.atI' {h : Addr} {H : Hp} {vs : List V} {ds : List Dt} {i : Int} {z : Dt} (r : DenA K mg h H vs ds) (e : atI ds i = some z) : ∃ v, atI vs i = some v ∧ Den K mg h H v z := by
  have l := r.len
  unfold atI at e ⊢
  rw [l]
  cases hj : ixN ds.length i with
  | none =>
    rw [hj] at e
    cases e
  | some j =>
    rw [hj] at e
    exact r.get e
theorem os_ix : OpS K mg (rIx K) fIx := by
  intro h H0 H s x y d e z Q g0 hx hy hz q
  unfold fIx at hz
  split at hz
  · cases hy
    cases hx with
    | tup qa ra =>
      obtain ⟨v, a1, a2⟩ := ra.atI' hz
      exact .inr (.inl ⟨_, _, _, _, rfl, rfl, sqt_mono g0.ex qa, a1, q _ H0 H (.refl _ _) g0 a2⟩)
  · cases hy
    cases hx with
    | lst qa ra =>
      obtain ⟨v, a1, a2⟩ := ra.atI' hz
      exact .inl ⟨_, _, _, _, rfl, rfl, SqL.of (g0.ex _ _ qa), a1, q _ H0 H (.refl _ _) g0 a2⟩
  · split at hz
    · rename_i x i c
      cases hy
      cases hx
      cases ha : atI x.cps.toList i with
      | none =>
        rw [ha] at hz
        cases hz
      | some k =>
        rw [ha] at hz
        cases hz
        exact .inr (.inr ⟨_, _, _, rfl, rfl, c.le, ha, q _ H0 H (.refl _ _) g0 (.str _)⟩)
    · cases hz
  · cases hz
def rLenA (K : Frag) : List V → Hp → VK → Prop := fun xs H Q => (∃ p ys, xs = [.ref p] ∧ (SqL K H p ys ∨ SqT K H p ys) ∧ Q (.int ys.length) H) ∨ (∃ z : Str, xs = [.str z] ∧ z.length ≤ sizeLine ∧ Q (.int z.length) H)
theorem cs_len : CaS K mg (rLenA K) fLen := by
  intro h H0 H s xs ds z Q g0 hx hz q
  unfold fLen at hz
  split at hz
  · cases hz
    cases hx with
    | cons a r =>
      cases r
      cases a with
      | tup qa ra => exact .inl ⟨_, _, rfl, .inr (sqt_mono g0.ex qa), by rw [ra.len]; exact q _ H0 H (.refl _ _) g0 (.int _)⟩
  · cases hz
    cases hx with
    | cons a r =>
      cases r
      cases a with
      | lst qa ra => exact .inl ⟨_, _, rfl, .inl (SqL.of (g0.ex _ _ qa)), by rw [ra.len]; exact q _ H0 H (.refl _ _) g0 (.int _)⟩
  · split at hz
    · rename_i c
      cases hz
      cases hx with
      | cons a r =>
        cases r
        cases a
        exact .inr ⟨_, rfl, c.le, q _ H0 H (.refl _ _) g0 (.int _)⟩
    · cases hz
  · cases hz
theorem call_lenA : CallR X (.builtin "len") (rLenA X.K) := call_len_seq.or call_len_str
theorem cs_abs : CaS K mg (fun xs H Q => ∃ i, xs = [.int i] ∧ Q (.int (if i < 0 then -i else i)) H) fAbs := by
  intro h H0 H s xs ds z Q g0 hx hz q
  unfold fAbs at hz
  split at hz
  · cases hz
    cases hx with
    | cons a r =>
      cases r
      cases a
      exact ⟨_, rfl, q _ H0 H (.refl _ _) g0 (.int _)⟩
  · cases hz
theorem cs_int : CaS K mg (fun xs H Q => (∃ i, xs = [.int i] ∧ Q (.int i) H) ∨ ∃ k, xs = [.bl k] ∧ Q (.int (if k then 1 else 0)) H) fIntC := by
  intro h H0 H s xs ds z Q g0 hx hz q
  unfold fIntC at hz
  split at hz
  · cases hz
    cases hx with
    | cons a r =>
      cases r
      cases a
      exact .inl ⟨_, rfl, q _ H0 H (.refl _ _) g0 (.int _)⟩
  · cases hz
    cases hx with
    | cons a r =>
      cases r
      cases a
      exact .inr ⟨_, rfl, q _ H0 H (.refl _ _) g0 (.int _)⟩
  · cases hz
theorem cs_gcd : CaS K mg rGcd fGcd := by
  intro h H0 H s xs ds z Q g0 hx hz q
  unfold fGcd at hz
  split at hz
  · cases hz
    cases hx with
    | cons a r =>
      cases r with
      | cons b r =>
        cases r
        cases a
        cases b
        exact ⟨_, _, rfl, q _ H0 H (.refl _ _) g0 (.int _)⟩
  · cases hz
theorem cs_list : CaS K mg (fun xs H Q => ∃ p ys, xs = [.ref p] ∧ (SqL K H p ys ∨ SqT K H p ys) ∧ ∀ l, H l = none → Q (.ref l) (upd H l (.lst ys))) fListC := by
  intro h H0 H s xs ds z Q g0 hx hz q
  unfold fListC at hz
  split at hz
  · cases hz
    cases hx with
    | cons a r =>
      cases r
      cases a with
      | tup qa ra =>
        refine ⟨_, _, rfl, .inr (sqt_mono g0.ex qa), fun p hp => ?_⟩
        obtain ⟨g1, st⟩ := g0.alloc (o := .lst _) hp
        exact q _ _ _ st g1 (.lst upd_same (ra.mono st.s0))
  · cases hz
    cases hx with
    | cons a r =>
      cases r
      cases a with
      | lst qa ra =>
        refine ⟨_, _, rfl, .inl (SqL.of (g0.ex _ _ qa)), fun p hp => ?_⟩
        obtain ⟨g1, st⟩ := g0.alloc (o := .lst _) hp
        exact q _ _ _ st g1 (.lst upd_same (ra.mono st.s0))
  · cases hz
theorem cs_tuple : CaS K mg (fun xs H Q => ∃ p ys, xs = [.ref p] ∧ ((SqL K H p ys ∧ ∀ l, H l = none → Q (.ref l) (upd H l (.tup ys))) ∨ (SqT K H p ys ∧ Q (.ref p) H))) fTupC := by
  intro h H0 H s xs ds z Q g0 hx hz q
  unfold fTupC at hz
  split at hz
  · cases hz
    cases hx with
    | cons a r =>
      cases r
      cases a with
      | tup qa ra => exact ⟨_, _, rfl, .inr ⟨sqt_mono g0.ex qa, q _ H0 H (.refl _ _) g0 (.tup qa ra)⟩⟩
  · cases hz
    cases hx with
    | cons a r =>
      cases r
      cases a with
      | lst qa ra =>
        refine ⟨_, _, rfl, .inl ⟨SqL.of (g0.ex _ _ qa), fun p hp => ?_⟩⟩
        obtain ⟨g1, st⟩ := g0.alloc (o := .tup _) hp
        exact q _ _ _ st g1 (.tup (SqT.of upd_same) (ra.mono st.s0))
  · cases hz
theorem TyX.of {h : Addr} {H : Hp} {x : V} {d : Dt} {n : String} (q : Den K mg h H x d) (e : tyN d = some n) : TyX K H x (.type n) := by
  cases q with
  | non =>
    cases e
    exact .base .non
  | bl b =>
    cases e
    exact .base (.bl b)
  | int i =>
    cases e
    exact .base (.int i)
  | str x =>
    cases e
    exact .base (.str x)
  | tup q r =>
    cases e
    rcases q with (q | ⟨o, q⟩) | ⟨o, its, n, q1, q2, _⟩
    · exact .base (.tup q)
    · exact .fTuple q
    · exact .kTuple q1 q2
  | lst q r =>
    cases e
    exact .base (.lst q)
  | obj _ _ _ => cases e
  | hnd => cases e
  | dct q =>
    cases e
    exact .base (.dK q)
  | fn q => cases e
end
end Mir


set_option Elab.async false
set_option linter.all false
set_option maxRecDepth 100000
namespace Mir
open PySem PySem.Spec PyProof.Rows L2
open PySem.W (Frag)

/-! ### expressions -/
section
variable {K : Frag} {mg : Str → Option Value} {Wx : WX} {ta tb : TE} {a b : ME} {tt tu : TT} {mt mu : MT} {t : TA} {as : MA}
theorem se_var {i : Nat} : SE K mg Wx (tVar i) (mVar i) := by
  intro h H0 H s σ ρ Q g S p
  unfold mVar at p
  split at p
  · rename_i d e
    obtain ⟨v, e1, q⟩ := S.dat e
    exact ⟨v, e1, p v H0 H (.refl _ _) g q⟩
  · exact p.elim
theorem se_c {v : V} {d : Dt} (hd : ∀ (h : Addr) (H : Hp), Den K mg h H v d) : SE K mg Wx (tC v) (mC d) := fun h H0 H s σ ρ Q g S p => p v H0 H (.refl _ _) g (hd h H0)
theorem post_lift {α : Type} {h : Ent} {H0 H : Hp} {rel : Hp → α → Dt → Prop} {o : Option Dt} {s : Hd} {Q : α → Hp → Prop} (p : Post K mg h rel (liftO o s) H0 H Wx Q) : ∃ z, o = some z ∧ Post K mg h rel (.ok z s) H0 H Wx Q := by
  cases o with
  | none => exact p.elim
  | some z => exact ⟨z, rfl, p⟩
theorem se_op {r : R2} {f : Dt → Dt → Option Dt} (hr : OpS K mg r f) (ha : SE K mg Wx ta a) (hb : SE K mg Wx tb b) : SE K mg Wx (tOp r ta tb) (mOp f a b) := by
  intro h H0 H s σ ρ Q g S p
  refine ha h H0 H s σ ρ _ g S (Post.bind p fun d s1 x A B st g1 dx p1 => hb h A B s1 σ ρ _ g1 (S.step st) (Post.bind p1 fun e s2 y A2 B2 st2 g2 dy p2 => ?_))
  obtain ⟨z, hz, p3⟩ := post_lift p2
  exact hr h A2 B2 s2 x y d e z Q g2 (dx.mono st2.s0) dy hz fun u A3 B3 st3 g3 du => p3 u A3 B3 st3 g3 du
theorem se_un {r : V → Hp → VK → Prop} {f : Dt → Option Dt} (hr : UnS K mg r f) (ha : SE K mg Wx ta a) : SE K mg Wx (tUn r ta) (mUn f a) := by
  intro h H0 H s σ ρ Q g S p
  refine ha h H0 H s σ ρ _ g S (Post.bind p fun d s1 x A B st g1 dx p1 => ?_)
  obtain ⟨z, hz, p3⟩ := post_lift p1
  exact hr h A B s1 x d z Q g1 dx hz fun u A3 B3 st3 g3 du => p3 u A3 B3 st3 g3 du
theorem st_test (ha : SE K mg Wx ta a) : ST K mg Wx (tTest ta) (mTest a) := by
  intro h H0 H s σ ρ Q g S p
  refine ha h H0 H s σ ρ _ g S (Post.bind p fun d s1 x A B st g1 dx p1 => ?_)
  cases dx with
  | bl k => exact ⟨k, rfl, p1 k A B (.refl _ _) g1 rfl⟩
  | _ => exact p1.elim
theorem truV {h : Addr} {H0 H : Hp} {x : V} {d : Dt} {k : Bool} (e : Same H0 H) (q : Den K mg h H0 x d) (hk : fTru d = some k) : TruV K x H k := by
  cases q with
  | non =>
    cases hk
    rfl
  | bl b =>
    cases hk
    rfl
  | int i =>
    cases hk
    rfl
  | str y =>
    have hk : (if y.length ≤ 100000 then some ((y.length : Int) != 0) else none) = some k := hk
    by_cases c : y.length ≤ 100000
    · rw [if_pos c] at hk
      cases hk
      exact ⟨sizeOk.le c, rfl⟩
    · rw [if_neg c] at hk
      cases hk
  | tup q r =>
    cases hk
    refine .inr (.inl ⟨_, sqt_mono e q, ?_⟩)
    cases r <;> rfl
  | lst q r =>
    cases hk
    refine .inl ⟨_, SqL.of (e _ _ q), ?_⟩
    cases r <;> rfl
  | obj _ _ _ => cases hk
  | hnd => cases hk
  | dct _ => cases hk
  | fn _ => cases hk
theorem post_liftB {h : Ent} {H0 H : Hp} {o : Option Bool} {s : Hd} {Q : Bool → Hp → Prop} (p : Post K mg h EqB (liftO o s) H0 H Wx Q) : ∃ z, o = some z ∧ Post K mg h EqB (.ok z s) H0 H Wx Q := by
  cases o with
  | none => exact p.elim
  | some z => exact ⟨z, rfl, p⟩
theorem st_tru (ha : SE K mg Wx ta a) : ST K mg Wx (fun σ H Q => ta σ H fun x H' => ∃ k, TruV K x H' k ∧ Q k H') (mTru a) := by
  intro h H0 H s σ ρ Q g S p
  refine ha h H0 H s σ ρ _ g S (Post.bind p fun d s1 x A B st g1 dx p1 => ?_)
  obtain ⟨k, hk, p2⟩ := post_liftB p1
  exact ⟨k, truV g1.ex dx hk, p2 k A B (.refl _ _) g1 rfl⟩
theorem st_and (ha : ST K mg Wx tt mt) (hb : ST K mg Wx tu mu) : ST K mg Wx (tAnd tt tu) (mAnd mt mu) := by
  intro h H0 H s σ ρ Q g S p
  refine ha h H0 H s σ ρ _ g S (Post.bind p fun d s1 x A B st g1 dx p1 => ?_)
  cases (show x = d from dx)
  cases d with
  | true => exact hb h A B s1 σ ρ Q g1 (S.step st) p1
  | false => exact p1 false A B (.refl _ _) g1 rfl
theorem st_or (ha : ST K mg Wx tt mt) (hb : ST K mg Wx tu mu) : ST K mg Wx (tOr tt tu) (mOr mt mu) := by
  intro h H0 H s σ ρ Q g S p
  refine ha h H0 H s σ ρ _ g S (Post.bind p fun d s1 x A B st g1 dx p1 => ?_)
  cases (show x = d from dx)
  cases d with
  | false => exact hb h A B s1 σ ρ Q g1 (S.step st) p1
  | true => exact p1 true A B (.refl _ _) g1 rfl
theorem st_not (ha : ST K mg Wx tt mt) : ST K mg Wx (tNot tt) (mNot mt) := by
  intro h H0 H s σ ρ Q g S p
  refine ha h H0 H s σ ρ _ g S (Post.bind p fun d s1 x A B st g1 dx p1 => ?_)
  cases (show x = d from dx)
  exact p1 _ A B (.refl _ _) g1 rfl
theorem se_if (ht : ST K mg Wx tt mt) (ha : SE K mg Wx ta a) (hb : SE K mg Wx tb b) : SE K mg Wx (tIf tt ta tb) (mIf mt a b) := by
  intro h H0 H s σ ρ Q g S p
  refine ht h H0 H s σ ρ _ g S (Post.bind p fun d s1 x A B st g1 dx p1 => ?_)
  cases (show x = d from dx)
  cases d with
  | true => exact ha h A B s1 σ ρ Q g1 (S.step st) p1
  | false => exact hb h A B s1 σ ρ Q g1 (S.step st) p1
theorem se_andV (ha : SE K mg Wx ta a) (hb : SE K mg Wx tb b) : SE K mg Wx (tAndT K ta tb) (mAndV a b) := by
  intro h H0 H s σ ρ Q g S p
  refine ha h H0 H s σ ρ _ g S (Post.bind p fun d s1 x A B st g1 dx p1 => ?_)
  cases hk : fTru d with
  | none =>
    rw [hk] at p1
    exact p1.elim
  | some k =>
    rw [hk] at p1
    refine ⟨k, truV g1.ex dx hk, ?_⟩
    cases k with
    | true => exact hb h A B s1 σ ρ Q g1 (S.step st) p1
    | false => exact p1 x A B (.refl _ _) g1 dx
theorem se_orV (ha : SE K mg Wx ta a) (hb : SE K mg Wx tb b) : SE K mg Wx (tOrT K ta tb) (mOrV a b) := by
  intro h H0 H s σ ρ Q g S p
  refine ha h H0 H s σ ρ _ g S (Post.bind p fun d s1 x A B st g1 dx p1 => ?_)
  cases hk : fTru d with
  | none =>
    rw [hk] at p1
    exact p1.elim
  | some k =>
    rw [hk] at p1
    refine ⟨k, truV g1.ex dx hk, ?_⟩
    cases k with
    | false => exact hb h A B s1 σ ρ Q g1 (S.step st) p1
    | true => exact p1 x A B (.refl _ _) g1 dx
theorem se_notV (ha : SE K mg Wx ta a) : SE K mg Wx (tNotT K ta) (mNotV a) := by
  intro h H0 H s σ ρ Q g S p
  refine ha h H0 H s σ ρ _ g S (Post.bind p fun d s1 x A B st g1 dx p1 => ?_)
  cases hk : fTru d with
  | none =>
    rw [hk] at p1
    exact p1.elim
  | some k =>
    rw [hk] at p1
    exact ⟨k, truV g1.ex dx hk, p1 _ A B (.refl _ _) g1 (.bl _)⟩
theorem sa_nil : SA K mg Wx tNil mNil := fun h H0 H s σ ρ Q g S p => p [] H0 H (.refl _ _) g .nil
theorem sa_cons (ha : SE K mg Wx ta a) (hr : SA K mg Wx t as) : SA K mg Wx (tCons ta t) (mCons a as) := by
  intro h H0 H s σ ρ Q g S p
  refine ha h H0 H s σ ρ _ g S (Post.bind p fun d s1 x A B st g1 dx p1 => hr h A B s1 σ ρ _ g1 (S.step st) (Post.bind p1 fun ds s2 xs A2 B2 st2 g2 dxs p2 => ?_))
  exact p2 (x :: xs) A2 B2 (.refl _ _) g2 (.cons (dx.mono st2.s0) dxs)
theorem se_tup (ha : SA K mg Wx t as) : SE K mg Wx (tTup t) (mTup as) := by
  intro h H0 H s σ ρ Q g S p
  refine ha h H0 H s σ ρ _ g S (Post.bind p fun ds s1 xs A B st g1 dx p1 => ?_)
  by_cases c : ds.length ≤ 100000
  · rw [if_pos c] at p1
    refine ⟨by rw [dx.len]; exact sizeOk.le c, fun q hq => ?_⟩
    obtain ⟨g2, st2⟩ := g1.alloc (o := .tup xs) hq
    exact p1 _ _ _ st2 g2 (.tup (SqT.of upd_same) (dx.mono st2.s0))
  · rw [if_neg c] at p1
    exact p1.elim
theorem se_lst (ha : SA K mg Wx t as) : SE K mg Wx (tLst t) (mLst as) := by
  intro h H0 H s σ ρ Q g S p
  refine ha h H0 H s σ ρ _ g S (Post.bind p fun ds s1 xs A B st g1 dx p1 => ?_)
  by_cases c : ds.length ≤ 100000
  · rw [if_pos c] at p1
    refine ⟨by rw [dx.len]; exact sizeOk.le c, fun q hq => ?_⟩
    obtain ⟨g2, st2⟩ := g1.alloc (o := .lst xs) hq
    exact p1 _ _ _ st2 g2 (.lst upd_same (dx.mono st2.s0))
  · rw [if_neg c] at p1
    exact p1.elim
theorem se_cb {r : List V → Hp → VK → Prop} {f : List Dt → Option Dt} (hr : CaS K mg r f) (ha : SA K mg Wx t as) : SE K mg Wx (tCB r t) (mCB f as) := by
  intro h H0 H s σ ρ Q g S p
  refine ha h H0 H s σ ρ _ g S (Post.bind p fun ds s1 xs A B st g1 dx p1 => ?_)
  obtain ⟨z, hz, p3⟩ := post_lift p1
  exact hr h A B s1 xs ds z Q g1 dx hz fun u A3 B3 st3 g3 du => p3 u A3 B3 st3 g3 du
end

/-! ### calls of defs -/
section
variable (K : Frag) (mg : Str → Option Value)
def PostC (h : Addr) (r : R Dt) (H0 H : Hp) (E : XK) (Q : VK) : Prop := match r with
  | .ok d s => ∀ v H0' H', Step h H0 H H0' H' → G h H0' H' s → Den K mg h H0' v d → Q v H'
  | .err c fs _ s => ∀ (C : Addr) (od : Option Addr) (H0' H' : Hp), Step h H0 H H0' H' → G h H0' H' s → mg c = some (.ref C) → XdOk K mg h H0' H' od fs → E (.ref C) od H'
  | .bad => False
/-- the promise: what m says -/
def spM (n : Nat) (m : List Dt → Hd → R Dt) : Sp := fun vs H Q E => vs.length = n ∧ ∃ (h : Addr) (H0 : Hp) (s : Hd) (ds : List Dt), G h H0 H s ∧ DenA K mg h H0 vs ds ∧ PostC K mg h (m ds s) H0 H E Q
end
section
variable {K : Frag} {mg : Str → Option Value} {Wx : WX} {t : TA} {as : MA}
theorem se_call {n : Nat} {dvs : List V} {dd : List Dt} {m : List Dt → Hd → R Dt} (hd : ∀ (h : Addr) (H : Hp), DenA K mg h H dvs dd) (ha : SA K mg Wx t as) : SE K mg Wx (tCallSD (spM K mg n m) dvs (WE Wx) t) (mCall n dd m as) := by
  intro h H0 H s σ ρ Q g S p
  refine ha h H0 H s σ ρ _ g S (Post.bind p fun ds s1 xs A B st g1 dx p1 => ?_)
  by_cases c : (ds ++ dd).length = n
  · rw [if_pos c] at p1
    have dx2 := dx.append (hd h A)
    refine ⟨by rw [dx2.len]; exact c, h, A, s1, ds ++ dd, g1, dx2, ?_⟩
    cases hm : m (ds ++ dd) s1 with
    | ok d s2 =>
      rw [hm] at p1
      exact p1
    | err cc fs ρ' s2 =>
      rw [hm] at p1
      exact fun C e A2 B2 st2 g2 mc x => p1 σ C e A2 B2 st2.s0 g2 (S.step (st.trans st2)) mc x
    | bad =>
      rw [hm] at p1
      exact p1.elim
  · rw [if_neg c] at p1
    exact p1.elim
end

section
variable {X : Cx} {Wx : WX} {a b c e : Expr} {ma mb mc : ME} {mt mu : MT} {as : MA} {rest es : List Expr} {pos p : Pos}
theorem qe_var (i : Nat) {x : Str} (hN : X.N[i]? = some x := by rfl) (hv : Vis X.env.scope x := by first | exact Or.inl rfl | exact Or.inr (Or.inl rfl) | exact Or.inr (Or.inr rfl)) (hd : (x == ("__debug__" : Str)) = false := by decide)
    (hcd : (x == ("__classdict__" : Str)) = false := by decide) : QE X Wx (.Name x pos) (mVar i) := ⟨_, pe_var hN hv hd hcd, se_var⟩
theorem qe_int {i j} : QE X Wx (.Constant (.int i) j pos) (mC (.int i)) := ⟨_, pe_int, se_c fun _ _ => .int i⟩
theorem qe_bl {i j} : QE X Wx (.Constant (.bool i) j pos) (mC (.bl i)) := ⟨_, pe_bl, se_c fun _ _ => .bl i⟩
theorem qe_non {j} : QE X Wx (.Constant .none j pos) (mC .non) := ⟨_, pe_non, se_c fun _ _ => .non⟩
theorem qe_str {x j} : QE X Wx (.Constant (.str x) j pos) (mC (.str x)) := ⟨_, pe_str, se_c fun _ _ => .str x⟩
/-- a module's constant -/
theorem qe_glob {x : Str} {v : V} {u : Value} {d : Dt} (hg : Gl X x) (hm : X.mg x = some u) (r : RelV v u) (hd : ∀ (h : Addr) (H : Hp), Den X.K X.mg h H v d) (hdb : (x == ("__debug__" : Str)) = false := by decide) : QE X Wx (.Name x pos) (mC d) :=
  ⟨_, pe_glob hg hm r hdb, se_c hd⟩
theorem qe_op {op : Operator} {r : R2} {f : Dt → Dt → Option Dt} (ho : OpR X (binaryOp op) r) (hs : OpS X.K X.mg r f) (ha : QE X Wx a ma) (hb : QE X Wx b mb) : QE X Wx (.BinOp a op b pos) (mOp f ma mb) := by
  obtain ⟨ta, pa, sa⟩ := ha
  obtain ⟨tb, pb, sb⟩ := hb
  exact ⟨_, pe_op ho pa pb, se_op hs sa sb⟩
theorem qe_un {op : UnaryOp} {r : V → Hp → VK → Prop} {f : Dt → Option Dt} (ho : UnR X (unaryOp op) r) (hs : UnS X.K X.mg r f) (ha : QE X Wx a ma) : QE X Wx (.UnaryOp op a pos) (mUn f ma) := by
  obtain ⟨ta, pa, sa⟩ := ha
  exact ⟨_, pe_un ho pa, se_un hs sa⟩
theorem qe_cmp {op : CmpOp} {r : R2} {f : Dt → Dt → Option Dt} (ho : OpR X (compareOp op) r) (hs : OpS X.K X.mg r f) (ha : QE X Wx a ma) (hb : QE X Wx b mb) (hm : behindInMarks op b = false) : QE X Wx (.Compare a [op] [b] pos) (mOp f ma mb) := by
  obtain ⟨ta, pa, sa⟩ := ha
  obtain ⟨tb, pb, sb⟩ := hb
  exact ⟨_, pe_cmpR ho pa pb hm, se_op hs sa sb⟩
theorem qt_cmp {op : CmpOp} {r : R2} {f : Dt → Dt → Option Dt} (ho : OpR X (compareOp op) r) (hs : OpS X.K X.mg r f) (ha : QE X Wx a ma) (hb : QE X Wx b mb) (hm : behindInMarks op b = false) : QT X Wx (.Compare a [op] [b] pos) (mTest (mOp f ma mb)) := by
  obtain ⟨ta, pa, sa⟩ := ha
  obtain ⟨tb, pb, sb⟩ := hb
  exact ⟨_, pt_cmpR ho pa pb hm, st_test (se_op hs sa sb)⟩
theorem qt_tru (ha : QE X Wx a ma) (he : ∀ whole, isTrue a X.env whole = (do let v ← whole; standAt a.pos; holding [v] (truthy v)) := by intro _; rfl) : QT X Wx a (mTru ma) := by
  obtain ⟨ta, pa, sa⟩ := ha
  exact ⟨_, pt_truth pa he, st_tru sa⟩
theorem qt_w (h : QW X Wx a mt) : QT X Wx a mt := by
  obtain ⟨t, pw, s⟩ := h
  exact ⟨t, pw.pt, s⟩
theorem qw_and1 (h : QT X Wx a mt) : QW X Wx (.BoolOp .And [a] pos) mt := by
  obtain ⟨t, pw, s⟩ := h
  exact ⟨t, pw_and1 pw, s⟩
theorem qw_or1 (h : QT X Wx a mt) : QW X Wx (.BoolOp .Or [a] pos) mt := by
  obtain ⟨t, pw, s⟩ := h
  exact ⟨t, pw_or1 pw, s⟩
theorem qw_and (h : QT X Wx a mt) (h2 : QW X Wx (.BoolOp .And (b :: rest) pos) mu) : QW X Wx (.BoolOp .And (a :: b :: rest) pos) (mAnd mt mu) := by
  obtain ⟨t, pw, s⟩ := h
  obtain ⟨t2, pw2, s2⟩ := h2
  exact ⟨_, pw_and pw pw2, st_and s s2⟩
theorem qw_or (h : QT X Wx a mt) (h2 : QW X Wx (.BoolOp .Or (b :: rest) pos) mu) : QW X Wx (.BoolOp .Or (a :: b :: rest) pos) (mOr mt mu) := by
  obtain ⟨t, pw, s⟩ := h
  obtain ⟨t2, pw2, s2⟩ := h2
  exact ⟨_, pw_or pw pw2, st_or s s2⟩
theorem qt_not (h : QT X Wx a mt) : QT X Wx (.UnaryOp .Not a pos) (mNot mt) := by
  obtain ⟨t, pw, s⟩ := h
  exact ⟨_, pt_not pw, st_not s⟩
theorem qe_one {op} (h : QE X Wx a ma) : QE X Wx (.BoolOp op [a] pos) ma := by
  obtain ⟨t, pw, s⟩ := h
  exact ⟨_, pe_one pw, s⟩
theorem qe_and (h : QE X Wx a ma) (h2 : QE X Wx (.BoolOp .And (b :: rest) pos) mb) : QE X Wx (.BoolOp .And (a :: b :: rest) pos) (mAndV ma mb) := by
  obtain ⟨t, pw, s⟩ := h
  obtain ⟨t2, pw2, s2⟩ := h2
  exact ⟨_, pe_andT pw pw2, se_andV s s2⟩
theorem qe_or (h : QE X Wx a ma) (h2 : QE X Wx (.BoolOp .Or (b :: rest) pos) mb) : QE X Wx (.BoolOp .Or (a :: b :: rest) pos) (mOrV ma mb) := by
  obtain ⟨t, pw, s⟩ := h
  obtain ⟨t2, pw2, s2⟩ := h2
  exact ⟨_, pe_orT pw pw2, se_orV s s2⟩
theorem qe_not (h : QE X Wx a ma) : QE X Wx (.UnaryOp .Not a pos) (mNotV ma) := by
  obtain ⟨t, pw, s⟩ := h
  exact ⟨_, pe_notT pw, se_notV s⟩
theorem qe_if (h : QT X Wx c mt) (ha : QE X Wx a ma) (hb : QE X Wx b mb) : QE X Wx (.IfExp c a b pos) (mIf mt ma mb) := by
  obtain ⟨t, pw, s⟩ := h
  obtain ⟨ta, pa, sa⟩ := ha
  obtain ⟨tb, pb, sb⟩ := hb
  exact ⟨_, pe_ifExp pw pa pb, se_if s sa sb⟩
theorem qa_nil : QA X Wx [] mNil := ⟨_, pa_nil, sa_nil⟩
theorem qa_cons (ha : QE X Wx e ma) (hr : QA X Wx es as) (hs : starEach (e :: es) X.env = (false, eval e X.env) :: starEach es X.env := by rfl) : QA X Wx (e :: es) (mCons ma as) := by
  obtain ⟨ta, pa, sa⟩ := ha
  obtain ⟨tr, pr, sr⟩ := hr
  exact ⟨_, pa_cons pa pr hs, sa_cons sa sr⟩
theorem qe_tup {x1} (h : QA X Wx es as) : QE X Wx (.Tuple es x1 pos) (mTup as) := by
  obtain ⟨t, q, s⟩ := h
  exact ⟨_, pe_tup q, se_tup s⟩
theorem qe_lst (h : QA X Wx es as) : QE X Wx (.List es pos) (mLst as) := by
  obtain ⟨t, q, s⟩ := h
  exact ⟨_, pe_lst q, se_lst s⟩
theorem qe_ix (ha : QE X Wx a ma) (hb : QE X Wx b mb) (hs : PlainIx b := by exact fun _ _ => rfl) : QE X Wx (.Subscript a b pos) (mOp fIx ma mb) := by
  obtain ⟨ta, pa, sa⟩ := ha
  obtain ⟨tb, pb, sb⟩ := hb
  exact ⟨_, pe_ix ix_seq pa pb hs, se_op os_ix sa sb⟩
variable {x : Str} {id T : String} {r : List V → Hp → VK → Prop} {f : List Dt → Option Dt}
theorem qe_callB (hc : CallR X (.builtin id) r) (hs : CaS X.K X.mg r f) (hg : Gl X x) (hm : X.mg x = none) (hv : bootBuiltins x = some (.builtin id)) (ha : QA X Wx (e :: es) as) (hn : x ≠ "__name__" := by decide) (hdb : (x == ("__debug__" : Str)) = false := by decide)
    (he : starEach (e :: es) X.env = (false, eval e X.env) :: starEach es X.env := by rfl) (hpl : (backTo pos (starEach es X.env)).any (·.1) = false := by rfl) : QE X Wx (.Call (.Name x p) (e :: es) [] pos) (mCB f as) := by
  obtain ⟨t, q, s⟩ := ha
  exact ⟨_, pe_callB hc hg hm hv q hn hdb he hpl, se_cb hs s⟩
theorem qe_callTy (hc : CallR X (.type T) r) (hs : CaS X.K X.mg r f) (hg : Gl X x) (hm : X.mg x = none) (hv : bootBuiltins x = some (.type T)) (ha : QA X Wx (e :: es) as) (hn : x ≠ "__name__" := by decide) (hdb : (x == ("__debug__" : Str)) = false := by decide)
    (he : starEach (e :: es) X.env = (false, eval e X.env) :: starEach es X.env := by rfl) (hpl : (backTo pos (starEach es X.env)).any (·.1) = false := by rfl) : QE X Wx (.Call (.Name x p) (e :: es) [] pos) (mCB f as) := by
  obtain ⟨t, q, s⟩ := ha
  exact ⟨_, pe_callTy hc hg hm hv q hn hdb he hpl, se_cb hs s⟩
theorem qe_callBfun (hc : CallR X (.builtin id) r) (hs : CaS X.K X.mg r f) (hg : Gl X x) (hm : X.mg x = some (.builtin id)) (ha : QA X Wx (e :: es) as) (hdb : (x == ("__debug__" : Str)) = false := by decide)
    (he : starEach (e :: es) X.env = (false, eval e X.env) :: starEach es X.env := by rfl) (hpl : (backTo pos (starEach es X.env)).any (·.1) = false := by rfl) : QE X Wx (.Call (.Name x p) (e :: es) [] pos) (mCB f as) := by
  obtain ⟨t, q, s⟩ := ha
  exact ⟨_, pe_callBfun hc hg hm q hdb he hpl, se_cb hs s⟩
/-- f(e, ..) -/
theorem qe_call {k n : Nat} {fa : Addr} {fd : FuncData} {ps : List Str} {m : List Dt → Hd → R Dt} {dvs : List V} {dd : List Dt} {dsV : List Value} (F : FnOk X.prog X.w X.K X.mg X.base (L2.CX X.prog X.w) k fa fd ps (spM X.K X.mg n m)) (hr : Room k X.A) (hg : Gl X x)
    (hm : X.mg x = some (.ref fa)) (hk : PySem.W.keepIn X.K (.ref fa) = true) (hb : Binds X.K fd ps dsV) (hd : Vals dvs dsV) (hdd : ∀ (h : Addr) (H : Hp), DenA X.K X.mg h H dvs dd) (tk : Takes X Wx) (ha : QA X Wx (e :: es) as)
    (hdb : (x == ("__debug__" : Str)) = false := by decide) (he : starEach (e :: es) X.env = (false, eval e X.env) :: starEach es X.env := by rfl) (hpl : (backTo pos (starEach es X.env)).any (·.1) = false := by rfl) :
    QE X Wx (.Call (.Name x p) (e :: es) [] pos) (mCall n dd m as) := by
  obtain ⟨t, q, s⟩ := ha
  exact ⟨_, pe_callSD F hr hg hm hk hb hd (fun σ => passAt tk σ) q hdb he hpl, se_call hdd s⟩
end
/-! ### isinstance -/
def mIsi (T : String) (a : ME) : ME := fun ρ s => (a ρ s).bind fun d s1 => liftO ((fIsi T d).map Dt.bl) s1
section
variable {X : Cx} {Wx : WX} {a : Expr} {ma : ME} {pos p p2 : Pos} {T : String} {x : Str}
theorem qe_isi (ha : QE X Wx a ma) (hg : Gl X "isinstance") (hm : X.mg "isinstance" = none) (hgT : Gl X x) (hmT : X.mg x = none) (hvT : bootBuiltins x = some (.type T)) (hn : x ≠ "__name__" := by decide) (hdb : (x == ("__debug__" : Str)) = false := by decide)
    (he : starEach [a, .Name x p2] X.env = (false, eval a X.env) :: starEach [.Name x p2] X.env := by rfl) (he2 : starEach [.Name x p2] X.env = (false, eval (.Name x p2) X.env) :: starEach [] X.env := by rfl)
    (hpl : (backTo pos (starEach [.Name x p2] X.env)).any (·.1) = false := by rfl) : QE X Wx (.Call (.Name "isinstance" p) [a, .Name x p2] [] pos) (mIsi T ma) := by
  obtain ⟨ta, pa, sa⟩ := ha
  refine ⟨_, pe_callB call_isi hg hm (by decide +kernel) (pa_cons pa (pa_cons (pe_bltn (v := .ty T) hgT hmT hvT rfl hn hdb) pa_nil he2) he) (by decide) (by decide) he hpl, ?_⟩
  intro h H0 H s σ ρ Q g S pp
  refine sa h H0 H s σ ρ _ g S (Post.bind pp fun d s1 x A B st g1 dx p1 => ?_)
  obtain ⟨z, hz, p3⟩ := post_lift p1
  unfold fIsi at hz
  cases ht : tyN d with
  | none =>
    rw [ht] at hz
    cases hz
  | some n =>
    rw [ht] at hz
    have hz : (kitB n T).map Dt.bl = some z := hz
    cases hb : kitB n T with
    | none =>
      rw [hb] at hz
      cases hz
    | some b =>
      rw [hb] at hz
      cases hz
      exact ⟨x, .ty T, .type n, .type T, b, rfl, .ty T, TyX.of (dx.mono g1.ex) ht, kit_ty hb, p3 _ A B (.refl _ _) g1 (.bl b)⟩
end
end Mir


set_option Elab.async false
set_option linter.all false
set_option maxRecDepth 100000
namespace Mir
open PySem PySem.Spec PyProof.Rows L2
open PySem.W (Frag)

/-! ### statements -/
def mNext : MS := fun ρ s => .ok (.nx ρ) s
def mSeq (a b : MS) : MS := fun ρ s => match a ρ s with
  | .ok (.nx ρ') s' => b ρ' s'
  | .ok (.rt d) s' => .ok (.rt d) s'
  | .ok (.bk ρ') s' => .ok (.bk ρ') s'
  | .ok (.ct ρ') s' => .ok (.ct ρ') s'
  | .err c fs ρ' s' => .err c fs ρ' s'
  | .bad => .bad
def mSet (i : Nat) (a : ME) : MS := fun ρ s => (a ρ s).bind fun d s1 => .ok (.nx (ρ.set i (.dat d))) s1
def mRet (a : ME) : MS := fun ρ s => (a ρ s).bind fun d s1 => .ok (.rt d) s1
def mRetN : MS := fun _ s => .ok (.rt .non) s
def mDrop (a : ME) : MS := fun ρ s => (a ρ s).bind fun _ s1 => .ok (.nx ρ) s1
def mIfS (t : MT) (a b : MS) : MS := fun ρ s => (t ρ s).bind fun c s1 => if c = true then a ρ s1 else b ρ s1
def mBreak : MS := fun ρ s => .ok (.bk ρ) s
def mCont : MS := fun ρ s => .ok (.ct ρ) s
/-- a, b = x, y -/
def mPar (i j : Nat) (as : MA) : MS := fun ρ s => (as ρ s).bind fun ds s1 => match ds with
  | [d, e] => .ok (.nx ((ρ.set i (.dat d)).set j (.dat e))) s1
  | _ => .bad
/-- targets -/
abbrev GM := Dt → Env' → Option Env'
abbrev GMs := List Dt → Env' → Option Env'
def gmName (j : Nat) : GM := fun d ρ => some (ρ.set j (.dat d))
def gmNil : GMs := fun ds ρ => match ds with
  | [] => some ρ
  | _ => none
def gmCons (g : GM) (gs : GMs) : GMs := fun ds ρ => match ds with
  | d :: r => (g d ρ).bind fun ρ1 => gs r ρ1
  | _ => none
def gmSeq (n : Nat) (gs : GMs) : GM := fun d ρ => match d with
  | .tup ds => if ds.length = n then gs ds ρ else none
  | .lst ds => if ds.length = n then gs ds ρ else none
  | _ => none
def mAsg (g : GM) (a : ME) : MS := fun ρ s => (a ρ s).bind fun d s1 => match g d ρ with
  | some ρ1 => .ok (.nx ρ1) s1
  | none => .bad
def loopF (g : GM) (body : MS) : List Dt → MS
  | [], ρ, s => .ok (.nx ρ) s
  | d :: ds, ρ, s => match g d ρ with
    | none => .bad
    | some ρ1 => match body ρ1 s with
      | .ok (.nx ρ2) s2 => loopF g body ds ρ2 s2
      | .ok (.ct ρ2) s2 => loopF g body ds ρ2 s2
      | .ok (.bk ρ2) s2 => .ok (.nx ρ2) s2
      | .ok (.rt d) s2 => .ok (.rt d) s2
      | .err c fs ρ2 s2 => .err c fs ρ2 s2
      | .bad => .bad
/-- what a for walks -/
def mFor (g : GM) (it : MA) (body : MS) : MS := fun ρ s => (it ρ s).bind fun ds s1 => loopF g body ds ρ s1
def mSeqI (a : ME) : MA := fun ρ s => (a ρ s).bind fun d s1 => match d with
  | .tup ds => .ok ds s1
  | .lst ds => .ok ds s1
  | _ => .bad
def rangeD (lo : Int) (n : Nat) : List Dt := (List.range n).map fun (i : Nat) => Dt.int (lo + i)
def rngOk (i : Int) : Prop := -1000000 ≤ i ∧ i ≤ 1000000
instance (i : Int) : Decidable (rngOk i) := inferInstanceAs (Decidable (_ ∧ _))
def mRng1 (a : ME) : MA := fun ρ s => (a ρ s).bind fun d s1 => match d with
  | .int b => if rngOk b then .ok (rangeD 0 b.toNat) s1 else .bad
  | _ => .bad
def mRng2 (a b : ME) : MA := fun ρ s => (a ρ s).bind fun d s1 => (b ρ s1).bind fun e s2 => match d, e with
  | .int i, .int j => if rngOk i ∧ rngOk j then .ok (rangeD i (j - i).toNat) s2 else .bad
  | _, _ => .bad
def loopW (t : MT) (body : MS) : Nat → MS
  | 0, _, _ => .bad
  | n + 1, ρ, s => (t ρ s).bind fun c s1 => if c = true then (match body ρ s1 with
      | .ok (.nx ρ2) s2 => loopW t body n ρ2 s2
      | .ok (.ct ρ2) s2 => loopW t body n ρ2 s2
      | .ok (.bk ρ2) s2 => .ok (.nx ρ2) s2
      | .ok (.rt d) s2 => .ok (.rt d) s2
      | .err c fs ρ2 s2 => .err c fs ρ2 s2
      | .bad => .bad) else .ok (.nx ρ) s1
/-- comprehensions -/
def wipeE (ρ : Env') : List Nat → Env'
  | [] => ρ
  | v :: vs => (wipeE ρ vs).set v .no
def noErr {α : Type} : R α → R α
  | .err _ _ _ _ => .bad
  | r => r
def mYes : MT := fun _ s => .ok true s
def loopC (g : GM) (t : MT) (a : ME) (vs : List Nat) : List Dt → List Dt → ME
  | [], acc, _, s => .ok (.lst acc) s
  | d :: ds, acc, ρ, s => match g d (wipeE ρ vs) with
    | none => .bad
    | some ρ1 => (noErr (t ρ1 s)).bind fun c s1 => if c = true then (noErr (a ρ1 s1)).bind fun e s2 => if sizeOk acc.length then loopC g t a vs ds (acc ++ [e]) ρ s2 else .bad else loopC g t a vs ds acc ρ s1
def mLc (g : GM) (it : MA) (t : MT) (a : ME) (vs : List Nat) : ME := fun ρ s => (it ρ s).bind fun ds s1 => loopC g t a vs ds [] ρ s1
theorem R.bind_assoc {α β γ : Type} (r : R α) (k : α → Hd → R β) (k2 : β → Hd → R γ) : (r.bind k).bind k2 = r.bind fun x s => (k x s).bind k2 := by cases r <;> rfl

section
variable {K : Frag} {mg : Str → Option Value} {Wx : WX} {ta : TE} {a : ME} {tt : TT} {mt : MT} {t : TA} {as : MA} {ts tu : TS} {ms mu : MS}
theorem ss_next : SS K mg Wx tNext mNext := fun h H0 H s σ ρ D g S p => p σ H0 H (Same.refl _) g S
theorem ss_seq (h1 : SS K mg Wx ts ms) (h2 : SS K mg Wx tu mu) : SS K mg Wx (tSeq ts tu) (mSeq ms mu) := by
  intro h H0 H s σ ρ D g S p
  refine h1 h H0 H s σ ρ _ g S ?_
  have p : PostS K mg h (mSeq ms mu ρ s) H0 H Wx D := p
  unfold mSeq at p
  cases e : ms ρ s with
  | ok f s2 =>
    rw [e] at p
    cases f with
    | nx ρ' => exact fun σ' A B st g' S' => h2 h A B s2 σ' ρ' D g' S' (PostS.step st p)
    | rt d => exact p
    | bk ρ' => exact p
    | ct ρ' => exact p
  | err c fs ρ' s2 =>
    rw [e] at p
    exact p
  | bad =>
    rw [e] at p
    exact p
theorem ss_set {i : Nat} (ha : SE K mg Wx ta a) : SS K mg Wx (tAsg ta (gName i)) (mSet i a) := by
  intro h H0 H s σ ρ D g S p
  refine ha h H0 H s σ ρ _ g S (PostS.bind p fun d s1 x A B st g1 dx p1 => ?_)
  exact p1 _ A B (Same.refl _) g1 ((S.step st).set dx)
theorem ss_ret (ha : SE K mg Wx ta a) : SS K mg Wx (tRet ta) (mRet a) := by
  intro h H0 H s σ ρ D g S p
  refine ha h H0 H s σ ρ _ g S (PostS.bind p fun d s1 x A B st g1 dx p1 => ?_)
  exact p1 x A B (S.step st).st g1 dx
theorem ss_retN : SS K mg Wx tRetN mRetN := fun h H0 H s σ ρ D g S p => p .non H0 H S.st g .non
theorem ss_drop (ha : SE K mg Wx ta a) : SS K mg Wx (tDrop ta) (mDrop a) := by
  intro h H0 H s σ ρ D g S p
  refine ha h H0 H s σ ρ _ g S (PostS.bind p fun d s1 x A B st g1 dx p1 => ?_)
  exact p1 σ A B (Same.refl _) g1 (S.step st)
theorem ss_if (ht : ST K mg Wx tt mt) (h1 : SS K mg Wx ts ms) (h2 : SS K mg Wx tu mu) : SS K mg Wx (tIfS tt ts tu) (mIfS mt ms mu) := by
  intro h H0 H s σ ρ D g S p
  refine ht h H0 H s σ ρ _ g S (PostS.bind p fun d s1 x A B st g1 dx p1 => ?_)
  cases (show x = d from dx)
  cases d with
  | true => exact h1 h A B s1 σ ρ D g1 (S.step st) p1
  | false => exact h2 h A B s1 σ ρ D g1 (S.step st) p1
theorem ss_break : SS K mg Wx tBreak mBreak := fun h H0 H s σ ρ D g S p => p σ H0 H (Same.refl _) g S
theorem ss_cont : SS K mg Wx tCont mCont := fun h H0 H s σ ρ D g S p => p σ H0 H (Same.refl _) g S
theorem ss_par {i j : Nat} (ha : SA K mg Wx t as) : SS K mg Wx (tPar i j t) (mPar i j as) := by
  intro h H0 H s σ ρ D g S p
  refine ha h H0 H s σ ρ _ g S (PostS.bind p fun ds s1 xs A B st g1 dx p1 => ?_)
  cases dx with
  | nil => exact p1.elim
  | cons q r =>
    cases r with
    | nil => exact p1.elim
    | cons q2 r =>
      cases r with
      | nil => exact ⟨_, _, rfl, p1 _ A B (Same.refl _) g1 (((S.step st).set q).set q2)⟩
      | cons q3 r => exact p1.elim
end

/-! ### targets -/
/-- at the slots js alone something else -/
def OffIx (js : List Nat) (σ σ1 : L2.St) : Prop := σ1.length = σ.length ∧ ∀ i : Nat, i ∉ js → σ1[i]? = σ[i]?
section
variable (K : Frag) (mg : Str → Option Value)
def SG (js : List Nat) (g : TG) (m : GM) : Prop := ∀ (h : Ent) (H0 H : Hp) (s : Hd) (x : V) (d : Dt) (σ : L2.St) (ρ ρ1 : Env') (Q : L2.St → Hp → Prop), G h H0 H s → Slots K mg h H0 H σ ρ → Den K mg h H0 x d → m d ρ = some ρ1 →
  (∀ σ1, OffIx js σ σ1 → Slots K mg h H0 H σ1 ρ1 → Q σ1 H) → g x σ H Q
def SGs (js : List Nat) (g : TGs) (m : GMs) : Prop := ∀ (h : Ent) (H0 H : Hp) (s : Hd) (xs : List V) (ds : List Dt) (σ : L2.St) (ρ ρ1 : Env') (Q : L2.St → Hp → Prop), G h H0 H s → Slots K mg h H0 H σ ρ → DenA K mg h H0 xs ds → m ds ρ = some ρ1 →
  (∀ σ1, OffIx js σ σ1 → Slots K mg h H0 H σ1 ρ1 → Q σ1 H) → g xs σ H Q
end
def gSeq (K : Frag) (n : Nat) (t : TGs) : TG := fun v σ H Q => gTup K n t v σ H Q ∨ gLst K n t v σ H Q
theorem pg_or {X : Cx} {e : Expr} {t u : TG} (h1 : PG X e t) (h2 : PG X e u) : PG X e (fun v σ H Q => t v σ H Q ∨ u v σ H Q) :=
  ⟨fun pins s σ H v w Q I r h => h.elim (fun z => h1.run pins s σ H v w Q I r z) fun z => h2.run pins s σ H v w Q I r z⟩
theorem pg_seq {X : Cx} {pos : Pos} {es : List Expr} {k : Nat} {t : TGs} {n : Nat} (hc : X.calm = true) (h : PGs X es t)
    (hn : (assignEach es X.env).length = n := by rfl) (hst : (assignEach es X.env).findIdx? (·.1) = none := by rfl) : PG X (.Tuple es k pos) (gSeq X.K n t) := pg_or (pg_tup hc h hn hst) (pg_lst hc h hn hst)
section
variable {K : Frag} {mg : Str → Option Value}
theorem sg_name {j : Nat} : SG K mg [j] (gName j) (gmName j) := by
  intro h H0 H s x d σ ρ ρ1 Q g S dx e q
  cases e
  exact q _ ⟨List.length_set, fun i hi => List.getElem?_set_ne (fun z => hi (by rw [z]; exact List.mem_singleton.mpr rfl))⟩ (S.set dx)
theorem sgs_nil : SGs K mg [] gNil gmNil := by
  intro h H0 H s xs ds σ ρ ρ1 Q g S dx e q
  cases dx with
  | nil =>
    cases e
    exact ⟨rfl, q σ ⟨rfl, fun _ _ => rfl⟩ S⟩
  | cons _ _ => cases e
theorem sgs_cons {js ks : List Nat} {g : TG} {gs : TGs} {m : GM} {ms : GMs} (h1 : SG K mg js g m) (h2 : SGs K mg ks gs ms) : SGs K mg (js ++ ks) (gCons g gs) (gmCons m ms) := by
  intro h H0 H s xs ds σ ρ ρ1 Q g0 S dx e q
  cases dx with
  | nil => cases e
  | @cons v vs d ds dv dvs =>
    have e : (m d ρ).bind (fun ρ1 => ms ds ρ1) = some ρ1 := e
    cases hm : m d ρ with
    | none =>
      rw [hm] at e
      cases e
    | some ρ2 =>
      rw [hm] at e
      refine ⟨v, vs, rfl, h1 h H0 H s v d σ ρ ρ2 _ g0 S dv hm fun σ2 o2 S2 => h2 h H0 H s vs ds σ2 ρ2 ρ1 Q g0 S2 dvs e fun σ3 o3 S3 => q σ3 ⟨o3.1.trans o2.1, fun i hi => ?_⟩ S3⟩
      rw [o3.2 i fun z => hi (List.mem_append_right _ z), o2.2 i fun z => hi (List.mem_append_left _ z)]
theorem sg_seq {js : List Nat} {n : Nat} {gs : TGs} {ms : GMs} (h1 : SGs K mg js gs ms) : SG K mg js (gSeq K n gs) (gmSeq n ms) := by
  intro h H0 H s x d σ ρ ρ1 Q g0 S dx e q
  cases dx with
  | @tup a xs ds qa ra =>
    have e : (if ds.length = n then ms ds ρ else none) = some ρ1 := e
    by_cases c : ds.length = n
    · rw [if_pos c] at e
      exact .inl ⟨_, _, rfl, sqt_mono g0.ex qa, ra.len.trans c, h1 h H0 H s _ _ σ ρ ρ1 Q g0 S ra e q⟩
    · rw [if_neg c] at e
      cases e
  | @lst a xs ds qa ra =>
    have e : (if ds.length = n then ms ds ρ else none) = some ρ1 := e
    by_cases c : ds.length = n
    · rw [if_pos c] at e
      exact .inr ⟨_, _, rfl, SqL.of (g0.ex _ _ qa), ra.len.trans c, h1 h H0 H s _ _ σ ρ ρ1 Q g0 S ra e q⟩
    · rw [if_neg c] at e
      cases e
  | _ => cases e
theorem ss_asg {Wx : WX} {ta : TE} {a : ME} {js : List Nat} {g : TG} {m : GM} (ha : SE K mg Wx ta a) (hg : SG K mg js g m) : SS K mg Wx (tAsg ta g) (mAsg m a) := by
  intro h H0 H s σ ρ D g0 S p
  refine ha h H0 H s σ ρ _ g0 S (PostS.bind p fun d s1 x A B st g1 dx p1 => ?_)
  cases e : m d ρ with
  | none =>
    rw [e] at p1
    exact p1.elim
  | some ρ1 =>
    rw [e] at p1
    exact hg h A B s1 x d σ ρ ρ1 _ g1 (S.step st) dx e fun σ1 _ S1 => p1 σ1 A B (Same.refl _) g1 S1
end

/-! ### what a for walks: a list or a tuple -/
def iSeq (K : Frag) (tl : TE) : TI := fun σ H R => tl σ H fun x H1 => (∃ a, x = .ref a ∧ (∃ xs, SqL K H1 a xs) ∧ R (Itl K a) H1) ∨ ∃ a, x = .ref a ∧ (∃ xs, SqT K H1 a xs) ∧ R (Itt K a) H1
theorem pi_seq {X : Cx} {tg l : Expr} {tl : TE} (hl : PE X l tl) : PI X tg l (iSeq X.K tl) := by
  refine ⟨fun pins s σ H R I h => ?_⟩
  refine thn (hl.run pins s σ H _ I h) fun v s1 ⟨x, H1, I1, r1, q1⟩ => ?_
  rcases q1 with ⟨a, e, ⟨xs, hq⟩, q⟩ | ⟨a, e, ⟨xs, hq⟩, q⟩
  · subst e
    cases r1
    obtain ⟨its, rv, p, hz⟩ := I1.list hq
    refine wpAny_pyIter_list p.isList ?_
    refine ⟨s1.heap.objs.size, [s1.heap.objs.size], _, _, H1, rfl, I1.kept (t' := s1.toks) fun b o e => Heap.get?_push_of_some _ e, turn_list a _, ⟨_, Heap.get?_push_size _ rfl, rfl, rfl⟩, fun b hb => ?_, q⟩
    have e : b = s1.heap.objs.size := by simpa using hb
    subst e
    exact I1.fpOk (Nat.le_refl _) (I1.hok.fresh (Nat.le_refl _))
  · subst e
    cases r1
    obtain ⟨its, rv, p, hz⟩ := I1.tuple hq
    refine wpAny_pyIter_tuple (show s1.heap.IsTuple a its.toArray from p) ?_
    refine ⟨s1.heap.objs.size, [s1.heap.objs.size], _, _, H1, rfl, I1.kept (t' := s1.toks) fun b o e => Heap.get?_push_of_some _ e, turn_tuple a _, ⟨_, Heap.get?_push_size _ rfl, rfl, rfl⟩, fun b hb => ?_, q⟩
    have e : b = s1.heap.objs.size := by simpa using hb
    subst e
    exact I1.fpOk (Nat.le_refl _) (I1.hok.fresh (Nat.le_refl _))
section
variable {K : Frag} {mg : Str → Option Value} {Wx : WX} {ta : TE} {a : ME} {t : TA} {as : MA} {tb : TS} {body : MS} {js : List Nat} {g : TG} {m : GM}
theorem drop_cons {α : Type} {ds : List α} {i : Nat} {d : α} (e : ds[i]? = some d) : ds.drop i = d :: ds.drop (i + 1) := by
  obtain ⟨hl, e2⟩ := List.getElem?_eq_some_iff.mp e
  rw [← e2]
  exact List.drop_eq_getElem_cons hl
/-- one turn -/
theorem turn_ok {h : Ent} {A B : Hp} {s : Hd} {σ : L2.St} {ρ : Env'} {x : V} {d : Dt} {ds : List Dt} {D : Ends} {Pn : L2.St → Hp → Prop} (hg : SG K mg js g m) (hb : SS K mg Wx tb body) (g0 : G h A B s) (S : Slots K mg h A B σ ρ) (dx : Den K mg h A x d)
    (p : PostS K mg h (loopF m body (d :: ds) ρ s) A B Wx D)
    (next : ∀ σ' A' B' s' ρ', Same A A' → G h A' B' s' → Slots K mg h A' B' σ' ρ' → PostS K mg h (loopF m body ds ρ' s') A' B' Wx D → Pn σ' B') :
    g x σ B fun σ2 H2 => tb { D with nx := Pn, ct := Pn, bk := D.nx } σ2 H2 := by
  unfold loopF at p
  cases e : m d ρ with
  | none =>
    rw [e] at p
    exact p.elim
  | some ρ1 =>
    rw [e] at p
    refine hg h A B s x d σ ρ ρ1 _ g0 S dx e fun σ1 _ S1 => hb h A B s σ1 ρ1 _ g0 S1 ?_
    cases eb : body ρ1 s with
    | ok f s2 =>
      cases f with
      | nx ρ2 =>
        simp only [eb] at p
        exact fun σ' A' B' st g' S' => next σ' A' B' s2 ρ2 st g' S' (PostS.step st p)
      | ct ρ2 =>
        simp only [eb] at p
        exact fun σ' A' B' st g' S' => next σ' A' B' s2 ρ2 st g' S' (PostS.step st p)
      | bk ρ2 =>
        simp only [eb] at p
        exact p
      | rt d2 =>
        simp only [eb] at p
        exact p
    | err c fs ρ2 s2 =>
      simp only [eb] at p
      exact p
    | bad =>
      simp only [eb] at p
      exact p
theorem rangeD_len (lo : Int) (n : Nat) : (rangeD lo n).length = n := by
  unfold rangeD
  rw [List.length_map, List.length_range]
theorem rangeD_get {lo : Int} {n i : Nat} (hi : i < n) : (rangeD lo n)[i]? = some (.int (lo + i)) := by
  unfold rangeD
  rw [List.getElem?_map, List.getElem?_range hi]
  rfl
theorem for_rng {h : Ent} {A B : Hp} {s : Hd} {σ : L2.St} {ρ : Env'} {D : Ends} {lo : Int} {n : Nat} (hg : SG K mg js g m) (hb : SS K mg Wx tb body) (g1 : G h A B s) (S1 : Slots K mg h A B σ ρ) (p1 : PostS K mg h (loopF m body (rangeD lo n) ρ s) A B Wx D) :
    ∃ W : Nat → Nat → L2.St → Hp → Prop, (∃ m, W 0 m σ B) ∧ ∀ i m σ H, W i m σ H →
      ((Itr lo n).stop i H ∧ D.nx σ H) ∨ ((Itr lo n).go i H ∧ ∃ N : L2.St → Hp → Prop, (∀ σ' H', N σ' H' → ∃ m', m' < m ∧ W (i + 1) m' σ' H') ∧ ∀ x H', (Itr lo n).yld i H x H' → g x σ H' fun σ2 H2 => tb { D with nx := N, ct := N, bk := D.nx } σ2 H2) := by
  refine for_range (fun i σ' H' => ∃ A' s' ρ', Same A A' ∧ G h A' H' s' ∧ Slots K mg h A' H' σ' ρ' ∧ PostS K mg h (loopF m body ((rangeD lo n).drop i) ρ' s') A' H' Wx D)
    ⟨A, s, ρ, Same.refl _, g1, S1, p1⟩ (fun i σ' H' hi ⟨A', s', ρ', st', g', S', p'⟩ => ?_) (fun σ' H' ⟨A', s', ρ', st', g', S', p'⟩ => ?_)
  · rw [drop_cons (rangeD_get hi)] at p'
    exact turn_ok hg hb g' S' (.int _) p' fun σ2 A2 B2 s2 ρ2 st2 g2 S2 p2 => ⟨A2, s2, ρ2, st'.trans st2, g2, S2, p2⟩
  · have e : (rangeD lo n).drop n = [] := List.drop_eq_nil_of_le (by rw [rangeD_len]; exact Nat.le_refl _)
    rw [e] at p'
    exact p' σ' A' H' (Same.refl _) g' S'
theorem DenA.one {h : Addr} {H : Hp} {vs : List V} {d : Dt} (r : DenA K mg h H vs [d]) : ∃ v, vs = [v] ∧ Den K mg h H v d := by
  cases r with
  | cons q r =>
    cases r
    exact ⟨_, rfl, q⟩
theorem DenA.two {h : Addr} {H : Hp} {vs : List V} {d e : Dt} (r : DenA K mg h H vs [d, e]) : ∃ v w, vs = [v, w] ∧ Den K mg h H v d ∧ Den K mg h H w e := by
  cases r with
  | cons q r =>
    obtain ⟨w, rfl, q2⟩ := r.one
    exact ⟨_, w, rfl, q, q2⟩
end
end Mir


set_option Elab.async false
set_option linter.all false
set_option maxRecDepth 100000
namespace Mir
open PySem PySem.Spec PyProof.Rows L2
open PySem.W (Frag)

/-! ### comprehensions -/
section
theorem wipeE_length (ρ : Env') : ∀ vs : List Nat, (wipeE ρ vs).length = ρ.length
  | [] => rfl
  | v :: vs => by
    unfold wipeE
    rw [List.length_set, wipeE_length ρ vs]
variable {K : Frag} {mg : Str → Option Value}
theorem Slots.wipe {h : Ent} {H0 H : Hp} {σ : L2.St} {ρ : Env'} (S : Slots K mg h H0 H σ ρ) : ∀ vs : List Nat, Slots K mg h H0 H (L2.wipe σ vs) (wipeE ρ vs)
  | [] => S
  | v :: vs => (Slots.wipe S vs).forget none
theorem wipe_in {σ : L2.St} {i : Nat} : ∀ {vs : List Nat}, i ∈ vs → i < σ.length → (L2.wipe σ vs)[i]? = some none
  | [], hi, _ => by cases hi
  | v :: vs, hi, hl => by
    show ((L2.wipe σ vs).set v none)[i]? = some none
    by_cases e : v = i
    · subst e
      exact List.getElem?_set_self (by rw [wipe_length]; exact hl)
    · rw [List.getElem?_set_ne e]
      rcases List.mem_cons.mp hi with z | z
      · exact absurd z.symm e
      · exact wipe_in z hl
theorem wipe_out' {σ : L2.St} {i : Nat} : ∀ {vs : List Nat}, i ∉ vs → (L2.wipe σ vs)[i]? = σ[i]?
  | [], _ => rfl
  | v :: vs, hi => by
    show ((L2.wipe σ vs).set v none)[i]? = σ[i]?
    rw [List.getElem?_set_ne fun z => hi (by rw [z]; exact List.mem_cons_self), wipe_out' fun z => hi (List.mem_cons_of_mem _ z)]
theorem wipe_off {σ σ2 : L2.St} {js vs : List Nat} (hs : ∀ j ∈ js, j ∈ vs) (o : OffIx js (L2.wipe σ vs) σ2) : L2.wipe σ2 vs = L2.wipe σ vs := by
  have hl : σ2.length = σ.length := by rw [o.1, wipe_length]
  apply List.ext_getElem?
  intro i
  by_cases hi : i ∈ vs
  · by_cases hb : i < σ.length
    · rw [wipe_in hi hb, wipe_in hi (by rw [hl]; exact hb)]
    · rw [List.getElem?_eq_none (by rw [wipe_length, hl]; omega), List.getElem?_eq_none (by rw [wipe_length]; omega)]
  · rw [wipe_out' hi, o.2 i fun z => hi (hs i z), wipe_out' hi]
end
theorem same_upd' {H : Hp} {p : Addr} {o : HO} (h : H p = none) : Same H (upd H p o) := fun b x e => by
  rw [upd_ne (ne_of_none e h)]
  exact e
abbrev WF : WX := fun _ _ _ _ => False
section
variable {K : Frag} {mg : Str → Option Value} {Wx : WX} {ta : TE} {a b : ME} {tt : TT} {mt : MT} {js vs : List Nat} {g : TG} {m : GM}
theorem Post.noErr {α β δ : Type} {h : Ent} {H0 H : Hp} {PF : R δ → Prop} (hbad : PF .bad → False) {rel1 : Hp → α → β → Prop} {r : R β} {k : β → Hd → R δ} {Q1 : α → Hp → Prop} (p : PF ((noErr r).bind k))
    (f : ∀ b s a H0' H', Step h.a H0 H H0' H' → G h.a H0' H' s → rel1 H0' a b → PF (k b s) → Q1 a H') : Post K mg h rel1 r H0 H WF Q1 := by
  cases r with
  | ok b s => exact fun a A B st g q => f b s a A B st g q p
  | err c fs ρ s => exact (hbad p).elim
  | bad => exact (hbad p).elim
theorem Post.bindF {α β δ : Type} {h : Ent} {H0 H : Hp} {PF : R δ → Prop} (hbad : PF .bad → False) (herr : ∀ c fs ρ s, PF (.err c fs ρ s) → ErrP K mg h H0 c fs ρ s Wx) {rel1 : Hp → α → β → Prop} {r : R β} {k : β → Hd → R δ} {Q1 : α → Hp → Prop} (p : PF (r.bind k))
    (f : ∀ b s a H0' H', Step h.a H0 H H0' H' → G h.a H0' H' s → rel1 H0' a b → PF (k b s) → Q1 a H') : Post K mg h rel1 r H0 H Wx Q1 := by
  cases r with
  | ok b s => exact fun a A B st g q => f b s a A B st g q p
  | err c fs ρ s => exact herr _ _ _ _ p
  | bad => exact (hbad p).elim
/-- the word of a comprehension's loop: D the new list, not yet among the data -/
def CW (K : Frag) (mg : Str → Option Value) (PF : R Dt → Prop) (m : GM) (mt : MT) (a : ME) (vs : List Nat) (h : Ent) (A B : Hp) (ρ : Env') (D : Addr) (ds : List Dt) (B' : Hp) : Prop :=
  ∃ (A' : Hp) (s' : Hd) (acc : List Dt) (vv : List V), Step h A B A' B' ∧ G h A' B' s' ∧ B D = none ∧ A' D = none ∧ ¬ isH h B' D ∧ B' D = some (.lst vv) ∧ DenA K mg h A' vv acc ∧ PF (loopC m mt a vs ds acc ρ s')
theorem cw_turn {h : Ent} {A B B' : Hp} {σ : L2.St} {ρ : Env'} {D : Addr} {PF : R Dt → Prop} (hbad : PF .bad → False) {x : V} {d : Dt} {ds : List Dt} (hg : SG K mg js g m) (hv : ∀ j ∈ js, j ∈ vs) (ht : ST K mg WF tt mt) (ha : SE K mg WF ta a) (S : Slots K mg h A B σ ρ)
    (w : CW K mg PF m mt a vs h A B ρ D (d :: ds) B') (dx : ∀ A', Same A A' → Den K mg h A' x d) :
    g x (L2.wipe σ vs) B' fun σ2 H2 => L2.wipe σ2 vs = L2.wipe σ vs ∧ tt σ2 H2 fun b H3 =>
      if b = true then ta σ2 H3 fun y H4 => ∃ acc, H4 D = some (.lst acc) ∧ acc.length < sizeLine ∧ CW K mg PF m mt a vs h A B ρ D ds (upd H4 D (.lst (acc ++ [y]))) else CW K mg PF m mt a vs h A B ρ D ds H3 := by
  obtain ⟨A', s', acc, vv, st, g0, hB, hD, nD, eD, da, p⟩ := w
  unfold loopC at p
  cases e : m d (wipeE ρ vs) with
  | none =>
    rw [e] at p
    exact (hbad p).elim
  | some ρ1 =>
    simp only [e] at p
    refine hg h A' B' s' x d _ _ ρ1 _ g0 ((S.step st).wipe vs) (dx A' st.s0) e fun σ1 o1 S1 => ⟨wipe_off hv o1, ht h A' B' s' σ1 ρ1 _ g0 S1 (Post.noErr hbad p fun c s1 c' A2 B2 st2 g2 ec p2 => ?_)⟩
    have ec : c' = c := ec
    subst ec
    have f2 := st2.fr D _ eD hD nD
    cases c' with
    | false => exact ⟨A2, s1, acc, vv, st.trans st2, g2, hB, f2.2.1, f2.2.2, f2.1, da.mono st2.s0, p2⟩
    | true =>
      show ta σ1 B2 _
      rw [if_pos rfl] at p2
      refine ha h A2 B2 s1 σ1 ρ1 _ g2 (S1.step st2) (Post.noErr hbad p2 fun z s3 y A3 B3 st3 g3 dy p3 => ?_)
      have f3 := st3.fr D _ f2.1 f2.2.1 f2.2.2
      by_cases c : sizeOk acc.length
      · rw [if_pos c] at p3
        refine ⟨vv, f3.1, by rw [da.len]; exact c.lt, ?_⟩
        obtain ⟨gl, a1, a2, a3, a4⟩ := g3.gl
        have n1 : h ≠ D := fun z => f3.2.2 (.inl z.symm)
        have n2 : gl ≠ D := fun z => f3.2.2 (.inr ⟨_, by rw [← z]; exact a3⟩)
        have nH : ∀ q, isH h (upd B3 D (.lst (vv ++ [y]))) q → isH h B3 q := fun q w => by
          rcases w with w | ⟨r, w⟩
          · exact .inl w
          · rw [upd_ne n1] at w
            exact .inr ⟨r, w⟩
        have st4 : Step h A B A3 (upd B3 D (.lst (vv ++ [y]))) := ⟨(st.trans (st2.trans st3)).s0, fun q u x1 x2 x3 => by
          have nq : q ≠ D := ne_of_none x1 hB
          obtain ⟨y1, y2, y3⟩ := (st.trans (st2.trans st3)).fr q u x1 x2 x3
          exact ⟨by rw [upd_ne nq]; exact y1, y2, fun w => y3 (nH q w)⟩⟩
        refine ⟨A3, s3, acc ++ [z], vv ++ [y], st4, ⟨fun q u w => ?_, g3.h0, gl, a1, a2, by rw [upd_ne n1]; exact a3, by rw [upd_ne n2]; exact a4⟩, hB, f3.2.1, fun w => f3.2.2 (nH D w), upd_same, ((da.mono st2.s0).mono st3.s0).append (.cons dy .nil), p3⟩
        rw [upd_ne fun z => by rw [z, f3.2.1] at w; cases w]
        exact g3.ex _ _ w
      · rw [if_neg c] at p3
        exact (hbad p3).elim
theorem cw_start {h : Ent} {A B : Hp} {s : Hd} {ρ : Env'} {D : Addr} {PF : R Dt → Prop} {ds : List Dt} (g0 : G h A B s) (hD : B D = none) (p : PF (loopC m mt a vs ds [] ρ s)) : CW K mg PF m mt a vs h A B ρ D ds (upd B D (.lst [])) := by
  obtain ⟨g1, st⟩ := g0.side (o := .lst []) hD
  obtain ⟨gl, a1, a2, a3, a4⟩ := g0.gl
  have n1 : h ≠ D := ne_of_none a3 hD
  have n2 : gl ≠ D := ne_of_none a4 hD
  refine ⟨A, s, [], [], st, g1, hD, g0.ex.free hD, fun w => ?_, upd_same, .nil, p⟩
  rcases w with w | ⟨r, w⟩
  · exact n1 w.symm
  · rw [upd_ne n1, a3] at w
    cases w
    exact n2 rfl
/-- behind the last turn: the new list is nobody's yet -/
def CWFin (K : Frag) (mg : Str → Option Value) (PF : R Dt → Prop) (h : Ent) (A B : Hp) (Q : VK) : Prop := ∀ (D : Addr) (A' B' : Hp) (s' : Hd) (acc : List Dt) (vv : List V), B D = none → Step h.a A B A' B' → G h.a A' B' s' → A' D = none → ¬ isH h.a B' D → B' D = some (.lst vv) → DenA K mg h.a A' vv acc → PF (.ok (.lst acc) s') → Q (.ref D) B'
theorem cw_end {h : Ent} {A B B' : Hp} {ρ : Env'} {D : Addr} {PF : R Dt → Prop} {Q : VK} (fin : CWFin K mg PF h A B Q) (w : CW K mg PF m mt a vs h A B ρ D [] B') : Q (.ref D) B' := by
  obtain ⟨A', s', acc, vv, st, g0, hB, hD, nD, eD, da, p⟩ := w
  exact fin D A' B' s' acc vv hB st g0 hD nD eD da p
/-- it becomes data -/
theorem fin_den {h : Ent} {A B : Hp} {Q : VK} : CWFin K mg (fun r => Post K mg h (Den K mg h.a) r A B Wx Q) h A B Q := by
  intro D A' B' s' acc vv hB st g0 hD nD eD da p
  have e0 : Same A' (upd A' D (.lst vv)) := same_upd' hD
  refine p (.ref D) (upd A' D (.lst vv)) B' ⟨st.s0.trans e0, fun q u x1 x2 x3 => ?_⟩ ⟨fun q u x => ?_, ?_, ?_⟩ (.lst upd_same (da.mono e0))
  · obtain ⟨y1, y2, y3⟩ := st.fr q u x1 x2 x3
    exact ⟨y1, by rw [upd_ne (ne_of_none x1 hB)]; exact y2, y3⟩
  · by_cases c : q = D
    · subst c
      rw [upd_same] at x
      rw [eD]
      exact x
    · rw [upd_ne c] at x
      exact g0.ex _ _ x
  · rw [upd_ne fun z => nD (.inl z.symm)]
    exact g0.h0
  · obtain ⟨gl, a1, a2, a3, a4⟩ := g0.gl
    exact ⟨gl, by rw [upd_ne fun z => nD (.inr ⟨_, by rw [← z]; exact a3⟩)]; exact a1, a2, a3, a4⟩
theorem lc_rng {h : Ent} {A B : Hp} {s : Hd} {σ : L2.St} {ρ : Env'} {Q : VK} {PF : R Dt → Prop} (hbad : PF .bad → False) (fin : CWFin K mg PF h A B Q) {lo : Int} {n : Nat} (hg : SG K mg js g m) (hv : ∀ j ∈ js, j ∈ vs) (ht : ST K mg WF tt mt) (ha : SE K mg WF ta a) (g1 : G h A B s) (S1 : Slots K mg h A B σ ρ)
    (p1 : PF (loopC m mt a vs (rangeD lo n) [] ρ s)) (D : Addr) (hD : B D = none) :
    ∃ W : Nat → Nat → Hp → Prop, (∃ m, W 0 m (upd B D (.lst []))) ∧ ∀ i m H, W i m H →
      ((Itr lo n).stop i H ∧ Q (.ref D) H) ∨ ((Itr lo n).go i H ∧ ∃ Nx : Hp → Prop, (∀ H', Nx H' → ∃ m', m' < m ∧ W (i + 1) m' H') ∧ ∀ x H', (Itr lo n).yld i H x H' → g x (L2.wipe σ vs) H' fun σ2 H2 => L2.wipe σ2 vs = L2.wipe σ vs ∧ tt σ2 H2 fun b H3 =>
        if b = true then ta σ2 H3 fun y H4 => ∃ acc, H4 D = some (.lst acc) ∧ acc.length < sizeLine ∧ Nx (upd H4 D (.lst (acc ++ [y]))) else Nx H3) := by
  refine lc_range (Qd := fun H => Q (.ref D) H) (fun i H' => CW K mg PF m mt a vs h A B ρ D ((rangeD lo n).drop i) H') (cw_start g1 hD p1) (fun i H' hi w => ?_) (fun H' w => ?_)
  · rw [drop_cons (rangeD_get hi)] at w
    exact cw_turn hbad hg hv ht ha S1 w fun A' e => .int _
  · have e : (rangeD lo n).drop n = [] := List.drop_eq_nil_of_le (by rw [rangeD_len]; exact Nat.le_refl _)
    rw [e] at w
    exact cw_end fin w
theorem st_yes : ST K mg Wx tYes mYes := fun h H0 H s σ ρ Q g S p => p true H0 H (.refl _ _) g rfl
end
/-- what a loop or a comprehension walks, and the data that come -/
structure SI (K : Frag) (mg : Str → Option Value) (Wx : WX) (wi : TI) (mi : MA) : Prop where
  for_ : ∀ {js : List Nat} {g : TG} {m : GM} {tb : TS} {body : MS}, SG K mg js g m → SS K mg Wx tb body → SS K mg Wx (tFor wi g tb) (mFor m mi body)
  lcF : ∀ {js : List Nat} {g : TG} {m : GM} {tt : TT} {mt : MT} {ta : TE} {a : ME} {vs : List Nat}, SG K mg js g m → (∀ j ∈ js, j ∈ vs) → ST K mg WF tt mt → SE K mg WF ta a →
    ∀ (h : Ent) (H0 H : Hp) (s : Hd) (σ : L2.St) (ρ : Env') (Q : VK) (PF : R Dt → Prop), (PF .bad → False) → (∀ c fs ρ s, PF (.err c fs ρ s) → ErrP K mg h H0 c fs ρ s Wx) → (∀ A B, Step h.a H0 H A B → CWFin K mg PF h A B Q) → G h.a H0 H s → Slots K mg h H0 H σ ρ → PF (mLc m mi mt a vs ρ s) → tLc wi g tt ta vs σ H Q
theorem SI.lc {K : Frag} {mg : Str → Option Value} {Wx : WX} {wi : TI} {mi : MA} (I : SI K mg Wx wi mi) {js : List Nat} {g : TG} {m : GM} {tt : TT} {mt : MT} {ta : TE} {a : ME} {vs : List Nat} (hg : SG K mg js g m) (hv : ∀ j ∈ js, j ∈ vs) (ht : ST K mg WF tt mt) (ha : SE K mg WF ta a) : SE K mg Wx (tLc wi g tt ta vs) (mLc m mi mt a vs) := by
  intro h H0 H s σ ρ Q g0 S p
  refine I.lcF hg hv ht ha h H0 H s σ ρ Q (fun r => Post K mg h (Den K mg h.a) r H0 H Wx Q) (fun z => z.elim) (fun c fs ρ s z => z) (fun A B st => ?_) g0 S p
  intro D A' B' s' acc vv hB st2 g2 hD nD eD da p2
  exact fin_den (Wx := Wx) D A' B' s' acc vv hB st2 g2 hD nD eD da (Post.step st p2)
section
variable {K : Frag} {mg : Str → Option Value} {Wx : WX} {tl tl2 : TE} {b b2 : ME}
theorem si_seq (hb : SE K mg Wx tl b) : SI K mg Wx (iSeq K tl) (mSeqI b) where
  for_ := by
    intro js g m tb body hg hb2 h H0 H s σ ρ D g0 S p
    have p : PostS K mg h (((b ρ s).bind _).bind _) H0 H Wx D := p
    rw [R.bind_assoc] at p
    refine hb h H0 H s σ ρ _ g0 S (PostS.bind p fun d s1 x A B st g1 dx p1 => ?_)
    have S1 := S.step st
    cases dx with
    | @lst a xs ds qa ra =>
      refine .inl ⟨a, rfl, ⟨xs, SqL.of (g1.ex _ _ qa)⟩, for_list (K := K) (a := a) (xs := xs) (fun i σ' H' => ∃ A' s' ρ', Same A A' ∧ G h A' H' s' ∧ Slots K mg h A' H' σ' ρ' ∧ PostS K mg h (loopF m body (ds.drop i) ρ' s') A' H' Wx D)
        ⟨A, s1, ρ, Same.refl _, g1, S1, p1⟩ (fun i σ' H' _ ⟨A', s', ρ', st', g', _, _⟩ => SqL.of (g'.ex _ _ (st' _ _ qa))) (fun i x σ' H' hx ⟨A', s', ρ', st', g', S', p'⟩ => ?_) (fun σ' H' ⟨A', s', ρ', st', g', S', p'⟩ => ?_)⟩
      · obtain ⟨d, hd, dx⟩ := ra.getV hx
        rw [drop_cons hd] at p'
        exact turn_ok hg hb2 g' S' (dx.mono st') p' fun σ2 A2 B2 s2 ρ2 st2 g2 S2 p2 => ⟨A2, s2, ρ2, st'.trans st2, g2, S2, p2⟩
      · rw [ra.len, List.drop_length] at p'
        exact p' σ' A' H' (Same.refl _) g' S'
    | @tup a xs ds qa ra =>
      refine .inr ⟨a, rfl, ⟨xs, sqt_mono g1.ex qa⟩, for_tup (K := K) (a := a) (xs := xs) (fun i σ' H' => ∃ A' s' ρ', Same A A' ∧ G h A' H' s' ∧ Slots K mg h A' H' σ' ρ' ∧ PostS K mg h (loopF m body (ds.drop i) ρ' s') A' H' Wx D)
        ⟨A, s1, ρ, Same.refl _, g1, S1, p1⟩ (fun i σ' H' _ ⟨A', s', ρ', st', g', _, _⟩ => sqt_mono g'.ex (sqt_mono st' qa)) (fun i x σ' H' hx ⟨A', s', ρ', st', g', S', p'⟩ => ?_) (fun σ' H' ⟨A', s', ρ', st', g', S', p'⟩ => ?_)⟩
      · obtain ⟨d, hd, dx⟩ := ra.getV hx
        rw [drop_cons hd] at p'
        exact turn_ok hg hb2 g' S' (dx.mono st') p' fun σ2 A2 B2 s2 ρ2 st2 g2 S2 p2 => ⟨A2, s2, ρ2, st'.trans st2, g2, S2, p2⟩
      · rw [ra.len, List.drop_length] at p'
        exact p' σ' A' H' (Same.refl _) g' S'
    | _ => exact p1.elim
  lcF := by
    intro js g m tt mt ta a vs hg hv ht ha h H0 H s σ ρ Q PF hbad herr fin0 g0 S p
    have p : PF (((b ρ s).bind _).bind _) := p
    rw [R.bind_assoc] at p
    refine hb h H0 H s σ ρ _ g0 S (Post.bindF hbad herr p fun d s1 x A B st g1 dx p1 => ?_)
    have S1 := S.step st
    have fin := fin0 A B st
    cases dx with
    | @lst aa xs ds qa ra =>
      refine .inl ⟨aa, rfl, ⟨xs, SqL.of (g1.ex _ _ qa)⟩, fun D hD => lc_list (K := K) (a := aa) (xs := xs) (fun i H' => CW K mg PF m mt a vs h A B ρ D (ds.drop i) H') (cw_start g1 hD p1) (fun i H' _ w => ?_) (fun i x H' hx w => ?_) (fun H' w => ?_)⟩
      · obtain ⟨A', _, _, _, st', g', _⟩ := w
        exact SqL.of (g'.ex _ _ (st'.s0 _ _ qa))
      · obtain ⟨d, hd, dx⟩ := ra.getV hx
        rw [drop_cons hd] at w
        exact cw_turn hbad hg hv ht ha S1 w fun A' e => dx.mono e
      · rw [ra.len, List.drop_length] at w
        exact cw_end fin w
    | @tup aa xs ds qa ra =>
      refine .inr ⟨aa, rfl, ⟨xs, sqt_mono g1.ex qa⟩, fun D hD => lc_tup (K := K) (a := aa) (xs := xs) (fun i H' => CW K mg PF m mt a vs h A B ρ D (ds.drop i) H') (cw_start g1 hD p1) (fun i H' _ w => ?_) (fun i x H' hx w => ?_) (fun H' w => ?_)⟩
      · obtain ⟨A', _, _, _, st', g', _⟩ := w
        exact sqt_mono g'.ex (sqt_mono st'.s0 qa)
      · obtain ⟨d, hd, dx⟩ := ra.getV hx
        rw [drop_cons hd] at w
        exact cw_turn hbad hg hv ht ha S1 w fun A' e => dx.mono e
      · rw [ra.len, List.drop_length] at w
        exact cw_end fin w
    | _ => exact (hbad p1).elim
theorem si_rng1 (hb : SE K mg Wx tl b) : SI K mg Wx (iRng1 (tCons tl tNil)) (mRng1 b) where
  for_ := by
    intro js g m tb body hg hb2 h H0 H s σ ρ D g0 S p
    have p : PostS K mg h (((b ρ s).bind _).bind _) H0 H Wx D := p
    rw [R.bind_assoc] at p
    refine hb h H0 H s σ ρ _ g0 S (PostS.bind p fun d s1 x A B st g1 dx p1 => ?_)
    cases dx with
    | int j =>
      by_cases c : rngOk j
      · simp only [if_pos c] at p1
        exact ⟨j, rfl, by have := c.1; omega, by have := c.2; omega, for_rng hg hb2 g1 (S.step st) p1⟩
      · simp only [if_neg c] at p1
        exact p1.elim
    | _ => exact p1.elim
  lcF := by
    intro js g m tt mt ta a vs hg hv ht ha h H0 H s σ ρ Q PF hbad herr fin0 g0 S p
    have p : PF (((b ρ s).bind _).bind _) := p
    rw [R.bind_assoc] at p
    refine hb h H0 H s σ ρ _ g0 S (Post.bindF hbad herr p fun d s1 x A B st g1 dx p1 => ?_)
    cases dx with
    | int j =>
      by_cases c : rngOk j
      · simp only [if_pos c] at p1
        exact ⟨j, rfl, by have := c.1; omega, by have := c.2; omega, fun D hD => lc_rng hbad (fin0 A B st) hg hv ht ha g1 (S.step st) p1 D hD⟩
      · simp only [if_neg c] at p1
        exact (hbad p1).elim
    | _ => exact (hbad p1).elim
theorem si_rng2 (hb : SE K mg Wx tl b) (hb2 : SE K mg Wx tl2 b2) : SI K mg Wx (iRng2 (tCons tl (tCons tl2 tNil))) (mRng2 b b2) where
  for_ := by
    intro js g m tb body hg hbb h H0 H s σ ρ D g0 S p
    have p : PostS K mg h (((b ρ s).bind _).bind _) H0 H Wx D := p
    rw [R.bind_assoc] at p
    refine hb h H0 H s σ ρ _ g0 S (PostS.bind p fun d s1 x A B st g1 dx p1 => ?_)
    rw [R.bind_assoc] at p1
    refine hb2 h A B s1 σ ρ _ g1 (S.step st) (PostS.bind p1 fun d2 s2 x2 A2 B2 st2 g2 dx2 p2 => ?_)
    cases dx with
    | int i =>
      cases dx2 with
      | int j =>
        by_cases c : rngOk i ∧ rngOk j
        · simp only [if_pos c] at p2
          obtain ⟨⟨c1, c2⟩, c3, c4⟩ := c
          exact ⟨i, j, rfl, ⟨by omega, by omega, by omega, by omega⟩, for_rng hg hbb g2 (S.step (st.trans st2)) p2⟩
        · simp only [if_neg c] at p2
          exact p2.elim
      | _ => exact p2.elim
    | _ => cases dx2 <;> exact p2.elim
  lcF := by
    intro js g m tt mt ta a vs hg hv ht ha h H0 H s σ ρ Q PF hbad herr fin0 g0 S p
    have p : PF (((b ρ s).bind _).bind _) := p
    rw [R.bind_assoc] at p
    refine hb h H0 H s σ ρ _ g0 S (Post.bindF hbad herr p fun d s1 x A B st g1 dx p1 => ?_)
    rw [R.bind_assoc] at p1
    refine hb2 h A B s1 σ ρ _ g1 (S.step st) (Post.bindF hbad (fun c fs ρ s z => ErrP.step st.s0 (herr c fs ρ s z)) p1 fun d2 s2 x2 A2 B2 st2 g2 dx2 p2 => ?_)
    cases dx with
    | int i =>
      cases dx2 with
      | int j =>
        by_cases c : rngOk i ∧ rngOk j
        · simp only [if_pos c] at p2
          obtain ⟨⟨c1, c2⟩, c3, c4⟩ := c
          exact ⟨i, j, rfl, ⟨by omega, by omega, by omega, by omega⟩, fun D hD => lc_rng hbad (fin0 A2 B2 (st.trans st2)) hg hv ht ha g2 (S.step (st.trans st2)) p2 D hD⟩
        · simp only [if_neg c] at p2
          exact (hbad p2).elim
      | _ => exact (hbad p2).elim
    | _ => cases dx2 <;> exact (hbad p2).elim
end
end Mir


set_option Elab.async false
set_option linter.all false
set_option maxRecDepth 100000
namespace Mir
open PySem PySem.Spec PyProof.Rows L2
open PySem.W (Frag)

/-! ### texts: statements -/
section
variable {X : Cx} {Wx : WX} {a b c e : Expr} {ma mb : ME} {mt : MT} {as : MA} {st : Stmt} {rest sts sts2 : List Stmt} {ms mu : MS} {pos p : Pos} {es : List Expr}
theorem qss_nil : QSs X Wx [] mNext := ⟨_, pss_nil, ss_next⟩
theorem qss_cons (h1 : QS X Wx st ms) (h2 : QSs X Wx rest mu) : QSs X Wx (st :: rest) (mSeq ms mu) := by
  obtain ⟨t, p, s⟩ := h1
  obtain ⟨t2, p2, s2⟩ := h2
  exact ⟨_, pss_cons p p2, ss_seq s s2⟩
theorem qss_one (h1 : QS X Wx st ms) : QSs X Wx [st] ms := by
  obtain ⟨t, p, s⟩ := h1
  exact ⟨_, pss_one p, s⟩
theorem qs_set (i : Nat) {x : Str} {pos' : Pos} (hN : X.N.Nodup) (he : QE X Wx e ma) (hi : X.N[i]? = some x := by rfl) (hx : Loc X.env.scope x := by first | exact Or.inl rfl | exact Or.inr rfl) (hs : swapsWith e (some (.Name x pos')) pos.line X.env = pure false := by rfl)
    (hf : X.fn x = true ∨ X.env.scope.names.lookup x = some .local := by first | exact .inl rfl | exact .inr rfl) : QS X Wx (.Assign [.Name x pos'] e pos) (mSet i ma) := by
  obtain ⟨t, q, s⟩ := he
  exact ⟨_, ps_set hN hi hx q hs hf, ss_set s⟩
theorem qs_ret (he : QE X Wx e ma) : QS X Wx (.Return (some e) pos) (mRet ma) := by
  obtain ⟨t, q, s⟩ := he
  exact ⟨_, ps_ret q, ss_ret s⟩
theorem qs_retN : QS X Wx (.Return none pos) mRetN := ⟨_, ps_retN, ss_retN⟩
theorem qs_pass : QS X Wx (.Pass pos) mNext := ⟨_, ps_pass, ss_next⟩
theorem qs_break : QS X Wx (.Break pos) mBreak := ⟨_, ps_break, ss_break⟩
theorem qs_continue : QS X Wx (.Continue pos) mCont := ⟨_, ps_continue, ss_cont⟩
theorem qs_expr (he : QE X Wx e ma) (hs : swapsWith e none pos.line X.env = pure false := by rfl) : QS X Wx (.Expr e pos) (mDrop ma) := by
  obtain ⟨t, q, s⟩ := he
  exact ⟨_, ps_expr q hs, ss_drop s⟩
theorem qs_if (hc : QT X Wx c mt) (h1 : QSs X Wx sts ms) (h2 : QSs X Wx sts2 mu) : QS X Wx (.If c sts sts2 pos) (mIfS mt ms mu) := by
  obtain ⟨t, q, s⟩ := hc
  obtain ⟨t1, q1, s1⟩ := h1
  obtain ⟨t2, q2, s2⟩ := h2
  exact ⟨_, ps_if q q1 q2, ss_if s s1 s2⟩
theorem qs_par (i j : Nat) {x y : Str} {px py pt : Pos} {kt k2 pt2} (hc : X.calm = true) (hN : X.N.Nodup) (hij : i ≠ j) (ha : QA X Wx [a, b] as) (hi : X.N[i]? = some x := by rfl) (hj : X.N[j]? = some y := by rfl)
    (hx : X.env.scope.names.lookup x = some .local := by rfl) (hy : X.env.scope.names.lookup y = some .local := by rfl)
    (hw : swappedStores [.Tuple [.Name x px, .Name y py] kt pt] (.Tuple [a, b] k2 pt2) X.env = pure (some [x, y]) := by rfl)
    (hs : swapsWithSole [.Tuple [.Name x px, .Name y py] kt pt] (.Tuple [a, b] k2 pt2) pos.line X.env = pure false := by rfl) :
    QS X Wx (.Assign [.Tuple [.Name x px, .Name y py] kt pt] (.Tuple [a, b] k2 pt2) pos) (mPar i j as) := by
  obtain ⟨t, q, s⟩ := ha
  exact ⟨_, ps_par hc hN hi hj hij hx hy q hw hs, ss_par s⟩
end

/-! ### targets -/
def QG (X : Cx) (js : List Nat) (tg : Expr) (g : TG) (m : GM) : Prop := PG X tg g ∧ SG X.K X.mg js g m
def QGs (X : Cx) (js : List Nat) (tgs : List Expr) (g : TGs) (m : GMs) : Prop := PGs X tgs g ∧ SGs X.K X.mg js g m
section
variable {X : Cx} {Wx : WX} {e tg : Expr} {es : List Expr} {ma : ME} {pos : Pos} {js ks : List Nat} {g : TG} {gs : TGs} {m : GM} {ms : GMs} {iter : Expr} {body : List Stmt} {mb : MS}
theorem qg_name (j : Nat) {x : Str} (hN : X.N.Nodup) (hi : X.N[j]? = some x := by rfl) (hx : Loc X.env.scope x := by first | exact Or.inl rfl | exact Or.inr rfl) (hf : X.fn x = true ∨ X.env.scope.names.lookup x = some .local := by first | exact .inl rfl | exact .inr rfl) : QG X [j] (.Name x pos) (gName j) (gmName j) :=
  ⟨pg_name hN hi hx hf, sg_name⟩
theorem qgs_nil : QGs X [] [] gNil gmNil := ⟨pgs_nil, sgs_nil⟩
theorem qgs_cons (h1 : QG X js e g m) (h2 : QGs X ks es gs ms) (hs : (assignEach (e :: es) X.env).map (·.2) = assign e X.env :: (assignEach es X.env).map (·.2) := by rfl) : QGs X (js ++ ks) (e :: es) (gCons g gs) (gmCons m ms) :=
  ⟨pgs_cons h1.1 h2.1 hs, sgs_cons h1.2 h2.2⟩
theorem qg_seq {k : Nat} (n : Nat) (hc : X.calm = true) (h : QGs X js es gs ms) (hn : (assignEach es X.env).length = n := by rfl) (hst : (assignEach es X.env).findIdx? (·.1) = none := by rfl) : QG X js (.Tuple es k pos) (gSeq X.K n gs) (gmSeq n ms) :=
  ⟨pg_seq hc h.1 hn hst, sg_seq h.2⟩
theorem qs_asg (he : QE X Wx e ma) (hg : QG X js tg g m) (hs : swapsWithSole [tg] e pos.line X.env = pure false := by rfl) (hw : swappedStores [tg] e X.env = pure none := by rfl)
    (h1 : (assignEach [tg] X.env).map (·.2) = [assign tg X.env] := by rfl) : QS X Wx (.Assign [tg] e pos) (mAsg m ma) := by
  obtain ⟨t, q, s⟩ := he
  exact ⟨_, ps_asg q hg.1 hs hw h1, ss_asg s hg.2⟩
/-- what is walked -/
def QI (X : Cx) (Wx : WX) (iter : Expr) (mi : MA) : Prop := ∃ wi, (∀ tg, PI X tg iter wi) ∧ SI X.K X.mg Wx wi mi ∧ ∀ x, foldedSetIterable iter X.env x = pure x
variable {e2 : Expr} {ma2 : ME} {mi : MA} {p : Pos}
theorem qi_seq (hi : QE X Wx iter ma) (hs : ∀ x, foldedSetIterable iter X.env x = pure x := by intro _; rfl) : QI X Wx iter (mSeqI ma) := by
  obtain ⟨t, q, s⟩ := hi
  exact ⟨_, fun _ => pi_seq q, si_seq s, hs⟩
theorem qi_rng1 (hgr : Gl X "range") (hm : X.mg "range" = none) (hi : QE X Wx e ma) (hse : starEach [e] X.env = [(false, eval e X.env)] := by rfl) (hs : ∀ x, foldedSetIterable (.Call (.Name "range" p) [e] [] pos) X.env x = pure x := by intro _; rfl) : QI X Wx (.Call (.Name "range" p) [e] [] pos) (mRng1 ma) := by
  obtain ⟨t, q, s⟩ := hi
  exact ⟨_, fun _ => pi_range1 hgr hm (pa_cons q pa_nil hse) hse, si_rng1 s, hs⟩
theorem qi_rng2 (hgr : Gl X "range") (hm : X.mg "range" = none) (hi : QE X Wx e ma) (hi2 : QE X Wx e2 ma2) (hse : starEach [e, e2] X.env = [(false, eval e X.env), (false, eval e2 X.env)] := by rfl) (hse2 : starEach [e2] X.env = [(false, eval e2 X.env)] := by rfl)
    (hs : ∀ x, foldedSetIterable (.Call (.Name "range" p) [e, e2] [] pos) X.env x = pure x := by intro _; rfl) : QI X Wx (.Call (.Name "range" p) [e, e2] [] pos) (mRng2 ma ma2) := by
  obtain ⟨t, q, s⟩ := hi
  obtain ⟨t2, q2, s2⟩ := hi2
  exact ⟨_, fun _ => pi_range2 hgr hm (pa_cons q (pa_cons q2 pa_nil hse2) (by rw [hse, hse2])) hse hse2, si_rng2 s s2, hs⟩
theorem qs_for (hp : PassesOwn (model X.prog X.w) X.A X.env X.xe) (hc : X.calm = true) (hi : QI X Wx iter mi) (hg : QG X js tg g m) (hb : QSs X Wx body mb) : QS X Wx (.For tg iter body [] pos) (mFor m mi mb) := by
  obtain ⟨wi, q, s, hs⟩ := hi
  obtain ⟨tb, qb, sb⟩ := hb
  exact ⟨_, ps_for hp hc (q _) hg.1 qb hs, s.for_ hg.2 sb⟩
end

/-! ### comprehensions: the reading that a function itself gives -/
section
variable (K : Frag) (mg : Str → Option Value) (Wx : WX)
def cE (m : ME) : TE := fun σ H Q => ∃ (h : Ent) (H0 : Hp) (s : Hd) (ρ : Env'), G h H0 H s ∧ Slots K mg h H0 H σ ρ ∧ Post K mg h (Den K mg h.a) (m ρ s) H0 H Wx Q
def cT (m : MT) : TT := fun σ H Q => ∃ (h : Ent) (H0 : Hp) (s : Hd) (ρ : Env'), G h H0 H s ∧ Slots K mg h H0 H σ ρ ∧ Post K mg h EqB (m ρ s) H0 H Wx Q
def cS (m : MS) : TS := fun D σ H => ∃ (h : Ent) (H0 : Hp) (s : Hd) (ρ : Env'), G h H0 H s ∧ Slots K mg h H0 H σ ρ ∧ PostS K mg h (m ρ s) H0 H Wx D
end
section
variable {K : Frag} {mg : Str → Option Value} {X : Cx} {Wx : WX} {e : Expr} {sts : List Stmt} {ma : ME} {mt : MT} {ms : MS}
theorem se_cE : SE K mg Wx (cE K mg Wx ma) ma := fun h H0 H s σ ρ Q g S p => ⟨h, H0, s, ρ, g, S, p⟩
theorem st_cT : ST K mg Wx (cT K mg Wx mt) mt := fun h H0 H s σ ρ Q g S p => ⟨h, H0, s, ρ, g, S, p⟩
theorem ss_cS : SS K mg Wx (cS K mg Wx ms) ms := fun h H0 H s σ ρ Q g S p => ⟨h, H0, s, ρ, g, S, p⟩
theorem QE.can (q : QE X Wx e ma) : PE X e (cE X.K X.mg Wx ma) := by
  obtain ⟨t, p, s⟩ := q
  exact ⟨fun pins sh σ H Q I ⟨h, H0, s', ρ, g, S, w⟩ => p.run pins sh σ H Q I (s h H0 H s' σ ρ Q g S w)⟩
theorem QT.can (q : QT X Wx e mt) : PT X e (cT X.K X.mg Wx mt) := by
  obtain ⟨t, p, s⟩ := q
  exact ⟨fun pins sh σ H Q I ⟨h, H0, s', ρ, g, S, w⟩ => p.run pins sh σ H Q I (s h H0 H s' σ ρ Q g S w)⟩
theorem QSs.can (q : QSs X Wx sts ms) : PSs X sts (cS X.K X.mg Wx ms) := by
  obtain ⟨t, p, s⟩ := q
  exact ⟨fun pins sh σ H D I ⟨h, H0, s', ρ, g, S, w⟩ => p.run pins sh σ H D I (s h H0 H s' σ ρ D g S w)⟩
end
section
variable {X : Cx} {Wx : WX} {elt tg iter e2 : Expr} {scope : Scope} {own : List (Str × Nat)} {pos p pos2 : Pos} {g : TG} {m : GM} {js : List Nat} {ifs : List Expr} {mt : MT} {ma mb mb2 : ME}
/-- the tests of a clause -/
def QTs (X : Cx) (ifs : List Expr) (mt : MT) : Prop := (ifs = [] ∧ mt = mYes) ∨ ∃ c, ifs = [c] ∧ QT X WF c mt
theorem qts_nil : QTs X [] mYes := .inl ⟨rfl, rfl⟩
theorem qts_one {c : Expr} (h : QT X WF c mt) : QTs X [c] mt := .inr ⟨c, rfl, h⟩
theorem QTs.can (q : QTs X ifs mt) : PTs X ifs (cT X.K X.mg WF mt) := by
  rcases q with ⟨rfl, rfl⟩ | ⟨c, rfl, q⟩
  · exact ⟨fun pins sh σ H Q I ⟨h, H0, s', ρ, g, S, w⟩ => pts_nil.run pins sh σ H Q I (w true H0 H (.refl _ _) g rfl)⟩
  · exact pts_one q.can
theorem qe_lc {mi : MA} {vs : List Nat} (hc : X.calm = true) (hN : X.N.Nodup) (hi : QI X Wx iter mi) (ok : BlkOk X.N X.env.scope scope own) (hvs : own.map (·.2) = vs) (hv : ∀ j ∈ js, j ∈ vs) (hsg : SG X.K X.mg js g m)
    (hg : ∀ (s : Shared) (H : Hp) (C : Addr) (cl : List (Str × Addr)) (fp : List Addr), PG (X.blk s H scope (compEnvC scope cl C X.env) fp) tg g)
    (ht : ∀ (s : Shared) (H : Hp) (C : Addr) (cl : List (Str × Addr)) (fp : List Addr), QTs (X.blk s H scope (compEnvC scope cl C X.env) fp) ifs mt)
    (he : ∀ (s : Shared) (H : Hp) (C : Addr) (cl : List (Str × Addr)) (fp : List Addr), QE (X.blk s H scope (compEnvC scope cl C X.env) fp) WF elt ma) :
    QE X Wx (.ListComp elt [⟨tg, iter, ifs, 0⟩] scope pos) (mLc m mi mt ma vs) := by
  subst hvs
  obtain ⟨wi, q, s, hs⟩ := hi
  exact ⟨_, pe_lc hc hN (q _) ok hg (fun s H C cl fp => (ht s H C cl fp).can) (fun s H C cl fp => (he s H C cl fp).can) hs, s.lc hsg hv st_cT se_cE⟩
/-- name = [..] -/
theorem qs_setLc {mi : MA} {vs : List Nat} (i : Nat) {y : Str} {py spos : Pos} (hc : X.calm = true) (hN : X.N.Nodup) (hi : QI X Wx iter mi) (ok : BlkOk X.N X.env.scope scope own) (hvs : own.map (·.2) = vs) (hv : ∀ j ∈ js, j ∈ vs) (hsg : SG X.K X.mg js g m)
    (hg : ∀ (s : Shared) (H : Hp) (C : Addr) (cl : List (Str × Addr)) (fp : List Addr), PG (X.blk s H scope (compEnvC scope cl C X.env) fp) tg g)
    (ht : ∀ (s : Shared) (H : Hp) (C : Addr) (cl : List (Str × Addr)) (fp : List Addr), QTs (X.blk s H scope (compEnvC scope cl C X.env) fp) ifs mt)
    (he : ∀ (s : Shared) (H : Hp) (C : Addr) (cl : List (Str × Addr)) (fp : List Addr), QE (X.blk s H scope (compEnvC scope cl C X.env) fp) WF elt ma)
    (hy : X.N[i]? = some y := by rfl) (hyl : X.env.scope.names.lookup y = some .local := by rfl) (hsw : swapsWith (.ListComp elt [⟨tg, iter, ifs, 0⟩] scope pos) (some (.Name y py)) spos.line X.env = pure true := by exact sw_true rfl rfl rfl (by decide +kernel)) :
    QS X Wx (.Assign [.Name y py] (.ListComp elt [⟨tg, iter, ifs, 0⟩] scope pos) spos) (mSet i (mLc m mi mt ma vs)) := by
  subst hvs
  obtain ⟨wi, q, s, hs⟩ := hi
  exact ⟨_, ps_setLc hc hN hy hyl hsw (q _) ok hg (fun s H C cl fp => (ht s H C cl fp).can) (fun s H C cl fp => (he s H C cl fp).can) hs, ss_set (s.lc hsg hv st_cT se_cE)⟩
end
end Mir


set_option Elab.async false
set_option linter.all false
set_option maxRecDepth 100000
namespace Mir
open PySem PySem.Spec PyProof.Rows L2
open PySem.W (Frag)

/-! ### defs -/
def startE (n : Nat) (ds : List Dt) : Env' := ds.map .dat ++ List.replicate (n - ds.length) .no
def mDef (n : Nat) (ms : MS) : List Dt → Hd → R Dt := fun ds s => match ms (startE n ds) s with
  | .ok (.nx _) s' => .ok .non s'
  | .ok (.rt d) s' => .ok d s'
  | .err c fs ρ s' => .err c fs ρ s'
  | _ => .bad
section
variable {K : Frag} {mg : Str → Option Value}
theorem slots_start {h : Ent} {H0 H : Hp} {N : List Str} {vs : List V} {ds : List Dt} (st : Step h.a h.E0 h.E H0 H) (da : DenA K mg h.a H0 vs ds) : Slots K mg h H0 H (L2.start N vs) (startE N.length ds) := by
  have l := da.len
  unfold L2.start startE
  have own : ∀ (i : Nat) (b : Sl), (ds.map Sl.dat ++ List.replicate (N.length - ds.length) Sl.no)[i]? = some b → b.mine = true → False := fun i b z m => by
    by_cases hi : i < ds.length
    · rw [List.getElem?_append_left (by rw [List.length_map]; exact hi), List.getElem?_map, List.getElem?_eq_getElem hi] at z
      cases z
      cases m
    · rw [List.getElem?_append_right (by rw [List.length_map]; omega), List.getElem?_replicate] at z
      split at z <;> cases z
      cases m
  refine ⟨by simp [l], fun i o sl a b => ?_, fun i j p x y e1 e2 m1 _ _ _ => (own i x e1 m1).elim, st⟩
  by_cases hi : i < ds.length
  · rw [List.getElem?_append_left (by rw [List.length_map]; omega), List.getElem?_map] at a
    rw [List.getElem?_append_left (by rw [List.length_map]; exact hi), List.getElem?_map, List.getElem?_eq_getElem hi] at b
    cases b
    obtain ⟨v, e1, e2⟩ := da.get (List.getElem?_eq_getElem hi)
    rw [e1] at a
    cases a
    exact e2
  · rw [List.getElem?_append_right (by rw [List.length_map]; omega), List.getElem?_replicate] at b
    split at b
    · cases b
      cases o <;> exact True.intro
    · cases b
theorem postS_of {h : Ent} {r : R Fl} {H0 H : Hp} {Q : VK} {E : XK} (p : PostC K mg h.a (match r with
    | .ok (.nx _) s' => .ok .non s'
    | .ok (.rt d) s' => .ok d s'
    | .err c fs ρ s' => .err c fs ρ s'
    | _ => .bad) h.E0 h.E E Q) : PostS K mg h r H0 H (fun c d _ H' => E c d H') { nx := fun _ H' => Q .non H', rt := Q } := by
  cases r with
  | ok f s =>
    cases f with
    | nx ρ => exact fun σ' A B st g S => p .non A B S.st g .non
    | rt d => exact p
    | bk ρ => exact p.elim
    | ct ρ => exact p.elim
  | err c fs ρ s => exact fun σ' C od A B st g S mc x => p C od A B S.st g mc x
  | bad => exact p
end
section
variable {P : Program} {w : World} {K : Frag} {mg : Str → Option Value} {base : Heap} {x qual : Str} {st : Stmt} {f : Addr} {fd : FuncData} {N ps : List Str} {k : Nat} {ms : MS}
abbrev cxD (P : Program) (w : World) (K : Frag) (mg : Str → Option Value) (base : Heap) (N : List Str) (qual : Str) (scope : Scope) (f : Addr) (cd : Value) (A : Around) (outer : List Env) (s : Shared) (H : Hp) (E : XK) : Cx := cxOf (L2.CX P w) P w K mg base N qual scope f cd A outer s H E
abbrev wE (E : XK) : WX := fun c d _ H => E c d H
theorem cx_takes {scope : Scope} {cdv : Value} {A : Around} {outer : List Env} {s : Shared} {H : Hp} {E : XK} : Takes (cxD P w K mg base N qual scope f cdv A outer s H E) (wE E) := takes_of rfl rfl rfl rfl
theorem cx_pass {scope : Scope} {cdv : Value} {A : Around} {outer : List Env} {s : Shared} {H : Hp} {E : XK} : PassesOwn (model (cxD P w K mg base N qual scope f cdv A outer s H E).prog (cxD P w K mg base N qual scope f cdv A outer s H E).w) (cxD P w K mg base N qual scope f cdv A outer s H E).A (cxD P w K mg base N qual scope f cdv A outer s H E).env (cxD P w K mg base N qual scope f cdv A outer s H E).xe := passes_of rfl
/-- a def follows its function -/
theorem okM {n nn : Nat} (F : Fun K x qual st f fd) (S : FnScope N ps (defScope st)) (hn : ps.length = n) (hN : N.length = nn)
    (hb : ∀ (cdv : Value) (A : Around) (outer : List Env) (s : Shared) (H : Hp) (E : XK), Room k (A.deeper (envOfC qual (defScope st) s.heap.objs.size f cdv)) → QSs (cxD P w K mg base N qual (defScope st) f cdv A outer s H E) (wE E) (defBody st) ms) :
    FnOk P w K mg base (L2.CX P w) (k + 1) f fd ps (spM K mg n (mDef nn ms)) := by
  subst hn
  subst hN
  refine F.okX S (fun vs H Q E h => h.1) (fun cdv A outer s H vs Q E hr h => ?_)
  obtain ⟨hl, hh, H0, s', ds, g, da, p⟩ := h
  obtain ⟨ts, q, ss⟩ := hb cdv A outer s H E hr
  exact ⟨ts, q, ss ⟨hh, H0, H, hh⟩ H0 H s' _ _ _ g (slots_start (.refl _ _) da) (postS_of (h := ⟨hh, H0, H, hh⟩) p)⟩
theorem okMD {n nn : Nat} {params : Arguments} {body : List Stmt} {scope : Scope} {dvs : List V} (F : FunD K x qual params body scope dvs [] f fd) (S : FnScope N ps scope) (hn : ps.length = n) (hN : N.length = nn)
    (hb : ∀ (cdv : Value) (A : Around) (outer : List Env) (s : Shared) (H : Hp) (E : XK), Room k (A.deeper (envOfC qual scope s.heap.objs.size f cdv)) → QSs (cxD P w K mg base N qual scope f cdv A outer s H E) (wE E) body ms) :
    FnOk P w K mg base (L2.CX P w) (k + 1) f fd ps (spM K mg n (mDef nn ms)) := by
  subst hn
  subst hN
  refine F.ok S (fun vs H Q E h => h.1) (fun cdv A outer s H vs Q E hr h => ?_)
  obtain ⟨hl, hh, H0, s', ds, g, da, p⟩ := h
  obtain ⟨ts, q, ss⟩ := hb cdv A outer s H E hr
  exact ⟨ts, q, ss ⟨hh, H0, H, hh⟩ H0 H s' _ _ _ g (slots_start (.refl _ _) da) (postS_of (h := ⟨hh, H0, H, hh⟩) p)⟩
end

/-! ### raise: an own error that keeps its arguments -/
/-- what __init__ of such a class promises -/
def spI (K : Frag) (names : List Str) : Sp := fun vs H Q E => ∃ (a C : Addr) (ws : List V), vs = .ref a :: ws ∧ ws.length = names.length ∧ H a = some (exo a C none) ∧ OexC K C ∧ (∀ f ∈ names, PySem.W.findIn K (.ref C) f = some none) ∧
  ∀ d : Addr, H d = none → d ≠ a → Q .non (upd (upd H d (exd d (names.zip ws).reverse)) a (exo a C (some d)))
/-- what the text knows of the class named c -/
structure ExC (X : Cx) (c : Str) (names : List Str) (C : Addr) : Prop where
  m : X.mg c = some (.ref C)
  ox : OexC X.K C
  no : ∀ f ∈ names, PySem.W.findIn X.K (.ref C) f = some none
def mRaise (c : Str) (names : List Str) (as : MA) : MS := fun ρ s => (as ρ s).bind fun ds s1 => if ds.length = names.length ∧ names.length ≤ 100 ∧ 0 < names.length then .err c (names.zip ds).reverse ρ s1 else .bad
section
variable {K : Frag} {mg : Str → Option Value} {h : Addr} {H : Hp}
theorem DenF.app : ∀ {a b : List (Str × V)} {c d : List (Str × Dt)}, DenF K mg h H a c → DenF K mg h H b d → DenF K mg h H (a ++ b) (c ++ d)
  | _, _, _, _, .nil, s => s
  | _, _, _, _, .cons r t, s => .cons r (DenF.app t s)
theorem DenF.zipR : ∀ {vs : List V} {ds : List Dt} (names : List Str), DenA K mg h H vs ds → DenF K mg h H (names.zip vs).reverse (names.zip ds).reverse
  | _, _, [], _ => by
    rw [List.zip_nil_left, List.zip_nil_left]
    exact .nil
  | _, _, _ :: _, .nil => .nil
  | _, _, n :: ns, .cons q r => by
    rw [List.zip_cons_cons, List.zip_cons_cons, List.reverse_cons, List.reverse_cons]
    exact DenF.app (DenF.zipR ns r) (.cons q .nil)
theorem DenF.look {f : Str} {d : Dt} : ∀ {fv : List (Str × V)} {fs : List (Str × Dt)}, DenF K mg h H fv fs → fs.lookup f = some d → ∃ v, fv.lookup f = some v ∧ Den K mg h H v d
  | _, _, .nil, e => by cases e
  | _, _, @DenF.cons _ _ _ _ n v vs d' ds q r, e => by
    by_cases c : f = n
    · subst c
      simp only [List.lookup, beq_self_eq_true] at e ⊢
      cases e
      exact ⟨v, rfl, q⟩
    · have c' : (f == n) = false := by simpa using c
      simp only [List.lookup, c'] at e ⊢
      exact DenF.look r e
end
section
variable {X : Cx} {Wx : WX} {e : Expr} {es : List Expr} {c : Str} {p pos pos2 : Pos} {as : MA}
theorem qs_raise {names : List Str} {C fI : Addr} {k : Nat} {fd : FuncData} {ps : List Str} (hc : X.calm = true) (tk : Takes X Wx) (T : ExC X c names C) (iC : PySem.W.findIn X.K (.ref C) "__init__" = some (some (.ref fI))) (tI : PySem.W.typeIn X.K (.ref fI) = some (.type "function"))
    (F1 : FnOk X.prog X.w X.K X.mg X.base (L2.CX X.prog X.w) k fI fd ps (spI X.K names)) (hr : Room (k + 1) X.A) (hb : Binds X.K fd ps []) (hg : Gl X c) (ha : QA X Wx (e :: es) as)
    (hdb : (c == ("__debug__" : Str)) = false := by decide) (he : starEach (e :: es) X.env = (false, eval e X.env) :: starEach es X.env := by rfl) (hpl : (backTo pos (starEach es X.env)).any (·.1) = false := by rfl) :
    QS X Wx (.Raise (some (.Call (.Name c p) (e :: es) [] pos)) none pos2) (mRaise c names as) := by
  obtain ⟨t, q, sa⟩ := ha
  refine ⟨_, ps_raise hc tk (pmk_oex T.ox iC tI F1 hr hb .nil passL hg T.m q hdb he hpl), ?_⟩
  intro h H0 H s σ ρ D g S pp
  show t σ H _
  refine sa h H0 H s σ ρ _ g S (PostS.bind pp fun ds s1 xs A B st g1 dx p1 => ?_)
  by_cases cc : ds.length = names.length ∧ names.length ≤ 100 ∧ 0 < names.length
  · rw [if_pos cc] at p1
    have l := dx.len
    refine ⟨by omega, fun a na => ⟨a, C, xs ++ [], rfl, by rw [List.append_nil]; omega, upd_same, T.ox, T.no, fun d hd nd => ?_⟩⟩
    rw [List.append_nil]
    have hd0 : B d = none := by rwa [upd_ne nd] at hd
    refine ⟨rfl, d, _, upd_same, by rw [upd_ne nd]; exact upd_same, hd0, ?_⟩
    have eq : upd (del (upd (upd (upd B a (exo a C none)) d (exd d (names.zip xs).reverse)) a (exo a C (some d))) a) d (.xd (names.zip xs).reverse) = upd B d (.xd (names.zip xs).reverse) := by
      funext b
      by_cases e1 : b = d
      · subst e1
        rw [upd_same, upd_same]
      · rw [upd_ne e1, upd_ne e1]
        by_cases e2 : b = a
        · subst e2
          rw [del_same, na]
        · rw [del_ne e2, upd_ne e2, upd_ne e1, upd_ne e2]
    rw [eq]
    obtain ⟨g2, st2⟩ := g1.side (o := .xd (names.zip xs).reverse) hd0
    have nz : (names.zip ds).reverse ≠ [] := fun z => by
      have z := congrArg List.length z
      rw [List.length_reverse, List.length_zip] at z
      have z : min names.length ds.length = 0 := z
      omega
    exact p1 σ C (some d) A _ st2.s0 g2 ((S.step st).step st2) T.m ⟨nz, _, upd_same, DenF.zipR names dx⟩
  · rw [if_neg cc] at p1
    exact p1.elim
end

theorem visP {N P : List Str} {sc : Scope} (S : FnScope N P sc) {x : Str} (m : x ∈ P) : Vis sc x := (S.par x m).elim .inl fun z => .inr (.inl z)
/-! ### __init__ of such a class, one and two fields -/
section
variable {P : Program} {w : World} {K : Frag} {mg : Str → Option Value} {base : Heap} {qual f1 f2 f3 : Str} {st : Stmt} {f : Addr} {fd : FuncData}
theorem init1 {p1 p2 p3 p4 : Pos} (F : Fun K "__init__" qual st f fd) (S : FnScope ["self", f1] ["self", f1] (defScope st)) (hb : defBody st = [.Assign [.Attribute (.Name "self" p1) f1 p2] (.Name f1 p3) p4])
    (hdb : (f1 == ("__debug__" : Str)) = false := by decide) (hcd : (f1 == ("__classdict__" : Str)) = false := by decide) : FnOk P w K mg base (L2.CX P w) 1 f fd ["self", f1] (spI K [f1]) := by
  refine F.okX S (fun vs H Q E h => ?_) (fun cdv A outer s H vs Q E hr h => ?_)
  · obtain ⟨a, C, ws, rfl, l, _⟩ := h
    show ws.length + 1 = 2
    rw [l]
    rfl
  · obtain ⟨a, C, ws, rfl, l, ha, T, no, q⟩ := h
    obtain ⟨y, rfl⟩ : ∃ y, ws = [y] := by
      match ws, l with
      | [y], _ => exact ⟨y, rfl⟩
    rw [hb]
    have v0 : Vis (defScope st) "self" := visP S List.mem_cons_self
    have v1 : Vis (defScope st) f1 := visP S (List.mem_cons_of_mem _ List.mem_cons_self)
    refine ⟨_, pss_one (ps_ost (pe_var (i := 0) rfl v0) (pe_var (i := 1) rfl v1 hdb hcd)), ?_⟩
    exact ⟨y, rfl, .ref a, rfl, a, C, rfl, T, no f1 List.mem_cons_self, .inl ⟨ha, fun dx hd nd => q dx hd nd⟩⟩
theorem init2 {p1 p2 p3 p4 q1 q2 q3 q4 : Pos} (F : Fun K "__init__" qual st f fd) (S : FnScope ["self", f1, f2] ["self", f1, f2] (defScope st))
    (hb : defBody st = [.Assign [.Attribute (.Name "self" p1) f1 p2] (.Name f1 p3) p4, .Assign [.Attribute (.Name "self" q1) f2 q2] (.Name f2 q3) q4])
    (hdb : (f1 == ("__debug__" : Str)) = false := by decide) (hcd : (f1 == ("__classdict__" : Str)) = false := by decide) (hdb2 : (f2 == ("__debug__" : Str)) = false := by decide) (hcd2 : (f2 == ("__classdict__" : Str)) = false := by decide) : FnOk P w K mg base (L2.CX P w) 1 f fd ["self", f1, f2] (spI K [f1, f2]) := by
  refine F.okX S (fun vs H Q E h => ?_) (fun cdv A outer s H vs Q E hr h => ?_)
  · obtain ⟨a, C, ws, rfl, l, _⟩ := h
    show ws.length + 1 = 3
    rw [l]
    rfl
  · obtain ⟨a, C, ws, rfl, l, ha, T, no, q⟩ := h
    obtain ⟨y, z, rfl⟩ : ∃ y z, ws = [y, z] := by
      match ws, l with
      | [y, z], _ => exact ⟨y, z, rfl⟩
    rw [hb]
    have v0 : Vis (defScope st) "self" := visP S List.mem_cons_self
    have v1 : Vis (defScope st) f1 := visP S (List.mem_cons_of_mem _ List.mem_cons_self)
    have v2 : Vis (defScope st) f2 := visP S (List.mem_cons_of_mem _ (List.mem_cons_of_mem _ List.mem_cons_self))
    refine ⟨_, pss_cons (ps_ost (pe_var (i := 0) rfl v0) (pe_var (i := 1) rfl v1 hdb hcd)) (pss_one (ps_ost (pe_var (i := 0) rfl v0) (pe_var (i := 2) rfl v2 hdb2 hcd2))), ?_⟩
    refine ⟨y, rfl, .ref a, rfl, a, C, rfl, T, no f1 List.mem_cons_self, .inl ⟨ha, fun dx hd nd => ?_⟩⟩
    refine ⟨z, rfl, .ref a, rfl, a, C, rfl, T, no f2 (List.mem_cons_of_mem _ List.mem_cons_self), .inr ⟨dx, [(f1, y)], upd_same, by rw [upd_ne nd]; exact upd_same, (show 1 ≤ 900 by decide), ?_⟩⟩
    have eq : upd (upd (upd H dx (exd dx [(f1, y)])) a (exo a C (some dx))) dx (exd dx [(f2, z), (f1, y)]) = upd (upd H dx (exd dx [(f2, z), (f1, y)])) a (exo a C (some dx)) := by
      funext b
      by_cases e1 : b = dx
      · subst e1
        rw [upd_same, upd_ne nd, upd_same]
      · rw [upd_ne e1]
        by_cases e2 : b = a
        · subst e2
          rw [upd_same, upd_same]
        · rw [upd_ne e2, upd_ne e2, upd_ne e1, upd_ne e1]
    show Q .non _
    rw [eq]
    exact q dx hd nd
end
end Mir


set_option Elab.async false
set_option linter.all false
set_option maxRecDepth 100000
namespace Mir
open PySem PySem.Spec PyProof.Rows L2
open PySem.W (Frag)

/-! ### the hand: how it is made -/
def hAdd : R2 := rI0 fun i j => .int (i + j)
def hMul : R2 := rI CMul fun i j => .int (i * j)
def hMod : R2 := rI (fun _ j => 0 < j) fun i j => .int (i % j)
def hDiv : R2 := rI CDiv fun i j => .int (i / j)
def hDivW : R2 := rI CDivW fun i j => .int (i / j)
def hPow : R2 := rI CPow fun i j => .int (i ^ j.toNat)
def hGe : R2 := rI0 fun i j => .bl (decide (j ≤ i))
def cInt : List V → Hp → VK → Prop := fun xs H Q => (∃ i, xs = [.int i] ∧ Q (.int i) H) ∨ ∃ k, xs = [.bl k] ∧ Q (.int (if k then 1 else 0)) H
def cAbs : List V → Hp → VK → Prop := fun xs H Q => ∃ i, xs = [.int i] ∧ Q (.int (if i < 0 then -i else i)) H
def t1 (r : List V → Hp → VK → Prop) (t : TE) : TE := tCB r (tCons t tNil)
def tI (i : Int) : TE := tC (.int i)
def tHandTurn (K : Frag) : TS :=
  tSeq (tAsg (t1 cAbs (t1 cInt (tVar 3))) (gName 4))
    (tSeq (tAsg (tOp hAdd (tOp hMod (t1 cInt (tOp hAdd (tOp hMul (tVar 2) (tI 31337)) (tVar 4))) (tI 2147483629)) (tI 1)) (gName 2))
      (tIfS (tTest (tOp hGe (tVar 4) (tOp hPow (tI 10) (tI 18)))) (tDrop (tBM K "list" rAppend (tVar 1) (tCons (tVar 4) tNil))) tNext))
def tHand (K : Frag) : TS :=
  tSeq (tAsg (tLst tNil) (gName 1)) (tSeq (tAsg (tOp hAdd (t1 (rLenA K) (tVar 0)) (tI 7)) (gName 2))
    (tSeq (tFor (iList K (tVar 0)) (gName 3) (tHandTurn K)) (tRet (tLst (tCons (tVar 1) (tCons (tVar 2) (tCons (tI 0) tNil)))))))
def spHand (K : Frag) : Sp := fun vs H Q _ => ∃ (a : Addr) (ns : List Int), vs = [.ref a] ∧ SqL K H a (ns.map V.int) ∧ ns.length ≤ 63 ∧
  ∀ (h gl : Addr) (g : List Int) (m : Int) (H' : Hp), Same H H' → H h = none → H gl = none → gl ≠ h → H' h = some (.lst [.ref gl, .int m, .int 0]) → H' gl = some (.lst (g.map V.int)) → Q (.ref h) H'
theorem pow18 : CPow 10 18 := ⟨by decide, by decide, by decide⟩
theorem hand_run {K : Frag} {vs : List V} {H : Hp} {Q : VK} {E : XK} (hh : spHand K vs H Q E) : tHand K { nx := fun _ H' => Q .non H', rt := Q } (vs.map some ++ [none, none, none, none]) H := by
  obtain ⟨a, ns, rfl, hS, hl, q⟩ := hh
  refine ⟨Nat.zero_le _, fun gl hgl => ?_⟩
  have s1 : Same H (upd H gl (.lst [])) := same_upd' hgl
  refine ⟨.ref a, rfl, .inl ⟨a, _, rfl, .inl (s1.seq hS), _, 7, rfl, rfl, ?_⟩⟩
  refine ⟨.ref a, rfl, a, rfl, ⟨_, s1.seq hS⟩, for_list (K := K) (a := a) (xs := ns.map V.int) (fun i σ H' => ∃ (g : List Int) (m : Int) (y z : Option V), σ = [some (.ref a), some (.ref gl), some (.int m), y, z] ∧ Same H H' ∧ H' gl = some (.lst (g.map V.int)) ∧ g.length ≤ i)
    ⟨[], _, none, none, rfl, s1, upd_same, Nat.le_refl _⟩ (fun i σ H' _ ⟨_, _, _, _, _, s, _⟩ => s.seq hS) ?_ ?_⟩
  · rintro i x σ H' hx ⟨g, m, y, z, rfl, s, eg, lg⟩
    have hi : i < ns.length := by
      obtain ⟨w, _⟩ := List.getElem?_eq_some_iff.mp hx
      simpa using w
    obtain ⟨n, hn⟩ : ∃ n, x = V.int n := by
      rw [List.getElem?_map, List.getElem?_eq_getElem hi] at hx
      exact ⟨_, (Option.some.inj hx).symm⟩
    subst hn
    refine ⟨_, rfl, .inl ⟨n, rfl, n, rfl, ?_⟩⟩
    generalize hz : (if n < 0 then -n else n) = k
    refine ⟨_, rfl, m, 31337, rfl, rfl, .inr ⟨by decide, by decide⟩, _, rfl, _, k, rfl, rfl, .inl ⟨_, rfl, _, 2147483629, rfl, rfl, (show (0 : Int) < 2147483629 by decide), _, 1, rfl, rfl, ?_⟩⟩
    refine ⟨_, rfl, 10, 18, rfl, rfl, pow18, k, 10 ^ 18, rfl, rfl, _, rfl, ?_⟩
    by_cases c : (10 : Int) ^ 18 ≤ k
    · rw [decide_eq_true c]
      refine iteT ⟨.ref gl, rfl, .inl ⟨rfl, _, .inl (.inl eg)⟩, .int k, rfl, gl, _, _, rfl, rfl, eg, ?_, ?_⟩
      · rw [List.length_map]
        exact small1000 (by omega)
      · refine ⟨g ++ [k], _, _, _, rfl, fun b o w => ?_, ?_, ?_⟩
        · have nb : b ≠ gl := ne_of_none w hgl
          rw [upd_ne nb]
          exact s b o w
        · rw [upd_same, List.map_append]
          rfl
        · rw [List.length_append]
          show g.length + 1 ≤ i + 1
          omega
    · rw [decide_eq_false c]
      exact iteF ⟨g, _, _, _, rfl, s, eg, by omega⟩
  · rintro σ H' ⟨g, m, y, z, rfl, s, eg, lg⟩
    refine ⟨_, rfl, _, rfl, (by show 3 ≤ sizeLine; decide), fun h nh => ?_⟩
    have n1 : gl ≠ h := ne_of_none eg nh
    refine q h gl g m _ (fun b o w => ?_) (s.free nh) hgl n1 upd_same (by rw [upd_ne n1]; exact eg)
    rw [upd_ne (ne_of_none (s b o w) nh)]
    exact s b o w

/-! ### the hand: a draw -/
def dropZ : List Int → List Int
  | [] => []
  | x :: r => if x = 0 then dropZ r else x :: r
def stM (s : Hd) : Int := (s.m * 69621 + 12345) % 2147483647
def stO (m c : Int) : Int := (m * 48271 + c * 7919) % 2147483629
def stT (o c : Int) : Int := (o * o + c * 104729 + o / 131) % 2147483587
def takeV (s : Hd) (many : Int) : Int := match dropZ s.g with
  | x :: _ => x % many
  | [] => (stT (stO (stM s) (s.c + 1)) (s.c + 1) / 17) % many
def takeS (s : Hd) (many : Int) : Hd := match dropZ s.g with
  | x :: r => ⟨(x / many) :: r, s.m, s.c⟩
  | [] => ⟨[], stM s, s.c + 1⟩
def manyOk (n : Int) : Prop := 0 < n ∧ n.natAbs.log2 < 9000
instance (n : Int) : Decidable (manyOk n) := inferInstanceAs (Decidable (_ ∧ _))
def mTake : List Dt → Hd → R Dt := fun ds s => match ds with
  | [.hnd, .int n] => if manyOk n then .ok (.int (takeV s n)) (takeS s n) else .bad
  | _ => .bad
theorem takeV_ge {s : Hd} {n : Int} (h : 0 < n) : 0 ≤ takeV s n := by
  unfold takeV
  split <;> exact Int.emod_nonneg _ (by omega)
theorem takeV_lt {s : Hd} {n : Int} (h : 0 < n) : takeV s n < n := by
  unfold takeV
  split <;> exact Int.emod_lt_of_pos _ h
/-- the hand changed, nothing else -/
theorem G.mut {h : Addr} {H0 H H' : Hp} {s s' : Hd} {gl gl' : Addr} (g : G h H0 H s) (e1 : H h = some (.lst [.ref gl, .int s.m, .int s.c])) (n0 : H0 gl = none) (n1 : H0 gl' = none) (n2 : gl' ≠ h)
    (e3 : H' h = some (.lst [.ref gl', .int s'.m, .int s'.c])) (e4 : H' gl' = some (.lst (s'.g.map V.int))) (k : ∀ q o, H q = some o → q ≠ h → q ≠ gl → H' q = some o) (f : gl' = gl ∨ H gl' = none) : G h H0 H' s' ∧ Step h H0 H H0 H' := by
  refine ⟨⟨fun q o w => k q o (g.ex q o w) (fun z => ?_) (fun z => ?_), g.h0, gl', n1, n2, e3, e4⟩, ⟨Same.refl _, fun q o w1 w2 w3 => ?_⟩⟩
  · rw [z, g.h0] at w
    cases w
  · rw [z, n0] at w
    cases w
  · have a1 : q ≠ h := fun z => w3 (.inl z)
    have a2 : q ≠ gl := fun z => w3 (.inr ⟨_, by rw [z]; exact e1⟩)
    refine ⟨k q o w1 a1 a2, w2, fun w => ?_⟩
    rcases w with w | ⟨r, w⟩
    · exact a1 w
    · rw [e3] at w
      have w' : q = gl' := by
        have := Option.some.inj w
        injection this with z
        injection z with z1 z2
        injection z1 with z3
        exact z3.symm
      rcases f with f | f
      · exact a2 (w'.trans f)
      · rw [w', f] at w1
        cases w1
def t0 (K : Frag) : TE := tOp (rIxL K) (tVar 0) (tI 0)
def t00 (K : Frag) : TE := tOp (rIxL K) (t0 K) (tI 0)
def tAt (K : Frag) (i : Int) : TE := tOp (rIxL K) (tVar 0) (tI i)
def tTr (K : Frag) (ta : TE) : TT := fun σ H Q => ta σ H fun x H' => ∃ k, TruV K x H' k ∧ Q k H'
def tTakeW (K : Frag) : TS := tWhile (tAnd (tTr K (t0 K)) (tTest (tOp rEq (t00 K) (tI 0)))) (tAsg (tSl (rSlL K) (t0 K) (tPart (tI 1)) tNoPart) (gSub (tVar 0) (tI 0) rSetL))
def tTakeI (K : Frag) : TS := tSeq (tAsg (t00 K) (gName 2)) (tSeq (tAsg (tOp hDivW (t1 cInt (tVar 2)) (tVar 1)) (gSub (t0 K) (tI 0) rSetL)) (tRet (tOp hMod (t1 cInt (tVar 2)) (tVar 1))))
def tTakeR (K : Frag) : TS :=
  tSeq (tAsg (tOp hAdd (tAt K 2) (tI 1)) (gSub (tVar 0) (tI 2) rSetL))
    (tSeq (tAsg (tOp hMod (t1 cInt (tOp hAdd (tOp hMul (tAt K 1) (tI 69621)) (tI 12345))) (tI 2147483647)) (gSub (tVar 0) (tI 1) rSetL))
    (tSeq (tAsg (tOp hMod (t1 cInt (tOp hAdd (tOp hMul (tAt K 1) (tI 48271)) (tOp hMul (tAt K 2) (tI 7919)))) (tI 2147483629)) (gName 3))
    (tSeq (tAsg (tOp hMod (t1 cInt (tOp hAdd (tOp hAdd (tOp hMul (tVar 3) (tVar 3)) (tOp hMul (tAt K 2) (tI 104729))) (tOp hDiv (tVar 3) (tI 131)))) (tI 2147483587)) (gName 4))
    (tRet (tOp hMod (t1 cInt (tOp hDiv (tVar 4) (tI 17))) (tVar 1))))))
def tTake (K : Frag) : TS := tSeq (tTakeW K) (tSeq (tIfS (tTr K (t0 K)) (tTakeI K) tNext) (tTakeR K))
theorem take_run {K : Frag} {mg : Str → Option Value} {vs : List V} {H : Hp} {Q : VK} {E : XK} (hh : spM K mg 2 mTake vs H Q E) : tTake K { nx := fun _ H' => Q .non H', rt := Q } (vs.map some ++ [none, none, none]) H := by
  obtain ⟨hl, h, H0, s, ds, g, da, p⟩ := hh
  -- the arguments
  obtain ⟨n, rfl, mk⟩ : ∃ n : Int, ds = [.hnd, .int n] ∧ manyOk n := by
    unfold mTake at p
    split at p
    · split at p
      · exact ⟨_, rfl, by assumption⟩
      · exact p.elim
    · exact p.elim
  obtain ⟨v, w, rfl, dv, dw⟩ := da.two
  cases dv
  cases dw
  have p : PostC K mg h (if manyOk n then .ok (.int (takeV s n)) (takeS s n) else .bad) H0 H E Q := p
  rw [if_pos mk] at p
  -- the loop
  refine ⟨fun k σ H' => ∃ gz, σ = [some (.ref h), some (.int n), none, none, none] ∧ gz.length = k ∧ dropZ gz = dropZ s.g ∧ G h H0 H' ⟨gz, s.m, s.c⟩ ∧ Step h H0 H H0 H', ⟨_, s.g, rfl, rfl, rfl, g, .refl _ _⟩, ?_⟩
  rintro k σ H' ⟨gz, rfl, hk, hz, g1, st1⟩
  obtain ⟨gl, a1, a2, a3, a4⟩ := g1.gl
  have eh : SqL K H' h [.ref gl, .int s.m, .int s.c] := SqL.of a3
  have eg : SqL K H' gl (gz.map V.int) := SqL.of a4
  have x0 : atI [V.ref gl, .int s.m, .int s.c] 0 = some (.ref gl) := rfl
  refine ⟨.ref h, rfl, h, _, 0, _, rfl, rfl, eh, x0, ?_⟩
  cases gz with
  | nil =>
    refine ⟨false, .inl ⟨_, eg, rfl⟩, ?_⟩
    refine iteF (iteF ?_)
    -- nothing great is left
    refine ⟨.ref h, rfl, h, _, 0, _, rfl, rfl, eh, x0, false, .inl ⟨_, eg, rfl⟩, iteF ?_⟩
    have hz : dropZ s.g = [] := hz.symm
    refine ⟨.ref h, rfl, h, _, 2, .int s.c, rfl, rfl, eh, rfl, s.c, 1, rfl, rfl, .ref h, rfl, h, _, 2, 2, rfl, rfl, a3, rfl, ?_⟩
    have b3 : (upd H' h (.lst [.ref gl, .int s.m, .int (s.c + 1)])) h = some (.lst [.ref gl, .int s.m, .int (s.c + 1)]) := upd_same
    refine ⟨.ref h, rfl, h, [.ref gl, .int s.m, .int (s.c + 1)], 1, .int s.m, rfl, rfl, SqL.of b3, rfl, s.m, 69621, rfl, rfl, .inr ⟨by decide, by decide⟩, _, 12345, rfl, rfl, .inl ⟨_, rfl, _, 2147483647, rfl, rfl, (show (0 : Int) < 2147483647 by decide), .ref h, rfl, h, _, 1, 1, rfl, rfl, b3, rfl, ?_⟩⟩
    have c3 : (upd (upd H' h (.lst [.ref gl, .int s.m, .int (s.c + 1)])) h (.lst [.ref gl, .int (stM s), .int (s.c + 1)])) h = some (.lst [.ref gl, .int (stM s), .int (s.c + 1)]) := upd_same
    have c4 : SqL K (upd (upd H' h (.lst [.ref gl, .int s.m, .int (s.c + 1)])) h (.lst [.ref gl, .int (stM s), .int (s.c + 1)])) h [.ref gl, .int (stM s), .int (s.c + 1)] := SqL.of c3
    refine ⟨.ref h, rfl, h, _, 1, .int (stM s), rfl, rfl, c4, rfl, stM s, 48271, rfl, rfl, .inr ⟨by decide, by decide⟩, .ref h, rfl, h, _, 2, .int (s.c + 1), rfl, rfl, c4, rfl, s.c + 1, 7919, rfl, rfl, .inr ⟨by decide, by decide⟩, _, _, rfl, rfl, .inl ⟨_, rfl, _, 2147483629, rfl, rfl, (show (0 : Int) < 2147483629 by decide), ?_⟩⟩
    have ob : 0 ≤ stO (stM s) (s.c + 1) ∧ stO (stM s) (s.c + 1) < 2147483629 := ⟨Int.emod_nonneg _ (by decide), Int.emod_lt_of_pos _ (by decide)⟩
    refine ⟨_, rfl, _, rfl, stO (stM s) (s.c + 1), stO (stM s) (s.c + 1), rfl, rfl, .inl ⟨by omega, by omega⟩, .ref h, rfl, h, _, 2, .int (s.c + 1), rfl, rfl, c4, rfl, s.c + 1, 104729, rfl, rfl, .inr ⟨by decide, by decide⟩, _, _, rfl, rfl,
      _, rfl, stO (stM s) (s.c + 1), 131, rfl, rfl, ⟨by decide, by decide⟩, _, _, rfl, rfl, .inl ⟨_, rfl, _, 2147483587, rfl, rfl, (show (0 : Int) < 2147483587 by decide), ?_⟩⟩
    refine ⟨_, rfl, stT (stO (stM s) (s.c + 1)) (s.c + 1), 17, rfl, rfl, ⟨by decide, by decide⟩, .inl ⟨_, rfl, _, rfl, _, n, rfl, rfl, mk.1, ?_⟩⟩
    have ng : gl ≠ h := a2
    obtain ⟨g2, st2⟩ := g1.mut (s' := ⟨[], stM s, s.c + 1⟩) (gl' := gl) a3 a1 a1 ng c3 (by rw [upd_ne ng, upd_ne ng]; exact a4) (fun q o w w1 w2 => by rw [upd_ne w1, upd_ne w1]; exact w) (.inl rfl)
    have ev : takeV s n = (stT (stO (stM s) (s.c + 1)) (s.c + 1) / 17) % n := by
      unfold takeV
      rw [hz]
    have es : takeS s n = ⟨[], stM s, s.c + 1⟩ := by
      unfold takeS
      rw [hz]
    have p : ∀ v H0' H', Step h H0 H H0' H' → G h H0' H' (takeS s n) → Den K mg h H0' v (.int (takeV s n)) → Q v H' := p
    rw [es, ev] at p
    exact p _ H0 _ (st1.trans st2) g2 (.int _)
  | cons z gr =>
    refine ⟨true, .inl ⟨_, eg, rfl⟩, iteT ?_⟩
    have ix0 : ixN ((z :: gr).map V.int).length 0 = some 0 := by
      unfold ixN
      rw [if_pos (by decide), if_pos (by rw [List.length_map, List.length_cons]; omega)]
      rfl
    have y0 : atI (((z :: gr).map V.int)) 0 = some (.int z) := atI_nat (j := 0) rfl
    refine ⟨.ref h, rfl, h, _, 0, _, rfl, rfl, eh, x0, gl, _, 0, _, rfl, rfl, eg, y0, rfl, _, rfl, ?_⟩
    by_cases cz : z = 0
    · subst cz
      rw [decide_eq_true rfl]
      refine iteT ⟨fun σ' H'' => ∃ k', k' < k ∧ ∃ gz, σ' = [some (.ref h), some (.int n), none, none, none] ∧ gz.length = k' ∧ dropZ gz = dropZ s.g ∧ G h H0 H'' ⟨gz, s.m, s.c⟩ ∧ Step h H0 H H0 H'', fun _ _ w => w, ?_⟩
      refine ⟨.ref h, rfl, h, _, 0, _, rfl, rfl, eh, x0, 1, rfl, gl, _, rfl, eg, fun q nq => ?_⟩
      have cut : cutV ((0 :: gr).map V.int) (some 1) none = gr.map V.int := by
        unfold cutV
        rw [show HT.sIx ((0 :: gr).map V.int).length 0 (some 1) = min 1 ((0 :: gr).map V.int).length from HT.sIx_nat _ 0 1, HT.sIx_none]
        simp
        exact List.take_of_length_le (by rw [List.length_map]; exact Nat.le_refl _)
      rw [cut]
      have nh : h ≠ q := ne_of_none a3 nq
      have ngq : gl ≠ q := ne_of_none a4 nq
      refine ⟨.ref h, rfl, h, [.ref gl, .int s.m, .int s.c], 0, 0, rfl, rfl, by rw [upd_ne nh]; exact a3, rfl, ?_⟩
      have nq0 : H0 q = none := g1.ex.free nq
      obtain ⟨g2, st2⟩ := g1.mut (s' := ⟨gr, s.m, s.c⟩) (gl' := q) (H' := upd (upd H' q (.lst (gr.map V.int))) h (.lst [.ref q, .int s.m, .int s.c])) a3 a1 nq0 (Ne.symm nh) upd_same (by rw [upd_ne (Ne.symm nh), upd_same])
        (fun b o w w1 w2 => by rw [upd_ne w1, upd_ne (ne_of_none w nq)]; exact w) (.inr nq)
      have hz' : dropZ gr = dropZ s.g := by
        rw [← hz]
        show _ = if (0 : Int) = 0 then dropZ gr else _
        rw [if_pos rfl]
      exact ⟨gr.length, by rw [← hk]; exact Nat.lt_succ_self _, gr, rfl, rfl, hz', g2, st1.trans st2⟩
    · have dn : decide (V.int z = V.int 0) = false := decide_eq_false fun e => cz (V.int.inj e)
      rw [dn]
      refine iteF ?_
      have hz2 : dropZ s.g = z :: gr := by
        rw [← hz]
        show (if z = 0 then dropZ gr else z :: gr) = _
        rw [if_neg cz]
      refine ⟨.ref h, rfl, h, _, 0, _, rfl, rfl, eh, x0, true, .inl ⟨_, eg, rfl⟩, iteT ?_⟩
      refine ⟨.ref h, rfl, h, _, 0, _, rfl, rfl, eh, x0, gl, _, 0, _, rfl, rfl, eg, y0, ?_⟩
      refine ⟨_, rfl, .inl ⟨z, rfl, _, rfl, z, n, rfl, rfl, ⟨mk.1, mk.2⟩, .ref h, rfl, h, _, 0, _, rfl, rfl, eh, x0, gl, _, 0, 0, rfl, rfl, a4, ix0, ?_⟩⟩
      have ng : h ≠ gl := Ne.symm a2
      refine ⟨_, rfl, .inl ⟨z, rfl, _, rfl, z, n, rfl, rfl, mk.1, ?_⟩⟩
      obtain ⟨g2, st2⟩ := g1.mut (s' := ⟨(z / n) :: gr, s.m, s.c⟩) (gl' := gl) (H' := upd H' gl (.lst (((z :: gr).map V.int).set 0 (.int (z / n))))) a3 a1 a1 a2 (by rw [upd_ne ng]; exact a3) (by rw [upd_same]; rfl) (fun q o w w1 w2 => by rw [upd_ne w2]; exact w) (.inl rfl)
      have ev : takeV s n = z % n := by
        unfold takeV
        rw [hz2]
      have es : takeS s n = ⟨(z / n) :: gr, s.m, s.c⟩ := by
        unfold takeS
        rw [hz2]
      have p : ∀ v H0' H', Step h H0 H H0' H' → G h H0' H' (takeS s n) → Den K mg h H0' v (.int (takeV s n)) → Q v H' := p
      rw [es, ev] at p
      exact p _ H0 _ (st1.trans st2) g2 (.int _)
end Mir


set_option Elab.async false
set_option linter.all false
set_option maxRecDepth 100000
namespace Mir
open PySem PySem.Spec PyProof.Rows L2
open PySem.W (Frag)

/-! ### try: body, except c as w: suite -/
/-- a suite's function: the caught error's fields first -/
abbrev MX := List (Str × Dt) → MS
def mTryAs (i : Nat) (c : Str) (body : MS) (suite : MX) : MS := fun ρ s => match body ρ s with
  | .err c' fs ρ' s' => if c' = c ∧ i < ρ'.length then (match suite fs (ρ'.set i .no) s' with
      | .ok (.nx ρ2) s2 => .ok (.nx (ρ2.set i .no)) s2
      | .ok (.rt d) s2 => .ok (.rt d) s2
      | .ok (.bk ρ2) s2 => .ok (.bk (ρ2.set i .no)) s2
      | .ok (.ct ρ2) s2 => .ok (.ct (ρ2.set i .no)) s2
      | _ => .bad) else .bad
  | .ok f s' => .ok f s'
  | .bad => .bad
section
variable (K : Frag) (mg : Str → Option Value) (i : Nat) (C a : Addr) (dd : Option Addr)
def XE' (te : TE) (m : List (Str × Dt) → ME) : Prop := ∀ (h : Ent) (H0 H : Hp) (s : Hd) (σ : L2.St) (ρ : Env') (Q : VK) (fs : List (Str × Dt)), G h H0 H s → Slots K mg h H0 H σ ρ → σ[i]? = some (some (.ref a)) → XdOk K mg h H0 H dd fs →
  Post K mg h (Den K mg h.a) (m fs ρ s) H0 H WF Q → te σ H Q
def XA' (te : TA) (m : List (Str × Dt) → MA) : Prop := ∀ (h : Ent) (H0 H : Hp) (s : Hd) (σ : L2.St) (ρ : Env') (Q : List V → Hp → Prop) (fs : List (Str × Dt)), G h H0 H s → Slots K mg h H0 H σ ρ → σ[i]? = some (some (.ref a)) → XdOk K mg h H0 H dd fs →
  Post K mg h (DenA K mg h.a) (m fs ρ s) H0 H WF Q → te σ H Q
def XS' (ts : TS) (m : MX) : Prop := ∀ (h : Ent) (H0 H : Hp) (s : Hd) (σ : L2.St) (ρ : Env') (D : Ends) (fs : List (Str × Dt)), G h H0 H s → Slots K mg h H0 H σ ρ → σ[i]? = some (some (.ref a)) → XdOk K mg h H0 H dd fs →
  PostS K mg h (m fs ρ s) H0 H WF D → ts D σ H
end
def xFld (f : Str) : List (Str × Dt) → ME := fun fs _ s => liftO (fs.lookup f) s
def xC (d : Dt) : List (Str × Dt) → ME := fun _ _ s => .ok d s
def xNil : List (Str × Dt) → MA := fun _ _ s => .ok [] s
def xCons (a : List (Str × Dt) → ME) (r : List (Str × Dt) → MA) : List (Str × Dt) → MA := fun fs ρ s => (a fs ρ s).bind fun d s1 => (r fs ρ s1).bind fun ds s2 => .ok (d :: ds) s2
def xTup (as : List (Str × Dt) → MA) : List (Str × Dt) → ME := fun fs ρ s => (as fs ρ s).bind fun ds s1 => if ds.length ≤ 100000 then .ok (.tup ds) s1 else .bad
def xRet (a : List (Str × Dt) → ME) : MX := fun fs ρ s => (a fs ρ s).bind fun d s1 => .ok (.rt d) s1
section
variable {K : Frag} {mg : Str → Option Value} {i : Nat} {C a : Addr} {dd : Option Addr} {te : TE} {ta : TA} {m : List (Str × Dt) → ME} {ma : List (Str × Dt) → MA}
theorem xd_keep {h : Addr} {H0 H H0' H' : Hp} {s s' : Hd} {fv : List (Str × V)} {dd : Addr} (g : G h H0 H s) (st : Step h H0 H H0' H') (g' : G h H0' H' s') (e : H dd = some (.xd fv)) : H' dd = some (.xd fv) := by
  cases q : H0 dd with
  | some o =>
    have w := g.ex _ _ q
    rw [e] at w
    cases w
    exact g'.ex _ _ (st.s0 _ _ q)
  | none =>
    refine (st.fr dd _ e q fun z => ?_).1
    obtain ⟨gl, a1, a2, a3, a4⟩ := g.gl
    rcases z with z | ⟨r, z⟩
    · rw [z, a3] at e
      cases e
    · rw [a3] at z
      cases z
      rw [a4] at e
      cases e
theorem xd_step' {h : Addr} {H0 H H0' H' : Hp} {s s' : Hd} {fs : List (Str × Dt)} (g : G h H0 H s) (st : Step h H0 H H0' H') (g' : G h H0' H' s') (e : XdOk K mg h H0 H dd fs) : XdOk K mg h H0' H' dd fs := by
  cases dd with
  | none => exact e
  | some dd =>
    obtain ⟨nz, fv, e1, e2⟩ := e
    exact ⟨nz, fv, xd_keep g st g' e1, e2.mono st.s0⟩
theorem xe_fld {f : Str} : XE' K mg i a dd (tXf a (.ref C) dd C f (tVar i)) (xFld f) := by
  intro h H0 H s σ ρ Q fs g S ei ed p
  obtain ⟨z, hz, p⟩ := post_lift p
  cases dd with
  | none =>
    have ed : fs = [] := ed
    subst ed
    cases hz
  | some dd =>
    obtain ⟨_, fv, ed, df⟩ := ed
    obtain ⟨v, e1, e2⟩ := df.look hz
    exact ⟨.ref a, ei, rfl, rfl, dd, fv, v, rfl, ed, e1, p v H0 H (.refl _ _) g e2⟩
theorem xe_c {v : V} {d : Dt} (hd : ∀ (h : Addr) (H : Hp), Den K mg h H v d) : XE' K mg i a dd (tC v) (xC d) := fun h H0 H s σ ρ Q fs g S ei ed p => p v H0 H (.refl _ _) g (hd h H0)
theorem xa_nil : XA' K mg i a dd tNil xNil := fun h H0 H s σ ρ Q fs g S ei ed p => p [] H0 H (.refl _ _) g .nil
theorem xa_cons (h1 : XE' K mg i a dd te m) (h2 : XA' K mg i a dd ta ma) : XA' K mg i a dd (tCons te ta) (xCons m ma) := by
  intro h H0 H s σ ρ Q fs g S ei ed p
  refine h1 h H0 H s σ ρ _ fs g S ei ed (Post.bind p fun d s1 x A B st g1 dx p1 => h2 h A B s1 σ ρ _ fs g1 (S.step st) ei (xd_step' g st g1 ed) (Post.bind p1 fun ds s2 xs A2 B2 st2 g2 dxs p2 => ?_))
  exact p2 (x :: xs) A2 B2 (.refl _ _) g2 (.cons (dx.mono st2.s0) dxs)
theorem xe_tup (h1 : XA' K mg i a dd ta ma) : XE' K mg i a dd (tTup ta) (xTup ma) := by
  intro h H0 H s σ ρ Q fs g S ei ed p
  refine h1 h H0 H s σ ρ _ fs g S ei ed (Post.bind p fun ds s1 xs A B st g1 dx p1 => ?_)
  by_cases c : ds.length ≤ 100000
  · rw [if_pos c] at p1
    refine ⟨by rw [dx.len]; exact sizeOk.le c, fun q hq => ?_⟩
    obtain ⟨g2, st2⟩ := g1.alloc (o := .tup xs) hq
    exact p1 _ _ _ st2 g2 (.tup (SqT.of upd_same) (dx.mono st2.s0))
  · rw [if_neg c] at p1
    exact p1.elim
theorem xe_any {te : TE} {m : ME} (h1 : SE K mg WF te m) : XE' K mg i a dd te (fun _ => m) := fun h H0 H s σ ρ Q fs g S ei ed p => h1 h H0 H s σ ρ Q g S p
theorem xs_ret (h1 : XE' K mg i a dd te m) : XS' K mg i a dd (tRet te) (xRet m) := by
  intro h H0 H s σ ρ D fs g S ei ed p
  refine h1 h H0 H s σ ρ _ fs g S ei ed (PostS.bind p fun d s1 x A B st g1 dx p1 => ?_)
  exact p1 x A B (S.step st).st g1 dx
end
/-- a suite as text: ts its reading by the caught error's address, class and dict -/
structure QX (X : Cx) (i : Nat) (C : Addr) (b₀ : Stmt) (suite : List Stmt) (ts : Addr → Value → Option Addr → TS) (m : MX) : Prop where
  text : ∀ (a : Addr) (oe : Obj) (cls : Value) (d : Option Addr) (pn : List (Addr × Obj)), Zc cls d oe → (∃ vs, oe.data = .fields vs) → PSs (X.suite a ((a, oe) :: pn)) (b₀ :: suite) (ts a cls d)
  read : ∀ (a : Addr) (dd : Option Addr), XS' X.K X.mg i a dd (ts a (.ref C) dd) m
section
variable {X : Cx} {Wx : WX} {c n : Str} {C : Addr} {i : Nat} {body suite : List Stmt} {b₀ : Stmt} {np pos pos' : Pos} {mb : MS} {mx : MX} {ts : Addr → Value → Option Addr → TS}
theorem qs_tryAs (hs : X.stack = X.env :: X.outer) (hf : X.env.frame = some X.env.locals) (hN : X.N.Nodup) (hi : X.N[i]? = some n) (hln : X.env.kindOf n = some .local) (hm : X.mg c = some (.ref C)) (hg : Gl X c) (hdb : (c == ("__debug__" : Str)) = false) (tk : Takes X Wx)
    (he : PySem.W.exmOne X.K (.ref C) (.ref C) = some true)
    (hb : ∀ (W : WX) (pn : List (Addr × Obj)) (xe : Value → Shared → Prop), Takes (X.tr pn xe) W → PassesOwn (model X.prog X.w) X.A X.env xe → QSs (X.tr pn xe) W body mb) (hx : QX X i C b₀ suite ts mx) :
    QS X Wx (.Try body [.ExceptHandler (some (.Name c np)) (some n) (b₀ :: suite) pos'] [] [] pos) (mTryAs i c mb mx) := by
  refine ⟨_, ps_try_as (tb := fun W => cS X.K X.mg W mb) (ts := ts) (Wout := Wx) hs hf hN hi hln ⟨hg, hdb, .inl hm⟩ tk (fun W pn xe t p => (hb W pn xe t p).can) hx.text, ?_⟩
  intro h H0 H s σ ρ D g S p
  refine ⟨h, H0, s, ρ, g, S, ?_⟩
  have p : PostS X.K X.mg h (mTryAs i c mb mx ρ s) H0 H Wx D := p
  unfold mTryAs at p
  cases e : mb ρ s with
  | ok f s' =>
    rw [e] at p
    cases f with
    | nx ρ' => exact p
    | rt d => exact p
    | bk ρ' => exact p
    | ct ρ' => exact p
  | bad =>
    rw [e] at p
    exact p
  | err c' fs ρ' s' =>
    rw [e] at p
    by_cases cc : c' = c ∧ i < ρ'.length
    · obtain ⟨rfl, hl⟩ := cc
      simp only [hl, and_self, if_true] at p
      intro σ' C' dd A B st g' S' mc x
      obtain rfl : C = C' := by
        rw [hm] at mc
        cases mc
        rfl
      refine ⟨true, he, fun _ a na => ?_, fun q => Bool.noConfusion q⟩
      refine hx.read a dd h A B s' (σ'.set i (some (.ref a))) (ρ'.set i .no) _ fs g' (S'.forget _) (List.getElem?_set_self (by rw [S'.len]; exact hl)) x ?_
      have p := PostS.step (H' := B) st p
      cases em : mx fs (ρ'.set i .no) s' with
      | ok fl s2 =>
        rw [em] at p
        cases fl with
        | nx ρ2 => exact fun σ2 A2 B2 st2 g2 S2 => p (σ2.set i none) A2 B2 st2 g2 (S2.forget none)
        | rt d => exact p
        | bk ρ2 => exact fun σ2 A2 B2 st2 g2 S2 => p (σ2.set i none) A2 B2 st2 g2 (S2.forget none)
        | ct ρ2 => exact fun σ2 A2 B2 st2 g2 S2 => p (σ2.set i none) A2 B2 st2 g2 (S2.forget none)
      | err c2 fs2 ρ2 s2 =>
        rw [em] at p
        exact p.elim
      | bad =>
        rw [em] at p
        exact p.elim
    · simp only [cc, if_false] at p
      exact p.elim
end

/-! ### the law -/
def spLaw (K : Frag) : Sp := fun vs H Q _ => ∃ (a : Addr) (ns : List Int), vs = [.ref a] ∧ SqL K H a (ns.map V.int) ∧ ns.length ≤ 63 ∧ ∀ H', Q (.bl true) H'
/-- the slots behind the law's first row: the script, the hand -/
def lawE (n : Nat) : Env' := .no :: .dat .hnd :: List.replicate n .no
theorem law_run {K : Frag} {mg : Str → Option Value} {Wx : WX} {n : Nat} {vs : List V} {H : Hp} {Q : VK} {E : XK} {W : L2.St → XK} {ts : TS} {ms : MS} (hh : spLaw K vs H Q E) (hs : SS K mg Wx ts ms) (hm : ∀ s : Hd, ∃ s' : Hd, ms (lawE n) s = .ok (.rt (.bl true)) s') :
    tSeq (tAsg (tCallSD (spHand K) [] W (tCons (tVar 0) tNil)) (gName 1)) ts { nx := fun _ H' => Q .non H', rt := Q } (vs.map some ++ List.replicate (n + 1) none) H := by
  obtain ⟨a, ns, rfl, hS, hl, q⟩ := hh
  refine ⟨.ref a, rfl, a, ns, rfl, hS, hl, fun h gl g m H' s e1 e2 ne e3 e4 => ?_⟩
  obtain ⟨s', hr⟩ := hm ⟨g, m, 0⟩
  refine hs ⟨h, H, H', h⟩ H H' ⟨g, m, 0⟩ (some (.ref a) :: some (.ref h) :: List.replicate n none) (lawE n) _ ⟨s, e1, gl, e2, ne, e3, e4⟩ ⟨by simp [lawE], fun i o l x y => ?_, fun i j p x y z1 _ m1 _ _ _ => ?_, .refl _ _⟩ ?_
  · match i, x, y with
    | 0, x, y =>
      cases x
      cases y
      exact True.intro
    | 1, x, y =>
      cases x
      cases y
      exact .hnd
    | i + 2, x, y =>
      have y : (List.replicate n Sl.no)[i]? = some l := y
      rw [List.getElem?_replicate] at y
      split at y
      · cases y
        cases o <;> exact True.intro
      · cases y
  · match i, z1 with
    | 0, z1 =>
      cases z1
      cases m1
    | 1, z1 =>
      cases z1
      cases m1
    | i + 2, z1 =>
      have z1 : (List.replicate n Sl.no)[i]? = some x := z1
      rw [List.getElem?_replicate] at z1
      split at z1 <;> cases z1
      cases m1
  · rw [hr]
    intro v A B _ _ dv
    cases dv
    exact q B
end Mir


set_option Elab.async false
set_option linter.all false
set_option maxRecDepth 100000
namespace Mir
open PySem PySem.Spec PyProof.Rows L2
open PySem.W (Frag)

/-- a def that is called with some parameters written, dd for the others -/
def Callee (P : Program) (w : World) (K : Frag) (mg : Str → Option Value) (base : Heap) (k : Nat) (x : Str) (n : Nat) (dd : List Dt) (m : List Dt → Hd → R Dt) : Prop :=
  ∃ (f : Addr) (fd : FuncData) (ps : List Str) (dvs : List V) (dsV : List Value), FnOk P w K mg base (L2.CX P w) k f fd ps (spM K mg n m) ∧ mg x = some (.ref f) ∧ PySem.W.keepIn K (.ref f) = true ∧ Binds K fd ps dsV ∧ Vals dvs dsV ∧ ∀ (h : Addr) (H : Hp), DenA K mg h H dvs dd
section
variable {X : Cx} {Wx : WX} {e : Expr} {es : List Expr} {x : Str} {p pos : Pos} {as : MA} {k j n : Nat} {dd : List Dt} {m : List Dt → Hd → R Dt}
theorem qe_c (C : Callee X.prog X.w X.K X.mg X.base k x n dd m) (hr : Room j X.A) (hk : k ≤ j) (tk : Takes X Wx) (ha : QA X Wx (e :: es) as) (hg : Gl X x := by rfl)
    (hdb : (x == ("__debug__" : Str)) = false := by decide) (he : starEach (e :: es) X.env = (false, eval e X.env) :: starEach es X.env := by rfl) (hpl : (backTo pos (starEach es X.env)).any (·.1) = false := by rfl) :
    QE X Wx (.Call (.Name x p) (e :: es) [] pos) (mCall n dd m as) := by
  obtain ⟨f, fd, ps, dvs, dsV, F, hm, kp, hb, hd, hdd⟩ := C
  exact qe_call F (hr.mono hk) hg hm kp hb hd hdd tk ha hdb he hpl
end
/-- the class of an own error whose arguments are kept -/
def Caught (K : Frag) (mg : Str → Option Value) (c : Str) (C : Addr) : Prop := mg c = some (.ref C) ∧ PySem.W.exmOne K (.ref C) (.ref C) = some true ∧ XfC K C
def Thrown (P : Program) (w : World) (K : Frag) (mg : Str → Option Value) (base : Heap) (c : Str) (names : List Str) : Prop :=
  ∃ (C fI : Addr) (fd : FuncData) (ps : List Str), mg c = some (.ref C) ∧ OexC K C ∧ (∀ f ∈ names, PySem.W.findIn K (.ref C) f = some none) ∧ PySem.W.findIn K (.ref C) "__init__" = some (some (.ref fI)) ∧ PySem.W.typeIn K (.ref fI) = some (.type "function") ∧
    FnOk P w K mg base (L2.CX P w) 1 fI fd ps (spI K names) ∧ Binds K fd ps []
section
variable {X : Cx} {Wx : WX} {e : Expr} {es : List Expr} {c : Str} {p pos pos2 : Pos} {as : MA} {j : Nat} {names : List Str}
theorem qs_throw (T : Thrown X.prog X.w X.K X.mg X.base c names) (hr : Room j X.A) (hj : 2 ≤ j) (hc : X.calm = true) (tk : Takes X Wx) (ha : QA X Wx (e :: es) as) (hg : Gl X c := by rfl)
    (hdb : (c == ("__debug__" : Str)) = false := by decide) (he : starEach (e :: es) X.env = (false, eval e X.env) :: starEach es X.env := by rfl) (hpl : (backTo pos (starEach es X.env)).any (·.1) = false := by rfl) :
    QS X Wx (.Raise (some (.Call (.Name c p) (e :: es) [] pos)) none pos2) (mRaise c names as) := by
  obtain ⟨C, fI, fd, ps, hm, ox, no, iC, tI, F, hb⟩ := T
  exact qs_raise hc tk ⟨hm, ox, no⟩ iC tI F (hr.mono hj) hb hg ha hdb he hpl
end
/-! ### tuples of the module -/
section
variable {K : Frag} {mg : Str → Option Value}
/-- a written tuple's items -/
inductive KDen (K : Frag) : Value → Dt → Prop where
  | int (i : Int) (t : Tok) : KDen K (.int i t) (.int i)
  | str (x : Str) (t : Tok) : KDen K (.str x t) (.str x)
  | non : KDen K .none .non
  | bl (b : Bool) : KDen K (.bool b) (.bl b)
theorem KDen.den {u : Value} {d : Dt} (q : KDen K u d) : ∃ v, RelV v u ∧ ∀ (h : Addr) (H : Hp), Den K mg h H v d := by
  cases q with
  | int i t => exact ⟨.int i, ⟨t, rfl⟩, fun _ _ => .int i⟩
  | str x t => exact ⟨.str x, ⟨t, rfl⟩, fun _ _ => .str x⟩
  | non => exact ⟨.non, rfl, fun _ _ => .non⟩
  | bl b => exact ⟨.bl b, rfl, fun _ _ => .bl b⟩
theorem rat_den {Z : Addr} {od : Option Addr} {n : Nat} {sl : Array (Option Value)} {a b : Int} {ta tb : Tok} (l : K.lookup Z = some ⟨.type "tuple", od, .seq #[.int a ta, .int b tb] n, sl⟩) (h : Addr) (H : Hp) : Den K mg h H (.ref Z) (.tup [.int a, .int b]) :=
  .tup (xs := [.int a, .int b]) (.inr ⟨_, _, _, l, rfl, rfl, (by show 2 ≤ sizeLine; decide), .cons ⟨ta, rfl⟩ (.cons ⟨tb, rfl⟩ .nil)⟩) (.cons (.int a) (.cons (.int b) .nil))
end
/-! ### keywords: f(e, .., k = v) where the defaults stand between -/
def mCallK (np nk n : Nat) (mid : List Dt) (m : List Dt → Hd → R Dt) (as ks : MA) : ME := fun ρ s => (as ρ s).bind fun ds s1 => (ks ρ s1).bind fun es s2 =>
  if ds.length = np ∧ es.length = nk ∧ (ds ++ (mid ++ es)).length = n then (match m (ds ++ (mid ++ es)) s2 with
    | .ok d s3 => .ok d s3
    | .err c fs _ s3 => .err c fs ρ s3
    | .bad => .bad) else .bad
def CalleeK (P : Program) (w : World) (K : Frag) (mg : Str → Option Value) (base : Heap) (k : Nat) (x : Str) (np : Nat) (ks : List Str) (n : Nat) (mid : List Dt) (m : List Dt → Hd → R Dt) : Prop :=
  ∃ (f : Addr) (fd : FuncData) (ps : List Str) (mv : List V) (mV : List Value), FnOk P w K mg base (L2.CX P w) k f fd ps (spM K mg n m) ∧ mg x = some (.ref f) ∧ PySem.W.keepIn K (.ref f) = true ∧
    KBn K fd ps np ks (fun us ws => us ++ (mV ++ ws)) (fun vs zs => vs ++ (mv ++ zs)) ∧ ∀ (h : Addr) (H : Hp), DenA K mg h H mv mid
def QK (X : Cx) (Wx : WX) (kws : List Keyword) (m : MA) : Prop := ∃ t, PK X kws t ∧ SA X.K X.mg Wx t m
section
variable {X : Cx} {Wx : WX} {e : Expr} {es : List Expr} {x : Str} {p pos kpos : Pos} {as ks' : MA} {k j n np : Nat} {mid : List Dt} {m : List Dt → Hd → R Dt} {ks : List Str} {kws : List Keyword} {nm : Option Str} {ma : ME} {E : XK}
theorem qk_nil : QK X Wx [] mNil := ⟨_, pk_nil, sa_nil⟩
theorem qk_cons (ha : QE X Wx e ma) (hr : QK X Wx kws as) : QK X Wx (⟨nm, e, kpos⟩ :: kws) (mCons ma as) := by
  obtain ⟨t, q, s⟩ := ha
  obtain ⟨t2, q2, s2⟩ := hr
  exact ⟨_, pk_cons q q2, sa_cons s s2⟩
theorem qe_ck (C : CalleeK X.prog X.w X.K X.mg X.base k x np ks n mid m) (hr : Room j X.A) (hk : k ≤ j) (tk : Takes X (wE E)) (ha : QA X (wE E) (e :: es) as) (hw : QK X (wE E) kws ks') (hg : Gl X x := by rfl)
    (hall : (backToKw pos (keywordEach kws X.env)).all (·.1.isSome) = true := by rfl) (hks : (backToKw pos (keywordEach kws X.env)).filterMap (·.1) = ks := by rfl)
    (hdb : (x == ("__debug__" : Str)) = false := by decide) (he : starEach (e :: es) X.env = (false, eval e X.env) :: starEach es X.env := by rfl)
    (hpl : ((backTo pos (starEach (e :: es) X.env)).any (·.1) || (backToKw pos (keywordEach kws X.env)).any (·.1.isNone)) = false := by rfl) :
    QE X (wE E) (.Call (.Name x p) (e :: es) kws pos) (mCallK np ks.length n mid m as ks') := by
  obtain ⟨f, fd, ps, mv, mV, F, hm, kp, hb, hdd⟩ := C
  obtain ⟨t, q, sa⟩ := ha
  obtain ⟨t2, q2, sa2⟩ := hw
  refine ⟨_, pe_callN (E := E) F (hr.mono hk) hg hm kp hb (passes_call tk fun _ _ _ _ z => z) q q2 hall hks hdb he hpl, ?_⟩
  intro h H0 H s σ ρ Q g S pp
  refine sa h H0 H s σ ρ _ g S (Post.bind pp fun ds s1 xs A B st g1 dx p1 => sa2 h A B s1 σ ρ _ g1 (S.step st) (Post.bind p1 fun es s2 ys A2 B2 st2 g2 dy p2 => ?_))
  by_cases c : ds.length = np ∧ es.length = ks.length ∧ (ds ++ (mid ++ es)).length = n
  · rw [if_pos c] at p2
    obtain ⟨c1, c2, c3⟩ := c
    have dz := (dx.mono st2.s0).append ((hdd h A2).append dy)
    refine ⟨dx.len.trans c1, dy.len.trans c2, dz.len.trans c3, h, A2, s2, _, g2, dz, ?_⟩
    cases hm : m (ds ++ (mid ++ es)) s2 with
    | ok d s3 =>
      rw [hm] at p2
      exact p2
    | err cc fs ρ' s3 =>
      rw [hm] at p2
      exact fun C e A3 B3 st3 g3 mc x => p2 σ C e A3 B3 st3.s0 g3 (S.step ((st.trans st2).trans st3)) mc x
    | bad =>
      rw [hm] at p2
      exact p2.elim
  · rw [if_neg c] at p2
    exact p2.elim
end
section
variable {K : Frag} {x qual : Str} {params : Arguments} {body : List Stmt} {scope : Scope} {dvs : List V} {f : Addr} {fd : FuncData} {ps : List Str}
/-- how f(e, .., k = v) binds: the first n written, the last ones by keywords, the defaults from the j-th on between -/
theorem kb_of (F : FunD K x qual params body scope dvs [] f fd) (n j c : Nat) (ks : List Str) (hd : dvs ≠ [])
    (hh : ∀ (T : Addr) (kV doc pm : Value) (an : Option Addr) (cdv ct : Value) (us its ws : List Value), us.length = n → its.length = dvs.length → ws.length = ks.length →
      ∃ k, bindArgs (PySem.W.fnOf x qual params body scope (.ref T) kV doc pm an cdv ct) ⟨us, ks.zip ws⟩ = seqItems? (.ref T) >>= k ∧ k (some its.toArray) = pure (ps.zip (us ++ ((its.drop j).take c ++ ws)))) :
    ∃ mV : List Value, KBn K fd ps n ks (fun us ws => us ++ (mV ++ ws)) (fun vs zs => vs ++ ((dvs.drop j).take c ++ zs)) := by
  obtain ⟨oc, od, dV, kV, doc, pm, an, cdv, ct, osl, rfl, lk, hcd, hD, hK⟩ := F.ex
  rcases hD with ⟨e, _⟩ | ⟨_, T, o, its, m, rfl, lT, oT, rT⟩
  · exact absurd e hd
  · refine ⟨(its.drop j).take c, ⟨fun s us ws X l1 l2 => ?_, fun r1 r2 => r1.append (((rT.drop j).take c).append r2)⟩⟩
    obtain ⟨k, e1, e2⟩ := hh T kV doc pm an cdv ct us its ws l1 rT.length.symm l2
    refine BindsTo.of_looks fun M => ?_
    rw [e1]
    exact looks_items X lT oT (.of_pure e2)
end
/-! ### while -/
def absS : Sl → Nat
  | .dat (.int i) => i.natAbs
  | _ => 0
def fuelE (ρ : Env') : Nat := (ρ.map absS).sum + 2
def mWhile (t : MT) (body : MS) : MS := fun ρ s => loopW t body (fuelE ρ) ρ s
section
variable {K : Frag} {mg : Str → Option Value} {Wx : WX} {tt : TT} {mt : MT} {tb : TS} {body : MS}
theorem ss_while (ht : ST K mg Wx tt mt) (hb : SS K mg Wx tb body) : SS K mg Wx (tWhile tt tb) (mWhile mt body) := by
  intro h H0 H s σ ρ D g S p
  refine ⟨fun n σ' H' => ∃ A s' ρ', Same H0 A ∧ G h A H' s' ∧ Slots K mg h A H' σ' ρ' ∧ PostS K mg h (loopW mt body n ρ' s') A H' Wx D, ⟨fuelE ρ, H0, s, ρ, Same.refl _, g, S, p⟩, ?_⟩
  rintro n σ' H' ⟨A, s', ρ', st, g', S', p'⟩
  cases n with
  | zero => exact p'.elim
  | succ n =>
    unfold loopW at p'
    refine ht h A H' s' σ' ρ' _ g' S' (PostS.bind p' fun b s1 b' A1 B1 st1 g1 e p1 => ?_)
    have e : b' = b := e
    subst e
    cases b' with
    | false => exact p1 σ' A1 B1 (Same.refl _) g1 (S'.step st1)
    | true =>
      refine iteT ⟨fun σ2 H2 => ∃ A2 s2 ρ2, Same H0 A2 ∧ G h A2 H2 s2 ∧ Slots K mg h A2 H2 σ2 ρ2 ∧ PostS K mg h (loopW mt body n ρ2 s2) A2 H2 Wx D, fun σ2 H2 w => ⟨n, Nat.lt_succ_self n, w⟩, hb h A1 B1 s1 σ' ρ' _ g1 (S'.step st1) ?_⟩
      rw [if_pos rfl] at p1
      cases eb : body ρ' s1 with
      | ok f s2 =>
        rw [eb] at p1
        cases f with
        | nx ρ2 => exact fun σ2 A2 B2 st2 g2 S2 => ⟨A2, s2, ρ2, (st.trans st1.s0).trans st2, g2, S2, PostS.step st2 p1⟩
        | ct ρ2 => exact fun σ2 A2 B2 st2 g2 S2 => ⟨A2, s2, ρ2, (st.trans st1.s0).trans st2, g2, S2, PostS.step st2 p1⟩
        | bk ρ2 => exact p1
        | rt d => exact p1
      | err c fs ρ2 s2 =>
        rw [eb] at p1
        exact p1
      | bad =>
        rw [eb] at p1
        exact p1
end
theorem qs_while {X : Cx} {Wx : WX} {c : Expr} {mt : MT} {sts : List Stmt} {ms : MS} {pos : Pos} (hp : PassesOwn (model X.prog X.w) X.A X.env X.xe) (hc : QT X Wx c mt) (hb : QSs X Wx sts ms) : QS X Wx (.While c sts [] pos) (mWhile mt ms) := by
  obtain ⟨t, q, s⟩ := hc
  obtain ⟨t2, q2, s2⟩ := hb
  exact ⟨_, ps_while hp q q2, ss_while s s2⟩
theorem _root_.L2.Room.units65 {k : Nat} {A : Around} (r : Room k A) : A.units + 65 < cLine := by have := r.un; omega
theorem cx_false {P : Program} {w : World} {l : List Env} {H : Hp} {s : Shared} {e : Value} {s' : Shared} (z : L2.CX P w l H s (fun _ _ _ => False) e s') : False := by
  obtain ⟨_, _, _, _, _, _, _, _, _, _, _, _, z⟩ := z
  exact z
end Mir


set_option Elab.async false
set_option linter.all false
set_option maxRecDepth 100000
/-! isinstance with two classes; math.isqrt; statements that are never reached; written couples of ratios. -/
namespace Mir
open PySem PySem.Spec PyProof.Rows L2
open PySem.W (Frag)
def fIsi2 (T U : String) (d : Dt) : Option Bool := (tyN d).bind fun n => (kitB n T).bind fun a => (kitB n U).map fun b => a || b
def mIsi2 (T U : String) (a : ME) : ME := fun ρ s => (a ρ s).bind fun d s1 => liftO ((fIsi2 T U d).map .bl) s1
section
variable {X : Cx} {Wx : WX} {a : Expr} {ma : ME} {pos p p2 p3 p4 : Pos} {T U : String} {x y : Str} {x1 : Nat}
theorem kit_any2 {K : PySem.W.Frag} {n T U : String} {a b : Bool} (ha : kitB n T = some a) (hb : kitB n U = some b) : PySem.W.kitAny K (.type n) [.type T, .type U] = some (a || b) := by
  refine kitAny_cons (b := a) (kit_ty ha) (fun e => ?_) (fun e => by rw [e]; rfl)
  rw [e, Bool.false_or]
  exact kitAny_cons (b := b) (kit_ty hb) (fun e2 => by rw [e2]; exact kitAny_nil) (fun e2 => e2)
theorem qe_isi2 (ha : QE X Wx a ma) (hg : Gl X "isinstance") (hm : X.mg "isinstance" = none) (hgT : Gl X x) (hmT : X.mg x = none) (hvT : bootBuiltins x = some (.type T)) (hgU : Gl X y) (hmU : X.mg y = none) (hvU : bootBuiltins y = some (.type U))
    (hn : x ≠ "__name__" := by decide) (hdb : (x == ("__debug__" : Str)) = false := by decide) (hn2 : y ≠ "__name__" := by decide) (hdb2 : (y == ("__debug__" : Str)) = false := by decide)
    (he : starEach [a, .Tuple [.Name x p2, .Name y p3] x1 p4] X.env = (false, eval a X.env) :: starEach [.Tuple [.Name x p2, .Name y p3] x1 p4] X.env := by rfl)
    (he2 : starEach [.Tuple [.Name x p2, .Name y p3] x1 p4] X.env = (false, eval (.Tuple [.Name x p2, .Name y p3] x1 p4) X.env) :: starEach [] X.env := by rfl)
    (he3 : starEach [.Name x p2, .Name y p3] X.env = (false, eval (.Name x p2) X.env) :: starEach [.Name y p3] X.env := by rfl)
    (he4 : starEach [.Name y p3] X.env = (false, eval (.Name y p3) X.env) :: starEach [] X.env := by rfl)
    (hpl : (backTo pos (starEach [.Tuple [.Name x p2, .Name y p3] x1 p4] X.env)).any (·.1) = false := by rfl) : QE X Wx (.Call (.Name "isinstance" p) [a, .Tuple [.Name x p2, .Name y p3] x1 p4] [] pos) (mIsi2 T U ma) := by
  obtain ⟨ta, pa, sa⟩ := ha
  refine ⟨_, pe_callB call_isiT hg hm (by decide +kernel) (pa_cons pa (pa_cons (pe_tup (pa_cons (pe_bltn (v := .ty T) hgT hmT hvT rfl hn hdb) (pa_cons (pe_bltn (v := .ty U) hgU hmU hvU rfl hn2 hdb2) pa_nil he4) he3)) pa_nil he2) he) (by decide) (by decide) he hpl, ?_⟩
  intro h H0 H s σ ρ Q g S pp
  refine sa h H0 H s σ ρ _ g S (Post.bind pp fun d s1 x A B st g1 dx p1 => ?_)
  obtain ⟨z, hz, p3⟩ := post_lift p1
  unfold fIsi2 at hz
  cases ht : tyN d with
  | none =>
    rw [ht] at hz
    cases hz
  | some n =>
    rw [ht] at hz
    have hz : ((kitB n T).bind fun a => (kitB n U).map fun b => a || b).map Dt.bl = some z := hz
    cases hb : kitB n T with
    | none =>
      rw [hb] at hz
      cases hz
    | some b =>
      rw [hb] at hz
      have hz : ((kitB n U).map fun c => b || c).map Dt.bl = some z := hz
      cases hc : kitB n U with
      | none =>
        rw [hc] at hz
        cases hz
      | some c =>
        rw [hc] at hz
        cases hz
        refine ⟨by show 2 ≤ sizeLine; decide, fun q hq => ?_⟩
        obtain ⟨g2, st2⟩ := g1.alloc (o := .tup [.ty T, .ty U]) hq
        exact ⟨x, q, _, .type n, [.type T, .type U], b || c, rfl, upd_same, .cons (.ty T) (.cons (.ty U) .nil), TyX.of ((dx.mono st2.s0).mono g2.ex) ht, kit_any2 hb hc, p3 _ _ _ st2 g2 (.bl _)⟩
end
/-! ### math.isqrt -/
def rIsqrt : List V → Hp → VK → Prop := fun vs H Q => ∃ a : Int, vs = [.int a] ∧ 0 ≤ a ∧ a < 2 ^ 64 ∧ Q (.int ((Float64.isqrt a.toNat : Nat) : Int)) H
theorem cr_isqrt {X : Cx} : CallR X (.builtin "math.isqrt") rIsqrt := by
  intro pins s σ H vs us Q I r h
  obtain ⟨a, rfl, h0, h1, q⟩ := h
  cases r with
  | cons ra rr =>
    cases rr
    obtain ⟨t, e⟩ := (show ∃ t, _ = Value.int a t from ra)
    cases e
    exact PySem.W.mg_isqrt h0 h1 ⟨.int _, H, I.tok _, ⟨_, rfl⟩, q⟩
def fIsqrt : List Dt → Option Dt
  | [.int a] => if 0 ≤ a ∧ a < 2 ^ 64 then some (.int ((Float64.isqrt a.toNat : Nat) : Int)) else none
  | _ => none
section
variable {K : Frag} {mg : Str → Option Value}
theorem cs_isqrt : CaS K mg rIsqrt fIsqrt := by
  intro h H0 H s xs ds z Q g0 hx hz q
  unfold fIsqrt at hz
  split at hz
  · split at hz
    · rename_i hh
      cases hz
      cases hx with
      | cons a r =>
        cases r
        cases a
        exact ⟨_, rfl, hh.1, hh.2, q _ H0 H (.refl _ _) g0 (.int _)⟩
    · cases hz
  · cases hz
end
/-! ### what is never reached -/
def mBad : MS := fun _ _ => .bad
theorem qs_bad {X : Cx} {Wx : WX} {st : Stmt} : QS X Wx st mBad := ⟨fun _ _ _ => False, ⟨fun _ _ _ _ _ _ z => z.elim⟩, fun _ _ _ _ _ _ _ _ _ z => z⟩
/-! ### a written couple of ratios -/
theorem two_den {K : Frag} {mg : Str → Option Value} {Z Y W : Addr} {od : Option Addr} {n : Nat} {sl : Array (Option Value)} {d e : Dt} (l : K.lookup Z = some ⟨.type "tuple", od, .seq #[.ref Y, .ref W] n, sl⟩) (h : Addr) (H : Hp) (a : Den K mg h H (.ref Y) d) (b : Den K mg h H (.ref W) e) : Den K mg h H (.ref Z) (.tup [d, e]) :=
  .tup (xs := [.ref Y, .ref W]) (.inr ⟨_, _, _, l, rfl, rfl, (by show 2 ≤ sizeLine; decide), .cons rfl (.cons rfl .nil)⟩) (.cons a (.cons b .nil))
end Mir


set_option Elab.async false
set_option linter.all false
set_option maxRecDepth 100000
/-! Lists of one's own: made, grown, changed at a place, read, handed on. -/
namespace Mir
open PySem PySem.Spec PyProof.Rows L2
open PySem.W (Frag)

section
variable (K : Frag) (mg : Str → Option Value) (Wx : WX)
def FreshTo (h : Ent) (σ : L2.St) (ρ : Env') (p : Addr) : Prop := NF h p ∧ ∀ (j : Nat) (l : Sl), ρ[j]? = some l → l.mine = true → σ[j]? ≠ some (some (.ref p))
/-- a new list, nobody's yet -/
def PostF (h : Ent) (r : R (List Dt)) (σ : L2.St) (ρ : Env') (H0 H : Hp) (Q : VK) : Prop := match r with
  | .ok ds s => ∀ p vs H0' H', Step h.a H0 H H0' H' → G h.a H0' H' s → FreshTo h σ ρ p → H0' p = none → ¬ isH h.a H' p → H' p = some (.lst vs) → DenA K mg h.a H0' vs ds → Q (.ref p) H'
  | .err c fs ρ' s => ErrP K mg h H0 c fs ρ' s Wx
  | .bad => False
def SF (te : TE) (m : MA) : Prop := ∀ (h : Ent) (H0 H : Hp) (s : Hd) (σ : L2.St) (ρ : Env') (Q : VK), G h.a H0 H s → Slots K mg h H0 H σ ρ → PostF K mg Wx h (m ρ s) σ ρ H0 H Q → te σ H Q
end
def QF (X : Cx) (Wx : WX) (e : Expr) (m : MA) : Prop := ∃ t, PE X e t ∧ SF X.K X.mg Wx t m
section
variable {K : Frag} {mg : Str → Option Value} {Wx : WX} {h : Ent} {H0 H H0' H' A B : Hp} {σ : L2.St} {ρ : Env'}
theorem fresh_to {p : Addr} (S : Slots K mg h A B σ ρ) (n : B p = none) : FreshTo h σ ρ p := by
  refine ⟨fun o e1 e2 => ?_, fun j l e m x => ?_⟩
  · by_cases c : isH h.a h.E p
    · exact c
    · have := (S.st.fr p o e1 e2 c).1
      rw [n] at this
      cases this
  · have q := S.at_ j _ l x e
    cases l with
    | no => cases m
    | dat d => cases m
    | own ds =>
      obtain ⟨p', vs, e1, e2, _⟩ := q
      cases e1
      rw [n] at e2
      cases e2
    | slf c fs =>
      obtain ⟨p', C, dx, vs, e1, _, _, e2, _⟩ := q
      cases e1
      rw [n] at e2
      cases e2
theorem PostF.step {r : R (List Dt)} {Q : VK} (st : Step h.a H0 H H0' H') (p : PostF K mg Wx h r σ ρ H0 H Q) : PostF K mg Wx h r σ ρ H0' H' Q := by
  cases r with
  | ok b s => exact fun a vs A B s2 g q => p a vs A B (st.trans s2) g q
  | err c fs ρ s => exact ErrP.step st.s0 p
  | bad => exact p
theorem PostF.bind {α β : Type} {rel : Hp → α → β → Prop} {r : R β} {k : β → Hd → R (List Dt)} {Q : VK} {Q1 : α → Hp → Prop} (p : PostF K mg Wx h (r.bind k) σ ρ H0 H Q)
    (f : ∀ b s a H0' H', Step h.a H0 H H0' H' → G h.a H0' H' s → rel H0' a b → PostF K mg Wx h (k b s) σ ρ H0' H' Q → Q1 a H') : Post K mg h rel r H0 H Wx Q1 := by
  cases r with
  | ok b s => exact fun a A B st g q => f b s a A B st g q (PostF.step st p)
  | err c fs ρ s => exact p
  | bad => exact p
end
def mLstO (as : MA) : MA := fun ρ s => (as ρ s).bind fun ds s1 => if ds.length ≤ 100000 then .ok ds s1 else .bad
def toL : R Dt → R (List Dt)
  | .ok (.lst ds) s => .ok ds s
  | .err c fs ρ s => .err c fs ρ s
  | _ => .bad
def mToL (m : ME) : MA := fun ρ s => toL (m ρ s)
def mSetO (i : Nat) (m : MA) : MS := fun ρ s => (m ρ s).bind fun ds s1 => .ok (.nx (ρ.set i (.own ds))) s1
/-- list(e) -/
def mListO (a : ME) : MA := fun ρ s => (a ρ s).bind fun d s1 => match d with
  | .tup ds => .ok ds s1
  | .lst ds => .ok ds s1
  | _ => .bad
def mCatO (a b : ME) : MA := fun ρ s => (a ρ s).bind fun d s1 => (b ρ s1).bind fun e s2 => match d, e with
  | .lst x, .lst y => if sizeOk (x.length + y.length) then .ok (x ++ y) s2 else .bad
  | _, _ => .bad
def mApp (i : Nat) (a : ME) : MS := fun ρ s => match ρ[i]? with
  | some (.own ds) => (a ρ s).bind fun d s1 => if sizeOk ds.length then .ok (.nx (ρ.set i (.own (ds ++ [d])))) s1 else .bad
  | _ => .bad
/-- x[e] = v: v first -/
def mSetI (i : Nat) (b a : ME) : MS := fun ρ s => (a ρ s).bind fun d s1 => match ρ[i]? with
  | some (.own ds) => (b ρ s1).bind fun k s2 => (match k with
    | .int k => (match ixN ds.length k with
      | some j => .ok (.nx (ρ.set i (.own (ds.set j d)))) s2
      | none => .bad)
    | _ => .bad)
  | _ => .bad
/-- x[e] = v where x is at data: for use behind which x is given up -/
def frzE (ρ : Env') (i : Nat) : Env' := match ρ[i]? with
  | some (.own ds) => ρ.set i (.dat (.lst ds))
  | _ => ρ
def mFrz (is : List Nat) (m : MS) : MS := fun ρ s => m (is.foldl frzE ρ) s
def mIxO (i : Nat) (b : ME) : ME := fun ρ s => match ρ[i]? with
  | some (.own ds) => (b ρ s).bind fun k s1 => match k with
    | .int j => liftO (atI ds j) s1
    | _ => .bad
  | some (.dat d) => (b ρ s).bind fun k s1 => liftO (fIx d k) s1
  | _ => .bad
/-! no list within -/
mutual
def lfree : Dt → Bool
  | .tup ds => lfreeA ds
  | .obj _ fs => lfreeF fs
  | .lst _ => false
  | _ => true
def lfreeA : List Dt → Bool
  | [] => true
  | d :: ds => lfree d && lfreeA ds
def lfreeF : List (Str × Dt) → Bool
  | [] => true
  | (_, d) :: ds => lfree d && lfreeF ds
end
def lfSl : Sl → Sl
  | .dat d => if lfree d = true then .dat d else .no
  | _ => .no
def mBor (i : Nat) (m : ME) : ME := fun ρ s => match ρ[i]? with
  | some (.own ds) => (match m (ρ.set i (.dat (.lst ds))) s with
    | .ok d s' => if lfree d = true then .ok d s' else .bad
    | .err c fs ρ' s' => if lfreeF fs = true then .err c fs (ρ'.map lfSl) s' else .bad
    | .bad => .bad)
  | _ => m ρ s
def mBorT (i : Nat) (m : MT) : MT := fun ρ s => match ρ[i]? with
  | some (.own ds) => (match m (ρ.set i (.dat (.lst ds))) s with
    | .ok d s' => .ok d s'
    | .err c fs ρ' s' => if lfreeF fs = true then .err c fs (ρ'.map lfSl) s' else .bad
    | .bad => .bad)
  | _ => m ρ s
theorem sqt_del {K : Frag} {H : Hp} {q a : Addr} {us xs : List V} (eq : H q = some (.lst us)) (e : SqT K H a xs) : SqT K (del H q) a xs := by
  rcases e with (e | ⟨o, e⟩) | e
  · exact .inl (.inl (by rw [del_ne fun z => by rw [z, eq] at e; cases e]; exact e))
  · exact .inl (.inr ⟨o, by rw [del_ne fun z => by rw [z, eq] at e; cases e]; exact e⟩)
  · exact .inr e
section
variable {K : Frag} {mg : Str → Option Value} {Wx : WX} {ta tb : TE} {a b : ME} {t : TA} {as : MA} {m : MA} {ts : TS} {ms : MS}
theorem sf_lst (ha : SA K mg Wx t as) : SF K mg Wx (tLst t) (mLstO as) := by
  intro h H0 H s σ ρ Q g S p
  refine ha h H0 H s σ ρ _ g S (PostF.bind p fun ds s1 xs A B st g1 dx p1 => ?_)
  by_cases c : ds.length ≤ 100000
  · rw [if_pos c] at p1
    refine ⟨by rw [dx.len]; exact sizeOk.le c, fun q hq => ?_⟩
    obtain ⟨g2, st2⟩ := g1.side (o := .lst xs) hq
    obtain ⟨gl, a1, a2, a3, a4⟩ := g1.gl
    exact p1 q xs A _ st2 g2 (fresh_to (S.step st) hq) (g1.ex.free hq) (notH g1 hq) upd_same dx
  · rw [if_neg c] at p1
    exact p1.elim
where
  notH {h : Addr} {A B : Hp} {s : Hd} {q : Addr} {u : HO} (g : G h A B s) (hq : B q = none) : ¬ isH h (upd B q u) q := by
    obtain ⟨gl, a1, a2, a3, a4⟩ := g.gl
    have n1 : h ≠ q := ne_of_none a3 hq
    intro z
    rcases z with z | ⟨r, z⟩
    · exact n1 z.symm
    · rw [upd_ne n1, a3] at z
      cases z
      rw [hq] at a4
      cases a4
theorem sf_lc {wi : TI} {mi : MA} (I : SI K mg Wx wi mi) {js vs : List Nat} {g : TG} {gm : GM} {tt : TT} {mt : MT} (hg : SG K mg js g gm) (hv : ∀ j ∈ js, j ∈ vs) (ht : ST K mg WF tt mt) (ha : SE K mg WF ta a) : SF K mg Wx (tLc wi g tt ta vs) (mToL (mLc gm mi mt a vs)) := by
  intro h H0 H s σ ρ Q g0 S p
  refine I.lcF hg hv ht ha h H0 H s σ ρ Q (fun r => PostF K mg Wx h (toL r) σ ρ H0 H Q) (fun z => z.elim) (fun c fs ρ s z => z) (fun A B st => ?_) g0 S p
  intro D A' B' s' acc vv hB st2 g2 hD nD eD da p2
  exact p2 D vv A' B' (st.trans st2) g2 (fresh_to (S.step st) hB) hD nD eD da
theorem sf_listc (ha : SE K mg Wx ta a) : SF K mg Wx (tCB (fun xs H Q => ∃ p ys, xs = [.ref p] ∧ (SqL K H p ys ∨ SqT K H p ys) ∧ ∀ l, H l = none → Q (.ref l) (upd H l (.lst ys))) (tCons ta tNil)) (mListO a) := by
  intro h H0 H s σ ρ Q g S p
  refine ha h H0 H s σ ρ _ g S (PostF.bind p fun d s1 x A B st g1 dx p1 => ?_)
  cases dx with
  | @lst aa xs ds qa ra =>
    refine ⟨_, _, rfl, .inl (SqL.of (g1.ex _ _ qa)), fun q hq => ?_⟩
    obtain ⟨g2, st2⟩ := g1.side (o := .lst xs) hq
    exact p1 q xs A _ st2 g2 (fresh_to (S.step st) hq) (g1.ex.free hq) (sf_lst.notH g1 hq) upd_same ra
  | @tup aa xs ds qa ra =>
    refine ⟨_, _, rfl, .inr (sqt_mono g1.ex qa), fun q hq => ?_⟩
    obtain ⟨g2, st2⟩ := g1.side (o := .lst xs) hq
    exact p1 q xs A _ st2 g2 (fresh_to (S.step st) hq) (g1.ex.free hq) (sf_lst.notH g1 hq) upd_same ra
  | _ => exact p1.elim
theorem sf_cat (ha : SE K mg Wx ta a) (hb : SE K mg Wx tb b) : SF K mg Wx (tOp (rAddA K) ta tb) (mCatO a b) := by
  intro h H0 H s σ ρ Q g S p
  refine ha h H0 H s σ ρ _ g S (PostF.bind p fun d s1 x A B st g1 dx p1 => hb h A B s1 σ ρ _ g1 (S.step st) (PostF.bind p1 fun e s2 y A2 B2 st2 g2 dy p2 => ?_))
  have dx := dx.mono st2.s0
  cases dx with
  | @lst aa xs ds qa ra =>
    cases dy with
    | @lst bb ys es qb rb =>
      by_cases c : sizeOk (ds.length + es.length)
      · simp only [c, if_true] at p2
        refine .inr (.inr (.inl ⟨_, _, _, _, rfl, rfl, g2.ex _ _ qa, g2.ex _ _ qb, ?_, fun q hq => ?_⟩))
        · rw [ra.len, rb.len]
          exact c.le
        · obtain ⟨g3, st3⟩ := g2.side (o := .lst (xs ++ ys)) hq
          exact p2 q _ A2 _ st3 g3 (fresh_to ((S.step st).step st2) hq) (g2.ex.free hq) (sf_lst.notH g2 hq) upd_same (ra.append rb)
      · simp only [c, if_false] at p2
        exact p2.elim
    | _ => exact p2.elim
  | _ => exact p2.elim
theorem ss_setO {i : Nat} (ha : SF K mg Wx ta m) : SS K mg Wx (tAsg ta (gName i)) (mSetO i m) := by
  intro h H0 H s σ ρ D g S p
  refine ha h H0 H s σ ρ _ g S ?_
  have p : PostS K mg h ((m ρ s).bind _) H0 H Wx D := p
  cases e : m ρ s with
  | ok ds s1 =>
    rw [e] at p
    exact fun q vs A B st g1 fr n0 nh eq da => p _ A B st.s0 g1 ((S.step st).put ⟨q, vs, rfl, eq, n0, nh, fr.1, da⟩ fun q2 e2 _ j l nj el ml => by
      cases e2
      exact fr.2 j l el ml)
  | err c fs ρ' s1 =>
    rw [e] at p
    exact p
  | bad =>
    rw [e] at p
    exact p
theorem isH_upd {h : Addr} {B : Hp} {q p : Addr} {u : HO} (n : p ≠ h) (nh : ¬ isH h B q) : ¬ isH h (upd B p u) q := fun z => by
  rcases z with z | ⟨r, z⟩
  · exact nh (.inl z)
  · rw [upd_ne fun y => n y.symm] at z
    exact nh (.inr ⟨r, z⟩)
theorem ss_app {i : Nat} (ha : SE K mg Wx ta a) : SS K mg Wx (tDrop (tBM K "list" rAppend (tVar i) (tCons ta tNil))) (mApp i a) := by
  intro h H0 H s σ ρ D g S p
  have p : PostS K mg h (mApp i a ρ s) H0 H Wx D := p
  unfold mApp at p
  split at p
  · rename_i ds ei
    obtain ⟨q, vs, es, eq, n0, nh, nf, da⟩ := S.own ei
    refine ⟨.ref q, es, .inl ⟨rfl, vs, SqL.of eq⟩, ha h H0 H s σ ρ _ g S (PostS.bind p fun d s1 x A B st g1 dx p1 => ?_)⟩
    obtain ⟨q2, vs2, es2, eq2, n02, nh2, nf2, da2⟩ := (S.step st).own ei
    obtain rfl : q = q2 := by
      rw [es] at es2
      cases es2
      rfl
    by_cases c : sizeOk ds.length
    · simp only [if_pos c] at p1
      refine ⟨q, vs2, x, rfl, rfl, eq2, by rw [da2.len]; exact c.lt, ?_⟩
      have nha : q ≠ h.a := fun z => nh2 (.inl z)
      exact p1 σ A _ (Same.refl _) (g1.at n02 nh2) ((S.step st).mut (u := .lst (vs2 ++ [x])) ei rfl es nh2 nf2 rfl ⟨q, vs2 ++ [x], rfl, upd_same, n02, isH_upd nha nh2, nf2, da2.append (.cons dx .nil)⟩)
    · simp only [if_neg c] at p1
      exact p1.elim
  · exact p.elim
theorem ss_setI {i : Nat} (hb : SE K mg Wx tb b) (ha : SE K mg Wx ta a) : SS K mg Wx (tAsg ta (gSub (tVar i) tb rSetL)) (mSetI i b a) := by
  intro h H0 H s σ ρ D g S p
  refine ha h H0 H s σ ρ _ g S (PostS.bind p fun d s1 x A B st g1 dx p1 => ?_)
  split at p1
  · rename_i ds ei
    obtain ⟨q, vs, es, eq, n0, nh, nf, da⟩ := (S.step st).own ei
    refine ⟨.ref q, es, hb h A B s1 σ ρ _ g1 (S.step st) (PostS.bind p1 fun k s2 y A2 B2 st2 g2 dy p2 => ?_)⟩
    obtain ⟨q2, vs2, es2, eq2, n02, nh2, nf2, da2⟩ := ((S.step st).step st2).own ei
    obtain rfl : q = q2 := by
      rw [es] at es2
      cases es2
      rfl
    cases dy with
    | int k =>
      cases ej : ixN ds.length k with
      | none =>
        simp only [ej] at p2
        exact p2.elim
      | some j =>
        simp only [ej] at p2
        refine ⟨q, vs2, k, j, rfl, rfl, eq2, by rw [da2.len]; exact ej, ?_⟩
        have nha : q ≠ h.a := fun z => nh2 (.inl z)
        exact p2 σ A2 _ (Same.refl _) (g2.at n02 nh2) (((S.step st).step st2).mut (u := .lst (vs2.set j x)) ei rfl es nh2 nf2 rfl ⟨q, vs2.set j x, rfl, upd_same, n02, isH_upd nha nh2, nf2, da2.set (dx.mono st2.s0) j⟩)
    | _ => exact p2.elim
  · exact p1.elim
/-! ### reading one's own list -/
theorem se_ixO {i : Nat} (hb : SE K mg Wx tb b) : SE K mg Wx (tOp (rIx K) (tVar i) tb) (mIxO i b) := by
  intro h H0 H s σ ρ Q g S p
  have p : Post K mg h (Den K mg h.a) (mIxO i b ρ s) H0 H Wx Q := p
  unfold mIxO at p
  split at p
  · rename_i ds ei
    obtain ⟨q, vs, es, eq, n0, nh, nf, da⟩ := S.own ei
    refine ⟨.ref q, es, hb h H0 H s σ ρ _ g S (Post.bind p fun k s2 y A2 B2 st2 g2 dy p2 => ?_)⟩
    obtain ⟨q2, vs2, es2, eq2, n02, nh2, nf2, da2⟩ := (S.step st2).own ei
    obtain rfl : q = q2 := by
      rw [es] at es2
      cases es2
      rfl
    cases dy with
    | int k =>
      obtain ⟨z, hz, p3⟩ := post_lift p2
      obtain ⟨v, e1, e2⟩ := da2.atI' hz
      exact .inl ⟨q, vs2, k, v, rfl, rfl, SqL.of eq2, e1, p3 v A2 B2 (.refl _ _) g2 e2⟩
    | _ => exact p2.elim
  · rename_i d ei
    obtain ⟨v, es, dv⟩ := S.dat ei
    refine ⟨v, es, hb h H0 H s σ ρ _ g S (Post.bind p fun k s2 y A2 B2 st2 g2 dy p2 => ?_)⟩
    obtain ⟨z, hz, p3⟩ := post_lift p2
    exact os_ix h A2 B2 s2 v y d k z Q g2 (dv.mono st2.s0) dy hz fun u A3 B3 st3 g3 du => p3 u A3 B3 st3 g3 du
  · exact p.elim
/-! ### an own list becomes data -/
theorem Slots.frz {h : Ent} {H0 H : Hp} {σ : L2.St} {ρ : Env'} {i : Nat} {ds : List Dt} {q : Addr} {vs : List V} (S : Slots K mg h H0 H σ ρ) (ei : ρ[i]? = some (.own ds)) (es : σ[i]? = some (some (.ref q))) (eq : H q = some (.lst vs)) (n0 : H0 q = none) (nh : ¬ isH h.a H q) (nf : NF h q)
    (da : DenA K mg h.a H0 vs ds) : Slots K mg h (upd H0 q (.lst vs)) H σ (ρ.set i (.dat (.lst ds))) := by
  have e0 : Same H0 (upd H0 q (.lst vs)) := same_upd' n0
  have hl : i < ρ.length := (List.getElem?_eq_some_iff.mp ei).1
  refine ⟨by rw [List.length_set]; exact S.len, fun j o l a b => ?_, fun j k p a b e1 e2 m1 m2 e3 e4 => ?_, ⟨S.st.s0.trans e0, fun p o x y z => ?_⟩⟩
  · by_cases hj : i = j
    · subst hj
      rw [List.getElem?_set_self hl] at b
      cases b
      rw [es] at a
      cases a
      exact .lst upd_same (da.mono e0)
    · rw [List.getElem?_set_ne hj] at b
      have w := S.at_ j o l a b
      cases o with
      | none =>
        cases l with
        | no => exact True.intro
        | dat d => exact w
        | own ds => exact w
        | slf c fs => exact w
      | some v =>
        cases l with
        | no => exact True.intro
        | dat d => exact Den.mono e0 w
        | own ds' =>
          obtain ⟨p', vs', rfl, a1, b1, c1, nf1, d1⟩ := w
          have ne : p' ≠ q := fun z => by
            subst z
            exact hj (S.ds i j p' _ _ ei b rfl rfl es a)
          exact ⟨p', vs', rfl, a1, by rw [upd_ne ne]; exact b1, c1, nf1, d1.mono e0⟩
        | slf c fs =>
          obtain ⟨p', C, dx, vs', rfl, ep, m, a1, b1, c1, nf1, d1⟩ := w
          have ne : p' ≠ q := fun z => by
            subst z
            exact hj (S.ds i j p' _ _ ei b rfl rfl es a)
          exact ⟨p', C, dx, vs', rfl, ep, m, a1, by rw [upd_ne ne]; exact b1, c1, nf1, d1.mono e0⟩
  · have ne : ∀ (j : Nat) (a : Sl), (ρ.set i (.dat (.lst ds)))[j]? = some a → a.mine = true → ρ[j]? = some a := fun j a e m => by
      by_cases hj : i = j
      · subst hj
        rw [List.getElem?_set_self hl] at e
        cases e
        cases m
      · rwa [List.getElem?_set_ne hj] at e
    exact S.ds j k p a b (ne j a e1 m1) (ne k b e2 m2) m1 m2 e3 e4
  · obtain ⟨a1, b1, c1⟩ := S.st.fr p o x y z
    have ne : p ≠ q := fun w => by
      subst w
      exact z (nf o x y)
    exact ⟨a1, by rw [upd_ne ne]; exact b1, c1⟩
theorem G.frz {h : Addr} {H0 H : Hp} {s : Hd} {q : Addr} {u : HO} (g : G h H0 H s) (eq : H q = some u) (nh : ¬ isH h H q) : G h (upd H0 q u) H s := by
  obtain ⟨gl, a1, a2, a3, a4⟩ := g.gl
  refine ⟨fun p o x => ?_, by rw [upd_ne fun z => nh (.inl z.symm)]; exact g.h0, gl, by rw [upd_ne fun z => nh (.inr ⟨_, by rw [← z]; exact a3⟩)]; exact a1, a2, a3, a4⟩
  by_cases e : p = q
  · subst e
    rw [upd_same] at x
    cases x
    exact eq
  · rw [upd_ne e] at x
    exact g.ex _ _ x
theorem ss_frz {i : Nat} (hs : SS K mg Wx ts ms) : SS K mg Wx ts (fun ρ s => ms (frzE ρ i) s) := by
  intro h H0 H s σ ρ D g S p
  have p : PostS K mg h (ms (frzE ρ i) s) H0 H Wx D := p
  unfold frzE at p
  split at p
  · rename_i ds ei
    obtain ⟨q, vs, es, eq, n0, nh, nf, da⟩ := S.own ei
    exact hs h _ H s σ _ D (g.frz eq nh) (S.frz ei es eq n0 nh nf da) (PostS.step (same_upd' n0) p)
  · exact hs h H0 H s σ ρ D g S p
theorem ss_frzs (hs : SS K mg Wx ts ms) : ∀ is : List Nat, SS K mg Wx ts (mFrz is ms)
  | [] => hs
  | i :: is => ss_frz (ms := mFrz is ms) (ss_frzs hs is)
/-! ### an own list lent to a reading whose result holds no list -/
mutual
theorem Den.lf {h : Addr} {H : Hp} {q : Addr} {us : List V} (eq : H q = some (.lst us)) : ∀ {v : V} {d : Dt}, Den K mg h H v d → lfree d = true → Den K mg h (del H q) v d
  | _, _, .non, _ => .non
  | _, _, .bl b, _ => .bl b
  | _, _, .int i, _ => .int i
  | _, _, .str x, _ => .str x
  | _, .tup ds, .tup e r, l => .tup (sqt_del eq e) (DenA.lf eq r (by unfold lfree at l; exact l))
  | _, .lst ds, .lst e r, l => by
    unfold lfree at l
    cases l
  | _, .obj c fs, .obj m e r, l => .obj m (by rw [del_ne fun z => by rw [z, eq] at e; cases e]; exact e) (DenF.lf eq r (by unfold lfree at l; exact l))
  | _, _, .hnd, _ => .hnd
  | _, _, .dct e, _ => .dct (by rw [del_ne fun z => by rw [z, eq] at e; cases e]; exact e)
  | _, _, .fn e, _ => .fn e
theorem DenA.lf {h : Addr} {H : Hp} {q : Addr} {us : List V} (eq : H q = some (.lst us)) : ∀ {v : List V} {d : List Dt}, DenA K mg h H v d → lfreeA d = true → DenA K mg h (del H q) v d
  | _, _, .nil, _ => .nil
  | _, d :: ds, .cons r t, l => by
    unfold lfreeA at l
    rw [Bool.and_eq_true] at l
    exact .cons (Den.lf eq r l.1) (DenA.lf eq t l.2)
theorem DenF.lf {h : Addr} {H : Hp} {q : Addr} {us : List V} (eq : H q = some (.lst us)) : ∀ {v : List (Str × V)} {d : List (Str × Dt)}, DenF K mg h H v d → lfreeF d = true → DenF K mg h (del H q) v d
  | _, _, .nil, _ => .nil
  | _, (n, d) :: ds, .cons r t, l => by
    unfold lfreeF at l
    rw [Bool.and_eq_true] at l
    exact .cons (Den.lf eq r l.1) (DenF.lf eq t l.2)
end
/-- behind the lending: the list is one's own again -/
theorem lend_back {h : Addr} {H0 H A B : Hp} {s' : Hd} {q : Addr} {us : List V} (eq : H q = some (.lst us)) (n0 : H0 q = none) (st : Step h (upd H0 q (.lst us)) H A B) (g : G h A B s') : Step h H0 H (del A q) B ∧ G h (del A q) B s' ∧ A q = some (.lst us) ∧ ¬ isH h B q ∧ Same H0 (del A q) := by
  have aq : A q = some (.lst us) := st.s0 _ _ upd_same
  obtain ⟨gl, a1, a2, a3, a4⟩ := g.gl
  have nh : ¬ isH h B q := fun z => by
    rcases z with z | ⟨r, z⟩
    · rw [z, g.h0] at aq
      cases aq
    · rw [a3] at z
      cases z
      rw [a1] at aq
      cases aq
  have sm : Same H0 (del A q) := fun b o e => by
    have nb : b ≠ q := ne_of_none e n0
    rw [del_ne nb]
    exact st.s0 _ _ (by rw [upd_ne nb]; exact e)
  refine ⟨⟨sm, fun b o x y z => ?_⟩, ⟨fun b o x => ?_, ?_, gl, ?_, a2, a3, a4⟩, aq, nh, sm⟩
  · by_cases e : b = q
    · subst e
      rw [x] at eq
      cases eq
      exact ⟨g.ex _ _ aq, del_same, nh⟩
    · obtain ⟨w1, w2, w3⟩ := st.fr b o x (by rw [upd_ne e]; exact y) z
      exact ⟨w1, by rw [del_ne e]; exact w2, w3⟩
  · by_cases e : b = q
    · subst e
      rw [del_same] at x
      cases x
    · rw [del_ne e] at x
      exact g.ex _ _ x
  · by_cases e : h = q
    · rw [e, del_same]
    · rw [del_ne e]
      exact g.h0
  · by_cases e : gl = q
    · rw [e, del_same]
    · rw [del_ne e]
      exact a1
theorem err_lend {h : Ent} {H0 H : Hp} {σ : L2.St} {ρ ρ' : Env'} {q : Addr} {us : List V} {s' : Hd} {c : Str} {fs : List (Str × Dt)} (S : Slots K mg h H0 H σ ρ) (eq : H q = some (.lst us)) (n0 : H0 q = none) (l : lfreeF fs = true) (p : ErrP K mg h H0 c fs (ρ'.map lfSl) s' Wx) : ErrP K mg h (upd H0 q (.lst us)) c fs ρ' s' Wx := by
  intro σ' C dd A B sm g S' mc x
  have aq : A q = some (.lst us) := sm _ _ upd_same
  have sm0 : Same H0 (del A q) := fun b o e => by
    have nb : b ≠ q := ne_of_none e n0
    rw [del_ne nb]
    exact sm _ _ (by rw [upd_ne nb]; exact e)
  have g2 : G h.a (del A q) B s' := by
    obtain ⟨gl, a1, a2, a3, a4⟩ := g.gl
    refine ⟨fun b o x => ?_, ?_, gl, ?_, a2, a3, a4⟩
    · by_cases e : b = q
      · subst e
        rw [del_same] at x
        cases x
      · rw [del_ne e] at x
        exact g.ex _ _ x
    · by_cases e : h.a = q
      · rw [e, del_same]
      · rw [del_ne e]
        exact g.h0
    · by_cases e : gl = q
      · rw [e, del_same]
      · rw [del_ne e]
        exact a1
  refine p σ' C dd (del A q) B sm0 g2 ⟨by rw [List.length_map]; exact S'.len, fun j o l' a b => ?_, fun i j p a b e1 _ m1 _ _ _ => ?_, ?_⟩ mc (by cases dd with | none => exact x | some dd => obtain ⟨nz, fv, x, f⟩ := x; exact ⟨nz, fv, x, f.lf aq l⟩)
  · rw [List.getElem?_map] at b
    cases e : ρ'[j]? with
    | none =>
      rw [e] at b
      cases b
    | some l0 =>
      rw [e] at b
      cases b
      have w := S'.at_ j o l0 a e
      cases l0 with
      | dat d =>
        by_cases c : lfree d = true
        · have e2 : lfSl (.dat d) = .dat d := if_pos c
          rw [e2]
          cases o with
          | none => exact w
          | some v => exact Den.lf aq w c
        · have e2 : lfSl (.dat d) = .no := if_neg c
          rw [e2]
          cases o <;> exact True.intro
      | no => cases o <;> exact True.intro
      | own ds => cases o <;> exact True.intro
      | slf c fs => cases o <;> exact True.intro
  · rw [List.getElem?_map] at e1
    cases e : ρ'[i]? with
    | none =>
      rw [e] at e1
      cases e1
    | some l0 =>
      rw [e] at e1
      cases e1
      cases l0 with
      | dat d =>
        by_cases c : lfree d = true
        · have e2 : lfSl (.dat d) = .dat d := if_pos c
          rw [e2] at m1
          cases m1
        · have e2 : lfSl (.dat d) = .no := if_neg c
          rw [e2] at m1
          cases m1
      | no => cases m1
      | own ds => cases m1
      | slf c fs => cases m1
  · refine ⟨S.st.s0.trans sm0, fun b o x y z => ?_⟩
    obtain ⟨w1, w2, w3⟩ := S'.st.fr b o x y z
    refine ⟨w1, ?_, w3⟩
    by_cases e : b = q
    · rw [e, del_same]
    · rw [del_ne e]
      exact w2
theorem se_bor {i : Nat} (ha : SE K mg Wx ta a) : SE K mg Wx ta (mBor i a) := by
  intro h H0 H s σ ρ Q g S p
  have p : Post K mg h (Den K mg h.a) (mBor i a ρ s) H0 H Wx Q := p
  unfold mBor at p
  split at p
  · rename_i ds ei
    obtain ⟨q, vs, es, eq, n0, nh, nf, da⟩ := S.own ei
    refine ha h _ H s σ _ Q (g.frz eq nh) (S.frz ei es eq n0 nh nf da) ?_
    split at p
    · rename_i d s' e
      rw [e]
      split at p
      · rename_i l
        intro v A B st g1 dv
        obtain ⟨st2, g2, aq, _⟩ := lend_back eq n0 st g1
        exact p v _ B st2 g2 (dv.lf aq l)
      · exact p.elim
    · rename_i c fs ρ' s' e
      rw [e]
      split at p
      · rename_i l
        exact err_lend S eq n0 l p
      · exact p.elim
    · exact p.elim
  · exact ha h H0 H s σ ρ Q g S p
theorem st_bor {i : Nat} {tt : TT} {mt : MT} (ha : ST K mg Wx tt mt) : ST K mg Wx tt (mBorT i mt) := by
  intro h H0 H s σ ρ Q g S p
  have p : Post K mg h EqB (mBorT i mt ρ s) H0 H Wx Q := p
  unfold mBorT at p
  split at p
  · rename_i ds ei
    obtain ⟨q, vs, es, eq, n0, nh, nf, da⟩ := S.own ei
    refine ha h _ H s σ _ Q (g.frz eq nh) (S.frz ei es eq n0 nh nf da) ?_
    split at p
    · rename_i d s' e
      rw [e]
      intro v A B st g1 dv
      obtain ⟨st2, g2, aq, _⟩ := lend_back eq n0 st g1
      exact p v _ B st2 g2 dv
    · rename_i c fs ρ' s' e
      rw [e]
      split at p
      · rename_i l
        exact err_lend S eq n0 l p
      · exact p.elim
    · exact p.elim
  · exact ha h H0 H s σ ρ Q g S p
end
end Mir


set_option Elab.async false
set_option linter.all false
set_option maxRecDepth 100000
/-! Texts of one's own lists; objects: made, their fields, methods, len, ==. -/
namespace Mir
open PySem PySem.Spec PyProof.Rows L2
open PySem.W (Frag)

/-! ### one's own lists: texts -/
section
variable {X : Cx} {Wx : WX} {a b e e2 : Expr} {ma mb : ME} {as m : MA} {es : List Expr} {pos p p2 p3 p4 : Pos} {mt : MT} {st : Stmt} {sts : List Stmt} {ms : MS}
theorem qf_lst (h : QA X Wx es as) : QF X Wx (.List es pos) (mLstO as) := by
  obtain ⟨t, q, s⟩ := h
  exact ⟨_, pe_lst q, sf_lst s⟩
theorem qf_list (ha : QE X Wx e ma) (hg : Gl X "list") (hm : X.mg "list" = none) (he : starEach [e] X.env = (false, eval e X.env) :: starEach [] X.env := by rfl) (hpl : (backTo pos (starEach [] X.env)).any (·.1) = false := by rfl) : QF X Wx (.Call (.Name "list" p) [e] [] pos) (mListO ma) := by
  obtain ⟨t, q, s⟩ := ha
  exact ⟨_, pe_callTy call_list_of hg hm (by decide +kernel) (pa_cons q pa_nil he) (by decide) (by decide) he hpl, sf_listc s⟩
theorem qf_cat (ha : QE X Wx a ma) (hb : QE X Wx b mb) : QF X Wx (.BinOp a .Add b pos) (mCatO ma mb) := by
  obtain ⟨ta, pa, sa⟩ := ha
  obtain ⟨tb, pb, sb⟩ := hb
  exact ⟨_, pe_op op_addA pa pb, sf_cat sa sb⟩
theorem qs_setO (i : Nat) {x : Str} {pos' : Pos} (hN : X.N.Nodup) (he : QF X Wx e m) (hi : X.N[i]? = some x := by rfl) (hx : Loc X.env.scope x := by first | exact Or.inl rfl | exact Or.inr rfl) (hs : swapsWith e (some (.Name x pos')) pos.line X.env = pure false := by rfl)
    (hf : X.fn x = true ∨ X.env.scope.names.lookup x = some .local := by first | exact .inl rfl | exact .inr rfl) : QS X Wx (.Assign [.Name x pos'] e pos) (mSetO i m) := by
  obtain ⟨t, q, s⟩ := he
  exact ⟨_, ps_set hN hi hx q hs hf, ss_setO s⟩
theorem qs_app (i : Nat) {x : Str} (hN : X.N[i]? = some x) (he : QE X Wx e ma) (hv : Vis X.env.scope x := by first | exact Or.inl rfl | exact Or.inr (Or.inl rfl) | exact Or.inr (Or.inr rfl)) (hd : (x == ("__debug__" : Str)) = false := by decide)
    (hcd : (x == ("__classdict__" : Str)) = false := by decide)
    (hbase : attributeBase (.Name x p) "append" X.env (eval (.Name x p) X.env) = eval (.Name x p) X.env := by rfl)
    (hfew : ((backTo p3 (starEach [e] X.env)).all (fun x => !x.1) && (backToKw p3 (keywordEach [] X.env)).all (fun x => x.1.isSome) && decide ([e].length + ([] : List Keyword).length + (if ([] : List Keyword).isEmpty then 0 else 1) < 30)) = true := by rfl)
    (hline : (p2.endLine == p3.line) = true := by rfl) (hse : starEach [e] X.env = (false, eval e X.env) :: starEach [] X.env := by rfl) (hplain : (backTo p3 (starEach [] X.env)).any (·.1) = false := by rfl)
    (hs : swapsWith (.Call (.Attribute (.Name x p) "append" p2) [e] [] p3) none pos.line X.env = pure false := by rfl) : QS X Wx (.Expr (.Call (.Attribute (.Name x p) "append" p2) [e] [] p3) pos) (mApp i ma) := by
  obtain ⟨t, q, s⟩ := he
  exact ⟨_, ps_expr (pe_bm PySem.F.plainAttrs_list PySem.F.slot_list_append PySem.F.type_list_append mt_append (pe_var hN hv hd hcd) (pa_cons q pa_nil hse) hbase hfew hline hse hplain) hs, ss_app s⟩
theorem qs_setI (i : Nat) {x : Str} (hN : X.N[i]? = some x) (hb : QE X Wx b mb) (ha : QE X Wx a ma) (hv : Vis X.env.scope x := by first | exact Or.inl rfl | exact Or.inr (Or.inl rfl) | exact Or.inr (Or.inr rfl)) (hd : (x == ("__debug__" : Str)) = false := by decide)
    (hcd : (x == ("__classdict__" : Str)) = false := by decide)
    (hh : ∀ v, assign (.Subscript (.Name x p) b p2) X.env v = (do
      let ov ← holding [v] (eval (.Name x p) X.env)
      let iv ← holding [v, ov] (eval b X.env)
      standAt p2
      holding [v, ov, iv] (setItem ov iv v)
      release [v, ov, iv] []) := by intro _; rfl)
    (hs : swapsWithSole [.Subscript (.Name x p) b p2] a pos.line X.env = pure false := by rfl) (hw : swappedStores [.Subscript (.Name x p) b p2] a X.env = pure none := by rfl)
    (h1 : (assignEach [.Subscript (.Name x p) b p2] X.env).map (·.2) = [assign (.Subscript (.Name x p) b p2) X.env] := by rfl) : QS X Wx (.Assign [.Subscript (.Name x p) b p2] a pos) (mSetI i mb ma) := by
  obtain ⟨ta, pa, sa⟩ := ha
  obtain ⟨tb, pb, sb⟩ := hb
  exact ⟨_, ps_asg pa (pg_sub (pe_var hN hv hd hcd) pb set_list hh) hs hw h1, ss_setI sb sa⟩
theorem qe_ixO (i : Nat) {x : Str} (hN : X.N[i]? = some x) (hb : QE X Wx b mb) (hv : Vis X.env.scope x := by first | exact Or.inl rfl | exact Or.inr (Or.inl rfl) | exact Or.inr (Or.inr rfl)) (hd : (x == ("__debug__" : Str)) = false := by decide)
    (hcd : (x == ("__classdict__" : Str)) = false := by decide) (hs : PlainIx b := by exact fun _ _ => rfl) : QE X Wx (.Subscript (.Name x p) b pos) (mIxO i mb) := by
  obtain ⟨tb, pb, sb⟩ := hb
  exact ⟨_, pe_ix ix_seq (pe_var hN hv hd hcd) pb hs, se_ixO sb⟩
theorem qe_bor (i : Nat) (ha : QE X Wx a ma) : QE X Wx a (mBor i ma) := by
  obtain ⟨t, q, s⟩ := ha
  exact ⟨t, q, se_bor s⟩
theorem qt_bor (i : Nat) (ha : QT X Wx a mt) : QT X Wx a (mBorT i mt) := by
  obtain ⟨t, q, s⟩ := ha
  exact ⟨t, q, st_bor s⟩
theorem qs_frz (is : List Nat) (hs : QS X Wx st ms) : QS X Wx st (mFrz is ms) := by
  obtain ⟨t, q, s⟩ := hs
  exact ⟨t, q, ss_frzs s is⟩
end
section
variable {X : Cx} {Wx : WX} {elt tg iter : Expr} {scope : Scope} {own : List (Str × Nat)} {pos : Pos} {g : TG} {m : GM} {js : List Nat} {ifs : List Expr} {mt : MT} {ma : ME}
theorem qf_lc {mi : MA} {vs : List Nat} (hc : X.calm = true) (hN : X.N.Nodup) (hi : QI X Wx iter mi) (ok : BlkOk X.N X.env.scope scope own) (hvs : own.map (·.2) = vs) (hv : ∀ j ∈ js, j ∈ vs) (hsg : SG X.K X.mg js g m)
    (hg : ∀ (s : Shared) (H : Hp) (C : Addr) (cl : List (Str × Addr)) (fp : List Addr), PG (X.blk s H scope (compEnvC scope cl C X.env) fp) tg g)
    (ht : ∀ (s : Shared) (H : Hp) (C : Addr) (cl : List (Str × Addr)) (fp : List Addr), QTs (X.blk s H scope (compEnvC scope cl C X.env) fp) ifs mt)
    (he : ∀ (s : Shared) (H : Hp) (C : Addr) (cl : List (Str × Addr)) (fp : List Addr), QE (X.blk s H scope (compEnvC scope cl C X.env) fp) WF elt ma) :
    QF X Wx (.ListComp elt [⟨tg, iter, ifs, 0⟩] scope pos) (mToL (mLc m mi mt ma vs)) := by
  subst hvs
  obtain ⟨wi, q, s, hs⟩ := hi
  exact ⟨_, pe_lc hc hN (q _) ok hg (fun s H C cl fp => (ht s H C cl fp).can) (fun s H C cl fp => (he s H C cl fp).can) hs, sf_lc s hsg hv st_cT se_cE⟩
theorem qs_setLcO {mi : MA} {vs : List Nat} (i : Nat) {y : Str} {py spos : Pos} (hc : X.calm = true) (hN : X.N.Nodup) (hi : QI X Wx iter mi) (ok : BlkOk X.N X.env.scope scope own) (hvs : own.map (·.2) = vs) (hv : ∀ j ∈ js, j ∈ vs) (hsg : SG X.K X.mg js g m)
    (hg : ∀ (s : Shared) (H : Hp) (C : Addr) (cl : List (Str × Addr)) (fp : List Addr), PG (X.blk s H scope (compEnvC scope cl C X.env) fp) tg g)
    (ht : ∀ (s : Shared) (H : Hp) (C : Addr) (cl : List (Str × Addr)) (fp : List Addr), QTs (X.blk s H scope (compEnvC scope cl C X.env) fp) ifs mt)
    (he : ∀ (s : Shared) (H : Hp) (C : Addr) (cl : List (Str × Addr)) (fp : List Addr), QE (X.blk s H scope (compEnvC scope cl C X.env) fp) WF elt ma)
    (hy : X.N[i]? = some y := by rfl) (hyl : X.env.scope.names.lookup y = some .local := by rfl) (hsw : swapsWith (.ListComp elt [⟨tg, iter, ifs, 0⟩] scope pos) (some (.Name y py)) spos.line X.env = pure true := by exact sw_true rfl rfl rfl (by decide +kernel)) :
    QS X Wx (.Assign [.Name y py] (.ListComp elt [⟨tg, iter, ifs, 0⟩] scope pos) spos) (mSetO i (mToL (mLc m mi mt ma vs))) := by
  subst hvs
  obtain ⟨wi, q, s, hs⟩ := hi
  exact ⟨_, ps_setLc hc hN hy hyl hsw (q _) ok hg (fun s H C cl fp => (ht s H C cl fp).can) (fun s H C cl fp => (he s H C cl fp).can) hs, ss_setO (sf_lc s hsg hv st_cT se_cE)⟩
end

/-! ### fields -/
def mAttr (cs : List Str) (f : Str) (a : ME) : ME := fun ρ s => (a ρ s).bind fun d s1 => match d with
  | .obj c fs => if c ∈ cs then liftO (fs.lookup f) s1 else .bad
  | _ => .bad
/-- in the classes cs the name f is a field -/
def FldOk (K : Frag) (mg : Str → Option Value) (cs : List Str) (f : Str) : Prop := ∀ c ∈ cs, ∀ C, mg c = some (.ref C) → Cls K C ∧ NoAttr K C f
def putFD (f : Str) (v : Dt) : List (Str × Dt) → List (Str × Dt)
  | [] => [(f, v)]
  | (g, x) :: r => if g = f then (g, v) :: r else (g, x) :: putFD f v r
/-- self.f = a, self at slot i still being made -/
def mFld (i : Nat) (cs : List Str) (f : Str) (a : ME) : MS := fun ρ s => (a ρ s).bind fun d s1 => match ρ[i]? with
  | some (.slf c fs) => if c ∈ cs ∧ fs.length < 1000 then .ok (.nx (ρ.set i (.slf c (putFD f d fs)))) s1 else .bad
  | _ => .bad
section
variable {K : Frag} {mg : Str → Option Value} {Wx : WX} {ta tb : TE} {a b : ME} {cs : List Str} {f : Str}
theorem DenF.put {h : Addr} {H : Hp} {v : V} {d : Dt} (q : Den K mg h H v d) : ∀ {fv : List (Str × V)} {fs : List (Str × Dt)}, DenF K mg h H fv fs → DenF K mg h H (putF f v fv) (putFD f d fs)
  | _, _, .nil => .cons q .nil
  | _, _, @DenF.cons _ _ _ _ n x vs d' ds r t => by
    unfold putF putFD
    by_cases c : n = f
    · rw [if_pos c, if_pos c]
      exact .cons q t
    · rw [if_neg c, if_neg c]
      exact .cons r (DenF.put q t)
theorem DenF.len {h : Addr} {H : Hp} : ∀ {fv : List (Str × V)} {fs : List (Str × Dt)}, DenF K mg h H fv fs → fv.length = fs.length
  | _, _, .nil => rfl
  | _, _, .cons _ t => congrArg Nat.succ (DenF.len t)
theorem DenF.no {h : Addr} {H : Hp} : ∀ {fv : List (Str × V)} {fs : List (Str × Dt)}, DenF K mg h H fv fs → fs.lookup f = none → fv.lookup f = none
  | _, _, .nil, _ => rfl
  | _, _, @DenF.cons _ _ _ _ n x vs d' ds r t, e => by
    by_cases c : f = n
    · subst c
      simp only [List.lookup, beq_self_eq_true] at e
      cases e
    · have c' : (f == n) = false := by simpa using c
      simp only [List.lookup, c'] at e ⊢
      exact DenF.no t e
theorem se_attr (hc : FldOk K mg cs f) (ha : SE K mg Wx ta a) : SE K mg Wx (tFld K ta f) (mAttr cs f a) := by
  intro h H0 H s σ ρ Q g S p
  refine ha h H0 H s σ ρ _ g S (Post.bind p fun d s1 x A B st g1 dx p1 => ?_)
  cases dx with
  | @obj aa C dxx c fv fs m e r =>
    by_cases cc : c ∈ cs
    · simp only [if_pos cc] at p1
      obtain ⟨z, hz, p2⟩ := post_lift p1
      obtain ⟨v, e1, e2⟩ := r.look hz
      obtain ⟨k1, k2⟩ := hc c cc C m
      exact ⟨aa, C, dxx, fv, v, rfl, g1.ex _ _ e, k1, k2, e1, p2 v A B (.refl _ _) g1 e2⟩
    · simp only [if_neg cc] at p1
      exact p1.elim
  | _ => exact p1.elim
theorem ss_fld {i : Nat} (hc : FldOk K mg cs f) (ha : SE K mg Wx ta a) : SS K mg Wx (sFld K (tVar i) ta f) (mFld i cs f a) := by
  intro h H0 H s σ ρ D g S p
  refine ha h H0 H s σ ρ _ g S (PostS.bind p fun d s1 x A B st g1 dx p1 => ?_)
  split at p1
  · rename_i c fs ei
    obtain ⟨q, C, dxx, vs, es, ep, m, eq, n0, nh, nf, da⟩ := (S.step st).slf ei
    by_cases cc : c ∈ cs ∧ fs.length < 1000
    · rw [if_pos cc] at p1
      obtain ⟨k1, k2⟩ := hc c cc.1 C m
      have nha : q ≠ h.a := fun z => nh (.inl z)
      refine ⟨.ref q, es, q, C, dxx, vs, rfl, eq, k1, k2, by rw [da.len]; exact cc.2, ?_⟩
      exact p1 σ A _ (Same.refl _) (g1.at n0 nh) ((S.step st).mut (u := .ins C dxx (putF f x vs)) ei rfl es nh nf rfl ⟨q, C, dxx, _, rfl, ep, m, upd_same, n0, isH_upd nha nh, nf, da.put dx⟩)
    · rw [if_neg cc] at p1
      exact p1.elim
  · exact p1.elim
end
section
variable {X : Cx} {Wx : WX} {a e : Expr} {ma : ME} {pos p p2 : Pos} {f : Str} {cs : List Str}
theorem qe_attr (hc : FldOk X.K X.mg cs f) (ha : QE X Wx a ma) (hb : attributeBase a f X.env (eval a X.env) = eval a X.env := by rfl) : QE X Wx (.Attribute a f pos) (mAttr cs f ma) := by
  obtain ⟨t, q, s⟩ := ha
  exact ⟨_, pe_fld q hb, se_attr hc s⟩
theorem qs_fld (i : Nat) {x : Str} (hc : FldOk X.K X.mg cs f) (hN : X.N[i]? = some x) (he : QE X Wx e ma) (hv : Vis X.env.scope x := by first | exact Or.inl rfl | exact Or.inr (Or.inl rfl) | exact Or.inr (Or.inr rfl)) (hd : (x == ("__debug__" : Str)) = false := by decide)
    (hcd : (x == ("__classdict__" : Str)) = false := by decide) (hs : swapsWith e (some (.Attribute (.Name x p) f p2)) pos.line X.env = pure false := by rfl) : QS X Wx (.Assign [.Attribute (.Name x p) f p2] e pos) (mFld i cs f ma) := by
  obtain ⟨t, q, s⟩ := he
  exact ⟨_, ps_fld (pe_var hN hv hd hcd) q hs, ss_fld hc s⟩
end

/-! ### objects that are made -/
section
variable (K : Frag) (mg : Str → Option Value)
/-- what __init__ of the class c promises: the fields that m says -/
def spN (c : Str) (n : Nat) (m : List Dt → Hd → R (List (Str × Dt))) : Sp := fun vs H Q E => vs.length = n + 1 ∧ ∃ (h : Addr) (H0 : Hp) (s : Hd) (p C dx : Addr) (ws : List V) (ds : List Dt), vs = .ref p :: ws ∧ mg c = some (.ref C) ∧ H p = some (.ins C dx []) ∧ H0 p = none ∧ ¬ isH h H p ∧ G h H0 H s ∧ DenA K mg h H0 ws ds ∧
  (match m ds s with
    | .ok fs s' => ∀ (dx' : Addr) (fv : List (Str × V)) (H0' H' : Hp), Step h H0 (del H p) H0' H' → G h H0' H' s' → H' p = some (.ins C dx' fv) → H0' p = none → ¬ isH h H' p → DenF K mg h H0' fv fs → Q .non H'
    | .err c' fs _ s' => ∀ (C' : Addr) (od : Option Addr) (H0' H' : Hp), Step h H0 (del H p) H0' H' → G h H0' H' s' → mg c' = some (.ref C') → XdOk K mg h H0' H' od fs → E (.ref C') od H'
    | .bad => False)
end
def mMake (c : Str) (n : Nat) (dd : List Dt) (m : List Dt → Hd → R (List (Str × Dt))) (as : MA) : ME := fun ρ s => (as ρ s).bind fun ds s1 =>
  if (ds ++ dd).length = n then (match m (ds ++ dd) s1 with
    | .ok fs s2 => .ok (.obj c fs) s2
    | .err c' fs _ s2 => .err c' fs ρ s2
    | .bad => .bad) else .bad
/-- the function of an __init__ -/
def startI (n : Nat) (c : Str) (ds : List Dt) : Env' := .slf c [] :: (ds.map .dat ++ List.replicate (n - (ds.length + 1)) .no)
def mInit (n : Nat) (c : Str) (ms : MS) : List Dt → Hd → R (List (Str × Dt)) := fun ds s => match ms (startI n c ds) s with
  | .ok (.nx ρ) s' => (match ρ[0]? with
    | some (Sl.slf c' fs) => if c' = c then .ok fs s' else .bad
    | _ => .bad)
  | .err c fs ρ s' => .err c fs ρ s'
  | _ => .bad
/-- C(e, ..) -/
def tMakeS (C : Addr) (sp : Sp) (dvs : List V) (E : L2.St → XK) (t : TA) : TE := fun σ H Q => t σ H fun vs H1 => ∀ x dx, H1 x = none → H1 dx = none → dx ≠ x → sp (.ref x :: (vs ++ dvs)) (upd (upd H1 dx (.own x)) x (.ins C dx [])) (fun v H2 => v = .non ∧ Q (.ref x) H2) (E σ)
section
variable {K : Frag} {mg : Str → Option Value} {Wx : WX} {t : TA} {as : MA}
theorem se_make {c : Str} {n : Nat} {C : Addr} {dvs : List V} {dd : List Dt} {m : List Dt → Hd → R (List (Str × Dt))} (hC : mg c = some (.ref C)) (hd : ∀ (h : Addr) (H : Hp), DenA K mg h H dvs dd) (ha : SA K mg Wx t as) : SE K mg Wx (tMakeS C (spN K mg c n m) dvs (WE Wx) t) (mMake c n dd m as) := by
  intro h H0 H s σ ρ Q g S p
  refine ha h H0 H s σ ρ _ g S (Post.bind p fun ds s1 xs A B st g1 dx p1 => ?_)
  by_cases cc : (ds ++ dd).length = n
  · rw [if_pos cc] at p1
    have dx2 := dx.append (hd h A)
    intro x dxx nx nd ne
    obtain ⟨g2, st2⟩ := g1.side (o := .own x) nd
    have nx2 : (upd B dxx (.own x)) x = none := by rw [upd_ne (Ne.symm ne)]; exact nx
    obtain ⟨g3, st3⟩ := g2.side (o := .ins C dxx []) nx2
    have ax : A x = none := g1.ex.free nx
    have back : ∀ {H0' H' : Hp}, Step h.a A (del (upd (upd B dxx (.own x)) x (.ins C dxx [])) x) H0' H' → Step h.a A B H0' H' := fun {H0' H'} w => ⟨w.s0, fun q o e1 e2 e3 => by
      have n1 : q ≠ x := ne_of_none e1 nx
      have n2 : q ≠ dxx := ne_of_none e1 nd
      obtain ⟨gl, a1, a2, a3, a4⟩ := g1.gl
      have n3 : h.a ≠ x := ne_of_none a3 nx
      have n4 : h.a ≠ dxx := ne_of_none a3 nd
      refine w.fr q o (by rw [del_ne n1, upd_ne n1, upd_ne n2]; exact e1) e2 fun z => e3 ?_
      rcases z with z | ⟨r, z⟩
      · exact .inl z
      · rw [del_ne n3, upd_ne n3, upd_ne n4] at z
        exact .inr ⟨r, z⟩⟩
    refine ⟨by show (xs ++ dvs).length + 1 = n + 1; rw [dx2.len, cc], h, A, s1, x, C, dxx, _, _, rfl, hC, upd_same, ax, sf_lst.notH g2 nx2, g3, dx2, ?_⟩
    cases hm : m (ds ++ dd) s1 with
    | ok fs s2 =>
      rw [hm] at p1
      intro dx' fv H0' H' w g4 e1 e2 e3 df
      have w2 := back w
      have e0 : Same H0' (upd H0' x (.ins C dx' fv)) := same_upd' e2
      refine ⟨rfl, p1 (.ref x) (upd H0' x (.ins C dx' fv)) H' ⟨w2.s0.trans e0, fun q o y1 y2 y3 => ?_⟩ (g4.frz e1 e3) (.obj hC upd_same (df.mono e0))⟩
      obtain ⟨z1, z2, z3⟩ := w2.fr q o y1 y2 y3
      exact ⟨z1, by rw [upd_ne (ne_of_none y1 nx)]; exact z2, z3⟩
    | err c' fs ρ' s2 =>
      rw [hm] at p1
      exact fun C' e A2 B2 w g4 mc xx => p1 σ C' e A2 B2 w.s0 g4 (S.step (st.trans (back w))) mc xx
    | bad =>
      rw [hm] at p1
      exact p1.elim
  · rw [if_neg cc] at p1
    exact p1.elim
theorem slots_init {h : Addr} {H0 H : Hp} {N : List Str} {vs : List V} {ds : List Dt} {c : Str} {p C dx : Addr} (hN : 0 < N.length) (hc : mg c = some (.ref C)) (hp : H p = some (.ins C dx [])) (h0 : H0 p = none) (nh : ¬ isH h H p) (da : DenA K mg h H0 vs ds) :
    Slots K mg ⟨h, H0, del H p, p⟩ H0 H (L2.start N (.ref p :: vs)) (startI N.length c ds) := by
  have l := da.len
  have nf : NF ⟨h, H0, del H p, p⟩ p := fun o e _ => by
    have e : del H p p = some o := e
    rw [del_same] at e
    cases e
  have st : Step h H0 (del H p) H0 H := by
    refine ⟨Same.refl _, fun q o x y z => ?_⟩
    have nq : q ≠ p := fun w => by
      subst w
      rw [del_same] at x
      cases x
    rw [del_ne nq] at x
    refine ⟨x, y, fun w => z ?_⟩
    rcases w with w | ⟨r, w⟩
    · exact .inl w
    · by_cases e : h = p
      · exact absurd (.inl e.symm) nh
      · exact .inr ⟨r, by rw [del_ne e]; exact w⟩
  have own : ∀ (i : Nat) (b : Sl), (ds.map Sl.dat ++ List.replicate (N.length - (ds.length + 1)) Sl.no)[i]? = some b → b.mine = true → False := fun i b z m => by
    by_cases hi : i < ds.length
    · rw [List.getElem?_append_left (by rw [List.length_map]; exact hi), List.getElem?_map, List.getElem?_eq_getElem hi] at z
      cases z
      cases m
    · rw [List.getElem?_append_right (by rw [List.length_map]; omega), List.getElem?_replicate] at z
      split at z <;> cases z
      cases m
  unfold L2.start startI
  refine ⟨by simp [l], fun i o sl a b => ?_, fun i j q x y e1 e2 m1 m2 _ _ => ?_, st⟩
  · match i, a, b with
    | 0, a, b =>
      cases a
      cases b
      exact ⟨p, C, dx, [], rfl, rfl, hc, hp, h0, nh, nf, .nil⟩
    | i + 1, a, b =>
      have a : (vs.map some ++ List.replicate (N.length - (vs.length + 1)) none)[i]? = some o := a
      have b : (ds.map Sl.dat ++ List.replicate (N.length - (ds.length + 1)) Sl.no)[i]? = some sl := b
      by_cases hi : i < ds.length
      · rw [List.getElem?_append_left (by rw [List.length_map]; omega), List.getElem?_map] at a
        rw [List.getElem?_append_left (by rw [List.length_map]; exact hi), List.getElem?_map, List.getElem?_eq_getElem hi] at b
        cases b
        obtain ⟨v, e1, e2⟩ := da.get (List.getElem?_eq_getElem hi)
        rw [e1] at a
        cases a
        exact e2
      · rw [List.getElem?_append_right (by rw [List.length_map]; omega), List.getElem?_replicate] at b
        split at b
        · cases b
          cases o <;> exact True.intro
        · cases b
  · match i, j, e1, e2 with
    | 0, 0, _, _ => rfl
    | i + 1, _, e1, _ => exact (own i x e1 m1).elim
    | 0, j + 1, _, e2 => exact (own j y e2 m2).elim
end
section
variable {P : Program} {w : World} {K : Frag} {mg : Str → Option Value} {base : Heap} {x qual c : Str} {st : Stmt} {f : Addr} {fd : FuncData} {N ps : List Str} {k : Nat} {ms : MS}
theorem init_back {h p C : Addr} {H0 H : Hp} {s : Hd} {ds : List Dt} {Q : VK} {E : XK} {n : Nat} (hc : mg c = some (.ref C))
    (q : match mInit n c ms ds s with
    | .ok fs s' => ∀ (dx' : Addr) (fv : List (Str × V)) (H0' H' : Hp), Step h H0 (del H p) H0' H' → G h H0' H' s' → H' p = some (.ins C dx' fv) → H0' p = none → ¬ isH h H' p → DenF K mg h H0' fv fs → Q .non H'
    | .err c' fs _ s' => ∀ (C' : Addr) (od : Option Addr) (H0' H' : Hp), Step h H0 (del H p) H0' H' → G h H0' H' s' → mg c' = some (.ref C') → XdOk K mg h H0' H' od fs → E (.ref C') od H'
    | .bad => False) : PostS K mg ⟨h, H0, del H p, p⟩ (ms (startI n c ds) s) H0 H (fun c d _ H' => E c d H') { nx := fun _ H' => Q .non H', rt := Q } := by
  unfold mInit at q
  cases e : ms (startI n c ds) s with
  | ok fl s2 =>
    rw [e] at q
    cases fl with
    | nx ρ =>
      cases e0 : ρ[0]? with
      | none =>
        simp only [e0] at q
      | some l =>
        cases l with
        | slf c' fs =>
          by_cases cc : c' = c
          · simp only [e0, if_pos cc] at q
            subst cc
            intro σ' H0' H' sm g' S'
            obtain ⟨q2, C2, dxx, vs, es2, ep, m2, eq2, n02, nh2, nf2, df⟩ := S'.slf e0
            have ep : q2 = p := ep
            subst ep
            rw [hc] at m2
            cases m2
            exact q dxx vs H0' H' S'.st g' eq2 n02 nh2 df
          · simp only [e0, if_neg cc] at q
        | no => simp only [e0] at q
        | dat d => simp only [e0] at q
        | own ds => simp only [e0] at q
    | rt d => exact q.elim
    | bk ρ => exact q.elim
    | ct ρ => exact q.elim
  | err c' fs ρ s2 =>
    rw [e] at q
    exact fun σ' C' dd A B sm g' S' mc xx => q C' dd A B S'.st g' mc xx
  | bad =>
    rw [e] at q
    exact q
/-- an __init__ follows its function -/
theorem okI {n nn : Nat} (F : Fun K x qual st f fd) (S : FnScope N ps (defScope st)) (hn : ps.length = n + 1) (hN : N.length = nn) (hN0 : 0 < nn)
    (hb : ∀ (cdv : Value) (A : Around) (outer : List Env) (s : Shared) (H : Hp) (E : XK), Room k (A.deeper (envOfC qual (defScope st) s.heap.objs.size f cdv)) → QSs (cxD P w K mg base N qual (defScope st) f cdv A outer s H E) (wE E) (defBody st) ms) :
    FnOk P w K mg base (L2.CX P w) (k + 1) f fd ps (spN K mg c n (mInit nn c ms)) := by
  subst hN
  refine F.okX S (fun vs H Q E h => h.1.trans hn.symm) (fun cdv A outer s H vs Q E hr h => ?_)
  obtain ⟨hl, hh, H0, s', p, C, dx, ws, ds, rfl, hc, hp, h0, nh, g, da, q⟩ := h
  obtain ⟨ts, qq, ss⟩ := hb cdv A outer s H E hr
  exact ⟨ts, qq, ss ⟨hh, H0, del H p, p⟩ H0 H s' _ _ _ g (slots_init hN0 hc hp h0 nh da) (init_back hc q)⟩
theorem okID {n nn : Nat} {params : Arguments} {body : List Stmt} {scope : Scope} {dvs : List V} (F : FunD K x qual params body scope dvs [] f fd) (S : FnScope N ps scope) (hn : ps.length = n + 1) (hN : N.length = nn) (hN0 : 0 < nn)
    (hb : ∀ (cdv : Value) (A : Around) (outer : List Env) (s : Shared) (H : Hp) (E : XK), Room k (A.deeper (envOfC qual scope s.heap.objs.size f cdv)) → QSs (cxD P w K mg base N qual scope f cdv A outer s H E) (wE E) body ms) :
    FnOk P w K mg base (L2.CX P w) (k + 1) f fd ps (spN K mg c n (mInit nn c ms)) := by
  subst hN
  refine F.ok S (fun vs H Q E h => h.1.trans hn.symm) (fun cdv A outer s H vs Q E hr h => ?_)
  obtain ⟨hl, hh, H0, s', p, C, dx, ws, ds, rfl, hc, hp, h0, nh, g, da, q⟩ := h
  obtain ⟨ts, qq, ss⟩ := hb cdv A outer s H E hr
  exact ⟨ts, qq, ss ⟨hh, H0, del H p, p⟩ H0 H s' _ _ _ g (slots_init hN0 hc hp h0 nh da) (init_back hc q)⟩
end
end Mir


set_option Elab.async false
set_option linter.all false
set_option maxRecDepth 100000
/-! Objects: made and asked by calls; len, ==, isinstance of them; errors without fields; except without a name. -/
namespace Mir
open PySem PySem.Spec PyProof.Rows L2
open PySem.W (Frag)

/-! ### C(e, ..), o.m(e, ..) -/
def tMethS (C : Addr) (m : Str) (sp : Sp) (dvs : List V) (E : L2.St → XK) (ta : TE) (t : TA) : TE := fun σ H Q => ta σ H fun x H1 => ∃ a dx fs, x = .ref a ∧ H1 a = some (.ins C dx fs) ∧ fs.lookup m = none ∧ t σ H1 fun vs H2 => sp (x :: (vs ++ dvs)) H2 Q (E σ)
section
variable {X : Cx} {k : Nat} {f C : Addr} {fd : FuncData} {ps : List Str} {sp : Sp} {dvs : List V} {dV : List Value} {E : L2.St → XK} {x m : Str} {p pos apos : Pos} {e o : Expr} {es : List Expr} {ta : TE} {t : TA}
theorem made_run {CX : CXT} {pins : List (Addr × Obj)} {σ : L2.St} {H : Hp} {s : Shared} {Q : VK} {us : List Value} {vs : List V} (M : Mk X.K C f) (F : FnOk X.prog X.w X.K X.mg X.base CX k f fd ps sp) (hr : Room (k + 1) X.A) (hb : Binds X.K fd ps dV) (hd : Vals dvs dV) (hx : PassesAt CX X σ (E σ)) (I : Inv X pins σ H s) (r : Vals vs us)
    (hh : ∀ y dx, H y = none → H dx = none → dx ≠ y → sp (.ref y :: (vs ++ dvs)) (upd (upd H dx (.own y)) y (.ins C dx [])) (fun v H2 => v = .non ∧ Q (.ref y) H2) (E σ)) : wpAny (model X.prog X.w) X.A (call (.ref C) us) (EP X pins σ Q) X.xe s := by
  have z := hh (s.heap.objs.size + 1) s.heap.objs.size (I.hok.fresh (by omega)) (I.hok.fresh (by omega)) (Nat.ne_of_lt (Nat.lt_succ_self _))
  have J := Inv.made (C := C) I
  have rr : Vals (V.ref (s.heap.objs.size + 1) :: (vs ++ dvs)) (Value.ref (s.heap.objs.size + 1) :: (us ++ dV)) := .cons rfl (r.append hd)
  have ln : (Value.ref (s.heap.objs.size + 1) :: us ++ dV).length = ps.length := by
    have q := F.len _ _ _ _ z
    rw [rr.length] at q
    exact q
  refine wpAny_call (make_map (f := f) I.kIn M.makes M.init (beq_iff_eq.mp M.fn) ?_)
  refine codeAny_mono (F.run _ X.stack _ _ ⟨Value.ref (s.heap.objs.size + 1) :: us, []⟩ (Value.ref (s.heap.objs.size + 1) :: (us ++ dV)) _ _ (E σ) (hr.make C us []) (J.env0.make C us []) (hb _ (Value.ref (s.heap.objs.size + 1) :: us) J.kIn ln) rr z) fun res s' w => ?_
  match res, w with
  | .error e, w => exact hx pins _ _ e s' J w
  | .ok (.ret u), w =>
    obtain ⟨v, H', J3, rv, ev, q3⟩ := J.after w
    subst ev
    exact ⟨rv, V.ref (s.heap.objs.size + 1), H', J3, rfl, q3⟩
  | .ok .next, w => exact w.elim
  | .ok .brk, w => exact w.elim
  | .ok .cont, w => exact w.elim
theorem pe_makeS {CX : CXT} (M : Mk X.K C f) (F : FnOk X.prog X.w X.K X.mg X.base CX k f fd ps sp) (hr : Room (k + 1) X.A) (hg : Gl X x) (hm : X.mg x = some (.ref C)) (hb : Binds X.K fd ps dV) (hd : Vals dvs dV) (hx : ∀ σ, PassesAt CX X σ (E σ)) (ha : PA X (e :: es) t)
    (hdb : (x == ("__debug__" : Str)) = false := by decide) (he : starEach (e :: es) X.env = (false, eval e X.env) :: starEach es X.env := by rfl) (hpl : (backTo pos (starEach es X.env)).any (·.1) = false := by rfl) : PE X (.Call (.Name x p) (e :: es) [] pos) (tMakeS C sp dvs E t) := by
  refine ⟨fun pins s σ H Q I z => wpAny_Call_Name_kw (ld_glob I hg hm ?_ hdb)⟩
  refine PySem.W.callWith_K (h₀ := X.base) I.ok.mod.kin M.kp (thn (ha.run pos pins s σ H _ I z) fun us s1 w => ?_) he hpl
  obtain ⟨vs, H1, I1, r, q⟩ := w
  exact ⟨I1.kIn, made_run M F hr hb hd (hx σ) I1 r q⟩
theorem pe_methS {CX : CXT} {pl : Sem Bool} (he : PE X o ta) (c : Cls X.K C) (hm : Meth X.K C m f) (F : FnOk X.prog X.w X.K X.mg X.base CX k f fd ps sp) (hr : Room k X.A) (hb : Binds X.K fd ps dV) (hd : Vals dvs dV) (hx : ∀ σ, PassesAt CX X σ (E σ)) (ha : PA X (e :: es) t)
    (hst : starEach (e :: es) X.env = (false, eval e X.env) :: starEach es X.env := by rfl) (hpl : (backTo pos (starEach es X.env)).any (·.1) = false := by rfl)
    (ht : eval (.Call (.Attribute o m apos) (e :: es) [] pos) X.env = (do
      let ov ← eval o X.env
      standAt apos.atName
      let (f, first) ← holding [ov] (getMethod ov m pl)
      callWith pos f first (backTo pos (starEach (e :: es) X.env)) (backToKw pos (keywordEach [] X.env))) := by rfl) : PE X (.Call (.Attribute o m apos) (e :: es) [] pos) (tMethS C m sp dvs E ta t) := by
  refine ⟨fun pins s σ H Q I z => PySem.W.methodCall_KW (pl := pl) (thn (he.run pins s σ H _ I z) fun u s1 w => ?_) ht⟩
  obtain ⟨y, H1, I1, rx, a, dx, fs, ex, ea, l, q⟩ := w
  subst ex
  cases (show u = Value.ref a from rx)
  refine getmeth_ok I1 ea c hm l (PySem.W.callWith_K (first := [.ref a]) (h₀ := X.base) I.ok.mod.kin hm.kp (thn (ha.run pos pins s1 σ H1 _ I1 q) fun us s2 w => ?_) hst hpl)
  obtain ⟨vs, H2, I2, r, q2⟩ := w
  exact ⟨I2.kIn, run_fnSD (us := .ref a :: us) (vs := .ref a :: vs) F hr hb hd (hx σ) I2 (.cons rfl r) q2⟩
theorem pe_methS0 {CX : CXT} {pl : Sem Bool} (he : PE X o ta) (c : Cls X.K C) (hm : Meth X.K C m f) (F : FnOk X.prog X.w X.K X.mg X.base CX k f fd ps sp) (hr : Room k X.A) (hb : Binds X.K fd ps dV) (hd : Vals dvs dV) (hx : ∀ σ, PassesAt CX X σ (E σ))
    (ht : eval (.Call (.Attribute o m apos) [] [] pos) X.env = (do
      let ov ← eval o X.env
      standAt apos.atName
      let (f, first) ← holding [ov] (getMethod ov m pl)
      callWith pos f first (backTo pos (starEach [] X.env)) (backToKw pos (keywordEach [] X.env))) := by rfl) : PE X (.Call (.Attribute o m apos) [] [] pos) (tMethS C m sp dvs E ta tNil) := by
  refine ⟨fun pins s σ H Q I z => PySem.W.methodCall_KW (pl := pl) (thn (he.run pins s σ H _ I z) fun u s1 w => ?_) ht⟩
  obtain ⟨y, H1, I1, rx, a, dx, fs, ex, ea, l, q⟩ := w
  subst ex
  cases (show u = Value.ref a from rx)
  exact getmeth_ok I1 ea c hm l (PySem.W.callWith_K0 (first := [.ref a]) I1.kIn hm.kp (run_fnSD (us := [.ref a]) (vs := [.ref a]) F hr hb hd (hx σ) I1 (.cons rfl .nil) q))
end
def mMeth (c : Str) (x : Str) (n : Nat) (dd : List Dt) (m : List Dt → Hd → R Dt) (a : ME) (as : MA) : ME := fun ρ s => (a ρ s).bind fun d s1 => match d with
  | .obj c' fs => if c' = c ∧ fs.lookup x = none then (as ρ s1).bind fun ds s2 => if (ds ++ dd).length + 1 = n then (match m (.obj c' fs :: (ds ++ dd)) s2 with
      | .ok d s3 => .ok d s3
      | .err c2 fs2 _ s3 => .err c2 fs2 ρ s3
      | .bad => .bad) else .bad
    else .bad
  | _ => .bad
section
variable {K : Frag} {mg : Str → Option Value} {Wx : WX} {t : TA} {as : MA} {ta : TE} {a : ME}
theorem se_meth {c x : Str} {n : Nat} {C : Addr} {dvs : List V} {dd : List Dt} {m : List Dt → Hd → R Dt} (hC : mg c = some (.ref C)) (hd : ∀ (h : Addr) (H : Hp), DenA K mg h H dvs dd) (he : SE K mg Wx ta a) (ha : SA K mg Wx t as) : SE K mg Wx (tMethS C x (spM K mg n m) dvs (WE Wx) ta t) (mMeth c x n dd m a as) := by
  intro h H0 H s σ ρ Q g S p
  refine he h H0 H s σ ρ _ g S (Post.bind p fun d s1 y A B st g1 dy p1 => ?_)
  cases dy with
  | @obj aa C' dxx c' fv fs mc e r =>
    by_cases cc : c' = c ∧ fs.lookup x = none
    · simp only [if_pos cc] at p1
      obtain ⟨rfl, nl⟩ := cc
      obtain rfl : C = C' := by
        rw [hC] at mc
        cases mc
        rfl
      refine ⟨aa, dxx, fv, rfl, g1.ex _ _ e, r.no nl, ha h A B s1 σ ρ _ g1 (S.step st) (Post.bind p1 fun ds s2 xs A2 B2 st2 g2 dx p2 => ?_)⟩
      by_cases c2 : (ds ++ dd).length + 1 = n
      · rw [if_pos c2] at p2
        have dx2 : DenA K mg h.a A2 (.ref aa :: (xs ++ dvs)) (.obj c' fs :: (ds ++ dd)) := .cons (.obj mc (st2.s0 _ _ e) (r.mono st2.s0)) (dx.append (hd h A2))
        refine ⟨by rw [dx2.len]; exact c2, h, A2, s2, _, g2, dx2, ?_⟩
        cases hm : m (.obj c' fs :: (ds ++ dd)) s2 with
        | ok d s3 =>
          rw [hm] at p2
          exact p2
        | err cc fs ρ' s3 =>
          rw [hm] at p2
          exact fun C e A3 B3 st3 g3 mc x => p2 σ C e A3 B3 st3.s0 g3 (S.step ((st.trans st2).trans st3)) mc x
        | bad =>
          rw [hm] at p2
          exact p2.elim
      · rw [if_neg c2] at p2
        exact p2.elim
    · simp only [if_neg cc] at p1
      exact p1.elim
  | _ => exact p1.elim
end
/-- what the text knows of a class whose objects it makes -/
structure ClsT (K : Frag) (mg : Str → Option Value) (c : Str) (C : Addr) : Prop where
  m : mg c = some (.ref C)
  cl : Cls K C
  ha : PySem.W.findIn K (.ref C) "__class__" = some (some (.builtin "object.__class__"))
  hn : PySem.W.specialIn K (.builtin "object.__class__") "__get__" = some (some (.builtin "getset_descriptor.__get__"))
  htk : PySem.W.takesIn K (.builtin "object.__class__") = some true
  hm : PySem.W.mroIn K C (.type "object") = some true
/-- a class that is made by calls -/
def Maker (P : Program) (w : World) (K : Frag) (mg : Str → Option Value) (base : Heap) (k : Nat) (c : Str) (n : Nat) (dd : List Dt) (m : List Dt → Hd → R (List (Str × Dt))) : Prop :=
  ∃ (C f : Addr) (fd : FuncData) (ps : List Str) (dvs : List V) (dsV : List Value), mg c = some (.ref C) ∧ Mk K C f ∧ FnOk P w K mg base (L2.CX P w) k f fd ps (spN K mg c n m) ∧ Binds K fd ps dsV ∧ Vals dvs dsV ∧ ∀ (h : Addr) (H : Hp), DenA K mg h H dvs dd
/-- a method -/
def Method (P : Program) (w : World) (K : Frag) (mg : Str → Option Value) (base : Heap) (k : Nat) (c x : Str) (n : Nat) (dd : List Dt) (m : List Dt → Hd → R Dt) : Prop :=
  ∃ (C f : Addr) (fd : FuncData) (ps : List Str) (dvs : List V) (dsV : List Value), mg c = some (.ref C) ∧ Cls K C ∧ Meth K C x f ∧ FnOk P w K mg base (L2.CX P w) k f fd ps (spM K mg n m) ∧ Binds K fd ps dsV ∧ Vals dvs dsV ∧ ∀ (h : Addr) (H : Hp), DenA K mg h H dvs dd
section
variable {X : Cx} {Wx : WX} {e o : Expr} {es : List Expr} {c x : Str} {p pos apos : Pos} {as : MA} {ma : ME} {k j n : Nat} {dd : List Dt} {m : List Dt → Hd → R Dt} {mi : List Dt → Hd → R (List (Str × Dt))}
theorem qe_make (M : Maker X.prog X.w X.K X.mg X.base k c n dd mi) (hr : Room j X.A) (hk : k + 1 ≤ j) (tk : Takes X Wx) (ha : QA X Wx (e :: es) as) (hg : Gl X c := by rfl)
    (hdb : (c == ("__debug__" : Str)) = false := by decide) (he : starEach (e :: es) X.env = (false, eval e X.env) :: starEach es X.env := by rfl) (hpl : (backTo pos (starEach es X.env)).any (·.1) = false := by rfl) : QE X Wx (.Call (.Name c p) (e :: es) [] pos) (mMake c n dd mi as) := by
  obtain ⟨C, f, fd, ps, dvs, dsV, hm, mk, F, hb, hd, hdd⟩ := M
  obtain ⟨t, q, s⟩ := ha
  exact ⟨_, pe_makeS mk F (hr.mono hk) hg hm hb hd (fun σ => passAt tk σ) q hdb he hpl, se_make hm hdd s⟩
theorem qe_meth {pl : Sem Bool} (M : Method X.prog X.w X.K X.mg X.base k c x n dd m) (hr : Room j X.A) (hk : k ≤ j) (tk : Takes X Wx) (ho : QE X Wx o ma) (ha : QA X Wx (e :: es) as)
    (hst : starEach (e :: es) X.env = (false, eval e X.env) :: starEach es X.env := by rfl) (hpl : (backTo pos (starEach es X.env)).any (·.1) = false := by rfl)
    (ht : eval (.Call (.Attribute o x apos) (e :: es) [] pos) X.env = (do
      let ov ← eval o X.env
      standAt apos.atName
      let (f, first) ← holding [ov] (getMethod ov x pl)
      callWith pos f first (backTo pos (starEach (e :: es) X.env)) (backToKw pos (keywordEach [] X.env))) := by rfl) : QE X Wx (.Call (.Attribute o x apos) (e :: es) [] pos) (mMeth c x n dd m ma as) := by
  obtain ⟨C, f, fd, ps, dvs, dsV, hm, cl, mt, F, hb, hd, hdd⟩ := M
  obtain ⟨to, po, so⟩ := ho
  obtain ⟨t, q, s⟩ := ha
  exact ⟨_, pe_methS (pl := pl) po cl mt F (hr.mono hk) hb hd (fun σ => passAt tk σ) q hst hpl ht, se_meth hm hdd so s⟩
theorem qe_meth0 {pl : Sem Bool} (M : Method X.prog X.w X.K X.mg X.base k c x n dd m) (hr : Room j X.A) (hk : k ≤ j) (tk : Takes X Wx) (ho : QE X Wx o ma)
    (ht : eval (.Call (.Attribute o x apos) [] [] pos) X.env = (do
      let ov ← eval o X.env
      standAt apos.atName
      let (f, first) ← holding [ov] (getMethod ov x pl)
      callWith pos f first (backTo pos (starEach [] X.env)) (backToKw pos (keywordEach [] X.env))) := by rfl) : QE X Wx (.Call (.Attribute o x apos) [] [] pos) (mMeth c x n dd m ma mNil) := by
  obtain ⟨C, f, fd, ps, dvs, dsV, hm, cl, mt, F, hb, hd, hdd⟩ := M
  obtain ⟨to, po, so⟩ := ho
  exact ⟨_, pe_methS0 (pl := pl) po cl mt F (hr.mono hk) hb hd (fun σ => passAt tk σ) ht, se_meth hm hdd so sa_nil⟩
end
/-- one of two readings -/
theorem qe_alt {X : Cx} {Wx : WX} {e : Expr} {m m1 m2 : ME} (h1 : QE X Wx e m1) (h2 : QE X Wx e m2) (hm : ∀ ρ s, m ρ s = m1 ρ s ∨ m ρ s = m2 ρ s) : QE X Wx e m := by
  obtain ⟨t1, p1, s1⟩ := h1
  obtain ⟨t2, p2, s2⟩ := h2
  refine ⟨fun σ H Q => t1 σ H Q ∨ t2 σ H Q, ⟨fun pins s σ H Q I z => z.elim (p1.run pins s σ H Q I) (p2.run pins s σ H Q I)⟩, fun h H0 H s σ ρ Q g S p => ?_⟩
  rcases hm ρ s with e | e
  · exact .inl (s1 h H0 H s σ ρ Q g S (e ▸ p))
  · exact .inr (s2 h H0 H s σ ρ Q g S (e ▸ p))

/-! ### len of an object whose class has __len__ -/
def rLenOwn (C : Addr) (sp : Sp) : List V → Hp → VK → Prop := fun xs H Q => ∃ a dx fs, xs = [.ref a] ∧ H a = some (.ins C dx fs) ∧ sp [.ref a] H (fun v H' => ∃ n : Int, v = .int n ∧ 0 ≤ n ∧ n < 2 ^ 63 ∧ Q (.int n) H') (fun _ _ _ => False)
section
variable {X : Cx} {k : Nat} {f C : Addr} {fd : FuncData} {ps : List Str} {sp : Sp}
theorem call_lenOwn (hs : PySem.W.findIn X.K (.ref C) "__len__" = some (some (.ref f))) (hf : PySem.W.isFn X.K (.ref f) = true) (F : FnOk X.prog X.w X.K X.mg X.base (L2.CX X.prog X.w) k f fd ps sp) (hr : Room (k + 1) X.A) (hb : Binds X.K fd ps []) : CallR X (.builtin "len") (rLenOwn C sp) := by
  intro pins s σ H xs us Q I r h
  obtain ⟨a, dx, fs, rfl, ha, hsp⟩ := h
  obtain ⟨u, rfl, ru⟩ := r.one
  cases (show u = Value.ref a from ru)
  obtain ⟨mA, J, _⟩ := ins_get I.hok ha
  obtain ⟨od, J, _⟩ := J.look
  obtain ⟨m, hF⟩ := I.fr
  refine PySem.W.len_K hF I.ok.mod.kin J hs hf ?_
  have rr : Vals [V.ref a] [Value.ref a] := .cons rfl .nil
  have ln := F.len _ _ _ _ hsp
  have bd : BindsTo s fd ⟨[.ref a], []⟩ (ps.zip [.ref a]) := by
    have q := hb s [.ref a] I.kIn (by simpa using ln)
    simpa using q
  refine wpAny_call (codeAny_mono (F.run X.A.in1 X.stack s H ⟨[.ref a], []⟩ [.ref a] [.ref a] _ _ hr.in1 I.env0.in1 bd rr hsp) fun res s' w => ?_)
  match res, w with
  | .error e, w => exact (cx_none w).elim
  | .ok (.ret u), w =>
    obtain ⟨v, H', I', rv, n, ev, h0, h1, q⟩ := I.after w
    subst ev
    obtain ⟨t, rfl⟩ := rv
    exact ⟨⟨h0, h1⟩, .int n, H', I'.tok _, ⟨_, rfl⟩, q⟩
  | .ok .next, w => exact w.elim
  | .ok .brk, w => exact w.elim
  | .ok .cont, w => exact w.elim
where
  cx_none {P : Program} {w : World} {l : List Env} {H : Hp} {s : Shared} {e : Value} {s' : Shared} (z : L2.CX P w l H s (fun _ _ _ => False) e s') : False := by
    obtain ⟨_, _, _, _, _, _, _, _, _, _, _, _, z⟩ := z
    exact z
end
end Mir


set_option Elab.async false
set_option linter.all false
set_option maxRecDepth 100000
/-! Defs that ask for repr: what stands around them holds no repr. -/
namespace Mir
open PySem PySem.Spec PyProof.Rows L2
open PySem.W (Frag)
/-- FnOk where no repr runs around -/
structure FnG (P : Program) (w : World) (K : Frag) (mg : Str → Option Value) (base : Heap) (k : Nat) (f : Addr) (fd : FuncData) (ps : List Str) (sp : Sp) : Prop where
  len : ∀ vs H Q E, sp vs H Q E → vs.length = ps.length
  run : ∀ (A : Around) (outer : List Env) (s : Shared) (H : Hp) (args : Args) (us : List Value) (vs : List V) (Q : VK) (E : XK), A.guards = some [] → Room k A → Env0 P w K mg base A outer s H → BindsTo s fd args (ps.zip us) → Vals vs us → sp vs H Q E →
    codeAny (model P w) A (.call (.ref f) args) (CR (L2.CX P w) outer P w H s Q E) s
section
variable {P : Program} {w : World} {K : Frag} {mg : Str → Option Value} {base : Heap} {x qual : Str} {st : Stmt} {f : Addr} {fd : FuncData} {N ps : List Str} {k : Nat} {ms : MS} {sp : Sp}
theorem FnG.of (F : Fun K x qual st f fd) (S : FnScope N ps (defScope st)) (len : ∀ vs H Q E, sp vs H Q E → vs.length = ps.length)
    (hb : ∀ (cdv : Value) (A : Around) (outer : List Env) (s : Shared) (H : Hp) (vs : List V) (Q : VK) (E : XK), A.guards = some [] → Room k (A.deeper (envOfC qual (defScope st) s.heap.objs.size f cdv)) → sp vs H Q E →
      ∃ t, PSs (cxD P w K mg base N qual (defScope st) f cdv A outer s H E) (defBody st) t ∧ t { nx := fun _ H' => Q .non H', rt := Q } (L2.start N vs) H) : FnG P w K mg base (k + 1) f fd ps sp := by
  obtain ⟨oc, od, kV, doc, pm, an, cdv, ct, osl, rfl, lk, hcd⟩ := F.ex
  constructor
  · exact len
  intro A outer s H args us vs Q E gd hr e0 hbi r hsp
  have ln := len _ _ _ _ hsp
  have kin : K.In s.heap := e0.mod.kin.keeps fun b o e => (e0.bs b o e).1
  have nol : s.heap.NoLimit := e0.mod.nolimit.keeps fun b o e => (e0.bs b o e).1
  have kinds : ∀ y ∈ ps.zip us, (defScope st).names.lookup y.1 = some .local ∨ ((defScope st).names.lookup y.1 = some .cell ∧ ((cellsFrom (s.heap.objs.size + 1) (defScope st).names []).lookup y.1).isSome = true) := by
    rintro ⟨n, v⟩ hy
    exact (S.par n (List.of_mem_zip hy).1).imp id fun q => ⟨q, PySem.W.cellsFrom_some _ _ _ (.inl q)⟩
  refine codeAny_call_function hr.depth (kin _ _ lk) rfl S.co S.gen rfl (PySem.W.codeRec_of kin hcd) (hbi _ _ _ _ (wpAny_newFunctionEnv_cells S.kind kinds fun env he s1 y => ?_))
  subst he
  refine ⟨nol.keeps y.toInCall.keep, codeAny_func ?_⟩
  obtain ⟨t, ht, hq⟩ := hb cdv A outer s H vs Q E gd (hr.deeper _) hsp
  have I := inv_start (CX := L2.CX P w) (E := E) S hr.hd e0 ln r y
  refine wpAny_mono (ht.run [] s1 (L2.start N vs) H _ I hq) (fun fl s' z => ?_) fun e s' z => z
  match fl, z with
  | .ret u, ⟨v, σ', H', J, rv, q⟩ => exact ⟨v, H', J.os, J.bare, J.base, J.hok, rv, q⟩
  | .next, ⟨σ', H', J, q⟩ => exact ⟨V.non, H', J.os, J.bare, J.base, J.hok, rfl, q⟩
  | .brk, ⟨_, _, _, q⟩ => exact q.elim
  | .cont, ⟨_, _, _, q⟩ => exact q.elim
/-- a def follows its function, no repr around -/
theorem okG {n nn : Nat} (F : Fun K x qual st f fd) (S : FnScope N ps (defScope st)) (hn : ps.length = n) (hN : N.length = nn)
    (hb : ∀ (cdv : Value) (A : Around) (outer : List Env) (s : Shared) (H : Hp) (E : XK), A.guards = some [] → Room k (A.deeper (envOfC qual (defScope st) s.heap.objs.size f cdv)) → QSs (cxD P w K mg base N qual (defScope st) f cdv A outer s H E) (wE E) (defBody st) ms) :
    FnG P w K mg base (k + 1) f fd ps (spM K mg n (mDef nn ms)) := by
  subst hn
  subst hN
  refine FnG.of F S (fun vs H Q E h => h.1) (fun cdv A outer s H vs Q E gd hr h => ?_)
  obtain ⟨hl, hh, H0, s', ds, g, da, p⟩ := h
  obtain ⟨ts, q, ss⟩ := hb cdv A outer s H E gd hr
  exact ⟨ts, q, ss ⟨hh, H0, H, hh⟩ H0 H s' _ _ _ g (slots_start (.refl _ _) da) (postS_of (h := ⟨hh, H0, H, hh⟩) p)⟩
end
/-! ### the law -/
section
variable {P : Program} {w : World} {K : Frag} {mg mb : Str → Option Value} {k : Nat} {fa a : Addr} {fd : FuncData} {x : Str} {sp : Sp} {s₁ : Shared} {vs : List Value} {ns : List Int}
theorem law_callG (KX : K.In s₁.heap) (hns : s₁.heap.Ns mainGlobals mg) (hb : s₁.heap.Ns builtinsNs mb) (hbb : ∀ x : Str, x ≠ "__name__" → mb x = bootBuiltins x) (hlim : s₁.heap.NoLimit) (hg : s₁.gens = #[])
    (ha : s₁.heap.get? a = some { cls := .type "list", data := .seq vs.toArray }) (hi : IntsAre vs ns) (hl : ns.length ≤ sizeLine) (hr : Room k callerA)
    (F : ∀ base : Heap, K.In base → base.Ns mainGlobals mg → FnG P w K mg base k fa fd [x] sp) (hbind : ∀ (s : Shared) (u : Value), BindsTo s fd ⟨[u], []⟩ [(x, u)])
    (hsp : ∀ H : Hp, Only H → SqL K H a (ns.map V.int) → sp [.ref a] H (fun v _ => v = .bl true) fun _ _ _ => False) :
    codeAny (model P w) callerA (.call (.ref fa) ⟨[.ref a], []⟩) (fun r s' => r = .ok (.ret (.bool true)) ∧ OldK s₁.heap s'.heap ∧ s'.os = s₁.os ∧ AllBare s'.gens) s₁ := by
  have rv := vals_ints hi
  have lv := hi.length
  have main : ∀ H : Hp, Only H → SqL K H a (ns.map V.int) → HOk P w H s₁.heap → (∀ b, H b ≠ none → b = a) → (H a ≠ none → K.lookup a = none) →
      codeAny (model P w) callerA (.call (.ref fa) ⟨[.ref a], []⟩) (fun r s' => r = .ok (.ret (.bool true)) ∧ OldK s₁.heap s'.heap ∧ s'.os = s₁.os ∧ AllBare s'.gens) s₁ := by
    intro H only hS hok at_a no_a
    have low : ∀ {b : Addr} {o : Obj}, s₁.heap.get? b = some o → H b = none → (hidT s₁.heap H).get? b = some o := fun e n => hidT_get e n
    have dict : ∀ {b : Addr} {o : Obj} {es : Array DictEntry} {ep : Nat}, s₁.heap.get? b = some o → o.data = .dict es ep → H b = none := by
      intro b o es ep e d
      by_cases q : H b = none
      · exact q
      · have eb := at_a b q
        subst eb
        rw [ha] at e
        cases e
        cases (show Data.seq vs.toArray _ = Data.dict es ep from d)
    have names : ∀ {b : Addr} {m : Str → Option Value}, s₁.heap.Ns b m → (hidT s₁.heap H).Ns b m := by
      rintro b m ⟨o, es, ep, e, d, r⟩
      exact ⟨o, es, ep, low e (dict e d), d, r⟩
    have kin : K.In (hidT s₁.heap H) := by
      intro b o e
      refine low (KX b o e) ?_
      by_cases q : H b = none
      · exact q
      · have eb := at_a b q
        subst eb
        rw [no_a q] at e
        cases e
    have md : Mod K mg (hidT s₁.heap H) := by
      refine ⟨kin, names hns, ⟨mb, names hb, hbb⟩, ?_⟩
      obtain ⟨mc, h1, h2⟩ := hlim
      exact ⟨mc, names h1, h2⟩
    have e0 : Env0 P w K mg (hidT s₁.heap H) callerA [] s₁ H :=
      { frames := rfl, mod := md, bs := fun b o e => of_hidT e, bsz := Nat.le_of_eq (hidT_size _ _), funs := True.intro, frf := fun b hb => absurd (show b ∈ ([] : List Addr) from hb) (by simp), hok := hok, bare := .of_eq hg }
    have run := (F _ kin (names hns)).run callerA [] s₁ H ⟨[.ref a], []⟩ [.ref a] [.ref a] _ _ rfl hr e0 (hbind s₁ (.ref a)) (.cons rfl .nil) (hsp H only hS)
    refine codeAny_mono run fun r s' z => ?_
    match r, z with
    | .error e, z => exact (cx_false z).elim
    | .ok .next, z => exact z.elim
    | .ok .brk, z => exact z.elim
    | .ok .cont, z => exact z.elim
    | .ok (.ret u), z =>
      obtain ⟨v, H', os, bare, un, hok', r', q⟩ := z
      cases (show v = .bl true from q)
      cases (show u = Value.bool true from r')
      refine ⟨rfl, OldK.of_keep fun b o e => ?_, os, bare⟩
      rcases only b with q | ⟨ob, xs, q⟩
      · exact un.keep b o e q (fun y => absurd (show b ∈ ([] : List Addr) from y) (by simp)) (by simp)
      · have q2 := un.frzs b ob _ q
        obtain ⟨e1, _⟩ := hok b _ q
        obtain ⟨e2, _⟩ := hok' b _ q2
        rw [e] at e1
        cases e1
        exact e2
  by_cases hk : ∃ o, K.lookup a = some o
  · obtain ⟨o, hk⟩ := hk
    have e := KX a o hk
    rw [ha] at e
    cases e
    exact main (fun _ => none) (fun _ => .inl rfl) (.inr ⟨_, vs.toArray, _, hk, rfl, rfl, rfl, by rw [List.size_toArray, lv]; exact hl, by simpa using rv⟩) (fun b u z => by cases (show (none : Option HO) = some u from z)) (fun b z => absurd rfl z) fun z => absurd rfl z
  · have hk : K.lookup a = none := by
      cases q : K.lookup a with
      | none => rfl
      | some o => exact absurd ⟨o, q⟩ hk
    refine main (fun b => if b = a then some (.frz { cls := .type "list", data := .seq vs.toArray } (.lst (ns.map V.int))) else none) (fun b => ?_) (.inl (.inr ⟨{ cls := .type "list", data := .seq vs.toArray }, if_pos rfl⟩)) (fun b u z => ?_) (fun b z => ?_) fun _ => hk
    · by_cases eb : b = a
      · exact .inr ⟨_, _, if_pos eb⟩
      · exact .inl (if_neg eb)
    · by_cases eb : b = a
      · have z2 := (if_pos eb).symm.trans z
        cases z2
        subst eb
        exact ⟨ha, by rw [List.length_map]; exact hl, vs, _, rv, ha⟩
      · have z2 := (if_neg eb).symm.trans z
        cases z2
    · by_cases eb : b = a
      · exact eb
      · exact absurd (if_neg eb) z
end
/-- the head's goal, from the law's promise where no repr runs around -/
theorem walk_ofG {l : PySem.W.OpenLaw} {n k : Nat} {q : Program} {loose : List Str} {XP : (Str → Option Value) → Heap → Prop} {YP : World → Heap → Prop} {d : DefRec} {K : Params → Frag} {sp : World → Sp} {x : Str}
    (hn : l.most = some n) (hn2 : n ≤ sizeLine) (hdf : d.params.defaults = []) (hr : Room k callerA) (hY : ∀ (w : World) (h : Heap), YP w h → (K w.params).In h)
    (F : ∀ (w : World) (mg : Str → Option Value) (fa : Addr) (h : Heap), (K w.params).In h → h.Ns mainGlobals mg → mg d.name = some (.ref fa) → ∃ fd : FuncData, (∀ (s : Shared) (u : Value), BindsTo s fd ⟨[u], []⟩ [(x, u)]) ∧
        ∀ base : Heap, (K w.params).In base → base.Ns mainGlobals mg → FnG l.prog w (K w.params) mg base k fa fd [x] (sp w))
    (hsp : ∀ (w : World) (H : Hp) (a : Addr) (ns : List Int), ns.length ≤ n → Only H → SqL (K w.params) H a (ns.map V.int) → sp w [.ref a] H (fun v _ => v = .bl true) fun _ _ _ => False) :
    PySem.W.WalkO q loose XP YP l.row.toRowW d [] (fun f vs => PySem.call f vs) := by
  refine Att.attach_call hn hdf fun w s₀ s₁ mg mb fa o pm cd doc a vs ns G Y ho hd hcd hmg hobj hi hle hgn => ?_
  obtain ⟨fd, hbi, hF⟩ := F w mg fa _ (hY w _ Y) G.T.g hmg
  exact law_callG (hY w _ Y) G.T.g G.T.b G.T.builtins G.T.nolimit hgn hobj hi (Nat.le_trans hle hn2) hr hF hbi (fun H only hS => hsp w H a ns hle only hS)
/-! ### repr -/
def fRepr : List Dt → Option Dt
  | [.lst ds] => (toPyA ds).bind fun ps => if (PyData.list ps).showable = true ∧ (PyData.list ps).hasDict = false ∧ (PyData.list ps).depth ≤ 60 ∧ (PyData.list ps).shown.length ≤ sizeLine then some (.str (PyData.list ps).shown) else none
  | [.tup ds] => (toPyA ds).bind fun ps => if (PyData.tuple ps).showable = true ∧ (PyData.tuple ps).hasDict = false ∧ (PyData.tuple ps).depth ≤ 60 ∧ (PyData.tuple ps).shown.length ≤ sizeLine then some (.str (PyData.tuple ps).shown) else none
  | _ => none
def rReprL (K : Frag) : List V → Hp → VK → Prop := fun xs H Q => ∃ (a : Addr) (p : PyData), xs = [.ref a] ∧ Dp K H (.ref a) p ∧ p.showable = true ∧ p.hasDict = false ∧ p.depth ≤ 60 ∧ p.shown.length ≤ sizeLine ∧ Q (.str p.shown) H
theorem cr_repr {X : Cx} (hg : X.A.guards = some []) (hu : X.A.units + 65 < cLine) : CallR X (.builtin "repr") (rReprL X.K) := by
  intro pins s σ H xs us Q I r h
  obtain ⟨a, p, rfl, dp, h1, h2, h3, h4, q⟩ := h
  obtain ⟨u, rfl, ru⟩ := r.one
  cases (show u = Value.ref a from ru)
  obtain ⟨as, rd⟩ := Dp.reads I p _ _ dp rfl
  exact repr_of_reads' rd h1 (PyData.noDict_hsm h2) hg (by omega) (fun _ _ e => e) (fun h' t tk hk => ⟨.str p.shown, H, I.kept hk, ⟨_, rfl⟩, q⟩) h4
theorem cs_repr {K : Frag} {mg : Str → Option Value} : CaS K mg (rReprL K) fRepr := by
  intro h H0 H s xs ds z Q g0 hx hz q
  unfold fRepr at hz
  split at hz
  · rename_i es
    cases hp : toPyA es with
    | none =>
      rw [hp] at hz
      cases hz
    | some ps =>
      rw [hp] at hz
      have hz : (if (PyData.list ps).showable = true ∧ (PyData.list ps).hasDict = false ∧ (PyData.list ps).depth ≤ 60 ∧ (PyData.list ps).shown.length ≤ sizeLine then some (Dt.str (PyData.list ps).shown) else none) = some z := hz
      split at hz
      · rename_i c
        cases hz
        cases hx with
        | cons a r =>
          cases r
          cases a with
          | lst qa ra => exact ⟨_, .list ps, rfl, .lst (SqL.of (g0.ex _ _ qa)) (DenA.dp (ra.mono g0.ex) hp), c.1, c.2.1, c.2.2.1, c.2.2.2, q _ H0 H (.refl _ _) g0 (.str _)⟩
      · cases hz
  · rename_i es
    cases hp : toPyA es with
    | none =>
      rw [hp] at hz
      cases hz
    | some ps =>
      rw [hp] at hz
      have hz : (if (PyData.tuple ps).showable = true ∧ (PyData.tuple ps).hasDict = false ∧ (PyData.tuple ps).depth ≤ 60 ∧ (PyData.tuple ps).shown.length ≤ sizeLine then some (Dt.str (PyData.tuple ps).shown) else none) = some z := hz
      split at hz
      · rename_i c
        cases hz
        cases hx with
        | cons a r =>
          cases r
          cases a with
          | tup qa ra => exact ⟨_, .tuple ps, rfl, .tup (sqt_mono g0.ex qa) (DenA.dp (ra.mono g0.ex) hp), c.1, c.2.1, c.2.2.1, c.2.2.2, q _ H0 H (.refl _ _) g0 (.str _)⟩
      · cases hz
  · cases hz
end Mir


set_option Elab.async false
set_option linter.all false
set_option maxRecDepth 100000
/-! try with any clauses, each with a name or without; errors without fields. -/
namespace Mir
open PySem PySem.Spec PyProof.Rows L2
open PySem.W (Frag)
abbrev Cl := Value × Option Nat × (Addr → Value → Option Addr → TS)
def clEnds : Option Nat → Ends → Ends
  | none, D => D
  | some i, D => { nx := fun σ H => D.nx (σ.set i none) H, rt := D.rt, bk := fun σ H => D.bk (σ.set i none) H, ct := fun σ H => D.ct (σ.set i none) H }
def clStart : Option Nat → Addr → L2.St → L2.St
  | none, _, σ => σ
  | some i, a, σ => σ.set i (some (.ref a))
/-- what the clauses wish of a raised error, from the first on -/
def wCl (K : Frag) (Wout : WX) (D : Ends) : List Cl → WX
  | [] => Wout
  | (c, oi, ts) :: r => fun cls d σ H => ∃ b, PySem.W.exmOne K cls c = some b ∧ (b = true → ∀ a, H a = none → ts a cls d (clEnds oi D) (clStart oi a σ) H) ∧ (b = false → wCl K Wout D r cls d σ H)
def SuiteOk (X : Cx) (b₀ : Stmt) (rest : List Stmt) (ts : Addr → Value → Option Addr → TS) : Prop :=
  ∀ (a : Addr) (oe : Obj) (cls : Value) (d : Option Addr) (pn : List (Addr × Obj)), Zc cls d oe → (∃ vs, oe.data = .fields vs) → PSs (X.suite a ((a, oe) :: pn)) (b₀ :: rest) (ts a cls d)
inductive ClsOk (X : Cx) : List ExceptHandler → List Cl → Prop
  | nil : ClsOk X [] []
  | bare {x : Str} {c : Value} {ts : Addr → Value → Option Addr → TS} {b₀ : Stmt} {rest : List Stmt} {np p : Pos} {hs : List ExceptHandler} {l : List Cl} (hc : Names X x c) (hsu : SuiteOk X b₀ rest ts) (r : ClsOk X hs l) :
      ClsOk X (.ExceptHandler (some (.Name x np)) none (b₀ :: rest) p :: hs) ((c, none, ts) :: l)
  | name {x n : Str} {i : Nat} {c : Value} {ts : Addr → Value → Option Addr → TS} {b₀ : Stmt} {rest : List Stmt} {np p : Pos} {hs : List ExceptHandler} {l : List Cl} (hi : X.N[i]? = some n) (hln : X.env.kindOf n = some .local) (hc : Names X x c) (hsu : SuiteOk X b₀ rest ts) (r : ClsOk X hs l) :
      ClsOk X (.ExceptHandler (some (.Name x np)) (some n) (b₀ :: rest) p :: hs) ((c, some i, ts) :: l)
section
variable {X : Cx} {body : List Stmt} {h₁ : ExceptHandler} {hs : List ExceptHandler} {l : List Cl} {pos : Pos} {tb : WX → TS} {Wout : WX}
theorem ps_try_cl (hst : X.stack = X.env :: X.outer) (hfr : X.env.frame = some X.env.locals) (hN : X.N.Nodup) (tk : Takes X Wout)
    (hb : ∀ (W : WX) (pn : List (Addr × Obj)) (xe : Value → Shared → Prop), Takes (X.tr pn xe) W → PassesOwn (model X.prog X.w) X.A X.env xe → PSs (X.tr pn xe) body (tb W))
    (hh : ClsOk X (h₁ :: hs) l) : PS X (.Try body (h₁ :: hs) [] [] pos) (fun D σ H => tb (wCl X.K Wout D l) D σ H) := by
  refine ⟨fun pins s σ H D I hw => wpAny_Try_except ?_⟩
  have ok := I.ok
  have fr : X.A.frames = some (X.env :: X.outer) := ok.frames.trans (by rw [hst])
  have run := (hb (wCl X.K Wout D l) (X.pn ++ pins) (fun e t1 => wpAny (model X.prog X.w) X.A (noteFrame e X.env) (fun _ t2 => wpAny (model X.prog X.w) X.A (setFlight e none) (fun _ t3 =>
      wpAny (model X.prog X.w) X.A (handleBy e X.env (h₁ :: hs)) (SP X pins D) X.xe t3) X.xe t2) X.xe t1) (fun u sx xx => ?_) PassesOwn.looking).run [] s σ H D (I.toTry _) hw
  · refine wpAny_mono run (fun f t1 z => ?_) fun e t1 z => z
    match f, z with
    | .next, ⟨σ1, H1, J1, q⟩ => exact wpAny_execs_nil ⟨σ1, H1, J1.ofTry ok, q⟩
    | .brk, ⟨σ1, H1, J1, q⟩ => exact ⟨σ1, H1, J1.ofTry ok, q⟩
    | .cont, ⟨σ1, H1, J1, q⟩ => exact ⟨σ1, H1, J1.ofTry ok, q⟩
    | .ret u, ⟨v, σ1, H1, J1, r, q⟩ => exact ⟨v, σ1, H1, J1.ofTry ok, r, q⟩
  · obtain ⟨a, B, sI, pins1, σ1, H1, cls, d, rfl, J1, nb, up, sky, na, os, ag, w⟩ := xx
    have J := J1.ofTry ok
    have sky1 : Sky B (X.env :: X.outer) a (Zc cls d) X.env.locals sx.heap := by rw [← hst]; exact sky
    show wpAny (model X.prog X.w) X.A (noteFrame (.ref a) X.env) _ _ _
    refine Sky.land Zc.steady fr hfr sky1 fun g3 land3 up3 => ?_
    have K3 : Inv X pins σ1 H1 { sx with heap := g3 } := J.landed nb land3.1 (up.trans up3) os ag
    obtain ⟨ob3, vs3, at3, z3, dat3⟩ := land3.there
    have off : ∀ {g : Heap} {o : Obj} {vs : Array Value}, g.FunFrames B (X.env :: X.outer) → g.get? a = some o → o.data = .fields vs → a ∉ frs (X.env :: X.outer) := by
      intro g o vs ff e dd hm
      obtain ⟨_, o2, e2, n2⟩ := ff.mem hm
      have eo := e.symm.trans e2
      cases eo
      exact n2 _ dd
    have away := off land3.2.2.1 at3 dat3
    have nL : a ≠ X.env.locals := fun z => away (List.mem_filterMap.mpr ⟨X.env, List.mem_cons_self, by rw [hfr, z]⟩)
    have nF : a ∉ X.fs := by
      intro hm
      obtain ⟨e, he, q⟩ := List.mem_filterMap.mp hm
      exact away (List.mem_filterMap.mpr ⟨e, List.mem_cons_of_mem _ he, q⟩)
    have S3 := K3.suite at3 dat3 na nL nF
    have looks : PySem.W.Looks (model X.prog X.w) g3 (typeOf (.ref a)) cls := fun A Q E t k q => wpAny_typeOf_ref (k _ _ at3) (by rw [z3.1]; exact q)
    have test : ∀ {x : Str} {c : Value} {np : Pos} (hc : Names X x c) {Q : Value → Shared → Prop} {E : Value → Shared → Prop}, Q c { sx with heap := g3 } → wpAny (model X.prog X.w) (X.A.mark (some (.ref a))) (eval (.Name x np) X.env) Q E { sx with heap := g3 } := by
      intro x c np hc Q E q
      obtain ⟨hg, hdb, hm⟩ := hc
      rcases hm with hm | ⟨hm, hv, hn⟩
      · exact ld_glob (X := X.suite a ((a, ob3) :: (X.pn ++ pins))) S3 hg hm q hdb
      · exact ld_blt (X := X.suite a ((a, ob3) :: (X.pn ++ pins))) S3 hg hm hv q hn hdb
    have go : ∀ {hs2 : List ExceptHandler} {l2 : List Cl}, ClsOk X hs2 l2 → wCl X.K Wout D l2 cls d σ1 H1 → wpAny (model X.prog X.w) X.A (handleBy (.ref a) X.env hs2) (SP X pins D) X.xe { sx with heap := g3 } := by
      intro hs2 l2 hk
      induction hk with
      | nil =>
        intro w
        obtain ⟨k1, k2, k3, oe, vs, T, oT, ts', he, hz, hd, h1, hr⟩ := id land3
        refine wpAny_handleBy_nil ?_
        unfold PySem.passOn
        refine wpAny_bind (wpAny_field he hd h1 ?_)
        rw [if_neg (show ¬ ((Value.ref T == Value.none) = true) from by simp)]
        have out : wpAny (model X.prog X.w) X.A (setFlight (.ref a) X.env.frame) (fun _ t4 => wpAny (model X.prog X.w) X.A (throw (.ref a) : Sem Flow) (SP X pins D) X.xe t4) X.xe { sx with heap := g3 } := by
          rw [hfr]
          refine HandSPX.setFlight_upZ land3 fun g4 hg4 up4 => wpAny_throw (tk _ _ ⟨a, B, sI, pins, σ1, H1, cls, d, rfl, J, nb, (up.trans up3).trans up4, .inr (.inr ?_), na, os, ag, w⟩)
          rw [hst]
          exact hg4
        first | exact wpAny_bind (wpAny_pure (wpAny_bind out)) | exact wpAny_bind out
      | @bare x c ts b₀ rest np p hs3 l3 hc hsu r ih =>
        rintro ⟨b, hb1, yes, no⟩
        have LM := PySem.W.exm_one (M := model X.prog X.w) (K3.kIn) looks hb1
        refine wpAny_handleBy_cons (codeAny_handlers_test (test hc (LM.here ?_))) (by intro q; cases q)
        cases b with
        | false => exact ih (no rfl)
        | true =>
          refine codeAny_handlers_suite (HandSPX.lands_againZ land3 fun g4 land4 up4 => ?_)
          have K4 : Inv X pins σ1 H1 { sx with heap := g4 } := J.landed nb land4.1 ((up.trans up3).trans up4) os ag
          obtain ⟨ob4, vs4, at4, z4, dat4⟩ := land4.there
          refine wpAny_mono ((hsu a ob4 cls d (X.pn ++ pins) z4 ⟨_, dat4⟩).run [] _ _ H1 _ (K4.suite at4 dat4 na nL nF) (yes rfl a na)) (fun f t6 z => ?_) (fun _ _ z => z.elim)
          match f, z with
          | .next, ⟨_, _, S6, q6⟩ => exact ⟨_, _, S6.unsuite ok, q6⟩
          | .brk, ⟨_, _, S6, q6⟩ => exact ⟨_, _, S6.unsuite ok, q6⟩
          | .cont, ⟨_, _, S6, q6⟩ => exact ⟨_, _, S6.unsuite ok, q6⟩
          | .ret u, ⟨_, _, _, S6, r6, q6⟩ => exact ⟨_, _, _, S6.unsuite ok, r6, q6⟩
      | @name x n i c ts b₀ rest np p hs3 l3 hi hln hc hsu r ih =>
        rintro ⟨b, hb1, yes, no⟩
        have LM := PySem.W.exm_one (M := model X.prog X.w) (K3.kIn) looks hb1
        refine wpAny_handleBy_cons (codeAny_handlers_test (test hc (LM.here ?_))) (by intro q; cases q)
        cases b with
        | false => exact ih (no rfl)
        | true =>
          refine codeAny_handlers_suite_as (HandSPX.lands_againZ land3 fun g4 land4 up4 => ?_)
          have K4 : Inv X pins σ1 H1 { sx with heap := g4 } := J.landed nb land4.1 ((up.trans up3).trans up4) os ag
          obtain ⟨ob4, vs4, at4, z4, dat4⟩ := land4.there
          have S4 := K4.suite at4 dat4 na nL nF
          refine store_ok (X := X.suite a ((a, ob4) :: (X.pn ++ pins))) (v := .ref a) S4 hN hi (.inl hln) rfl (fun t5 S5 => ?_) (.inr hln)
          refine wpAny_mono ((hsu a ob4 cls d (X.pn ++ pins) z4 ⟨_, dat4⟩).run [] t5 _ H1 _ S5 (yes rfl a na)) (fun f t6 z => ?_) (fun _ _ z => z.elim)
          match f, z with
          | .next, ⟨_, _, S6, q6⟩ => exact gone_ok (S6.unsuite ok) hN hi hln fun t7 J7 => ⟨_, _, J7, q6⟩
          | .brk, ⟨_, _, S6, q6⟩ => exact gone_ok (S6.unsuite ok) hN hi hln fun t7 J7 => ⟨_, _, J7, q6⟩
          | .cont, ⟨_, _, S6, q6⟩ => exact gone_ok (S6.unsuite ok) hN hi hln fun t7 J7 => ⟨_, _, J7, q6⟩
          | .ret u, ⟨_, _, _, S6, r6, q6⟩ => exact gone_ok (S6.unsuite ok) hN hi hln fun t7 J7 => ⟨_, _, _, J7, r6, q6⟩
    exact go hh w
end
/-! ### the clauses by functions -/
/-- a clause: its class, its name's slot, its suite -/
abbrev MC := Str × Option Nat × MX
def clIn : Option Nat → Env' → Env'
  | none, ρ => ρ
  | some i, ρ => ρ.set i .no
def clOut : Option Nat → R Fl → R Fl
  | none, .err _ _ _ _ => .bad
  | none, r => r
  | some i, .ok (.nx ρ) s => .ok (.nx (ρ.set i .no)) s
  | some _, .ok (.rt d) s => .ok (.rt d) s
  | some i, .ok (.bk ρ) s => .ok (.bk (ρ.set i .no)) s
  | some i, .ok (.ct ρ) s => .ok (.ct (ρ.set i .no)) s
  | some _, _ => .bad
def clLt : Option Nat → Nat → Bool
  | none, _ => true
  | some i, n => decide (i < n)
/-- the first clause of the error's own class -/
def runCl (c : Str) (fs : List (Str × Dt)) (ρ : Env') (s : Hd) : List MC → R Fl
  | [] => .err c fs ρ s
  | (c', oi, m) :: r => if c' = c then (if clLt oi ρ.length = true then clOut oi (m fs (clIn oi ρ) s) else .bad) else runCl c fs ρ s r
def mTryCl (body : MS) (cls : List MC) : MS := fun ρ s => match body ρ s with
  | .err c fs ρ' s' => runCl c fs ρ' s' cls
  | r => r
/-- a suite, its name at slot i (or none), as text and as function -/
structure QXo (X : Cx) (oi : Option Nat) (C : Addr) (b₀ : Stmt) (rest : List Stmt) (ts : Addr → Value → Option Addr → TS) (m : MX) : Prop where
  text : SuiteOk X b₀ rest ts
  read : ∀ (a : Addr) (dd : Option Addr), match oi with
    | some i => XS' X.K X.mg i a dd (ts a (.ref C) dd) m
    | none => ∀ fs, SS X.K X.mg WF (ts a (.ref C) dd) (m fs)
/-- the classes' order: which error is caught by which clause -/
def Catch (K : Frag) (mg : Str → Option Value) (c c' : Str) : Prop := ∀ C C', mg c = some (.ref C) → mg c' = some (.ref C') → PySem.W.exmOne K (.ref C) (.ref C') = some (decide (c' = c))
inductive QCl (X : Cx) (all : List Str) : List ExceptHandler → List Cl → List MC → Prop
  | nil : QCl X all [] [] []
  | bare {c : Str} {C : Addr} {ts : Addr → Value → Option Addr → TS} {b₀ : Stmt} {rest : List Stmt} {np p : Pos} {hs : List ExceptHandler} {l : List Cl} {m : MX} {ml : List MC} (hm : X.mg c = some (.ref C)) (hg : Gl X c) (hdb : (c == ("__debug__" : Str)) = false) (hx : QXo X none C b₀ rest ts m)
      (hk : ∀ c' ∈ all, Catch X.K X.mg c' c) (r : QCl X all hs l ml) : QCl X all (.ExceptHandler (some (.Name c np)) none (b₀ :: rest) p :: hs) ((.ref C, none, ts) :: l) ((c, none, m) :: ml)
  | name {c n : Str} {i : Nat} {C : Addr} {ts : Addr → Value → Option Addr → TS} {b₀ : Stmt} {rest : List Stmt} {np p : Pos} {hs : List ExceptHandler} {l : List Cl} {m : MX} {ml : List MC} (hi : X.N[i]? = some n) (hln : X.env.kindOf n = some .local) (hm : X.mg c = some (.ref C)) (hg : Gl X c) (hdb : (c == ("__debug__" : Str)) = false)
      (hx : QXo X (some i) C b₀ rest ts m) (hk : ∀ c' ∈ all, Catch X.K X.mg c' c) (r : QCl X all hs l ml) : QCl X all (.ExceptHandler (some (.Name c np)) (some n) (b₀ :: rest) p :: hs) ((.ref C, some i, ts) :: l) ((c, some i, m) :: ml)
/-- errors of the classes all alone may come -/
def onlyOf (all : List Str) : R Fl → R Fl
  | .err c fs ρ s => if c ∈ all then .err c fs ρ s else .bad
  | r => r
def mTryQ (all : List Str) (body : MS) (cls : List MC) : MS := mTryCl (fun ρ s => onlyOf all (body ρ s)) cls
section
variable {X : Cx} {Wx : WX} {all : List Str}
theorem QCl.ok {hs : List ExceptHandler} {l : List Cl} {ml : List MC} (q : QCl X all hs l ml) : ClsOk X hs l := by
  induction q with
  | nil => exact .nil
  | bare hm hg hdb hx hk r ih => exact .bare ⟨hg, hdb, .inl hm⟩ hx.text ih
  | name hi hln hm hg hdb hx hk r ih => exact .name hi hln ⟨hg, hdb, .inl hm⟩ hx.text ih
theorem QCl.run {hs : List ExceptHandler} {l : List Cl} {ml : List MC} (q : QCl X all hs l ml) {h : Ent} {A B : Hp} {D : Ends} {c : Str} {C : Addr} {fs : List (Str × Dt)} {s : Hd} {σ : L2.St} {ρ : Env'} {od : Option Addr} (ca : c ∈ all) (mc : X.mg c = some (.ref C)) (g : G h.a A B s) (S : Slots X.K X.mg h A B σ ρ) (x : XdOk X.K X.mg h.a A B od fs)
    (p : PostS X.K X.mg h (runCl c fs ρ s ml) A B Wx D) : wCl X.K Wx D l (.ref C) od σ B := by
  induction q with
  | nil => exact p σ C od A B (Same.refl _) g S mc x
  | @bare c' C' ts b₀ rest np pp hs l m ml hm hg hdb hx hk r ih =>
    refine ⟨_, hk c ca C C' mc hm, fun e a na => ?_, fun e => ih ?_⟩
    · have e : c' = c := by simpa using e
      subst e
      obtain rfl : C' = C := by
        rw [hm] at mc
        cases mc
        rfl
      have p : PostS X.K X.mg h (if c' = c' then (if clLt none ρ.length = true then clOut none (m fs (clIn none ρ) s) else .bad) else runCl c' fs ρ s ml) A B Wx D := p
      rw [if_pos rfl, if_pos (show clLt none ρ.length = true from rfl)] at p
      refine (hx.read a od) fs h A B s σ ρ D g S ?_
      cases em : m fs ρ s with
      | ok f s2 =>
        rw [show clIn none ρ = ρ from rfl, em] at p
        cases f <;> exact p
      | err c2 fs2 ρ2 s2 =>
        rw [show clIn none ρ = ρ from rfl, em] at p
        exact p.elim
      | bad =>
        rw [show clIn none ρ = ρ from rfl, em] at p
        exact p.elim
    · have e : ¬ c' = c := by simpa using e
      have p : PostS X.K X.mg h (if c' = c then _ else runCl c fs ρ s ml) A B Wx D := p
      rw [if_neg e] at p
      exact p
  | @name c' n i C' ts b₀ rest np pp hs l m ml hi hln hm hg hdb hx hk r ih =>
    refine ⟨_, hk c ca C C' mc hm, fun e a na => ?_, fun e => ih ?_⟩
    · have e : c' = c := by simpa using e
      subst e
      obtain rfl : C' = C := by
        rw [hm] at mc
        cases mc
        rfl
      have p : PostS X.K X.mg h (if c' = c' then (if clLt (some i) ρ.length = true then clOut (some i) (m fs (clIn (some i) ρ) s) else .bad) else runCl c' fs ρ s ml) A B Wx D := p
      rw [if_pos rfl] at p
      by_cases hl : i < ρ.length
      · rw [if_pos (show clLt (some i) ρ.length = true from decide_eq_true hl)] at p
        refine (hx.read a od) h A B s (σ.set i (some (.ref a))) (ρ.set i .no) _ fs g (S.forget _) (List.getElem?_set_self (by rw [S.len]; exact hl)) x ?_
        cases em : m fs (ρ.set i .no) s with
        | ok f s2 =>
          rw [show clIn (some i) ρ = ρ.set i .no from rfl, em] at p
          cases f with
          | nx ρ2 => exact fun σ2 A2 B2 st2 g2 S2 => p (σ2.set i none) A2 B2 st2 g2 (S2.forget none)
          | rt d => exact p
          | bk ρ2 => exact fun σ2 A2 B2 st2 g2 S2 => p (σ2.set i none) A2 B2 st2 g2 (S2.forget none)
          | ct ρ2 => exact fun σ2 A2 B2 st2 g2 S2 => p (σ2.set i none) A2 B2 st2 g2 (S2.forget none)
        | err c2 fs2 ρ2 s2 =>
          rw [show clIn (some i) ρ = ρ.set i .no from rfl, em] at p
          exact p.elim
        | bad =>
          rw [show clIn (some i) ρ = ρ.set i .no from rfl, em] at p
          exact p.elim
      · rw [if_neg (show ¬ clLt (some i) ρ.length = true from by simpa [clLt] using hl)] at p
        exact p.elim
    · have e : ¬ c' = c := by simpa using e
      have p : PostS X.K X.mg h (if c' = c then _ else runCl c fs ρ s ml) A B Wx D := p
      rw [if_neg e] at p
      exact p
theorem qs_tryCl {body : List Stmt} {h₁ : ExceptHandler} {hs : List ExceptHandler} {l : List Cl} {ml : List MC} {pos : Pos} {mb : MS} (hst : X.stack = X.env :: X.outer) (hfr : X.env.frame = some X.env.locals) (hN : X.N.Nodup) (tk : Takes X Wx)
    (hb : ∀ (W : WX) (pn : List (Addr × Obj)) (xe : Value → Shared → Prop), Takes (X.tr pn xe) W → PassesOwn (model X.prog X.w) X.A X.env xe → QSs (X.tr pn xe) W body mb) (q : QCl X all (h₁ :: hs) l ml) : QS X Wx (.Try body (h₁ :: hs) [] [] pos) (mTryQ all mb ml) := by
  refine ⟨_, ps_try_cl (tb := fun W => cS X.K X.mg W mb) hst hfr hN tk (fun W pn xe t p => (hb W pn xe t p).can) q.ok, fun h H0 H s σ ρ D g S p => ⟨h, H0, s, ρ, g, S, ?_⟩⟩
  have p : PostS X.K X.mg h (mTryCl (fun ρ s => onlyOf all (mb ρ s)) ml ρ s) H0 H Wx D := p
  unfold mTryCl at p
  cases e : mb ρ s with
  | ok f s2 =>
    simp only [e, onlyOf] at p
    cases f <;> exact p
  | bad =>
    simp only [e, onlyOf] at p
    exact p
  | err c fs ρ' s' =>
    simp only [e] at p
    by_cases ca : c ∈ all
    · simp only [onlyOf, if_pos ca] at p
      exact fun σ' C od A B sm g' S' mc x => q.run ca mc g' S' x (PostS.step sm p)
    · simp only [onlyOf, if_neg ca] at p
      exact p.elim
end
inductive QClE (X : Cx) (all : List Str) : List ExceptHandler → List MC → Prop
  | nil : QClE X all [] []
  | bare {c : Str} {C : Addr} {b₀ : Stmt} {rest : List Stmt} {np p : Pos} {hs : List ExceptHandler} {m : MX} {ml : List MC} (hm : X.mg c = some (.ref C)) (hg : Gl X c) (hdb : (c == ("__debug__" : Str)) = false) (hx : ∃ ts, QXo X none C b₀ rest ts m)
      (hk : ∀ c' ∈ all, Catch X.K X.mg c' c) (r : QClE X all hs ml) : QClE X all (.ExceptHandler (some (.Name c np)) none (b₀ :: rest) p :: hs) ((c, none, m) :: ml)
  | name {c n : Str} {i : Nat} {C : Addr} {b₀ : Stmt} {rest : List Stmt} {np p : Pos} {hs : List ExceptHandler} {m : MX} {ml : List MC} (hi : X.N[i]? = some n) (hln : X.env.kindOf n = some .local) (hm : X.mg c = some (.ref C)) (hg : Gl X c) (hdb : (c == ("__debug__" : Str)) = false)
      (hx : ∃ ts, QXo X (some i) C b₀ rest ts m) (hk : ∀ c' ∈ all, Catch X.K X.mg c' c) (r : QClE X all hs ml) : QClE X all (.ExceptHandler (some (.Name c np)) (some n) (b₀ :: rest) p :: hs) ((c, some i, m) :: ml)
theorem QClE.ex {X : Cx} {all : List Str} {hs : List ExceptHandler} {ml : List MC} (q : QClE X all hs ml) : ∃ l, QCl X all hs l ml := by
  induction q with
  | nil => exact ⟨_, .nil⟩
  | bare hm hg hdb hx hk r ih =>
    obtain ⟨l, ih⟩ := ih
    obtain ⟨ts, hx⟩ := hx
    exact ⟨_, .bare hm hg hdb hx hk ih⟩
  | name hi hln hm hg hdb hx hk r ih =>
    obtain ⟨l, ih⟩ := ih
    obtain ⟨ts, hx⟩ := hx
    exact ⟨_, .name hi hln hm hg hdb hx hk ih⟩
theorem qs_tryE {X : Cx} {Wx : WX} {all : List Str} {body : List Stmt} {h₁ : ExceptHandler} {hs : List ExceptHandler} {ml : List MC} {pos : Pos} {mb : MS} (hst : X.stack = X.env :: X.outer) (hfr : X.env.frame = some X.env.locals) (hN : X.N.Nodup) (tk : Takes X Wx)
    (hb : ∀ (W : WX) (pn : List (Addr × Obj)) (xe : Value → Shared → Prop), Takes (X.tr pn xe) W → PassesOwn (model X.prog X.w) X.A X.env xe → QSs (X.tr pn xe) W body mb) (q : QClE X all (h₁ :: hs) ml) : QS X Wx (.Try body (h₁ :: hs) [] [] pos) (mTryQ all mb ml) := by
  obtain ⟨l, q⟩ := q.ex
  exact qs_tryCl hst hfr hN tk hb q
theorem qx_bare {X : Cx} {C : Addr} {b₀ : Stmt} {rest : List Stmt} {ms : MS} (hq : ∀ (a : Addr) (oe : Obj) (pn : List (Addr × Obj)), QSs (X.suite a ((a, oe) :: pn)) WF (b₀ :: rest) ms) : ∃ ts, QXo X none C b₀ rest ts (fun _ => ms) :=
  ⟨fun _ _ _ => cS X.K X.mg WF ms, ⟨fun a oe cls d pn _ _ => (hq a oe pn).can, fun a dd fs => ss_cS⟩⟩
/-! ### the suite  x = A if isinstance(e, C1) and isinstance(e, T2) else B,  e the caught error, which is both -/
def xIsSet (j : Nat) (x : Str) : MX := fun fs => if fs = [] then mSet j (mC (.str x)) else mBad
/-- isinstance of the class D's errors says yes for the class at C1 and for the built-in class T2 -/
structure IsBoth (K : Frag) (mg : Str → Option Value) (D : Addr) (c1 : Str) (T2 : String) : Prop where
  ex : ExcC K D
  one : ∃ C1, mg c1 = some (.ref C1) ∧ PySem.W.kitOne K (.ref D) (.ref C1) = some true
  two : PySem.W.kitOne K (.ref D) (.type T2) = some true
section
variable {X : Cx} {i j : Nat} {n y c1 t2 : Str} {T2 : String} {C : Addr} {p1 p2 p3 p4 p5 p6 p7 p8 p9 pa pb pc pd pe : Pos} {A B : Str} {ja jb : Nat}
open Classical in
theorem qx_is (hB : IsBoth X.K X.mg C c1 T2) (hN : X.N.Nodup) (hi : X.N[i]? = some n) (hj : X.N[j]? = some y) (hvi : Vis X.env.scope n) (hlj : Loc X.env.scope y) (hg : Gl X "isinstance") (hm : X.mg "isinstance" = none) (hg1 : Gl X c1) (hg2 : Gl X t2) (hm2 : X.mg t2 = none) (hv2 : bootBuiltins t2 = some (.type T2))
    (hdn : (n == ("__debug__" : Str)) = false) (hcn : (n == ("__classdict__" : Str)) = false) (hd1 : (c1 == ("__debug__" : Str)) = false) (hn2 : t2 ≠ "__name__") (hd2 : (t2 == ("__debug__" : Str)) = false)
    (hlp : ∀ (a : Addr) (oe : Obj) (pn : List (Addr × Obj)), swapsWith (.IfExp (.BoolOp .And [.Call (.Name "isinstance" p1) [.Name n p2, .Name c1 p3] [] p4, .Call (.Name "isinstance" p5) [.Name n p6, .Name t2 p7] [] p8] p9) (.Constant (.str A) ja pa) (.Constant (.str B) jb pb) pc) (some (.Name y pd)) pe.line (X.suite a ((a, oe) :: pn)).env = pure false)
    (hf : ∀ (a : Addr) (oe : Obj) (pn : List (Addr × Obj)), (X.suite a ((a, oe) :: pn)).fn y = true ∨ (X.suite a ((a, oe) :: pn)).env.scope.names.lookup y = some .local)
    (h1 : ∀ (a : Addr) (oe : Obj) (pn : List (Addr × Obj)), starEach [.Name n p2, .Name c1 p3] (X.suite a ((a, oe) :: pn)).env = (false, eval (.Name n p2) (X.suite a ((a, oe) :: pn)).env) :: starEach [.Name c1 p3] (X.suite a ((a, oe) :: pn)).env)
    (h2 : ∀ (a : Addr) (oe : Obj) (pn : List (Addr × Obj)), starEach [.Name c1 p3] (X.suite a ((a, oe) :: pn)).env = (false, eval (.Name c1 p3) (X.suite a ((a, oe) :: pn)).env) :: starEach [] (X.suite a ((a, oe) :: pn)).env)
    (h3 : ∀ (a : Addr) (oe : Obj) (pn : List (Addr × Obj)), starEach [.Name n p6, .Name t2 p7] (X.suite a ((a, oe) :: pn)).env = (false, eval (.Name n p6) (X.suite a ((a, oe) :: pn)).env) :: starEach [.Name t2 p7] (X.suite a ((a, oe) :: pn)).env)
    (h4 : ∀ (a : Addr) (oe : Obj) (pn : List (Addr × Obj)), starEach [.Name t2 p7] (X.suite a ((a, oe) :: pn)).env = (false, eval (.Name t2 p7) (X.suite a ((a, oe) :: pn)).env) :: starEach [] (X.suite a ((a, oe) :: pn)).env)
    (h5 : ∀ (a : Addr) (oe : Obj) (pn : List (Addr × Obj)), (backTo p4 (starEach [.Name c1 p3] (X.suite a ((a, oe) :: pn)).env)).any (·.1) = false) (h6 : ∀ (a : Addr) (oe : Obj) (pn : List (Addr × Obj)), (backTo p8 (starEach [.Name t2 p7] (X.suite a ((a, oe) :: pn)).env)).any (·.1) = false) :
    ∃ ts, QXo X (some i) C (.Assign [.Name y pd] (.IfExp (.BoolOp .And [.Call (.Name "isinstance" p1) [.Name n p2, .Name c1 p3] [] p4, .Call (.Name "isinstance" p5) [.Name n p6, .Name t2 p7] [] p8] p9) (.Constant (.str A) ja pa) (.Constant (.str B) jb pb) pc) pe) [] ts (xIsSet j A) := by
  obtain ⟨C1, hm1, k1⟩ := hB.one
  let te (a : Addr) (v : V) : TE := tCB (rIsE X.K C a) (tCons (tVar i) (tCons (tC v) tNil))
  let real (a : Addr) : TS := tAsg (tIf (tAnd (tB (te a (.ref C1))) (tB (te a (.ty T2)))) (tC (.str A)) (tC (.str B))) (gName j)
  refine ⟨fun a cls d => if cls = .ref C ∧ d = none then real a else fun _ _ _ => False, ⟨fun a oe cls d pn hz hv => ?_, fun a dd => ?_⟩⟩
  · by_cases c : cls = .ref C ∧ d = none
    · obtain ⟨rfl, rfl⟩ := c
      rw [if_pos ⟨rfl, rfl⟩]
      have e1 : PE (X.suite a ((a, oe) :: pn)) (.Name n p2) (tVar i) := pe_var hi hvi hdn hcn
      have e2 : PE (X.suite a ((a, oe) :: pn)) (.Name n p6) (tVar i) := pe_var hi hvi hdn hcn
      have c1 := pe_callB (X := X.suite a ((a, oe) :: pn)) (p := p1) (pos := p4) (call_isE (pn := pn) hB.ex hz hv) hg hm (by decide +kernel) (pa_cons e1 (pa_cons (pe_glob (v := .ref C1) (pos := p3) hg1 hm1 rfl hd1) pa_nil (h2 a oe pn)) (h1 a oe pn)) (by decide) (by decide) (h1 a oe pn) (h5 a oe pn)
      have c2 := pe_callB (X := X.suite a ((a, oe) :: pn)) (p := p5) (pos := p8) (call_isE (pn := pn) hB.ex hz hv) hg hm (by decide +kernel) (pa_cons e2 (pa_cons (pe_bltn (v := .ty T2) (pos := p7) hg2 hm2 hv2 rfl hn2 hd2) pa_nil (h4 a oe pn)) (h3 a oe pn)) (by decide) (by decide) (h3 a oe pn) (h6 a oe pn)
      exact pss_one (ps_set hN hj hlj (pe_ifExp (PW.pt (pw_and (pt_val c1) (pw_and1 (pt_val c2)))) pe_str pe_str) (hlp a oe pn) (hf a oe pn))
    · rw [if_neg c]
      exact ⟨fun _ _ _ _ _ _ z => z.elim⟩
  · show XS' X.K X.mg i a dd (if Value.ref C = .ref C ∧ dd = none then real a else fun _ _ _ => False) (xIsSet j A)
    intro h H0 H s σ ρ D fs g S ei ed p
    unfold xIsSet at p
    by_cases c : fs = []
    · rw [if_pos c] at p
      have dn : dd = none := by
        cases dd with
        | none => rfl
        | some dd => exact absurd c ed.1
      rw [if_pos ⟨rfl, dn⟩]
      have p : ∀ σ' H0' H', Same H0 H0' → G h.a H0' H' s → Slots X.K X.mg h H0' H' σ' (ρ.set j (.dat (.str A))) → D.nx σ' H' := p
      refine ⟨.ref a, ei, _, .ref C1, true, rfl, fun u r => r, k1, true, rfl, ?_⟩
      refine iteT ⟨.ref a, ei, _, .type T2, true, rfl, fun u r => r, hB.two, true, rfl, ?_⟩
      exact iteT (p _ H0 H (Same.refl _) g (S.set (.str A)))
    · rw [if_neg c] at p
      exact p.elim
end
/-! ### raise C() -/
def mRaise0 (c : Str) : MS := fun ρ s => .err c [] ρ s
/-- a class of errors without __init__ of its own -/
def Thrown0 (K : Frag) (mg : Str → Option Value) (c : Str) : Prop := ∃ (C : Addr) (B newId initId : String) (bmB : List Value), mg c = some (.ref C) ∧ ExcBaseFacts B newId initId bmB ∧ PySem.W.excIn K C bmB newId = true ∧ PySem.W.keepIn K (.ref C) = true ∧ PySem.W.subIn K (.ref C) (.type "BaseException") = some true ∧ PySem.W.typeIn K (.ref C) = some (.type "type")
theorem pmk_none {X : Cx} {C : Addr} {bmB : List Value} {B newId initId : String} {x : Str} {p pos : Pos} (F : ExcBaseFacts B newId initId bmB) (q : PySem.W.excIn X.K C bmB newId = true) (gC : X.mg x = some (.ref C)) (kC : PySem.W.keepIn X.K (.ref C) = true) (r : Raises X (.ref C)) (hg : Gl X x)
    (hdb : (x == ("__debug__" : Str)) = false := by decide) : PMk X (.Call (.Name x p) [] [] pos) (fun _ H Q => Q (.ref C) none H) := by
  intro pins s σ H Q I h
  refine wpAny_Call_Name_kw (ld_glob I hg gC (PySem.W.callWith_K0 I.kIn kC ?_) hdb)
  show wpAny _ _ (call (.ref C) []) _ _ _
  obtain ⟨bm, N, nm, qn, bs, hdct, sn, sub, ab, col, dd, k0, k1, k2, k3, k5, mN, hC, hN, hni, T⟩ := exc_obj I.kIn q
  exact wpAny_call_exc_subT F T hC hN hni (fun h' e hm => mk_of I hm r h (I.hok.gone hm.new)) (Nat.zero_le _)
theorem qs_throw0 {X : Cx} {Wx : WX} {c : Str} {p pos pos2 : Pos} (T : Thrown0 X.K X.mg c) (hc : X.calm = true) (tk : Takes X Wx) (hg : Gl X c := by rfl) (hdb : (c == ("__debug__" : Str)) = false := by decide) : QS X Wx (.Raise (some (.Call (.Name c p) [] [] pos)) none pos2) (mRaise0 c) := by
  obtain ⟨C, B, newId, initId, bmB, hm, F, q, kC, h1, h2⟩ := T
  refine ⟨_, ps_raise hc tk (pmk_none F q hm kC (raises_own h1 h2) hg hdb), ?_⟩
  intro h H0 H s σ ρ D g S p
  exact p σ C none H0 H (Same.refl _) g S hm rfl
end Mir


set_option Elab.async false
set_option linter.all false
set_option maxRecDepth 100000
/-! Texts: str of an int, int of a text, divmod, methods of texts, text * int, a list backwards. -/
namespace Mir
open PySem PySem.Spec PyProof.Rows L2
open PySem.W (Frag)
/-! ### str(int), int(text), divmod -/
def fStr : List Dt → Option Dt
  | [.int i] => if i.natAbs.log2 < 1920 then some (.str (toString i)) else none
  | _ => none
def fIntS : List Dt → Option Dt
  | [.str a] => if a.length ≤ 640 then (PySem.intText? a).map .int else none
  | _ => none
def fIntT : List Dt → Option Dt
  | [.str a] => if a.length ≤ 640 then (PySem.intText? a).map .int else none
  | ds => fIntC ds
def fDivmod : List Dt → Option Dt
  | [.int i, .int j] => if DivOk j then some (.tup [.int (i.fdiv j), .int (i.fmod j)]) else none
  | _ => none
section
variable {K : Frag} {mg : Str → Option Value}
theorem cs_str : CaS K mg (fun xs H Q => ∃ i, xs = [.int i] ∧ i.natAbs.log2 < 1920 ∧ Q (.str (toString i)) H) fStr := by
  intro h H0 H s xs ds z Q g0 hx hz q
  unfold fStr at hz
  split at hz
  · split at hz
    · rename_i c
      cases hz
      cases hx with
      | cons a r =>
        cases r
        cases a
        exact ⟨_, rfl, c, q _ H0 H (.refl _ _) g0 (.str _)⟩
    · cases hz
  · cases hz
theorem cs_intS : CaS K mg (fun xs H Q => ∃ a n, xs = [.str a] ∧ PySem.intText? a = some n ∧ a.length ≤ 640 ∧ Q (.int n) H) fIntS := by
  intro h H0 H s xs ds z Q g0 hx hz q
  unfold fIntS at hz
  split at hz
  · rename_i a
    split at hz
    · rename_i c
      cases e : PySem.intText? a with
      | none =>
        rw [e] at hz
        cases hz
      | some n =>
        rw [e] at hz
        cases hz
        cases hx with
        | cons a r =>
          cases r
          cases a
          exact ⟨_, _, rfl, e, c, q _ H0 H (.refl _ _) g0 (.int _)⟩
    · cases hz
  · cases hz
theorem cs_intT : CaS K mg (fun xs H Q => ((∃ i, xs = [.int i] ∧ Q (.int i) H) ∨ ∃ k, xs = [.bl k] ∧ Q (.int (if k then 1 else 0)) H) ∨ ∃ a n, xs = [.str a] ∧ PySem.intText? a = some n ∧ a.length ≤ 640 ∧ Q (.int n) H) fIntT :=
  CaS.or cs_int cs_intS fun d z e => by
    unfold fIntT at e
    split at e
    · exact .inr e
    · exact .inl e
def rDivmod : List V → Hp → VK → Prop := fun xs H Q => ∃ i j, xs = [.int i, .int j] ∧ DivOk j ∧ ∀ p, H p = none → Q (.ref p) (upd H p (.tup [.int (i.fdiv j), .int (i.fmod j)]))
theorem cs_divmod : CaS K mg rDivmod fDivmod := by
  intro h H0 H s xs ds z Q g0 hx hz q
  unfold fDivmod at hz
  split at hz
  · split at hz
    · rename_i c
      cases hz
      cases hx with
      | cons a r =>
        cases r with
        | cons b r =>
          cases r
          cases a
          cases b
          refine ⟨_, _, rfl, c, fun p hp => ?_⟩
          obtain ⟨g1, st⟩ := g0.alloc (o := .tup _) hp
          exact q _ _ _ st g1 (.tup (SqT.of upd_same) (.cons (.int _) (.cons (.int _) .nil)))
    · cases hz
  · cases hz
end
section
variable {X : Cx}
theorem call_divmodW : CallR X (.builtin "divmod") rDivmod := by
  intro pins s σ H xs us Q I r h
  obtain ⟨i, j, rfl, ⟨h1, h2⟩, q⟩ := h
  obtain ⟨u, w', rfl, ⟨t, rfl⟩, ⟨t', rfl⟩⟩ := vals2 r
  refine divmod_int h1 ?_ (.inl (PyProof.noPylong_of_log2 h2))
  have hn : H s.heap.objs.size = none := I.hok.fresh (Nat.le_refl _)
  refine ⟨.ref s.heap.objs.size, _, ?_, rfl, q _ hn⟩
  refine I.laid (fun b o e => Heap.get?_push_of_some _ e) (Nat.le_refl _) ⟨by simp only [List.length_cons, List.length_nil]; rw [sizeLine_eq]; decide, [.int (i.fdiv j) s.toks, .int (i.fmod j) (s.toks + 1)], .cons ⟨_, rfl⟩ (.cons ⟨_, rfl⟩ .nil), ?_⟩
  exact ⟨_, Heap.get?_push_size s.heap rfl, rfl, 0, rfl⟩
theorem call_intAny : CallR X (.type "int") (fun xs H Q => ((∃ i, xs = [.int i] ∧ Q (.int i) H) ∨ ∃ k, xs = [.bl k] ∧ Q (.int (if k then 1 else 0)) H) ∨ ∃ a n, xs = [.str a] ∧ PySem.intText? a = some n ∧ a.length ≤ 640 ∧ Q (.int n) H) := CallR.or call_int1 call_int_str
end
/-! ### methods of texts -/
def MtS (K : Frag) (mg : Str → Option Value) (r : V → List V → Hp → VK → Prop) (f : Str → List Dt → Option Dt) : Prop := ∀ (h : Addr) (H0 H : Hp) (s : Hd) (x : Str) (xs : List V) (ds : List Dt) (z : Dt) (Q : VK), G h H0 H s → DenA K mg h H0 xs ds → f x ds = some z →
  (∀ u H0' H', Step h H0 H H0' H' → G h H0' H' s → Den K mg h H0' u z → Q u H') → r (.str x) xs H Q
def mMt (f : Str → List Dt → Option Dt) (a : ME) (as : MA) : ME := fun ρ s => (a ρ s).bind fun d s1 => match d with
  | .str x => (as ρ s1).bind fun ds s2 => liftO (f x ds) s2
  | _ => .bad
section
variable {X : Cx} {Wx : WX} {K : Frag} {mg : Str → Option Value} {to : TE} {ta : TA} {o e : Expr} {es : List Expr} {mo : ME} {as : MA} {r : V → List V → Hp → VK → Prop} {f : Str → List Dt → Option Dt} {name : Str} {id : String} {apos cpos : Pos}
theorem se_mt (hr : MtS K mg r f) (hb : SE K mg Wx to mo) (ha : SA K mg Wx ta as) : SE K mg Wx (tBM K "str" r to ta) (mMt f mo as) := by
  intro h H0 H s σ ρ Q g S p
  refine hb h H0 H s σ ρ _ g S (Post.bind p fun d s1 x A B st g1 dx p1 => ?_)
  cases dx with
  | str y =>
    refine ⟨rfl, ha h A B s1 σ ρ _ g1 (S.step st) (Post.bind p1 fun ds s2 xs A2 B2 st2 g2 dxs p2 => ?_)⟩
    obtain ⟨z, hz, p3⟩ := post_lift p2
    exact hr h A2 B2 s2 y xs ds z Q g2 dxs hz fun u A3 B3 st3 g3 du => p3 u A3 B3 st3 g3 du
  | _ => exact p1.elim
theorem se_mt0 (hr : MtS K mg r f) (hb : SE K mg Wx to mo) : SE K mg Wx (tBM0 K "str" r to) (mMt f mo mNil) := by
  intro h H0 H s σ ρ Q g S p
  refine hb h H0 H s σ ρ _ g S (Post.bind p fun d s1 x A B st g1 dx p1 => ?_)
  cases dx with
  | str y =>
    refine ⟨rfl, ?_⟩
    obtain ⟨z, hz, p3⟩ := post_lift p1
    exact hr h A B s1 y [] [] z Q g1 .nil hz fun u A3 B3 st3 g3 du => p3 u A3 B3 st3 g3 du
  | _ => exact p1.elim
theorem qe_mt (slot : Slot "str" name id) (hty : typeOf (.builtin id) = pure (.type "method_descriptor")) (hm : MtR X id r) (hr : MtS X.K X.mg r f) (ho : QE X Wx o mo) (ha : QA X Wx (e :: es) as)
    (hbase : attributeBase o name X.env (eval o X.env) = eval o X.env := by rfl)
    (hfew : ((backTo cpos (starEach (e :: es) X.env)).all (fun x => !x.1) && (backToKw cpos (keywordEach [] X.env)).all (fun x => x.1.isSome)
      && decide ((e :: es).length + ([] : List Keyword).length + (if ([] : List Keyword).isEmpty then 0 else 1) < 30)) = true := by rfl)
    (hline : (apos.endLine == cpos.line) = true := by rfl) (hs : starEach (e :: es) X.env = (false, eval e X.env) :: starEach es X.env := by rfl) (hplain : (backTo cpos (starEach es X.env)).any (·.1) = false := by rfl) :
    QE X Wx (.Call (.Attribute o name apos) (e :: es) [] cpos) (mMt f mo as) := by
  obtain ⟨t, p, so⟩ := ho
  obtain ⟨t2, p2, sa⟩ := ha
  exact ⟨_, pe_bm PySem.F.plainAttrs_str slot hty hm p p2 hbase hfew hline hs hplain, se_mt hr so sa⟩
theorem qe_mt0 (slot : Slot "str" name id) (hty : typeOf (.builtin id) = pure (.type "method_descriptor")) (hm : MtR X id r) (hr : MtS X.K X.mg r f) (ho : QE X Wx o mo)
    (hbase : attributeBase o name X.env (eval o X.env) = eval o X.env := by rfl) (hline : (apos.endLine == cpos.line) = true := by rfl) : QE X Wx (.Call (.Attribute o name apos) [] [] cpos) (mMt f mo mNil) := by
  obtain ⟨t, p, so⟩ := ho
  exact ⟨_, pe_bm0 PySem.F.plainAttrs_str slot hty hm p hbase hline, se_mt0 hr so⟩
end
def fZfill (x : Str) : List Dt → Option Dt
  | [.int i] => if PadOk i = true then some (.str (Txt.zfill x i)) else none
  | _ => none
def fRemovePre (x : Str) : List Dt → Option Dt
  | [.str b] => if sizeOk x.length then some (.str (Txt.removeprefix x b)) else none
  | _ => none
def fIsAscii (x : Str) : List Dt → Option Dt
  | [] => some (.bl (Txt.isascii x))
  | _ => none
def fIsDigit (x : Str) : List Dt → Option Dt
  | [] => some (.bl (Txt.isdigit x))
  | _ => none
def fPartition (x : Str) : List Dt → Option Dt
  | [.str b] => if (b.length == 0) = false ∧ sizeOk x.length then some (.tup [.str (Txt.partition x b).1, .str (Txt.partition x b).2.1, .str (Txt.partition x b).2.2]) else none
  | _ => none
def strsD : List Dt → Option (List Str)
  | [] => some []
  | .str x :: ds => (strsD ds).map fun l => x :: l
  | _ => none
def fJoin (x : Str) : List Dt → Option Dt
  | [.lst ds] => (strsD ds).bind fun ys => if (ys.map (·.length)).sum + ys.length * x.length ≤ 16777216 then some (.str (Txt.join x ys)) else none
  | _ => none
section
variable {K : Frag} {mg : Str → Option Value}
theorem ms_zfill : MtS K mg (fun x xs H Q => ∃ (a : Str) (i : Int), x = .str a ∧ xs = [.int i] ∧ PadOk i = true ∧ Q (.str (Txt.zfill a i)) H) fZfill := by
  intro h H0 H s x xs ds z Q g0 hx hz q
  unfold fZfill at hz
  split at hz
  · split at hz
    · rename_i c
      cases hz
      cases hx with
      | cons a r =>
        cases r
        cases a
        exact ⟨_, _, rfl, rfl, c, q _ H0 H (.refl _ _) g0 (.str _)⟩
    · cases hz
  · cases hz
theorem ms_removepre : MtS K mg (fun x xs H Q => ∃ a b, x = .str a ∧ xs = [.str b] ∧ a.length ≤ sizeLine ∧ Q (.str (Txt.removeprefix a b)) H) fRemovePre := by
  intro h H0 H s x xs ds z Q g0 hx hz q
  unfold fRemovePre at hz
  split at hz
  · split at hz
    · rename_i c
      cases hz
      cases hx with
      | cons a r =>
        cases r
        cases a
        exact ⟨_, _, rfl, rfl, c.le, q _ H0 H (.refl _ _) g0 (.str _)⟩
    · cases hz
  · cases hz
theorem ms_isascii : MtS K mg (fun x xs H Q => ∃ a, x = .str a ∧ xs = [] ∧ True ∧ Q (.bl (Txt.isascii a)) H) fIsAscii := by
  intro h H0 H s x xs ds z Q g0 hx hz q
  unfold fIsAscii at hz
  split at hz
  · cases hz
    cases hx
    exact ⟨_, rfl, rfl, trivial, q _ H0 H (.refl _ _) g0 (.bl _)⟩
  · cases hz
theorem ms_isdigit : MtS K mg (fun x xs H Q => ∃ a, x = .str a ∧ xs = [] ∧ True ∧ Q (.bl (Txt.isdigit a)) H) fIsDigit := by
  intro h H0 H s x xs ds z Q g0 hx hz q
  unfold fIsDigit at hz
  split at hz
  · cases hz
    cases hx
    exact ⟨_, rfl, rfl, trivial, q _ H0 H (.refl _ _) g0 (.bl _)⟩
  · cases hz
theorem ms_partition : MtS K mg (fun x xs H Q => ∃ a b, x = .str a ∧ xs = [.str b] ∧ (b.length == 0) = false ∧ a.length ≤ sizeLine ∧
    ∀ p, H p = none → Q (.ref p) (upd H p (.tup [.str (Txt.partition a b).1, .str (Txt.partition a b).2.1, .str (Txt.partition a b).2.2]))) fPartition := by
  intro h H0 H s x xs ds z Q g0 hx hz q
  unfold fPartition at hz
  split at hz
  · split at hz
    · rename_i c
      cases hz
      cases hx with
      | cons a r =>
        cases r
        cases a
        refine ⟨_, _, rfl, rfl, c.1, c.2.le, fun p hp => ?_⟩
        obtain ⟨g1, st⟩ := g0.alloc (o := .tup _) hp
        exact q _ _ _ st g1 (.tup (SqT.of upd_same) (.cons (.str _) (.cons (.str _) (.cons (.str _) .nil))))
    · cases hz
  · cases hz
theorem strsD_vals {h : Addr} {H : Hp} : ∀ {ds : List Dt} {vs : List V} {ys : List Str}, DenA K mg h H vs ds → strsD ds = some ys → vs = ys.map V.str
  | [], _, ys, .nil, e => by
    cases e
    rfl
  | d :: ds, _, ys, .cons (v := v) (vs := vs) dv da, e => by
    cases dv with
    | str x =>
      cases e2 : strsD ds with
      | none =>
        simp [strsD, e2] at e
      | some l =>
        simp [strsD, e2] at e
        subst e
        rw [strsD_vals da e2]
        rfl
    | _ => cases e
theorem ms_join : MtS K mg (fun x xs H Q => ∃ a p, ∃ ys : List Str, x = .str a ∧ xs = [.ref p] ∧ (SqL K H p (ys.map V.str) ∨ SqT K H p (ys.map V.str)) ∧
    (ys.map (·.length)).sum + ys.length * a.length ≤ 16777216 ∧ Q (.str (Txt.join a ys)) H) fJoin := by
  intro h H0 H s x xs ds z Q g0 hx hz q
  unfold fJoin at hz
  split at hz
  · rename_i es
    cases e : strsD es with
    | none =>
      rw [e] at hz
      cases hz
    | some ys =>
      rw [e] at hz
      have hz : (if (ys.map (·.length)).sum + ys.length * x.length ≤ 16777216 then some (Dt.str (Txt.join x ys)) else none) = some z := hz
      split at hz
      · rename_i c
        cases hz
        cases hx with
        | cons a r =>
          cases r
          cases a with
          | lst qa ra =>
            have ev := strsD_vals ra e
            subst ev
            exact ⟨_, _, _, rfl, rfl, .inl (SqL.of (g0.ex _ _ qa)), c, q _ H0 H (.refl _ _) g0 (.str _)⟩
      · cases hz
  · cases hz
end
/-! ### xs[::-1] -/
def mRev (a : ME) : ME := fun ρ s => (a ρ s).bind fun d s1 => match d with
  | .lst ds => .ok (.lst ds.reverse) s1
  | _ => .bad
section
variable {X : Cx} {Wx : WX} {K : Frag} {mg : Str → Option Value} {te : TE} {ma : ME} {e : Expr} {k : Nat} {p1 p2 p3 pos : Pos}
theorem DenA.rev {h : Addr} {H : Hp} {vs : List V} {ds : List Dt} (d : DenA K mg h H vs ds) : DenA K mg h H vs.reverse ds.reverse := by
  induction ds generalizing vs with
  | nil =>
    cases d
    exact .nil
  | cons x ds ih =>
    cases d with
    | cons a r =>
      rw [List.reverse_cons, List.reverse_cons]
      exact (ih r).append (.cons a .nil)
theorem se_rev (ha : SE K mg Wx te ma) : SE K mg Wx (tRevL K te) (mRev ma) := by
  intro h H0 H s σ ρ Q g S p
  refine ha h H0 H s σ ρ _ g S (Post.bind p fun d s1 x A B st g1 dx p1 => ?_)
  cases dx with
  | lst qa ra =>
    refine ⟨_, _, rfl, SqL.of (g1.ex _ _ qa), fun p hp => ?_⟩
    obtain ⟨g2, st2⟩ := g1.alloc (o := .lst _) hp
    exact p1 _ _ _ st2 g2 (.lst upd_same (ra.rev.mono st2.s0))
  | _ => exact p1.elim
theorem qe_rev (ha : QE X Wx e ma) : QE X Wx (.Subscript e (.Slice none none (some (.UnaryOp .USub (.Constant (.int 1) k p1) p2)) p3) pos) (mRev ma) := by
  obtain ⟨t, p, s⟩ := ha
  exact ⟨_, pe_revL p, se_rev s⟩
end
/-! ### text * int -/
def fRep : Dt → Dt → Option Dt
  | .str a, .int j => if 1 ≤ j ∧ j ≤ 10000 ∧ a.length ≤ 9 ∧ a.length ≠ 0 ∧ j ≠ 1 then some (.str ⟨(List.replicate j.toNat a.cps).foldl (· ++ ·) #[]⟩) else none
  | _, _ => none
def rRepS : R2 := fun x y H Q => ∃ a j, x = .str a ∧ y = .int j ∧ (1 ≤ j ∧ j ≤ 10000 ∧ a.length ≤ 9 ∧ a.length ≠ 0 ∧ j ≠ 1) ∧ Q (.str ⟨(List.replicate j.toNat a.cps).foldl (· ++ ·) #[]⟩) H
section
variable {X : Cx} {K : Frag} {mg : Str → Option Value}
theorem op_repS : OpR X (binaryOp .Mult) rRepS := by
  intro pins s σ H x y v u Q I rx ry h
  obtain ⟨a, j, rfl, rfl, ⟨h1, h2, h3, h4, h5⟩, q⟩ := h
  obtain ⟨t, rfl⟩ := rx
  obtain ⟨t', rfl⟩ := ry
  have b1 : (j == 1) = false := beq_eq_false_iff_ne.mpr h5
  have b2 : (a.length == 0) = false := beq_eq_false_iff_ne.mpr h4
  have ok : PySem.MulOk a j := by
    refine ⟨by simp; omega, fun _ _ => ?_, fun _ _ => ?_⟩
    · have m : (a.length : Int) * j ≤ 9 * 10000 := Int.mul_le_mul (by omega) (by omega) (by omega) (by omega)
      have := Int.le_ediv_of_mul_le (a := (a.length : Int)) (b := 2 ^ 63 - 1) (c := j) (by omega) (by omega)
      omega
    · have m : a.length * j.toNat ≤ 9 * 10000 := Nat.mul_le_mul h3 (by omega)
      unfold PySem.Builtin.Str.tooLong
      have e : sizeLine = 16777216 := rfl
      exact decide_eq_false (by omega)
  refine PySem.SB.mul ok fun t2 k => ?_
  have em : Txt.mul a j = ⟨(List.replicate j.toNat a.cps).foldl (· ++ ·) #[]⟩ := by
    unfold Txt.mul
    rw [if_neg (by omega), b1, b2]
    rfl
  rw [em]
  exact ⟨.str _, H, I.tok _, ⟨_, rfl⟩, q⟩
theorem os_rep : OpS K mg rRepS fRep := by
  intro h H0 H s x y d e z Q g0 hx hy hz q
  unfold fRep at hz
  split at hz
  · split at hz
    · rename_i c
      cases hz
      cases hx
      cases hy
      exact ⟨_, _, rfl, rfl, c, q _ H0 H (.refl _ _) g0 (.str _)⟩
    · cases hz
  · cases hz
end
end Mir


set_option Elab.async false
set_option linter.all false
set_option maxRecDepth 100000
/-! Walks that give pairs: zip, enumerate. -/
namespace Mir
open PySem PySem.Spec PyProof.Rows L2
open PySem.W (Frag)
section
variable {K : Frag} {mg : Str → Option Value} {Wx : WX} {ta : TE} {tb : TS} {a : ME} {body : MS} {tt : TT} {mt : MT} {js vs : List Nat} {g : TG} {m : GM}
theorem cw_turnX {h : Ent} {A B A' B' : Hp} {s' : Hd} {acc : List Dt} {vv : List V} {σ : L2.St} {ρ : Env'} {D : Addr} {PF : R Dt → Prop} (hbad : PF .bad → False) {x : V} {d : Dt} {ds : List Dt} (hg : SG K mg js g m) (hv : ∀ j ∈ js, j ∈ vs) (ht : ST K mg WF tt mt) (ha : SE K mg WF ta a) (S : Slots K mg h A B σ ρ)
    (st : Step h A B A' B') (g0 : G h A' B' s') (hB : B D = none) (hD : A' D = none) (nD : ¬ isH h B' D) (eD : B' D = some (.lst vv)) (da : DenA K mg h A' vv acc) (p : PF (loopC m mt a vs (d :: ds) acc ρ s')) (dx : Den K mg h A' x d) :
    g x (L2.wipe σ vs) B' fun σ2 H2 => L2.wipe σ2 vs = L2.wipe σ vs ∧ tt σ2 H2 fun b H3 =>
      if b = true then ta σ2 H3 fun y H4 => ∃ acc, H4 D = some (.lst acc) ∧ acc.length < sizeLine ∧ CW K mg PF m mt a vs h A B ρ D ds (upd H4 D (.lst (acc ++ [y]))) else CW K mg PF m mt a vs h A B ρ D ds H3 := by
  unfold loopC at p
  cases e : m d (wipeE ρ vs) with
  | none =>
    rw [e] at p
    exact (hbad p).elim
  | some ρ1 =>
    simp only [e] at p
    refine hg h A' B' s' x d _ _ ρ1 _ g0 ((S.step st).wipe vs) dx e fun σ1 o1 S1 => ⟨wipe_off hv o1, ht h A' B' s' σ1 ρ1 _ g0 S1 (Post.noErr hbad p fun c s1 c' A2 B2 st2 g2 ec p2 => ?_)⟩
    have ec : c' = c := ec
    subst ec
    have f2 := st2.fr D _ eD hD nD
    cases c' with
    | false => exact ⟨A2, s1, acc, vv, st.trans st2, g2, hB, f2.2.1, f2.2.2, f2.1, da.mono st2.s0, p2⟩
    | true =>
      show ta σ1 B2 _
      rw [if_pos rfl] at p2
      refine ha h A2 B2 s1 σ1 ρ1 _ g2 (S1.step st2) (Post.noErr hbad p2 fun z s3 y A3 B3 st3 g3 dy p3 => ?_)
      have f3 := st3.fr D _ f2.1 f2.2.1 f2.2.2
      by_cases c : sizeOk acc.length
      · rw [if_pos c] at p3
        refine ⟨vv, f3.1, by rw [da.len]; exact c.lt, ?_⟩
        obtain ⟨gl, a1, a2, a3, a4⟩ := g3.gl
        have n1 : h ≠ D := fun z => f3.2.2 (.inl z.symm)
        have n2 : gl ≠ D := fun z => f3.2.2 (.inr ⟨_, by rw [← z]; exact a3⟩)
        have nH : ∀ q, isH h (upd B3 D (.lst (vv ++ [y]))) q → isH h B3 q := fun q w => by
          rcases w with w | ⟨r, w⟩
          · exact .inl w
          · rw [upd_ne n1] at w
            exact .inr ⟨r, w⟩
        have st4 : Step h A B A3 (upd B3 D (.lst (vv ++ [y]))) := ⟨(st.trans (st2.trans st3)).s0, fun q u x1 x2 x3 => by
          have nq : q ≠ D := ne_of_none x1 hB
          obtain ⟨y1, y2, y3⟩ := (st.trans (st2.trans st3)).fr q u x1 x2 x3
          exact ⟨by rw [upd_ne nq]; exact y1, y2, fun w => y3 (nH q w)⟩⟩
        refine ⟨A3, s3, acc ++ [z], vv ++ [y], st4, ⟨fun q u w => ?_, g3.h0, gl, a1, a2, by rw [upd_ne n1]; exact a3, by rw [upd_ne n2]; exact a4⟩, hB, f3.2.1, fun w => f3.2.2 (nH D w), upd_same, ((da.mono st2.s0).mono st3.s0).append (.cons dy .nil), p3⟩
        rw [upd_ne fun z => by rw [z, f3.2.1] at w; cases w]
        exact g3.ex _ _ w
      · rw [if_neg c] at p3
        exact (hbad p3).elim
/-- an iterator whose turns give new couples -/
structure PairW (J : It) (Ok : Hp → Prop) (n : Nat) (px : Nat → V × V) : Prop where
  go : ∀ {i H}, Ok H → i < n → J.go i H
  yld : ∀ {i H v H'}, Ok H → i < n → J.yld i H v H' → ∃ T, v = .ref T ∧ H T = none ∧ H' = upd H T (.tup [(px i).1, (px i).2])
  stop : ∀ {H}, Ok H → J.stop n H
theorem for_pairs {h : Ent} {A B : Hp} {s : Hd} {σ : L2.St} {ρ : Env'} {D : Ends} {J : It} {Ok : Hp → Prop} {n : Nat} {px : Nat → V × V} {ds : List Dt} (P : PairW J Ok n px) (hok : ∀ A' B' s', Same A A' → G h A' B' s' → Ok B') (hl : ds.length = n)
    (hd : ∀ i, i < n → ∃ d e, ds[i]? = some (.tup [d, e]) ∧ Den K mg h A (px i).1 d ∧ Den K mg h A (px i).2 e) (hg : SG K mg js g m) (hb : SS K mg Wx tb body) (g1 : G h A B s) (S1 : Slots K mg h A B σ ρ) (p1 : PostS K mg h (loopF m body ds ρ s) A B Wx D) :
    ∃ W : Nat → Nat → L2.St → Hp → Prop, (∃ m, W 0 m σ B) ∧ ∀ i m σ H, W i m σ H →
      (J.stop i H ∧ D.nx σ H) ∨ (J.go i H ∧ ∃ N : L2.St → Hp → Prop, (∀ σ' H', N σ' H' → ∃ m', m' < m ∧ W (i + 1) m' σ' H') ∧ ∀ v H', J.yld i H v H' → g v σ H' fun σ2 H2 => tb { D with nx := N, ct := N, bk := D.nx } σ2 H2) := by
  let Pv : Nat → L2.St → Hp → Prop := fun i σ' H' => ∃ A' s' ρ', Same A A' ∧ G h A' H' s' ∧ Slots K mg h A' H' σ' ρ' ∧ PostS K mg h (loopF m body (ds.drop i) ρ' s') A' H' Wx D
  refine ⟨fun i m σ' H' => m = n - i ∧ i ≤ n ∧ Pv i σ' H', ⟨n, rfl, Nat.zero_le _, A, s, ρ, Same.refl _, g1, S1, p1⟩, ?_⟩
  rintro i m0 σ' H' ⟨rfl, hi, A', s', ρ', st', g', S', p'⟩
  have ok := hok A' H' s' st' g'
  by_cases hlt : i < n
  · obtain ⟨d, e, h1, h2, h3⟩ := hd i hlt
    refine .inr ⟨P.go ok hlt, Pv (i + 1), fun σ2 H2 q => ⟨n - (i + 1), by omega, rfl, hlt, q⟩, fun v H2 y => ?_⟩
    obtain ⟨T, rfl, hT, rfl⟩ := P.yld ok hlt y
    obtain ⟨g2, st2⟩ := g'.alloc (o := .tup [(px i).1, (px i).2]) hT
    have dx : Den K mg h (upd A' T (.tup [(px i).1, (px i).2])) (.ref T) (.tup [d, e]) := .tup (SqT.of upd_same) (.cons ((h2.mono st').mono st2.s0) (.cons ((h3.mono st').mono st2.s0) .nil))
    rw [drop_cons h1] at p'
    exact turn_ok hg hb g2 (S'.step st2) dx (PostS.step st2.s0 p') fun σ3 A3 B3 s3 ρ3 st3 g3 S3 p3 => ⟨A3, s3, ρ3, st'.trans (st2.s0.trans st3), g3, S3, p3⟩
  · have e : i = n := by omega
    subst e
    have ed : ds.drop i = [] := List.drop_eq_nil_of_le (Nat.le_of_eq hl)
    rw [ed] at p'
    exact .inl ⟨P.stop ok, p' σ' A' H' (Same.refl _) g' S'⟩
theorem lc_pairs {h : Ent} {A B : Hp} {s : Hd} {σ : L2.St} {ρ : Env'} {Q : VK} {PF : R Dt → Prop} {J : It} {Ok : Hp → Prop} {n : Nat} {px : Nat → V × V} {ds : List Dt} (P : PairW J Ok n px) (hok : ∀ A' B' s', Same A A' → G h A' B' s' → Ok B') (hl : ds.length = n)
    (hd : ∀ i, i < n → ∃ d e, ds[i]? = some (.tup [d, e]) ∧ Den K mg h A (px i).1 d ∧ Den K mg h A (px i).2 e) (hbad : PF .bad → False) (fin : CWFin K mg PF h A B Q) (hg : SG K mg js g m) (hv : ∀ j ∈ js, j ∈ vs) (ht : ST K mg WF tt mt) (ha : SE K mg WF ta a) (g1 : G h A B s) (S1 : Slots K mg h A B σ ρ)
    (p1 : PF (loopC m mt a vs ds [] ρ s)) (D : Addr) (hD : B D = none) :
    ∃ W : Nat → Nat → Hp → Prop, (∃ m, W 0 m (upd B D (.lst []))) ∧ ∀ i m H, W i m H →
      (J.stop i H ∧ Q (.ref D) H) ∨ (J.go i H ∧ ∃ Nx : Hp → Prop, (∀ H', Nx H' → ∃ m', m' < m ∧ W (i + 1) m' H') ∧ ∀ x H', J.yld i H x H' → g x (L2.wipe σ vs) H' fun σ2 H2 => L2.wipe σ2 vs = L2.wipe σ vs ∧ tt σ2 H2 fun b H3 =>
        if b = true then ta σ2 H3 fun y H4 => ∃ acc, H4 D = some (.lst acc) ∧ acc.length < sizeLine ∧ Nx (upd H4 D (.lst (acc ++ [y]))) else Nx H3) := by
  refine ⟨fun i m0 H' => m0 = n - i ∧ i ≤ n ∧ CW K mg PF m mt a vs h A B ρ D (ds.drop i) H', ⟨n, rfl, Nat.zero_le _, cw_start g1 hD p1⟩, ?_⟩
  rintro i m0 H' ⟨rfl, hi, w⟩
  obtain ⟨A', s', acc, vv, st, g0, hB, hD', nD, eD, da, p⟩ := id w
  have ok := hok A' H' s' st.s0 g0
  by_cases hlt : i < n
  · obtain ⟨d, e, h1, h2, h3⟩ := hd i hlt
    refine .inr ⟨P.go ok hlt, fun H2 => CW K mg PF m mt a vs h A B ρ D (ds.drop (i + 1)) H2, fun H2 q => ⟨n - (i + 1), by omega, rfl, hlt, q⟩, fun v H2 y => ?_⟩
    obtain ⟨T, rfl, hT, rfl⟩ := P.yld ok hlt y
    obtain ⟨g2, st2⟩ := g0.alloc (o := .tup [(px i).1, (px i).2]) hT
    have dx : Den K mg h (upd A' T (.tup [(px i).1, (px i).2])) (.ref T) (.tup [d, e]) := .tup (SqT.of upd_same) (.cons ((h2.mono st.s0).mono st2.s0) (.cons ((h3.mono st.s0).mono st2.s0) .nil))
    have f2 := st2.fr D _ eD hD' nD
    rw [drop_cons h1] at p
    exact cw_turnX hbad hg hv ht ha S1 (st.trans st2) g2 hB f2.2.1 f2.2.2 f2.1 (da.mono st2.s0) p dx
  · have e : i = n := by omega
    subst e
    have ed : ds.drop i = [] := List.drop_eq_nil_of_le (Nat.le_of_eq hl)
    rw [ed] at w
    exact .inl ⟨P.stop ok, cw_end fin w⟩
end
end Mir


set_option Elab.async false
set_option linter.all false
set_option maxRecDepth 100000
/-! zip of two lists or of two tuples, enumerate of a list: loops and comprehensions over them. -/
namespace Mir
open PySem PySem.Spec PyProof.Rows L2
open PySem.W (Frag)
def zipD (xs ys : List Dt) : List Dt := List.zipWith (fun x y => Dt.tup [x, y]) xs ys
def enumD : Nat → List Dt → List Dt
  | _, [] => []
  | k, d :: ds => .tup [.int (k : Int), d] :: enumD (k + 1) ds
theorem enumD_get : ∀ (ds : List Dt) (k i : Nat), (enumD k ds)[i]? = ds[i]?.map fun d => .tup [.int ((k + i : Nat) : Int), d]
  | [], k, i => by simp [enumD]
  | d :: ds, k, 0 => by simp [enumD]
  | d :: ds, k, i + 1 => by
    show (enumD (k + 1) ds)[i]? = ds[i]?.map _
    rw [enumD_get ds (k + 1) i]
    have : k + 1 + i = k + (i + 1) := by omega
    rw [this]
theorem enumD_len : ∀ (ds : List Dt) (k : Nat), (enumD k ds).length = ds.length
  | [], _ => rfl
  | d :: ds, k => by
    show (enumD (k + 1) ds).length + 1 = _
    rw [enumD_len ds (k + 1)]
    rfl
section
variable {K : Frag} {mg : Str → Option Value} {Wx : WX} {tl tl2 : TE} {b b2 : ME}
def pxZ (vx vy : List V) (i : Nat) : V × V := (vx.getD i .non, vy.getD i .non)
def pxE (vx : List V) (i : Nat) : V × V := (.int (i : Nat), vx.getD i .non)
theorem getD_of {vx : List V} {i : Nat} (h : i < vx.length) : vx[i]? = some (vx.getD i .non) := by
  rw [List.getD_eq_getElem?_getD, List.getElem?_eq_getElem h]
  rfl
theorem den_at {h : Addr} {H : Hp} {vs : List V} {ds : List Dt} {i : Nat} (da : DenA K mg h H vs ds) (hi : i < vs.length) : ∃ d, ds[i]? = some d ∧ Den K mg h H (vs.getD i .non) d := da.getV (getD_of hi)
theorem zip_den {h : Addr} {H : Hp} {vx vy : List V} {xs ys : List Dt} (da : DenA K mg h H vx xs) (db : DenA K mg h H vy ys) : (zipD xs ys).length = min vx.length vy.length ∧ ∀ i, i < min vx.length vy.length → ∃ d e, (zipD xs ys)[i]? = some (.tup [d, e]) ∧ Den K mg h H (pxZ vx vy i).1 d ∧ Den K mg h H (pxZ vx vy i).2 e := by
  refine ⟨by rw [da.len, db.len]; exact List.length_zipWith, fun i hi => ?_⟩
  obtain ⟨d, h1, h2⟩ := den_at da (i := i) (by omega)
  obtain ⟨e, h3, h4⟩ := den_at db (i := i) (by omega)
  refine ⟨d, e, ?_, h2, h4⟩
  unfold zipD
  rw [List.getElem?_zipWith, h1, h3]
theorem enum_den {h : Addr} {H : Hp} {vx : List V} {xs : List Dt} (da : DenA K mg h H vx xs) : (enumD 0 xs).length = vx.length ∧ ∀ i, i < vx.length → ∃ d e, (enumD 0 xs)[i]? = some (.tup [d, e]) ∧ Den K mg h H (pxE vx i).1 d ∧ Den K mg h H (pxE vx i).2 e := by
  refine ⟨by rw [enumD_len, da.len], fun i hi => ?_⟩
  obtain ⟨d, h1, h2⟩ := den_at da hi
  refine ⟨_, d, ?_, .int _, h2⟩
  rw [enumD_get, h1]
  simp
end
end Mir


set_option Elab.async false
set_option linter.all false
set_option maxRecDepth 100000
/-! Loops and comprehensions over what gives couples, and over ranges with a step. -/
namespace Mir
open PySem PySem.Spec PyProof.Rows L2
open PySem.W (Frag)
section
variable {X : Cx} {Wx : WX} {e e2 e3 elt tg iter : Expr} {elts : List Expr} {kk : Nat} {tpos : Pos} {scope : Scope} {own : List (Str × Nat)} {pos p : Pos} {g : TG} {m : GM} {js : List Nat} {ifs body' : List Expr} {body : List Stmt} {mt : MT} {ma ma2 ma3 : ME} {mb : MS}
/-- what is walked, for one target -/
def QIp (X : Cx) (Wx : WX) (tg iter : Expr) (mi : MA) : Prop := ∃ wi, PI X tg iter wi ∧ SI X.K X.mg Wx wi mi ∧ ∀ x, foldedSetIterable iter X.env x = pure x
theorem qs_forp {mi : MA} (hp : PassesOwn (model X.prog X.w) X.A X.env X.xe) (hc : X.calm = true) (hi : QIp X Wx tg iter mi) (hg : QG X js tg g m) (hb : QSs X Wx body mb) : QS X Wx (.For tg iter body [] pos) (mFor m mi mb) := by
  obtain ⟨wi, q, s, hs⟩ := hi
  obtain ⟨tb, qb, sb⟩ := hb
  exact ⟨_, ps_for hp hc q hg.1 qb hs, s.for_ hg.2 sb⟩
theorem qe_lcp {mi : MA} {vs : List Nat} (hc : X.calm = true) (hN : X.N.Nodup) (hi : QIp X Wx tg iter mi) (ok : BlkOk X.N X.env.scope scope own) (hvs : own.map (·.2) = vs) (hv : ∀ j ∈ js, j ∈ vs) (hsg : SG X.K X.mg js g m)
    (hg : ∀ (s : Shared) (H : Hp) (C : Addr) (cl : List (Str × Addr)) (fp : List Addr), PG (X.blk s H scope (compEnvC scope cl C X.env) fp) tg g)
    (ht : ∀ (s : Shared) (H : Hp) (C : Addr) (cl : List (Str × Addr)) (fp : List Addr), QTs (X.blk s H scope (compEnvC scope cl C X.env) fp) ifs mt)
    (he : ∀ (s : Shared) (H : Hp) (C : Addr) (cl : List (Str × Addr)) (fp : List Addr), QE (X.blk s H scope (compEnvC scope cl C X.env) fp) WF elt ma) :
    QE X Wx (.ListComp elt [⟨tg, iter, ifs, 0⟩] scope pos) (mLc m mi mt ma vs) := by
  subst hvs
  obtain ⟨wi, q, s, hs⟩ := hi
  exact ⟨_, pe_lc hc hN q ok hg (fun s H C cl fp => (ht s H C cl fp).can) (fun s H C cl fp => (he s H C cl fp).can) hs, s.lc hsg hv st_cT se_cE⟩
theorem qs_setLcp {mi : MA} {vs : List Nat} (i : Nat) {y : Str} {py spos : Pos} (hc : X.calm = true) (hN : X.N.Nodup) (hi : QIp X Wx tg iter mi) (ok : BlkOk X.N X.env.scope scope own) (hvs : own.map (·.2) = vs) (hv : ∀ j ∈ js, j ∈ vs) (hsg : SG X.K X.mg js g m)
    (hg : ∀ (s : Shared) (H : Hp) (C : Addr) (cl : List (Str × Addr)) (fp : List Addr), PG (X.blk s H scope (compEnvC scope cl C X.env) fp) tg g)
    (ht : ∀ (s : Shared) (H : Hp) (C : Addr) (cl : List (Str × Addr)) (fp : List Addr), QTs (X.blk s H scope (compEnvC scope cl C X.env) fp) ifs mt)
    (he : ∀ (s : Shared) (H : Hp) (C : Addr) (cl : List (Str × Addr)) (fp : List Addr), QE (X.blk s H scope (compEnvC scope cl C X.env) fp) WF elt ma)
    (hy : X.N[i]? = some y := by rfl) (hyl : X.env.scope.names.lookup y = some .local := by rfl) (hsw : swapsWith (.ListComp elt [⟨tg, iter, ifs, 0⟩] scope pos) (some (.Name y py)) spos.line X.env = pure true := by exact sw_true rfl rfl rfl (by decide +kernel)) :
    QS X Wx (.Assign [.Name y py] (.ListComp elt [⟨tg, iter, ifs, 0⟩] scope pos) spos) (mSet i (mLc m mi mt ma vs)) := by
  subst hvs
  obtain ⟨wi, q, s, hs⟩ := hi
  exact ⟨_, ps_setLc hc hN hy hyl hsw q ok hg (fun s H C cl fp => (ht s H C cl fp).can) (fun s H C cl fp => (he s H C cl fp).can) hs, ss_set (s.lc hsg hv st_cT se_cE)⟩
theorem qf_lcp {mi : MA} {vs : List Nat} (hc : X.calm = true) (hN : X.N.Nodup) (hi : QIp X Wx tg iter mi) (ok : BlkOk X.N X.env.scope scope own) (hvs : own.map (·.2) = vs) (hv : ∀ j ∈ js, j ∈ vs) (hsg : SG X.K X.mg js g m)
    (hg : ∀ (s : Shared) (H : Hp) (C : Addr) (cl : List (Str × Addr)) (fp : List Addr), PG (X.blk s H scope (compEnvC scope cl C X.env) fp) tg g)
    (ht : ∀ (s : Shared) (H : Hp) (C : Addr) (cl : List (Str × Addr)) (fp : List Addr), QTs (X.blk s H scope (compEnvC scope cl C X.env) fp) ifs mt)
    (he : ∀ (s : Shared) (H : Hp) (C : Addr) (cl : List (Str × Addr)) (fp : List Addr), QE (X.blk s H scope (compEnvC scope cl C X.env) fp) WF elt ma) :
    QF X Wx (.ListComp elt [⟨tg, iter, ifs, 0⟩] scope pos) (mToL (mLc m mi mt ma vs)) := by
  subst hvs
  obtain ⟨wi, q, s, hs⟩ := hi
  exact ⟨_, pe_lc hc hN q ok hg (fun s H C cl fp => (ht s H C cl fp).can) (fun s H C cl fp => (he s H C cl fp).can) hs, sf_lc s hsg hv st_cT se_cE⟩
theorem qs_setLcOp {mi : MA} {vs : List Nat} (i : Nat) {y : Str} {py spos : Pos} (hc : X.calm = true) (hN : X.N.Nodup) (hi : QIp X Wx tg iter mi) (ok : BlkOk X.N X.env.scope scope own) (hvs : own.map (·.2) = vs) (hv : ∀ j ∈ js, j ∈ vs) (hsg : SG X.K X.mg js g m)
    (hg : ∀ (s : Shared) (H : Hp) (C : Addr) (cl : List (Str × Addr)) (fp : List Addr), PG (X.blk s H scope (compEnvC scope cl C X.env) fp) tg g)
    (ht : ∀ (s : Shared) (H : Hp) (C : Addr) (cl : List (Str × Addr)) (fp : List Addr), QTs (X.blk s H scope (compEnvC scope cl C X.env) fp) ifs mt)
    (he : ∀ (s : Shared) (H : Hp) (C : Addr) (cl : List (Str × Addr)) (fp : List Addr), QE (X.blk s H scope (compEnvC scope cl C X.env) fp) WF elt ma)
    (hy : X.N[i]? = some y := by rfl) (hyl : X.env.scope.names.lookup y = some .local := by rfl) (hsw : swapsWith (.ListComp elt [⟨tg, iter, ifs, 0⟩] scope pos) (some (.Name y py)) spos.line X.env = pure true := by exact sw_true rfl rfl rfl (by decide +kernel)) :
    QS X Wx (.Assign [.Name y py] (.ListComp elt [⟨tg, iter, ifs, 0⟩] scope pos) spos) (mSetO i (mToL (mLc m mi mt ma vs))) := by
  subst hvs
  obtain ⟨wi, q, s, hs⟩ := hi
  exact ⟨_, ps_setLc hc hN hy hyl hsw q ok hg (fun s H C cl fp => (ht s H C cl fp).can) (fun s H C cl fp => (he s H C cl fp).can) hs, ss_setO (sf_lc s hsg hv st_cT se_cE)⟩
end
end Mir


set_option Elab.async false
set_option linter.all false
set_option maxRecDepth 100000
/-! range(i, j, -1). -/
namespace Mir
open PySem PySem.Spec PyProof.Rows L2
open PySem.W (Frag)
/-- range downwards -/
def downD (i : Int) (n : Nat) : List Dt := (List.range n).map fun (k : Nat) => Dt.int (i + (k : Int) * -1)
theorem downD_len (i : Int) (n : Nat) : (downD i n).length = n := by
  unfold downD
  rw [List.length_map, List.length_range]
theorem downD_get {i : Int} {n k : Nat} (h : k < n) : (downD i n)[k]? = some (.int (i + (k : Int) * -1)) := by
  unfold downD
  rw [List.getElem?_map, List.getElem?_range h]
  rfl
def mRngD (a b : ME) : MA := fun ρ s => (a ρ s).bind fun d s1 => (b ρ s1).bind fun e s2 => match d, e with
  | .int i, .int j => if rngOk i ∧ rngOk j then .ok (downD i (i - j).toNat) s2 else .bad
  | _, _ => .bad
section
variable {K : Frag} {mg : Str → Option Value} {Wx : WX} {ta tl tl2 : TE} {tb : TS} {a b b2 : ME} {body : MS} {tt : TT} {mt : MT} {js vs : List Nat} {g : TG} {m : GM}
theorem for_down {h : Ent} {A B : Hp} {s : Hd} {σ : L2.St} {ρ : Env'} {D : Ends} {i0 : Int} {n : Nat} (hg : SG K mg js g m) (hb : SS K mg Wx tb body) (g1 : G h A B s) (S1 : Slots K mg h A B σ ρ) (p1 : PostS K mg h (loopF m body (downD i0 n) ρ s) A B Wx D) :
    ∃ W : Nat → Nat → L2.St → Hp → Prop, (∃ m, W 0 m σ B) ∧ ∀ i m σ H, W i m σ H →
      ((Itc i0 (-1) n).stop i H ∧ D.nx σ H) ∨ ((Itc i0 (-1) n).go i H ∧ ∃ N : L2.St → Hp → Prop, (∀ σ' H', N σ' H' → ∃ m', m' < m ∧ W (i + 1) m' σ' H') ∧ ∀ v H', (Itc i0 (-1) n).yld i H v H' → g v σ H' fun σ2 H2 => tb { D with nx := N, ct := N, bk := D.nx } σ2 H2) := by
  let Pv : Nat → L2.St → Hp → Prop := fun i σ' H' => ∃ A' s' ρ', Same A A' ∧ G h A' H' s' ∧ Slots K mg h A' H' σ' ρ' ∧ PostS K mg h (loopF m body ((downD i0 n).drop i) ρ' s') A' H' Wx D
  refine ⟨fun i m σ' H' => m = n - i ∧ i ≤ n ∧ Pv i σ' H', ⟨n, rfl, Nat.zero_le _, A, s, ρ, Same.refl _, g1, S1, p1⟩, ?_⟩
  rintro i m0 σ' H' ⟨rfl, hi, A', s', ρ', st', g', S', p'⟩
  by_cases hlt : i < n
  · refine .inr ⟨hlt, Pv (i + 1), fun σ2 H2 q => ⟨n - (i + 1), by omega, rfl, hlt, q⟩, fun v H2 y => ?_⟩
    obtain ⟨rfl, rfl⟩ := y
    rw [drop_cons (downD_get hlt)] at p'
    exact turn_ok hg hb g' S' (.int _) p' fun σ3 A3 B3 s3 ρ3 st3 g3 S3 p3 => ⟨A3, s3, ρ3, st'.trans st3, g3, S3, p3⟩
  · have e : i = n := by omega
    subst e
    have ed : (downD i0 i).drop i = [] := List.drop_eq_nil_of_le (Nat.le_of_eq (downD_len _ _))
    rw [ed] at p'
    exact .inl ⟨Nat.le_refl _, p' σ' A' H' (Same.refl _) g' S'⟩
theorem lc_down {h : Ent} {A B : Hp} {s : Hd} {σ : L2.St} {ρ : Env'} {Q : VK} {PF : R Dt → Prop} {i0 : Int} {n : Nat} (hbad : PF .bad → False) (fin : CWFin K mg PF h A B Q) (hg : SG K mg js g m) (hv : ∀ j ∈ js, j ∈ vs) (ht : ST K mg WF tt mt) (ha : SE K mg WF ta a) (g1 : G h A B s) (S1 : Slots K mg h A B σ ρ)
    (p1 : PF (loopC m mt a vs (downD i0 n) [] ρ s)) (D : Addr) (hD : B D = none) :
    ∃ W : Nat → Nat → Hp → Prop, (∃ m, W 0 m (upd B D (.lst []))) ∧ ∀ i m H, W i m H →
      ((Itc i0 (-1) n).stop i H ∧ Q (.ref D) H) ∨ ((Itc i0 (-1) n).go i H ∧ ∃ Nx : Hp → Prop, (∀ H', Nx H' → ∃ m', m' < m ∧ W (i + 1) m' H') ∧ ∀ x H', (Itc i0 (-1) n).yld i H x H' → g x (L2.wipe σ vs) H' fun σ2 H2 => L2.wipe σ2 vs = L2.wipe σ vs ∧ tt σ2 H2 fun b H3 =>
        if b = true then ta σ2 H3 fun y H4 => ∃ acc, H4 D = some (.lst acc) ∧ acc.length < sizeLine ∧ Nx (upd H4 D (.lst (acc ++ [y]))) else Nx H3) := by
  refine ⟨fun i m0 H' => m0 = n - i ∧ i ≤ n ∧ CW K mg PF m mt a vs h A B ρ D ((downD i0 n).drop i) H', ⟨n, rfl, Nat.zero_le _, cw_start g1 hD p1⟩, ?_⟩
  rintro i m0 H' ⟨rfl, hi, w⟩
  by_cases hlt : i < n
  · refine .inr ⟨hlt, fun H2 => CW K mg PF m mt a vs h A B ρ D ((downD i0 n).drop (i + 1)) H2, fun H2 q => ⟨n - (i + 1), by omega, rfl, hlt, q⟩, fun v H2 y => ?_⟩
    obtain ⟨rfl, rfl⟩ := y
    rw [drop_cons (downD_get hlt)] at w
    exact cw_turn hbad hg hv ht ha S1 w fun A' e => .int _
  · have e : i = n := by omega
    subst e
    have ed : (downD i0 i).drop i = [] := List.drop_eq_nil_of_le (Nat.le_of_eq (downD_len _ _))
    rw [ed] at w
    exact .inl ⟨Nat.le_refl _, cw_end fin w⟩
theorem se_m1 : SE K mg Wx (tUn (rU fun i => .int (-i)) (tC (.int 1))) (mUn fNeg (mC (.int 1))) := se_un us_neg (se_c fun _ _ => .int _)
theorem rng_neg {i j : Int} (c : rngOk i ∧ rngOk j) : RgC i j (-1) (i - j).toNat := by
  obtain ⟨⟨c1, c2⟩, c3, c4⟩ := c
  exact RgC.neg (by omega) (by omega) (by omega) (by omega)
theorem si_rngD {tm : TE} (hm : SE K mg Wx tm (mUn fNeg (mC (.int 1)))) (hb : SE K mg Wx tl b) (hb2 : SE K mg Wx tl2 b2) : SI K mg Wx (iRng3 (tCons tl (tCons tl2 (tCons tm tNil)))) (mRngD b b2) where
  for_ := by
    intro js g m tb body hg hbb h H0 H s σ ρ D g0 S p
    have p : PostS K mg h (((b ρ s).bind _).bind _) H0 H Wx D := p
    rw [R.bind_assoc] at p
    refine hb h H0 H s σ ρ _ g0 S (PostS.bind p fun d s1 x A B st g1 dx p1 => ?_)
    rw [R.bind_assoc] at p1
    refine hb2 h A B s1 σ ρ _ g1 (S.step st) (PostS.bind p1 fun d2 s2 x2 A2 B2 st2 g2 dx2 p2 => ?_)
    have S2 := S.step (st.trans st2)
    cases dx with
    | int i =>
      cases dx2 with
      | int j =>
        by_cases c : rngOk i ∧ rngOk j
        · simp only [if_pos c] at p2
          refine hm h A2 B2 s2 σ ρ _ g2 S2 ?_
          show Post K mg h (Den K mg h.a) (R.ok (.int (-1)) s2) A2 B2 Wx _
          intro v A3 B3 st3 g3 dv
          cases dv
          exact ⟨i, j, -1, (i - j).toNat, rfl, rng_neg c, for_down hg hbb g3 (S2.step st3) (PostS.step st3.s0 p2)⟩
        · simp only [if_neg c] at p2
          exact p2.elim
      | _ => exact p2.elim
    | _ => cases dx2 <;> exact p2.elim
  lcF := by
    intro js g m tt mt ta a vs hg hv ht ha h H0 H s σ ρ Q PF hbad herr fin0 g0 S p
    have p : PF (((b ρ s).bind _).bind _) := p
    rw [R.bind_assoc] at p
    refine hb h H0 H s σ ρ _ g0 S (Post.bindF hbad herr p fun d s1 x A B st g1 dx p1 => ?_)
    rw [R.bind_assoc] at p1
    refine hb2 h A B s1 σ ρ _ g1 (S.step st) (Post.bindF hbad (fun c fs ρ s z => ErrP.step st.s0 (herr c fs ρ s z)) p1 fun d2 s2 x2 A2 B2 st2 g2 dx2 p2 => ?_)
    have S2 := S.step (st.trans st2)
    cases dx with
    | int i =>
      cases dx2 with
      | int j =>
        by_cases c : rngOk i ∧ rngOk j
        · simp only [if_pos c] at p2
          refine hm h A2 B2 s2 σ ρ _ g2 S2 ?_
          show Post K mg h (Den K mg h.a) (R.ok (.int (-1)) s2) A2 B2 Wx _
          intro v A3 B3 st3 g3 dv
          cases dv
          exact ⟨i, j, -1, (i - j).toNat, rfl, rng_neg c, fun D hD => lc_down hbad (fin0 A3 B3 ((st.trans st2).trans st3)) hg hv ht ha g3 (S2.step st3) p2 D hD⟩
        · simp only [if_neg c] at p2
          exact (hbad p2).elim
      | _ => exact (hbad p2).elim
    | _ => cases dx2 <;> exact (hbad p2).elim
end
section
variable {X : Cx} {Wx : WX} {e e2 : Expr} {k : Nat} {p p1 p2 pos : Pos} {ma ma2 : ME}
theorem qi_rngD (hgr : Gl X "range") (hm : X.mg "range" = none) (hi : QE X Wx e ma) (hi2 : QE X Wx e2 ma2)
    (hs : starEach [e, e2, .UnaryOp .USub (.Constant (.int 1) k p1) p2] X.env = (false, eval e X.env) :: starEach [e2, .UnaryOp .USub (.Constant (.int 1) k p1) p2] X.env := by rfl)
    (hs2 : starEach [e2, .UnaryOp .USub (.Constant (.int 1) k p1) p2] X.env = (false, eval e2 X.env) :: starEach [.UnaryOp .USub (.Constant (.int 1) k p1) p2] X.env := by rfl)
    (hs3 : starEach [.UnaryOp .USub (.Constant (.int 1) k p1) p2] X.env = (false, eval (.UnaryOp .USub (.Constant (.int 1) k p1) p2) X.env) :: starEach [] X.env := by rfl)
    (hpl : (backTo pos (starEach [e2, .UnaryOp .USub (.Constant (.int 1) k p1) p2] X.env)).any (·.1) = false := by rfl)
    (hf : ∀ x, foldedSetIterable (.Call (.Name "range" p) [e, e2, .UnaryOp .USub (.Constant (.int 1) k p1) p2] [] pos) X.env x = pure x := by intro _; rfl) : QI X Wx (.Call (.Name "range" p) [e, e2, .UnaryOp .USub (.Constant (.int 1) k p1) p2] [] pos) (mRngD ma ma2) := by
  obtain ⟨t, q, s⟩ := hi
  obtain ⟨t2, q2, s2⟩ := hi2
  exact ⟨_, fun _ => pi_range3 hgr hm (pa_cons q (pa_cons q2 (pa_cons (pe_un un_neg pe_int) pa_nil hs3) hs2) hs) hs hpl, si_rngD se_m1 s s2, hf⟩
end
end Mir


set_option Elab.async false
set_option linter.all false
set_option maxRecDepth 100000
/-! zip and enumerate of lists and of tuples, mixed too. -/
namespace Mir
open PySem PySem.Spec PyProof.Rows L2
open PySem.W (Frag)
/-- a sequence of one kind: true a list, false a tuple -/
def SqK (k : Bool) (K : Frag) (H : Hp) (a : Addr) (xs : List V) : Prop := if k = true then SqL K H a xs else SqT K H a xs
def SrK (k : Bool) (h : Heap) (a : Addr) (its : Array Value) : Prop := if k = true then h.IsList a its else h.IsTuple a its
def ItK (k : Bool) (h : Heap) (it a : Addr) (i : Nat) : Prop := if k = true then h.IsListIter it a i else h.IsTupleIter it a i
def obK (k : Bool) (a : Addr) : Obj := if k = true then { cls := .type "list_iterator", data := .fields #[.ref a, .int 0 0] } else { cls := .type "tuple_iterator", data := .fields #[.ref a, .int 0 0] }
theorem begK (k : Bool) (a : Addr) (its : Array Value) : Begins (.ref a) (obK k a) fun h => SrK k h a its := by
  cases k with
  | true => exact begins_list a its
  | false => exact begins_tuple a its
theorem itK_of {k : Bool} {h : Heap} {it a : Addr} (e : h.get? it = some (obK k a)) : ItK k h it a 0 := by
  cases k with
  | true => exact ⟨_, e, rfl, rfl⟩
  | false => exact ⟨_, e, rfl, rfl⟩
theorem itK_get {k : Bool} {h : Heap} {it a : Addr} {i : Nat} (e : ItK k h it a i) : ∃ o, h.get? it = some o ∧ ∀ v, o.data ≠ .cell v := by
  cases k with
  | true =>
    obtain ⟨o, e1, _, d⟩ := e
    exact ⟨o, e1, fun v q => by rw [d] at q; cases q⟩
  | false =>
    obtain ⟨o, e1, _, d⟩ := e
    exact ⟨o, e1, fun v q => by rw [d] at q; cases q⟩
theorem itK_at {k : Bool} {h h' : Heap} {it a : Addr} {i : Nat} (e : ItK k h it a i) (q : ∀ o, h.get? it = some o → h'.get? it = some o) : ItK k h' it a i := by
  cases k with
  | true => exact Heap.IsListIter.at e q
  | false => exact Heap.IsTupleIter.at e q
theorem drawK {P : Program} {w : World} {A : Around} (hh : A.handled = none) (k : Bool) (it a : Addr) (hne : a ≠ it) (its : Array Value) : Draws P w A it [it, a] its.size (fun i v => its[i]? = some v) (fun i h => ItK k h it a i ∧ SrK k h a its) := by
  cases k with
  | true => exact Draws.list hh it a hne its
  | false => exact Draws.tuple hh it a hne its
section
variable {X : Cx} {pins : List (Addr × Obj)} {σ : L2.St} {H : Hp} {s : Shared} {a : Addr} {xs ys : List V}
theorem invK (I : Inv X pins σ H s) {k : Bool} (h : SqK k X.K H a xs) : ∃ its : List Value, Vals xs its ∧ SrK k s.heap a its.toArray ∧ a < s.heap.objs.size := by
  cases k with
  | true =>
    obtain ⟨its, r, p, _⟩ := I.list h
    exact ⟨its, r, p.isList, p.lt⟩
  | false =>
    obtain ⟨its, r, p, _⟩ := I.tuple h
    obtain ⟨o, e, _⟩ := id p
    exact ⟨its, r, p, Heap.lt_size e⟩
theorem injK (I : Inv X pins σ H s) {k : Bool} (h : SqK k X.K H a xs) (h' : SqK k X.K H a ys) : xs = ys := by
  cases k with
  | true => exact I.list_inj h h'
  | false => exact I.tuple_inj h h'
end
/-- the turns of zip: both sequences as they stand, the items in new couples -/
def ItZ (k1 k2 : Bool) (K : Frag) (a b : Addr) : It where
  go := fun i H => ∃ (xs ys : List V) (x y : V), SqK k1 K H a xs ∧ SqK k2 K H b ys ∧ xs[i]? = some x ∧ ys[i]? = some y
  yld := fun i H v H' => ∃ T x y, v = .ref T ∧ H T = none ∧ H' = upd H T (.tup [x, y]) ∧ (∀ xs, SqK k1 K H a xs → xs[i]? = some x) ∧ ∀ ys, SqK k2 K H b ys → ys[i]? = some y
  stop := fun i H => ∃ xs ys : List V, SqK k1 K H a xs ∧ SqK k2 K H b ys ∧ i = min xs.length ys.length
def tnZ (k1 k2 : Bool) (a b z TI TO i1 i2 : Addr) (i : Nat) (h : Heap) : Prop := IsZip h z TI TO .none ∧ IsTupOf2 h TI (.ref i1) (.ref i2) ∧ (∃ u v, IsTupOf2 h TO u v) ∧ ItK k1 h i1 a i ∧ ItK k2 h i2 b i
theorem turnZ {P : Program} {w : World} {K : Frag} {elts : List Expr} {kk : Nat} {tpos : Pos} {k1 k2 : Bool} {a b z TI TO i1 i2 : Addr} (S : ZipSep2 z TI TO i1 i2 [i1, a] [i2, b]) (na : a ≠ i1) (nb : b ≠ i2) :
    Turn P w K (.Tuple elts kk tpos) (ItZ k1 k2 K a b) [z, TI, TO, i1, i2] z (tnZ k1 k2 a b z TI TO i1 i2) where
  mem := by simp
  obj := fun i h st c hc => by
    obtain ⟨hz, hTI, ⟨u, v, hTO⟩, s1, s2⟩ := st
    have cs : c = z ∨ c = TI ∨ c = TO ∨ c = i1 ∨ c = i2 := by simpa using hc
    rcases cs with rfl | rfl | rfl | rfl | rfl
    · exact ⟨_, hz, fun v q => nomatch q⟩
    · exact ⟨_, hTI, fun v q => nomatch q⟩
    · exact ⟨_, hTO, fun v q => nomatch q⟩
    · exact itK_get s1
    · exact itK_get s2
  keep := fun i h h' st q => by
    obtain ⟨hz, hTI, ⟨u, v, hTO⟩, s1, s2⟩ := st
    exact ⟨q z (by simp) _ hz, q TI (by simp) _ hTI, ⟨u, v, q TO (by simp) _ hTO⟩, itK_at s1 fun o e => q i1 (by simp) o e, itK_at s2 fun o e => q i2 (by simp) o e⟩
  item := by
    intro X hP hw hK hc i pins s σ H E I hf st hg
    subst hP hw hK
    obtain ⟨hz, hTI, hTO, s1, s2⟩ := id st
    obtain ⟨xs, ys, x, y, qx, qy, hx, hy⟩ := hg
    obtain ⟨its, rv, p1, _⟩ := invK I qx
    obtain ⟨its2, rv2, p2, _⟩ := invK I qy
    obtain ⟨u, hu, ru⟩ := rv.get hx
    obtain ⟨u2, hu2, ru2⟩ := rv2.get hy
    have hh : (X.A.in1).handled = none := I.ok.hd hc
    have W := WalksT.zipD2 (prog := X.prog) (w := X.w) (A := X.A) S (drawK hh k1 i1 a na its.toArray) (drawK hh k2 i2 b nb its2.toArray)
    have li : i < its.length := (List.getElem?_eq_some_iff.mp hu).1
    have li2 : i < its2.length := (List.getElem?_eq_some_iff.mp hu2).1
    refine W.item i s _ _ (by rw [List.size_toArray, List.size_toArray]; omega) ⟨hz, hTI, hTO, ⟨s1, p1⟩, ⟨s2, p2⟩⟩ fun T vals h1 tk pt hT tT mid kp => ⟨_, rfl, ?_⟩
    refine W.go elts kk tpos i T { s with heap := h1, toks := tk } _ _ mid fun h2 st2 kp2 => ?_
    obtain ⟨v1, v2, e1, e2, rfl⟩ := pt
    have e1 : v1 = u := by
      have : its[i]? = some v1 := by simpa using e1
      rw [hu] at this
      cases this
      rfl
    have e2 : v2 = u2 := by
      have : its2[i]? = some v2 := by simpa using e2
      rw [hu2] at this
      cases this
      rfl
    subst e1 e2
    have nT : T ∉ [z, TO, i1, i2] := W.apart i T _ mid
    have tT2 : h2.IsTuple T #[v1, v2] := by
      obtain ⟨o, g1, g2⟩ := tT
      exact ⟨o, kp2 T o nT g1, g2⟩
    have hff : ∀ c ∈ [z, TO, i1, i2], FpOk X pins H c := fun c hcm => hf c (by
      have cs : c = z ∨ c = TO ∨ c = i1 ∨ c = i2 := by simpa using hcm
      rcases cs with rfl | rfl | rfl | rfl <;> simp)
    have I1 : Inv X pins σ (upd H T (.tup [x, y])) { s with heap := h2, toks := tk } :=
      I.turnedNew (ch := [z, TO, i1, i2]) (fun c o hb q => kp2 c o hb (kp c o hb q)) hff hT ⟨by show 2 ≤ sizeLine; decide, [v1, v2], .cons ru (.cons ru2 .nil), tT2⟩
    obtain ⟨hz', hTI', hTO', ⟨s1', _⟩, ⟨s2', _⟩⟩ := st2
    refine ⟨.ref T, _, I1, rfl, ⟨T, x, y, rfl, I.hok.fresh hT, rfl, fun l hl => by rw [injK I hl qx]; exact hx, fun l hl => by rw [injK I hl qy]; exact hy⟩, ⟨hz', hTI', hTO', s1', s2'⟩, fun c hcm => ?_⟩
    have lt : c < s.heap.objs.size := by
      have cs : c = z ∨ c = TI ∨ c = TO ∨ c = i1 ∨ c = i2 := by simpa using hcm
      obtain ⟨u', v', hTO⟩ := hTO
      rcases cs with rfl | rfl | rfl | rfl | rfl
      · exact Heap.lt_size hz
      · exact Heap.lt_size hTI
      · exact Heap.lt_size hTO
      · obtain ⟨_, q, _⟩ := itK_get s1
        exact Heap.lt_size q
      · obtain ⟨_, q, _⟩ := itK_get s2
        exact Heap.lt_size q
    rw [upd_ne (Nat.ne_of_lt (Nat.lt_of_lt_of_le lt hT))]
    exact (hf c hcm).1
  done := by
    intro X hP hw hK hc i pins s σ H E I hf st hg
    subst hP hw hK
    obtain ⟨hz, hTI, hTO, s1, s2⟩ := id st
    obtain ⟨xs, ys, qx, qy, hend⟩ := hg
    obtain ⟨its, rv, p1, _⟩ := invK I qx
    obtain ⟨its2, rv2, p2, _⟩ := invK I qy
    have l1 := rv.length
    have l2 := rv2.length
    have hh : (X.A.in1).handled = none := I.ok.hd hc
    have W := WalksT.zipD2 (prog := X.prog) (w := X.w) (A := X.A) S (drawK hh k1 i1 a na its.toArray) (drawK hh k2 i2 b nb its2.toArray)
    have hn : i = min its.toArray.size its2.toArray.size := by
      rw [List.size_toArray, List.size_toArray]
      omega
    subst hn
    refine W.done s _ _ ⟨hz, hTI, hTO, ⟨s1, p1⟩, ⟨s2, p2⟩⟩ fun h' tk kp => ⟨rfl, I.turnedL (t' := tk) (ch := [z, TI, TO, i1, i2]) (fun c o hb q => kp c o (fun m => hb (by
      have cs : c = z ∨ c = TO ∨ c = i1 ∨ c = i2 := by simpa using m
      rcases cs with rfl | rfl | rfl | rfl <;> simp)) q) hf⟩
  self := fun A i s Q E st h => wpAny_pyIter_zip st.1 h
def iZipK (K : Frag) (ta : TA) : TI := fun σ H R => ta σ H fun vs H1 => ∃ (k1 k2 : Bool) (a b : Addr) (xs ys : List V), vs = [.ref a, .ref b] ∧ SqK k1 K H1 a xs ∧ SqK k2 K H1 b ys ∧ R (ItZ k1 k2 K a b) H1
theorem pi_zipK {X : Cx} {e e2 : Expr} {ta : TA} {p pos tpos : Pos} {elts : List Expr} {kk : Nat} (hg : Gl X "zip") (hm : X.mg "zip" = none) (ha : PA X [e, e2] ta)
    (hs : starEach [e, e2] X.env = (false, eval e X.env) :: starEach [e2] X.env := by rfl) (hpl : (backTo pos (starEach [e2] X.env)).any (·.1) = false := by rfl) : PI X (.Tuple elts kk tpos) (.Call (.Name "zip" p) [e, e2] [] pos) (iZipK X.K ta) := by
  refine ⟨fun pins s σ H R I h => Call_ (ld_blt I hg hm PyProof.Rows.boot_zip (PyProof.Rows.callWith_type1 (thn (ha.run pos pins s σ H _ I h) fun us s1 ⟨vs, H1, I1, r1, q1⟩ => ?_) hs hpl))⟩
  obtain ⟨k1, k2, a, b, xs, ys, rfl, qx, qy, q⟩ := q1
  obtain ⟨u1, u2, rfl, hr1, hr2⟩ := vals2 r1
  cases hr1
  cases hr2
  obtain ⟨its, rv, p1, la⟩ := invK I1 qx
  obtain ⟨its2, rv2, p2, lb⟩ := invK I1 qy
  refine zip_begins2 (begK k1 a its.toArray) (begK k2 b its2.toArray) p1 p2 fun h' hz hTI hTO g1 g2 hsz hk => wpAny_pyIter_zip hz ?_
  have I2 : Inv X pins σ H1 { s1 with heap := h' } := I1.kept (t' := s1.toks) hk
  have S := zip_sep2 (N := s1.heap.objs.size) (fp1 := [a]) (fp2 := [b]) (fun c hc => by rw [List.mem_singleton.mp hc]; exact la) (fun c hc => by rw [List.mem_singleton.mp hc]; exact lb)
  refine ⟨_, [s1.heap.objs.size + 4, s1.heap.objs.size + 2, s1.heap.objs.size + 3, s1.heap.objs.size, s1.heap.objs.size + 1], _, _, H1, rfl, I2, turnZ (k1 := k1) (k2 := k2) S (Nat.ne_of_lt la) (Nat.ne_of_lt (Nat.lt_succ_of_lt lb)), ⟨hz, hTI, ⟨_, _, hTO⟩, itK_of g1, itK_of g2⟩, fun c hcm => ?_, q⟩
  have hle : s1.heap.objs.size ≤ c := by
    have cs : c = s1.heap.objs.size + 4 ∨ c = s1.heap.objs.size + 2 ∨ c = s1.heap.objs.size + 3 ∨ c = s1.heap.objs.size ∨ c = s1.heap.objs.size + 1 := by simpa using hcm
    rcases cs with z | z | z | z | z <;> rw [z]
    · exact Nat.le_add_right _ _
    · exact Nat.le_add_right _ _
    · exact Nat.le_add_right _ _
    · exact Nat.le_refl _
    · exact Nat.le_add_right _ _
  exact I1.fpOk hle (I1.hok.fresh hle)
end Mir


set_option Elab.async false
set_option linter.all false
set_option maxRecDepth 100000
/-! enumerate of lists and of tuples; the loops over zip and enumerate. -/
namespace Mir
open PySem PySem.Spec PyProof.Rows L2
open PySem.W (Frag)
set_option maxHeartbeats 2000000 in
theorem meets_enumK {v : Value} {o : Obj} {H : Heap → Prop} (B : Begins v o H) : Meets (Builtin.«enumerate.__new__» ⟨[.type "enumerate", v], []⟩) (fun _ R s => H s.heap ∧ R (.ok (.ret (.ref (s.heap.push o).objs.size))) { s with heap := (s.heap.push o).push { cls := .type "enumerate", data := .fields #[.none, .bool false, .ref s.heap.objs.size, rawInt 0, .none, .none] } }) := by
  refine .of_wp fun prog w A R s h => ?_
  obtain ⟨hp, g, d, tk, os⟩ := s
  obtain ⟨h1, h⟩ := h
  have hsub := sub_enumerate
  have q1 : ∀ {A' : Around} {E : Value → Shared → Prop} {Q : Value → Shared → Prop}, Q (.ref hp.objs.size) ⟨hp.push o, g, d, tk, os⟩ → wpAny (model prog w) A' (pyIter v) Q E ⟨hp, g, d, tk, os⟩ := fun q => B.iter prog w _ _ _ _ h1 q
  wp_walk using q1; refine wpAny_stack_any fun st => wpAny_pure ?_; split
  · rename_i c _ _ _ _ _; cases (c == Value.type "enumerate") <;> (wp_walk using q1; exact ⟨_, rfl, h⟩)
  · wp_walk using q1; exact ⟨_, rfl, h⟩
section
variable {prog : Program} {w : World} {A : Around} {E : Value → Shared → Prop} {s : Shared}
theorem call_enumK {v : Value} {o : Obj} {H : Heap → Prop} {Q : Value → Shared → Prop} (B : Begins v o H) (h1 : H s.heap)
    (h : ∀ h', IsEnum h' (s.heap.objs.size + 1) s.heap.objs.size 0 .none → h'.get? s.heap.objs.size = some o → (∀ b o, s.heap.get? b = some o → h'.get? b = some o) → Q (.ref (s.heap.objs.size + 1)) { s with heap := h' }) : wpAny (model prog w) A (call (.type "enumerate") [v]) Q E s := by
  refine callType_new F.called_enumerate (by decide) (F.typeCall_enumerate_1 _) (F.newCall_enumerate_1 _) (fun obj => F.args_object_init_2 obj _) F.entry_enumerate_new (meets_enumK B) ⟨h1, ?_⟩
  have hz : (s.heap.push o).objs.size = s.heap.objs.size + 1 := Heap.size_push ..
  have he := Heap.get?_push_size (s.heap.push o) (o := { cls := .type "enumerate", data := .fields #[.none, .bool false, .ref s.heap.objs.size, rawInt 0, .none, .none] }) rfl
  show _ ∧ _
  rw [hz] at he ⊢
  exact ⟨⟨_, he, rfl⟩, h _ he (Heap.get?_push_of_some _ (Heap.get?_push_size _ B.free)) fun b o x => Heap.get?_push_of_some _ (Heap.get?_push_of_some _ x)⟩
end
/-- the turns of enumerate -/
def ItE (k : Bool) (K : Frag) (a : Addr) : It where
  go := fun i H => ∃ (xs : List V) (x : V), SqK k K H a xs ∧ xs[i]? = some x
  yld := fun i H v H' => ∃ T x, v = .ref T ∧ H T = none ∧ H' = upd H T (.tup [.int (i : Nat), x]) ∧ ∀ xs, SqK k K H a xs → xs[i]? = some x
  stop := fun i H => ∃ xs : List V, SqK k K H a xs ∧ i = xs.length
def tnE (k : Bool) (a e it : Addr) (i : Nat) (h : Heap) : Prop := (∃ old, IsEnum h e it ((i : Nat) : Int) old) ∧ ItK k h it a i
theorem turnE {P : Program} {w : World} {K : Frag} {elts : List Expr} {kk : Nat} {tpos : Pos} {k : Bool} {a e it : Addr} (na : a ≠ it) (ne : e ≠ it) (nea : e ≠ a) : Turn P w K (.Tuple elts kk tpos) (ItE k K a) [e, it] e (tnE k a e it) where
  mem := by simp
  obj := fun i h st c hc => by
    obtain ⟨⟨old, he⟩, s1⟩ := st
    have cs : c = e ∨ c = it := by simpa using hc
    rcases cs with rfl | rfl
    · exact ⟨_, he, fun v q => nomatch q⟩
    · exact itK_get s1
  keep := fun i h h' st q => by
    obtain ⟨⟨old, he⟩, s1⟩ := st
    exact ⟨⟨old, q e (by simp) _ he⟩, itK_at s1 fun o w => q it (by simp) o w⟩
  item := by
    intro X hP hw hK hc i pins s σ H E I hf st hg
    subst hP hw hK
    obtain ⟨he, s1⟩ := id st
    obtain ⟨xs, x, qx, hx⟩ := hg
    obtain ⟨its, rv, p1, _⟩ := invK I qx
    obtain ⟨u, hu, ru⟩ := rv.get hx
    have hh : (X.A.in1).handled = none := I.ok.hd hc
    have W := WalksT.enumerateD (drawK (P := X.prog) (w := X.w) hh k it a na its.toArray) e ne (by simp [ne, nea]) (by simp)
    have li : i < its.length := (List.getElem?_eq_some_iff.mp hu).1
    refine W.item i s _ _ (by rw [List.size_toArray]; exact li) ⟨he, s1, p1⟩ fun T vals h1 tk pt hT tT mid kp => ⟨_, rfl, ?_⟩
    refine W.go elts kk tpos i T { s with heap := h1, toks := tk } _ _ mid fun h2 st2 kp2 => ?_
    obtain ⟨t, v1, e1, rfl⟩ := pt
    have e1 : v1 = u := by
      have : its[i]? = some v1 := by simpa using e1
      rw [hu] at this
      cases this
      rfl
    subst e1
    have nT : T ∉ [e, it] := W.apart i T _ mid
    have tT2 : h2.IsTuple T #[.int i t, v1] := by
      obtain ⟨o, g1, g2⟩ := tT
      exact ⟨o, kp2 T o nT g1, g2⟩
    have I1 : Inv X pins σ (upd H T (.tup [.int (i : Nat), x])) { s with heap := h2, toks := tk } :=
      I.turnedNew (ch := [e, it]) (fun c o hb q => kp2 c o hb (kp c o hb q)) hf hT ⟨by show 2 ≤ sizeLine; decide, [.int i t, v1], .cons ⟨_, rfl⟩ (.cons ru .nil), tT2⟩
    obtain ⟨⟨old2, he2⟩, s1', _⟩ := st2
    refine ⟨.ref T, _, I1, rfl, ⟨T, x, rfl, I.hok.fresh hT, rfl, fun l hl => by rw [injK I hl qx]; exact hx⟩, ⟨⟨old2, he2⟩, s1'⟩, fun c hcm => ?_⟩
    have lt : c < s.heap.objs.size := by
      have cs : c = e ∨ c = it := by simpa using hcm
      obtain ⟨old, he⟩ := he
      rcases cs with rfl | rfl
      · exact Heap.lt_size he
      · obtain ⟨_, q, _⟩ := itK_get s1
        exact Heap.lt_size q
    rw [upd_ne (Nat.ne_of_lt (Nat.lt_of_lt_of_le lt hT))]
    exact (hf c hcm).1
  done := by
    intro X hP hw hK hc i pins s σ H E I hf st hg
    subst hP hw hK
    obtain ⟨he, s1⟩ := id st
    obtain ⟨xs, qx, hend⟩ := hg
    obtain ⟨its, rv, p1, _⟩ := invK I qx
    have hh : (X.A.in1).handled = none := I.ok.hd hc
    have W := WalksT.enumerateD (drawK (P := X.prog) (w := X.w) hh k it a na its.toArray) e ne (by simp [ne, nea]) (by simp)
    have hn : i = its.toArray.size := by
      rw [List.size_toArray, hend]
      exact rv.length
    subst hn
    exact W.done s _ _ ⟨he, s1, p1⟩ fun h' tk kp => ⟨rfl, I.turnedL (t' := tk) (ch := [e, it]) (fun c o hb q => kp c o hb q) hf⟩
  self := fun A i s Q E st h => by
    obtain ⟨⟨_, he⟩, _⟩ := st
    exact wpAny_pyIter_enum he h
def iEnumK (K : Frag) (ta : TA) : TI := fun σ H R => ta σ H fun vs H1 => ∃ (k : Bool) (a : Addr) (xs : List V), vs = [.ref a] ∧ SqK k K H1 a xs ∧ R (ItE k K a) H1
theorem pi_enumK {X : Cx} {e : Expr} {ta : TA} {p pos tpos : Pos} {elts : List Expr} {kk : Nat} (hg : Gl X "enumerate") (hm : X.mg "enumerate" = none) (ha : PA X [e] ta) (hs : starEach [e] X.env = [(false, eval e X.env)] := by rfl) : PI X (.Tuple elts kk tpos) (.Call (.Name "enumerate" p) [e] [] pos) (iEnumK X.K ta) := by
  refine ⟨fun pins s σ H R I h => Call_ (ld_blt I hg hm boot_enumerate (PyProof.Rows.callWith_type1 (thn (ha.run pos pins s σ H _ I h) fun us s1 ⟨vs, H1, I1, r1, q1⟩ => ?_) hs rfl))⟩
  obtain ⟨k, a, xs, rfl, qx, q⟩ := q1
  obtain ⟨u1, rfl, hr1⟩ := vals1 r1
  cases hr1
  obtain ⟨its, rv, p1, la⟩ := invK I1 qx
  refine call_enumK (begK k a its.toArray) p1 fun h' he g1 hk => wpAny_pyIter_enum he ?_
  refine ⟨_, [s1.heap.objs.size + 1, s1.heap.objs.size], _, _, H1, rfl, I1.kept (t' := s1.toks) hk, turnE (k := k) (Nat.ne_of_lt la) (Nat.succ_ne_self _) (Nat.ne_of_gt (Nat.lt_succ_of_lt la)), ⟨⟨_, he⟩, itK_of g1⟩, fun c hcm => ?_, q⟩
  have hle : s1.heap.objs.size ≤ c := by
    have cs : c = s1.heap.objs.size + 1 ∨ c = s1.heap.objs.size := by simpa using hcm
    rcases cs with z | z <;> rw [z]
    · exact Nat.le_add_right _ _
    · exact Nat.le_refl _
  exact I1.fpOk hle (I1.hok.fresh hle)
end Mir


set_option Elab.async false
set_option linter.all false
set_option maxRecDepth 100000
/-! zip and enumerate: what a loop and a comprehension over them say. -/
namespace Mir
open PySem PySem.Spec PyProof.Rows L2
open PySem.W (Frag)
def seqD : Dt → Option (List Dt)
  | .lst xs => some xs
  | .tup xs => some xs
  | _ => none
def mZip (a b : ME) : MA := fun ρ s => (a ρ s).bind fun d s1 => (b ρ s1).bind fun e s2 => match seqD d, seqD e with
  | some xs, some ys => .ok (zipD xs ys) s2
  | _, _ => .bad
def mEnum (a : ME) : MA := fun ρ s => (a ρ s).bind fun d s1 => match seqD d with
  | some xs => .ok (enumD 0 xs) s1
  | _ => .bad
section
variable {K : Frag} {mg : Str → Option Value} {Wx : WX} {tl tl2 : TE} {b b2 : ME}
theorem sqK_mono {k : Bool} {H H' : Hp} {a : Addr} {xs : List V} (e : ∀ b o, H b = some o → H' b = some o) (q : SqK k K H a xs) (hl : k = true → H a = some (.lst xs)) : SqK k K H' a xs := by
  cases k with
  | true => exact SqL.of (e _ _ (hl rfl))
  | false => exact sqt_mono e q
/-- a sequence among the data -/
structure SeqAt' (K : Frag) (mg : Str → Option Value) (h : Addr) (H : Hp) (x : V) (xs : List Dt) (k : Bool) (a : Addr) (vs : List V) : Prop where
  ref : x = .ref a
  da : DenA K mg h H vs xs
  at' : ∀ H', (∀ b o, H b = some o → H' b = some o) → SqK k K H' a vs
theorem seq_at {h : Addr} {H : Hp} {x : V} {d : Dt} {xs : List Dt} (dx : Den K mg h H x d) (e : seqD d = some xs) : ∃ k a vs, SeqAt' K mg h H x xs k a vs := by
  cases dx with
  | @lst a vs ds qa ra =>
    cases e
    exact ⟨true, a, vs, rfl, ra, fun H' q => SqL.of (q _ _ qa)⟩
  | @tup a vs ds qa ra =>
    cases e
    exact ⟨false, a, vs, rfl, ra, fun H' q => sqt_mono q qa⟩
  | _ => cases e
theorem pw_zip {k1 k2 : Bool} {a c : Addr} {vx vy : List V} : PairW (ItZ k1 k2 K a c) (fun H => SqK k1 K H a vx ∧ SqK k2 K H c vy) (min vx.length vy.length) (pxZ vx vy) where
  go := fun ok hi => ⟨vx, vy, _, _, ok.1, ok.2, getD_of (by omega), getD_of (by omega)⟩
  yld := fun {i H v H'} ok hi y => by
    obtain ⟨T, x, z, rfl, hT, rfl, f1, f2⟩ := y
    have e1 := f1 vx ok.1
    have e2 := f2 vy ok.2
    rw [getD_of (show i < vx.length by omega)] at e1
    rw [getD_of (show i < vy.length by omega)] at e2
    cases e1
    cases e2
    exact ⟨T, rfl, hT, rfl⟩
  stop := fun ok => ⟨vx, vy, ok.1, ok.2, rfl⟩
theorem pw_enum {k : Bool} {a : Addr} {vx : List V} : PairW (ItE k K a) (fun H => SqK k K H a vx) vx.length (pxE vx) where
  go := fun ok hi => ⟨vx, _, ok, getD_of hi⟩
  yld := fun {i H v H'} ok hi y => by
    obtain ⟨T, x, rfl, hT, rfl, f1⟩ := y
    have e1 := f1 vx ok
    rw [getD_of hi] at e1
    cases e1
    exact ⟨T, rfl, hT, rfl⟩
  stop := fun ok => ⟨vx, ok, rfl⟩
theorem si_zip (hb : SE K mg Wx tl b) (hb2 : SE K mg Wx tl2 b2) : SI K mg Wx (iZipK K (tCons tl (tCons tl2 tNil))) (mZip b b2) where
  for_ := by
    intro js g m tb body hg hbb h H0 H s σ ρ D g0 S p
    have p : PostS K mg h (((b ρ s).bind _).bind _) H0 H Wx D := p
    rw [R.bind_assoc] at p
    refine hb h H0 H s σ ρ _ g0 S (PostS.bind p fun d s1 x A B st g1 dx p1 => ?_)
    rw [R.bind_assoc] at p1
    refine hb2 h A B s1 σ ρ _ g1 (S.step st) (PostS.bind p1 fun d2 s2 x2 A2 B2 st2 g2 dx2 p2 => ?_)
    cases e1 : seqD d with
    | none =>
      simp only [e1] at p2
      exact p2.elim
    | some xs =>
      cases e2 : seqD d2 with
      | none =>
        simp only [e1, e2] at p2
        exact p2.elim
      | some ys =>
        simp only [e1, e2] at p2
        obtain ⟨k1, a, vx, q1⟩ := seq_at (dx.mono st2.s0) e1
        obtain ⟨k2, c, vy, q2⟩ := seq_at dx2 e2
        obtain ⟨z1, z2⟩ := zip_den q1.da q2.da
        exact ⟨k1, k2, a, c, vx, vy, by rw [q1.ref, q2.ref], q1.at' _ g2.ex, q2.at' _ g2.ex, for_pairs pw_zip (fun A' B' s' e g' => ⟨q1.at' _ fun b o w => g'.ex _ _ (e _ _ w), q2.at' _ fun b o w => g'.ex _ _ (e _ _ w)⟩) z1 z2 hg hbb g2 (S.step (st.trans st2)) p2⟩
  lcF := by
    intro js g m tt mt ta a vs hg hv ht ha h H0 H s σ ρ Q PF hbad herr fin0 g0 S p
    have p : PF (((b ρ s).bind _).bind _) := p
    rw [R.bind_assoc] at p
    refine hb h H0 H s σ ρ _ g0 S (Post.bindF hbad herr p fun d s1 x A B st g1 dx p1 => ?_)
    rw [R.bind_assoc] at p1
    refine hb2 h A B s1 σ ρ _ g1 (S.step st) (Post.bindF hbad (fun c fs ρ s z => ErrP.step st.s0 (herr c fs ρ s z)) p1 fun d2 s2 x2 A2 B2 st2 g2 dx2 p2 => ?_)
    cases e1 : seqD d with
    | none =>
      simp only [e1] at p2
      exact (hbad p2).elim
    | some xs =>
      cases e2 : seqD d2 with
      | none =>
        simp only [e1, e2] at p2
        exact (hbad p2).elim
      | some ys =>
        simp only [e1, e2] at p2
        obtain ⟨k1, aa, vx, q1⟩ := seq_at (dx.mono st2.s0) e1
        obtain ⟨k2, c, vy, q2⟩ := seq_at dx2 e2
        obtain ⟨z1, z2⟩ := zip_den q1.da q2.da
        exact ⟨k1, k2, aa, c, vx, vy, by rw [q1.ref, q2.ref], q1.at' _ g2.ex, q2.at' _ g2.ex, fun D hD => lc_pairs pw_zip (fun A' B' s' e g' => ⟨q1.at' _ fun b o w => g'.ex _ _ (e _ _ w), q2.at' _ fun b o w => g'.ex _ _ (e _ _ w)⟩) z1 z2 hbad (fin0 A2 B2 (st.trans st2)) hg hv ht ha g2 (S.step (st.trans st2)) p2 D hD⟩
theorem si_enum (hb : SE K mg Wx tl b) : SI K mg Wx (iEnumK K (tCons tl tNil)) (mEnum b) where
  for_ := by
    intro js g m tb body hg hbb h H0 H s σ ρ D g0 S p
    have p : PostS K mg h (((b ρ s).bind _).bind _) H0 H Wx D := p
    rw [R.bind_assoc] at p
    refine hb h H0 H s σ ρ _ g0 S (PostS.bind p fun d s1 x A B st g1 dx p1 => ?_)
    cases e1 : seqD d with
    | none =>
      simp only [e1] at p1
      exact p1.elim
    | some xs =>
      simp only [e1] at p1
      obtain ⟨k, a, vx, q1⟩ := seq_at dx e1
      obtain ⟨z1, z2⟩ := enum_den q1.da
      exact ⟨k, a, vx, by rw [q1.ref], q1.at' _ g1.ex, for_pairs pw_enum (fun A' B' s' e g' => q1.at' _ fun b o w => g'.ex _ _ (e _ _ w)) z1 z2 hg hbb g1 (S.step st) p1⟩
  lcF := by
    intro js g m tt mt ta a vs hg hv ht ha h H0 H s σ ρ Q PF hbad herr fin0 g0 S p
    have p : PF (((b ρ s).bind _).bind _) := p
    rw [R.bind_assoc] at p
    refine hb h H0 H s σ ρ _ g0 S (Post.bindF hbad herr p fun d s1 x A B st g1 dx p1 => ?_)
    cases e1 : seqD d with
    | none =>
      simp only [e1] at p1
      exact (hbad p1).elim
    | some xs =>
      simp only [e1] at p1
      obtain ⟨k, aa, vx, q1⟩ := seq_at dx e1
      obtain ⟨z1, z2⟩ := enum_den q1.da
      exact ⟨k, aa, vx, by rw [q1.ref], q1.at' _ g1.ex, fun D hD => lc_pairs pw_enum (fun A' B' s' e g' => q1.at' _ fun b o w => g'.ex _ _ (e _ _ w)) z1 z2 hbad (fin0 A B st) hg hv ht ha g1 (S.step st) p1 D hD⟩
end
section
variable {X : Cx} {Wx : WX} {e e2 : Expr} {elts : List Expr} {kk : Nat} {tpos p pos : Pos} {ma ma2 : ME}
theorem qip_zip (hgr : Gl X "zip") (hm : X.mg "zip" = none) (hi : QE X Wx e ma) (hi2 : QE X Wx e2 ma2) (hs : starEach [e, e2] X.env = (false, eval e X.env) :: starEach [e2] X.env := by rfl) (hs2 : starEach [e2] X.env = (false, eval e2 X.env) :: starEach [] X.env := by rfl) (hpl : (backTo pos (starEach [e2] X.env)).any (·.1) = false := by rfl)
    (hf : ∀ x, foldedSetIterable (.Call (.Name "zip" p) [e, e2] [] pos) X.env x = pure x := by intro _; rfl) : QIp X Wx (.Tuple elts kk tpos) (.Call (.Name "zip" p) [e, e2] [] pos) (mZip ma ma2) := by
  obtain ⟨t, q, s⟩ := hi
  obtain ⟨t2, q2, s2⟩ := hi2
  exact ⟨_, pi_zipK hgr hm (pa_cons q (pa_cons q2 pa_nil hs2) hs) hs hpl, si_zip s s2, hf⟩
theorem qip_enum (hgr : Gl X "enumerate") (hm : X.mg "enumerate" = none) (hi : QE X Wx e ma) (hs : starEach [e] X.env = [(false, eval e X.env)] := by rfl)
    (hf : ∀ x, foldedSetIterable (.Call (.Name "enumerate" p) [e] [] pos) X.env x = pure x := by intro _; rfl) : QIp X Wx (.Tuple elts kk tpos) (.Call (.Name "enumerate" p) [e] [] pos) (mEnum ma) := by
  obtain ⟨t, q, s⟩ := hi
  exact ⟨_, pi_enumK hgr hm (pa_cons q pa_nil hs) hs, si_enum s, hf⟩
end
end Mir


set_option Elab.async false
set_option linter.all false
set_option maxRecDepth 100000
/-! slices of lists and tuples; max, min, sum, any, all. -/
namespace Mir
open PySem PySem.Spec PyProof.Rows L2
open PySem.W (Frag)
/-! ### slices -/
def cutD (xs : List Dt) (lo hi : Option Int) : List Dt := (xs.drop (HT.sIx xs.length 0 lo)).take (HT.sIx xs.length xs.length hi - HT.sIx xs.length 0 lo)
abbrev MO := Env' → Hd → R (Option Int)
def mPartN : MO := fun _ s => .ok none s
def mPart (a : ME) : MO := fun ρ s => (a ρ s).bind fun d s1 => match d with
  | .int i => .ok (some i) s1
  | _ => .bad
def fSl (d : Dt) (lo hi : Option Int) : Option Dt := match d with
  | .lst xs => some (.lst (cutD xs lo hi))
  | .tup xs => some (.tup (cutD xs lo hi))
  | _ => none
def mSl (a : ME) (l u : MO) : ME := fun ρ s => (a ρ s).bind fun d s1 => (l ρ s1).bind fun lo s2 => (u ρ s2).bind fun hi s3 => liftO (fSl d lo hi) s3
def EqO : Hp → Option Int → Option Int → Prop := fun _ a b => a = b
section
variable {K : Frag} {mg : Str → Option Value} {Wx : WX} {ta : TE} {tl th : TO} {a : ME} {l u : MO}
def SO (K : Frag) (mg : Str → Option Value) (Wx : WX) (t : TO) (m : MO) : Prop := ∀ (h : Ent) (H0 H : Hp) (s : Hd) (σ : L2.St) (ρ : Env') (Q : Option Int → Hp → Prop), G h.a H0 H s → Slots K mg h H0 H σ ρ → Post K mg h EqO (m ρ s) H0 H Wx Q → t σ H Q
theorem so_none : SO K mg Wx tNoPart mPartN := fun h H0 H s σ ρ Q g S p => p none H0 H (.refl _ _) g rfl
theorem so_some (ha : SE K mg Wx ta a) : SO K mg Wx (tPart ta) (mPart a) := by
  intro h H0 H s σ ρ Q g S p
  refine ha h H0 H s σ ρ _ g S (Post.bind p fun d s1 x A B st g1 dx p1 => ?_)
  cases dx with
  | int i => exact ⟨i, rfl, p1 (some i) A B (.refl _ _) g1 rfl⟩
  | _ => exact p1.elim
theorem cut_len {h : Addr} {H : Hp} {vs : List V} {ds : List Dt} (d : DenA K mg h H vs ds) (lo hi : Option Int) : DenA K mg h H (cutV vs lo hi) (cutD ds lo hi) := by
  have drop : ∀ (n : Nat) {vs : List V} {ds : List Dt}, DenA K mg h H vs ds → DenA K mg h H (vs.drop n) (ds.drop n) := by
    intro n
    induction n with
    | zero => exact fun d => d
    | succ n ih =>
      intro vs ds d
      cases d with
      | nil => exact .nil
      | cons a r => exact ih r
  have take : ∀ (n : Nat) {vs : List V} {ds : List Dt}, DenA K mg h H vs ds → DenA K mg h H (vs.take n) (ds.take n) := by
    intro n
    induction n with
    | zero => exact fun _ => .nil
    | succ n ih =>
      intro vs ds d
      cases d with
      | nil => exact .nil
      | cons a r => exact .cons a (ih r)
  unfold cutV cutD
  rw [d.len]
  exact take _ (drop _ d)
def rSlD (K : Frag) : V → Option Int → Option Int → Hp → VK → Prop := fun x lo hi H Q => rSlL K x lo hi H Q ∨ rSlA K x lo hi H Q
theorem se_sl (ha : SE K mg Wx ta a) (hl : SO K mg Wx tl l) (hu : SO K mg Wx th u) : SE K mg Wx (tSl (rSlD K) ta tl th) (mSl a l u) := by
  intro h H0 H s σ ρ Q g S p
  refine ha h H0 H s σ ρ _ g S (Post.bind p fun d s1 x A B st g1 dx p1 => ?_)
  refine hl h A B s1 σ ρ _ g1 (S.step st) (Post.bind p1 fun lo s2 lo' A2 B2 st2 g2 el p2 => ?_)
  refine hu h A2 B2 s2 σ ρ _ g2 (S.step (st.trans st2)) (Post.bind p2 fun hi s3 hi' A3 B3 st3 g3 eh p3 => ?_)
  have el : lo' = lo := el
  have eh : hi' = hi := eh
  subst el eh
  obtain ⟨z, hz, p4⟩ := post_lift p3
  have dx3 := (dx.mono st2.s0).mono st3.s0
  unfold fSl at hz
  cases dx3 with
  | lst qa ra =>
    cases hz
    refine .inl ⟨_, _, rfl, SqL.of (g3.ex _ _ qa), fun q hq => ?_⟩
    obtain ⟨g4, st4⟩ := g3.alloc (o := .lst _) hq
    exact p4 _ _ _ st4 g4 (.lst upd_same ((cut_len ra _ _).mono st4.s0))
  | @tup aa xs ds qa ra =>
    cases hz
    refine .inr ⟨_, _, rfl, sqt_mono g3.ex qa, fun w => ?_, fun w q hq => ?_⟩
    · have e : cutD ds lo' hi' = ds := by
        unfold cutD
        have l := ra.len
        rw [← l, w.1, w.2]
        rw [List.drop_zero, Nat.sub_zero, l, List.take_length]
      rw [e] at p4
      exact p4 _ _ _ (.refl _ _) g3 (.tup qa ra)
    · obtain ⟨g4, st4⟩ := g3.alloc (o := .tup _) hq
      exact p4 _ _ _ st4 g4 (.tup (SqT.of upd_same) ((cut_len ra _ _).mono st4.s0))
  | _ => cases hz
end
section
variable {X : Cx} {Wx : WX} {e e1 e2 : Expr} {p2 pos : Pos} {ma m1 m2 : ME} {lo hi : Option Expr} {l u : MO}
def QO (X : Cx) (Wx : WX) (e : Option Expr) (m : MO) : Prop := ∃ t, PO X e t ∧ SO X.K X.mg Wx t m
theorem qo_none : QO X Wx none mPartN := ⟨_, po_none, so_none⟩
theorem qo_some (h : QE X Wx e ma) : QO X Wx (some e) (mPart ma) := by
  obtain ⟨t, p, s⟩ := h
  exact ⟨_, po_some p, so_some s⟩
theorem qe_sl (h : QE X Wx e ma) (hl : QO X Wx lo l) (hu : QO X Wx hi u) : QE X Wx (.Subscript e (.Slice lo hi none p2) pos) (mSl ma l u) := by
  obtain ⟨t, p, s⟩ := h
  obtain ⟨tl, pl, sl⟩ := hl
  obtain ⟨tu, pu, su⟩ := hu
  exact ⟨_, pe_slice (SlR.or sl_list sl_tupA) p pl pu, se_sl s sl su⟩
end
/-! ### max, min, sum, any, all -/
def intsD : List Dt → Option (List Int)
  | [] => some []
  | .int i :: ds => (intsD ds).map fun l => i :: l
  | _ => none
def boolsD : List Dt → Option (List Bool)
  | [] => some []
  | .bl i :: ds => (boolsD ds).map fun l => i :: l
  | _ => none
def maxI : Int → List Int → Int
  | m, [] => m
  | m, i :: l => maxI (if m < i then i else m) l
def minI : Int → List Int → Int
  | m, [] => m
  | m, i :: l => minI (if i < m then i else m) l
theorem maxI_ge : ∀ (l : List Int) (m : Int), m ≤ maxI m l ∧ ∀ i ∈ l, i ≤ maxI m l
  | [], m => ⟨Int.le_refl _, fun i h => nomatch h⟩
  | j :: l, m => by
    have e : maxI m (j :: l) = maxI (if m < j then j else m) l := rfl
    rw [e]
    by_cases c : m < j
    · rw [if_pos c]
      obtain ⟨h1, h2⟩ := maxI_ge l j
      refine ⟨by omega, fun i hi => ?_⟩
      rcases List.mem_cons.mp hi with rfl | hi
      · exact h1
      · exact h2 i hi
    · rw [if_neg c]
      obtain ⟨h1, h2⟩ := maxI_ge l m
      refine ⟨h1, fun i hi => ?_⟩
      rcases List.mem_cons.mp hi with rfl | hi
      · omega
      · exact h2 i hi
theorem maxI_mem : ∀ (l : List Int) (m : Int), maxI m l = m ∨ maxI m l ∈ l
  | [], m => .inl rfl
  | j :: l, m => by
    show maxI (if m < j then j else m) l = m ∨ _
    rcases maxI_mem l (if m < j then j else m) with h | h
    · by_cases c : m < j
      · rw [if_pos c] at h ⊢
        exact .inr (by show maxI _ l ∈ _; simp only [if_pos c]; rw [h]; exact List.mem_cons_self ..)
      · rw [if_neg c] at h ⊢
        exact .inl h
    · exact .inr (List.mem_cons_of_mem _ h)
theorem minI_le : ∀ (l : List Int) (m : Int), minI m l ≤ m ∧ ∀ i ∈ l, minI m l ≤ i
  | [], m => ⟨Int.le_refl _, fun i h => nomatch h⟩
  | j :: l, m => by
    have e : minI m (j :: l) = minI (if j < m then j else m) l := rfl
    rw [e]
    by_cases c : j < m
    · rw [if_pos c]
      obtain ⟨h1, h2⟩ := minI_le l j
      refine ⟨by omega, fun i hi => ?_⟩
      rcases List.mem_cons.mp hi with rfl | hi
      · exact h1
      · exact h2 i hi
    · rw [if_neg c]
      obtain ⟨h1, h2⟩ := minI_le l m
      refine ⟨h1, fun i hi => ?_⟩
      rcases List.mem_cons.mp hi with rfl | hi
      · omega
      · exact h2 i hi
theorem minI_mem : ∀ (l : List Int) (m : Int), minI m l = m ∨ minI m l ∈ l
  | [], m => .inl rfl
  | j :: l, m => by
    show minI (if j < m then j else m) l = m ∨ _
    rcases minI_mem l (if j < m then j else m) with h | h
    · by_cases c : j < m
      · rw [if_pos c] at h ⊢
        exact .inr (by show minI _ l ∈ _; simp only [if_pos c]; rw [h]; exact List.mem_cons_self ..)
      · rw [if_neg c] at h ⊢
        exact .inl h
    · exact .inr (List.mem_cons_of_mem _ h)
def fMax : List Dt → Option Dt
  | [.int i, .int j] => some (.int (if j > i then j else i))
  | [.lst ds] => match intsD ds with
    | some (i :: l) => some (.int (maxI i l))
    | _ => none
  | _ => none
def fMin : List Dt → Option Dt
  | [.int i, .int j] => some (.int (if j < i then j else i))
  | [.lst ds] => match intsD ds with
    | some (i :: l) => some (.int (minI i l))
    | _ => none
  | _ => none
def fSum : List Dt → Option Dt
  | [.lst ds] => (intsD ds).map fun l => .int l.sum
  | _ => none
def fAny : List Dt → Option Dt
  | [.lst ds] => (boolsD ds).map fun l => .bl (l.any id)
  | _ => none
def fAll : List Dt → Option Dt
  | [.lst ds] => (boolsD ds).map fun l => .bl (l.all id)
  | _ => none
section
variable {K : Frag} {mg : Str → Option Value}
theorem intsD_vals {h : Addr} {H : Hp} : ∀ {ds : List Dt} {vs : List V} {ys : List Int}, DenA K mg h H vs ds → intsD ds = some ys → vs = ys.map V.int
  | [], _, ys, .nil, e => by
    cases e
    rfl
  | d :: ds, _, ys, .cons (v := v) (vs := vs) dv da, e => by
    cases dv with
    | int x =>
      cases e2 : intsD ds with
      | none => simp [intsD, e2] at e
      | some l =>
        simp [intsD, e2] at e
        subst e
        rw [intsD_vals da e2]
        rfl
    | _ => cases e
theorem boolsD_vals {h : Addr} {H : Hp} : ∀ {ds : List Dt} {vs : List V} {ys : List Bool}, DenA K mg h H vs ds → boolsD ds = some ys → vs = ys.map V.bl
  | [], _, ys, .nil, e => by
    cases e
    rfl
  | d :: ds, _, ys, .cons (v := v) (vs := vs) dv da, e => by
    cases dv with
    | bl x =>
      cases e2 : boolsD ds with
      | none => simp [boolsD, e2] at e
      | some l =>
        simp [boolsD, e2] at e
        subst e
        rw [boolsD_vals da e2]
        rfl
    | _ => cases e
theorem lst_ints {h : Addr} {H0 H : Hp} {s : Hd} {xs : List V} {es : List Dt} {l : List Int} (g0 : G h H0 H s) (hx : DenA K mg h H0 xs [.lst es]) (e : intsD es = some l) : ∃ a, xs = [.ref a] ∧ SqL K H a (l.map V.int) := by
  cases hx with
  | cons a r =>
    cases r
    cases a with
    | lst qa ra =>
      have ev := intsD_vals ra e
      subst ev
      exact ⟨_, rfl, SqL.of (g0.ex _ _ qa)⟩
theorem lst_bools {h : Addr} {H0 H : Hp} {s : Hd} {xs : List V} {es : List Dt} {l : List Bool} (g0 : G h H0 H s) (hx : DenA K mg h H0 xs [.lst es]) (e : boolsD es = some l) : ∃ a, xs = [.ref a] ∧ SqL K H a (l.map V.bl) := by
  cases hx with
  | cons a r =>
    cases r
    cases a with
    | lst qa ra =>
      have ev := boolsD_vals ra e
      subst ev
      exact ⟨_, rfl, SqL.of (g0.ex _ _ qa)⟩
theorem cs_max : CaS K mg (fun xs H Q => (∃ i j, xs = [.int i, .int j] ∧ Q (.int (if j > i then j else i)) H) ∨ rMax K xs H Q) fMax := by
  intro h H0 H s xs ds z Q g0 hx hz q
  unfold fMax at hz
  split at hz
  · cases hz
    cases hx with
    | cons a r =>
      cases r with
      | cons b r =>
        cases r
        cases a
        cases b
        exact .inl ⟨_, _, rfl, q _ H0 H (.refl _ _) g0 (.int _)⟩
  · split at hz
    · rename_i es i l e
      cases hz
      obtain ⟨a, rfl, w⟩ := lst_ints g0 hx e
      refine .inr ⟨a, i :: l, rfl, w, Nat.succ_pos _, fun m hm hall => ?_⟩
      have e1 : m = maxI i l := by
        obtain ⟨g1, g2⟩ := maxI_ge l i
        have a1 : m ≤ maxI i l := by
          rcases List.mem_cons.mp hm with rfl | hm
          · exact g1
          · exact g2 m hm
        have a2 : maxI i l ≤ m := by
          rcases maxI_mem l i with h | h
          · rw [h]
            exact hall i (List.mem_cons_self ..)
          · exact hall _ (List.mem_cons_of_mem _ h)
        omega
      rw [e1]
      exact q _ H0 H (.refl _ _) g0 (.int _)
    · cases hz
  · cases hz
theorem cs_min : CaS K mg (fun xs H Q => (∃ i j, xs = [.int i, .int j] ∧ Q (.int (if j < i then j else i)) H) ∨ rMin K xs H Q) fMin := by
  intro h H0 H s xs ds z Q g0 hx hz q
  unfold fMin at hz
  split at hz
  · cases hz
    cases hx with
    | cons a r =>
      cases r with
      | cons b r =>
        cases r
        cases a
        cases b
        exact .inl ⟨_, _, rfl, q _ H0 H (.refl _ _) g0 (.int _)⟩
  · split at hz
    · rename_i es i l e
      cases hz
      obtain ⟨a, rfl, w⟩ := lst_ints g0 hx e
      refine .inr ⟨a, i :: l, rfl, w, Nat.succ_pos _, fun m hm hall => ?_⟩
      have e1 : m = minI i l := by
        obtain ⟨g1, g2⟩ := minI_le l i
        have a1 : minI i l ≤ m := by
          rcases List.mem_cons.mp hm with rfl | hm
          · exact g1
          · exact g2 m hm
        have a2 : m ≤ minI i l := by
          rcases minI_mem l i with h | h
          · rw [h]
            exact hall i (List.mem_cons_self ..)
          · exact hall _ (List.mem_cons_of_mem _ h)
        omega
      rw [e1]
      exact q _ H0 H (.refl _ _) g0 (.int _)
    · cases hz
  · cases hz
theorem cs_sum : CaS K mg (rSum K) fSum := by
  intro h H0 H s xs ds z Q g0 hx hz q
  unfold fSum at hz
  split at hz
  · rename_i es
    cases e : intsD es with
    | none =>
      rw [e] at hz
      cases hz
    | some l =>
      rw [e] at hz
      cases hz
      obtain ⟨a, rfl, w⟩ := lst_ints g0 hx e
      exact ⟨a, l, rfl, w, q _ H0 H (.refl _ _) g0 (.int _)⟩
  · cases hz
theorem cs_any : CaS K mg (rAny K) fAny := by
  intro h H0 H s xs ds z Q g0 hx hz q
  unfold fAny at hz
  split at hz
  · rename_i es
    cases e : boolsD es with
    | none =>
      rw [e] at hz
      cases hz
    | some l =>
      rw [e] at hz
      cases hz
      obtain ⟨a, rfl, w⟩ := lst_bools g0 hx e
      exact ⟨a, l, rfl, w, q _ H0 H (.refl _ _) g0 (.bl _)⟩
  · cases hz
theorem cs_all : CaS K mg (rAll K) fAll := by
  intro h H0 H s xs ds z Q g0 hx hz q
  unfold fAll at hz
  split at hz
  · rename_i es
    cases e : boolsD es with
    | none =>
      rw [e] at hz
      cases hz
    | some l =>
      rw [e] at hz
      cases hz
      obtain ⟨a, rfl, w⟩ := lst_bools g0 hx e
      exact ⟨a, l, rfl, w, q _ H0 H (.refl _ _) g0 (.bl _)⟩
  · cases hz
end
section
variable {X : Cx}
theorem call_maxA (hc : X.calm = true) : CallR X (.builtin "max") (fun xs H Q => (∃ i j, xs = [.int i, .int j] ∧ Q (.int (if j > i then j else i)) H) ∨ rMax X.K xs H Q) := CallR.or (call_max2 hc) (cr_max hc)
theorem call_minA (hc : X.calm = true) : CallR X (.builtin "min") (fun xs H Q => (∃ i j, xs = [.int i, .int j] ∧ Q (.int (if j < i then j else i)) H) ∨ rMin X.K xs H Q) := CallR.or (call_min2 hc) (cr_min hc)
end
end Mir


set_option Elab.async false
set_option linter.all false
set_option maxRecDepth 100000
/-! Recursion: a def that says nothing, to begin with. -/
namespace Mir
open PySem PySem.Spec PyProof.Rows L2
open PySem.W (Frag)
def mNone : List Dt → Hd → R Dt := fun _ _ => .bad
theorem none_ok {P : Program} {w : World} {K : Frag} {mg : Str → Option Value} {base : Heap} {CX : CXT} {k n : Nat} {f : Addr} {fd : FuncData} {ps : List Str} : FnOk P w K mg base CX k f fd ps (spM K mg n mNone) :=
  ⟨fun vs H Q E z => by
    obtain ⟨_, _, _, _, _, _, _, z⟩ := z
    exact z.elim, fun A outer s H args us vs Q E _ _ _ _ z => by
    obtain ⟨_, _, _, _, _, _, _, z⟩ := z
    exact z.elim⟩
/-- a method and what it takes -/
theorem method_of {P : Program} {w : World} {K : Frag} {mg : Str → Option Value} {base : Heap} {k n : Nat} {c x qual : Str} {st : Stmt} {ps : List Str} {m : List Dt → Hd → R Dt} {C f : Addr} {fd : FuncData} (hm : mg c = some (.ref C)) (cl : Cls K C) (mt : Meth K C x f) (F : FnOk P w K mg base (L2.CX P w) k f fd ps (spM K mg n m)) (hb : Binds K fd ps []) : Method P w K mg base k c x n [] m :=
  ⟨C, f, fd, ps, [], [], hm, cl, mt, F, hb, .nil, fun _ _ => .nil⟩
theorem maker_of {P : Program} {w : World} {K : Frag} {mg : Str → Option Value} {base : Heap} {k n : Nat} {c : Str} {ps : List Str} {m : List Dt → Hd → R (List (Str × Dt))} {C f : Addr} {fd : FuncData} (hm : mg c = some (.ref C)) (mk : Mk K C f) (F : FnOk P w K mg base (L2.CX P w) k f fd ps (spN K mg c n m)) (hb : Binds K fd ps []) : Maker P w K mg base k c n [] m :=
  ⟨C, f, fd, ps, [], [], hm, mk, F, hb, .nil, fun _ _ => .nil⟩
end Mir


set_option Elab.async false
set_option linter.all false
set_option maxRecDepth 100000
/-! Two places of one's own list at once. -/
namespace Mir
open PySem PySem.Spec PyProof.Rows L2
open PySem.W (Frag)
def setR (i : Nat) (b : ME) (d : Dt) (ρ : Env') (s : Hd) : R Env' := match ρ[i]? with
  | some (.own ds) => (b ρ s).bind fun k s2 => (match k with
    | .int k => (match ixN ds.length k with
      | some j => .ok (ρ.set i (.own (ds.set j d))) s2
      | none => .bad)
    | _ => .bad)
  | _ => .bad
def mSwp (i : Nat) (b1 b2 a1 a2 : ME) : MS := fun ρ s => (mTup (mCons a1 (mCons a2 mNil)) ρ s).bind fun d s2 => match d with
  | .tup [d1, d2] => (setR i b1 d1 ρ s2).bind fun ρ1 s3 => (setR i b2 d2 ρ1 s3).bind fun ρ2 s4 => .ok (.nx ρ2) s4
  | _ => .bad
section
variable {K : Frag} {mg : Str → Option Value} {Wx : WX} {ta1 ta2 tb1 tb2 tb : TE} {a1 a2 b1 b2 b : ME}
theorem set_ok {i : Nat} {h : Ent} {A B : Hp} {s : Hd} {σ : L2.St} {ρ : Env'} {D : Ends} {x : V} {d : Dt} {k : Env' → Hd → R Fl} {Qn : L2.St → Hp → Prop} (hb : SE K mg Wx tb b) (g : G h.a A B s) (S : Slots K mg h A B σ ρ) (dx : Den K mg h.a A x d) (p : PostS K mg h ((setR i b d ρ s).bind k) A B Wx D)
    (next : ∀ ρ' s' A' B', Same A A' → G h.a A' B' s' → Slots K mg h A' B' σ ρ' → PostS K mg h (k ρ' s') A' B' Wx D → Qn σ B') : gSub (tVar i) tb rSetL x σ B Qn := by
  unfold setR at p
  split at p
  · rename_i ds ei
    obtain ⟨q, vs, es, eq, n0, nh, nf, da⟩ := S.own ei
    rw [R.bind_assoc] at p
    refine ⟨.ref q, es, hb h A B s σ ρ _ g S (PostS.bind p fun k' s2 y A2 B2 st2 g2 dy p2 => ?_)⟩
    obtain ⟨q2, vs2, es2, eq2, n02, nh2, nf2, da2⟩ := (S.step st2).own ei
    obtain rfl : q = q2 := by
      rw [es] at es2
      cases es2
      rfl
    cases dy with
    | int kk =>
      cases ej : ixN ds.length kk with
      | none =>
        simp only [ej] at p2
        exact p2.elim
      | some j =>
        simp only [ej] at p2
        refine ⟨q, vs2, kk, j, rfl, rfl, eq2, by rw [da2.len]; exact ej, ?_⟩
        have nha : q ≠ h.a := fun z => nh2 (.inl z)
        exact next (ρ.set i (.own (ds.set j d))) s2 A2 _ st2.s0 (g2.at n02 nh2) ((S.step st2).mut (u := .lst (vs2.set j x)) ei rfl es nh2 nf2 rfl ⟨q, vs2.set j x, rfl, upd_same, n02, isH_upd nha nh2, nf2, da2.set (dx.mono st2.s0) j⟩) p2
    | _ => exact p2.elim
  · exact p.elim
theorem ss_swp {i : Nat} (h1 : SE K mg Wx tb1 b1) (h2 : SE K mg Wx tb2 b2) (ha1 : SE K mg Wx ta1 a1) (ha2 : SE K mg Wx ta2 a2) : SS K mg Wx (tAsg (tTup (tCons ta1 (tCons ta2 tNil))) (gSeq K 2 (gCons (gSub (tVar i) tb1 rSetL) (gCons (gSub (tVar i) tb2 rSetL) gNil)))) (mSwp i b1 b2 a1 a2) := by
  intro h H0 H s σ ρ D g S p
  refine se_tup (sa_cons ha1 (sa_cons ha2 sa_nil)) h H0 H s σ ρ _ g S (PostS.bind p fun d s1 x A B st g1 dx p1 => ?_)
  split at p1
  · rename_i d1 d2
    cases dx with
    | @tup aa xs ds qa ra =>
      cases ra with
      | cons r1 rr =>
        cases rr with
        | cons r2 rr =>
          cases rr
          refine .inl ⟨aa, _, rfl, sqt_mono g1.ex qa, rfl, _, _, rfl, set_ok h1 g1 (S.step st) r1 p1 fun ρ1 s3 A3 B3 e3 g3 S3 p3 => ⟨_, _, rfl, set_ok h2 g3 S3 (r2.mono e3) p3 fun ρ2 s4 A4 B4 e4 g4 S4 p4 => ⟨rfl, p4 σ A4 B4 (Same.refl _) g4 S4⟩⟩⟩
  · exact p1.elim
end
section
variable {X : Cx} {Wx : WX} {e1 e2 f1 f2 : Expr} {b1 b2 a1 a2 : ME} {p p' q1 q2 tp tp2 pos : Pos} {kk kk2 : Nat}
theorem qs_swp (i : Nat) {x : Str} (hc : X.calm = true) (hN : X.N[i]? = some x) (h1 : QE X Wx f1 b1) (h2 : QE X Wx f2 b2) (g1 : QE X Wx e1 a1) (g2 : QE X Wx e2 a2) (hv : Vis X.env.scope x := by first | exact Or.inl rfl | exact Or.inr (Or.inl rfl) | exact Or.inr (Or.inr rfl)) (hd : (x == ("__debug__" : Str)) = false := by decide) (hcd : (x == ("__classdict__" : Str)) = false := by decide)
    (k1 : ∀ v, assign (.Subscript (.Name x p) f1 q1) X.env v = (do
      let ov ← holding [v] (eval (.Name x p) X.env)
      let iv ← holding [v, ov] (eval f1 X.env)
      standAt q1
      holding [v, ov, iv] (setItem ov iv v)
      release [v, ov, iv] []) := by intro _; rfl)
    (k2 : ∀ v, assign (.Subscript (.Name x p') f2 q2) X.env v = (do
      let ov ← holding [v] (eval (.Name x p') X.env)
      let iv ← holding [v, ov] (eval f2 X.env)
      standAt q2
      holding [v, ov, iv] (setItem ov iv v)
      release [v, ov, iv] []) := by intro _; rfl)
    (c1 : (assignEach [.Subscript (.Name x p) f1 q1, .Subscript (.Name x p') f2 q2] X.env).map (·.2) = assign (.Subscript (.Name x p) f1 q1) X.env :: (assignEach [.Subscript (.Name x p') f2 q2] X.env).map (·.2) := by rfl)
    (c2 : (assignEach [.Subscript (.Name x p') f2 q2] X.env).map (·.2) = assign (.Subscript (.Name x p') f2 q2) X.env :: (assignEach [] X.env).map (·.2) := by rfl)
    (hn : (assignEach [.Subscript (.Name x p) f1 q1, .Subscript (.Name x p') f2 q2] X.env).length = 2 := by rfl) (hst : (assignEach [.Subscript (.Name x p) f1 q1, .Subscript (.Name x p') f2 q2] X.env).findIdx? (·.1) = none := by rfl)
    (s1 : starEach [e1, e2] X.env = (false, eval e1 X.env) :: starEach [e2] X.env := by rfl) (s2 : starEach [e2] X.env = (false, eval e2 X.env) :: starEach [] X.env := by rfl)
    (hs : swapsWithSole [.Tuple [.Subscript (.Name x p) f1 q1, .Subscript (.Name x p') f2 q2] kk tp] (.Tuple [e1, e2] kk2 tp2) pos.line X.env = pure false := by rfl) (hw : swappedStores [.Tuple [.Subscript (.Name x p) f1 q1, .Subscript (.Name x p') f2 q2] kk tp] (.Tuple [e1, e2] kk2 tp2) X.env = pure none := by rfl)
    (hz : (assignEach [.Tuple [.Subscript (.Name x p) f1 q1, .Subscript (.Name x p') f2 q2] kk tp] X.env).map (·.2) = [assign (.Tuple [.Subscript (.Name x p) f1 q1, .Subscript (.Name x p') f2 q2] kk tp) X.env] := by rfl) :
    QS X Wx (.Assign [.Tuple [.Subscript (.Name x p) f1 q1, .Subscript (.Name x p') f2 q2] kk tp] (.Tuple [e1, e2] kk2 tp2) pos) (mSwp i b1 b2 a1 a2) := by
  obtain ⟨t1, p1, r1⟩ := h1
  obtain ⟨t2, p2, r2⟩ := h2
  obtain ⟨u1, w1, v1⟩ := g1
  obtain ⟨u2, w2, v2⟩ := g2
  exact ⟨_, ps_asg (pe_tup (pa_cons w1 (pa_cons w2 pa_nil s2) s1)) (pg_seq hc (pgs_cons (pg_sub (pe_var hN hv hd hcd) p1 set_list k1) (pgs_cons (pg_sub (pe_var hN hv hd hcd) p2 set_list k2) pgs_nil c2) c1) hn hst) hs hw hz, ss_swp r1 r2 v1 v2⟩
end
end Mir


set_option Elab.async false
set_option linter.all false
set_option maxRecDepth 100000
/-! Functions as values, chained comparisons, a suite that keeps a caught error's field. -/
namespace Mir
open PySem PySem.Spec PyProof.Rows L2
open PySem.W (Frag)
/-! ### a suite  x = (.., e.f) -/
def xSet (j : Nat) (a : List (Str × Dt) → ME) : MX := fun fs ρ s => (a fs ρ s).bind fun d s1 => .ok (.nx (ρ.set j (.dat d))) s1
section
variable {K : Frag} {mg : Str → Option Value} {i j : Nat} {a : Addr} {dd : Option Addr} {te : TE} {m : List (Str × Dt) → ME}
theorem xs_set (h1 : XE' K mg i a dd te m) : XS' K mg i a dd (tAsg te (gName j)) (xSet j m) := by
  intro h H0 H s σ ρ D fs g S ei ed p
  refine h1 h H0 H s σ ρ _ fs g S ei ed (PostS.bind p fun d s1 x A B st g1 dx p1 => ?_)
  exact p1 _ A B (Same.refl _) g1 ((S.step st).set dx)
end
section
variable {X : Cx} {C : Addr} {i j : Nat} {y : Str} {e : Expr} {pd pe : Pos} {te : Addr → Value → Option Addr → TE} {m : List (Str × Dt) → ME}
theorem qx_set (hN : X.N.Nodup) (hj : X.N[j]? = some y) (hlj : Loc X.env.scope y)
    (hlp : ∀ (a : Addr) (oe : Obj) (pn : List (Addr × Obj)), swapsWith e (some (.Name y pd)) pe.line (X.suite a ((a, oe) :: pn)).env = pure false)
    (hf : ∀ (a : Addr) (oe : Obj) (pn : List (Addr × Obj)), (X.suite a ((a, oe) :: pn)).fn y = true ∨ (X.suite a ((a, oe) :: pn)).env.scope.names.lookup y = some .local)
    (ht : ∀ (a : Addr) (oe : Obj) (cls : Value) (d : Option Addr) (pn : List (Addr × Obj)), Zc cls d oe → (∃ vs, oe.data = .fields vs) → PE (X.suite a ((a, oe) :: pn)) e (te a cls d))
    (hr : ∀ (a : Addr) (dd : Option Addr), XE' X.K X.mg i a dd (te a (.ref C) dd) m) :
    ∃ ts, QXo X (some i) C (.Assign [.Name y pd] e pe) [] ts (xSet j m) :=
  ⟨fun a cls d => tAsg (te a cls d) (gName j), ⟨fun a oe cls d pn hz hd => pss_one (ps_set hN hj hlj (ht a oe cls d pn hz hd) (hlp a oe pn) (hf a oe pn)), fun a dd => xs_set (hr a dd)⟩⟩
end
/-! ### a < b < c -/
def mChain (f g : Dt → Dt → Option Dt) (a b c : ME) : ME := fun ρ s => (a ρ s).bind fun d s1 => (b ρ s1).bind fun e s2 => match f d e with
  | some (.bl true) => (c ρ s2).bind fun k s3 => liftO (g e k) s3
  | some (.bl false) => .ok (.bl false) s2
  | _ => .bad
section
variable {K : Frag} {mg : Str → Option Value} {Wx : WX} {ta tb tc : TE} {a b c : ME}
theorem se_chain {r r' : R2} {f g : Dt → Dt → Option Dt} (hr : OpS K mg r f) (hr' : OpS K mg r' g) (ha : SE K mg Wx ta a) (hb : SE K mg Wx tb b) (hc : SE K mg Wx tc c) : SE K mg Wx (tChain r r' ta tb tc) (mChain f g a b c) := by
  intro h H0 H s σ ρ Q g0 S p
  refine ha h H0 H s σ ρ _ g0 S (Post.bind p fun d s1 x A B st g1 dx p1 => hb h A B s1 σ ρ _ g1 (S.step st) (Post.bind p1 fun e s2 y A2 B2 st2 g2 dy p2 => ?_))
  have dx2 := dx.mono st2.s0
  have S2 := (S.step st).step st2
  cases hf : f d e with
  | none =>
    rw [hf] at p2
    exact p2.elim
  | some z =>
    rw [hf] at p2
    refine hr h A2 B2 s2 x y d e z _ g2 dx2 dy hf fun u A3 B3 st3 g3 du => ?_
    cases z with
    | bl k =>
      cases du
      refine ⟨k, rfl, ?_⟩
      cases k with
      | true =>
        simp only [if_true]
        have p3 : Post K mg h (Den K mg h.a) ((c ρ s2).bind fun k s3 => liftO (g e k) s3) A2 B2 Wx Q := p2
        refine hc h A3 B3 s2 σ ρ _ g3 (S2.step st3) (Post.bind (Post.step st3 p3) fun k s4 w A4 B4 st4 g4 dw p4 => ?_)
        obtain ⟨z2, hz2, p5⟩ := post_lift p4
        exact hr' h A4 B4 s4 y w e k z2 Q g4 ((dy.mono st3.s0).mono st4.s0) dw hz2 fun u2 A5 B5 st5 g5 du2 => p5 u2 A5 B5 st5 g5 du2
      | false =>
        have p3 : Post K mg h (Den K mg h.a) (.ok (.bl false) s2) A2 B2 Wx Q := p2
        exact p3 (.bl false) A3 B3 st3 g3 (.bl false)
    | _ => exact p2.elim
end
section
variable {X : Cx} {Wx : WX} {a b c : Expr} {ma mb mc : ME} {pos : Pos} {op op' : CmpOp} {r r' : R2} {f g : Dt → Dt → Option Dt}
theorem qe_chain (ho : OpR X (compareOp op) r) (hs : OpS X.K X.mg r f) (ho' : OpR X (compareOp op') r') (hs' : OpS X.K X.mg r' g) (ha : QE X Wx a ma) (hb : QE X Wx b mb) (hc : QE X Wx c mc) (hm : lastMarks [op, op'] [b, c] = false) : QE X Wx (.Compare a [op, op'] [b, c] pos) (mChain f g ma mb mc) := by
  obtain ⟨ta, pa, sa⟩ := ha
  obtain ⟨tb, pb, sb⟩ := hb
  obtain ⟨tc, pc, sc⟩ := hc
  exact ⟨_, pe_chain ho ho' pa pb pc hm, se_chain hs hs' sa sb sc⟩
theorem qt_chain (ho : OpR X (compareOp op) r) (hs : OpS X.K X.mg r f) (ho' : OpR X (compareOp op') r') (hs' : OpS X.K X.mg r' g) (ha : QE X Wx a ma) (hb : QE X Wx b mb) (hc : QE X Wx c mc) (hm : lastMarks [op, op'] [b, c] = false) : QT X Wx (.Compare a [op, op'] [b, c] pos) (mTest (mChain f g ma mb mc)) := by
  obtain ⟨ta, pa, sa⟩ := ha
  obtain ⟨tb, pb, sb⟩ := hb
  obtain ⟨tc, pc, sc⟩ := hc
  exact ⟨_, pt_chain ho ho' pa pb pc hm, st_test (se_chain hs hs' sa sb sc)⟩
end
/-! ### functions as values -/
theorem qe_fn {X : Cx} {Wx : WX} {x : Str} {k n : Nat} {dd : List Dt} {m : List Dt → Hd → R Dt} {pos : Pos} (C : Callee X.prog X.w X.K X.mg X.base k x n dd m) (hg : Gl X x := by rfl) (hdb : (x == ("__debug__" : Str)) = false := by decide) : QE X Wx (.Name x pos) (mC (.fn x)) := by
  obtain ⟨f, fd, ps, dvs, dsV, F, hm, kp, hb, hd, hdd⟩ := C
  exact qe_glob (v := .ref f) hg hm rfl (fun _ _ => .fn hm) hdb
/-- a parameter called: what it is is known -/
def mCallV (i : Nat) (c : Str) (n : Nat) (m : List Dt → Hd → R Dt) (as : MA) : ME := fun ρ s => match ρ[i]? with
  | some (.dat (.fn c')) => if c' = c then (as ρ s).bind fun ds s1 => (if ds.length = n then (match m ds s1 with
    | .ok d s2 => .ok d s2
    | _ => .bad) else .bad) else .bad
  | _ => .bad
section
variable {X : Cx} {Wx : WX} {e : Expr} {es : List Expr} {x c : Str} {p pos : Pos} {as : MA} {k j n : Nat} {m : List Dt → Hd → R Dt}
theorem qe_cv (i : Nat) (C : Callee X.prog X.w X.K X.mg X.base k c n [] m) (hr : Room j X.A) (hk : k ≤ j) (tk : Takes X Wx) (ha : QA X Wx (e :: es) as) (hN : X.N[i]? = some x := by rfl) (hv : Vis X.env.scope x := by first | exact Or.inl rfl | exact Or.inr (Or.inl rfl) | exact Or.inr (Or.inr rfl))
    (hdb : (x == ("__debug__" : Str)) = false := by decide) (hcd : (x == ("__classdict__" : Str)) = false := by decide) (he : starEach (e :: es) X.env = (false, eval e X.env) :: starEach es X.env := by rfl) (hpl : (backTo pos (starEach es X.env)).any (·.1) = false := by rfl) :
    QE X Wx (.Call (.Name x p) (e :: es) [] pos) (mCallV i c n m as) := by
  obtain ⟨f, fd, ps, dvs, dsV, F, hm, kp, hb, hd, hdd⟩ := C
  obtain ⟨t, q, sa⟩ := ha
  refine ⟨_, pe_callL (i := i) (E := fun _ _ _ => False) F (hr.mono hk) hN hv kp hb hd (fun pins σ H s e s' I z => by
    obtain ⟨_, _, _, _, _, _, _, _, _, _, _, _, z⟩ := z
    exact z.elim) q hdb hcd he hpl, ?_⟩
  · intro h H0 H s σ ρ Q g S pp
    unfold mCallV at pp
    split at pp
    · rename_i c' ei
      by_cases cc : c' = c
      · rw [if_pos cc] at pp
        subst cc
        obtain ⟨v, ev, dv⟩ := S.dat ei
        cases dv with
        | fn hm2 =>
          rw [hm] at hm2
          cases hm2
          refine ⟨ev, sa h H0 H s σ ρ _ g S (Post.bind pp fun ds s1 xs A B st g1 dx p1 => ?_)⟩
          by_cases c2 : ds.length = n
          · rw [if_pos c2] at p1
            have dx2 := dx.append (hdd h.a A)
            rw [List.append_nil] at dx2
            refine ⟨by rw [dx2.len]; exact c2, h.a, A, s1, ds, g1, dx2, ?_⟩
            cases hm : m ds s1 with
            | ok d s2 =>
              rw [hm] at p1
              exact p1
            | err cc fs ρ' s2 =>
              rw [hm] at p1
              exact p1.elim
            | bad =>
              rw [hm] at p1
              exact p1.elim
          · rw [if_neg c2] at p1
            exact p1.elim
      · rw [if_neg cc] at pp
        exact pp.elim
    · exact pp.elim
end
end Mir


set_option Elab.async false
set_option linter.all false
set_option maxRecDepth 100000
/-! Calls of defs in which a repr is asked. -/
namespace Mir
open PySem PySem.Spec PyProof.Rows L2
open PySem.W (Frag)
def CalleeG (P : Program) (w : World) (K : Frag) (mg : Str → Option Value) (base : Heap) (k : Nat) (x : Str) (n : Nat) (m : List Dt → Hd → R Dt) : Prop :=
  ∃ (f : Addr) (fd : FuncData) (ps : List Str), FnG P w K mg base k f fd ps (spM K mg n m) ∧ mg x = some (.ref f) ∧ PySem.W.keepIn K (.ref f) = true ∧ Binds K fd ps []
def mCallG (n : Nat) (m : List Dt → Hd → R Dt) (as : MA) : ME := fun ρ s => (as ρ s).bind fun ds s1 => if ds.length = n then (match m ds s1 with
    | .ok d s2 => .ok d s2
    | _ => .bad) else .bad
section
variable {X : Cx} {Wx : WX} {e : Expr} {es : List Expr} {x : Str} {p pos : Pos} {as : MA} {k j n : Nat} {m : List Dt → Hd → R Dt} {f : Addr} {fd : FuncData} {ps : List Str} {sp : Sp} {t : TA}
/-- no error comes out -/
def noX : XK := fun _ _ _ => False
theorem run_G {pl : List (Addr × Obj)} {σ : L2.St} {H : Hp} {s0 : Shared} {Z : VK} {ws : List Value} {xs : List V} (FG : FnG X.prog X.w X.K X.mg X.base k f fd ps sp) (gd : X.A.guards = some []) (room : Room k X.A) (bi : Binds X.K fd ps [])
    (I0 : Inv X pl σ H s0) (rel : Vals xs ws) (pr : sp xs H Z noX) : wpAny (model X.prog X.w) X.A (call (.ref f) ws) (EP X pl σ Z) X.xe s0 := by
  have hn : ws.length = ps.length := by rw [← rel.length]; exact FG.len _ _ _ _ pr
  have bd : BindsTo s0 fd ⟨ws, []⟩ (ps.zip ws) := by
    have q := bi s0 ws I0.kIn (by simpa using hn)
    simpa using q
  refine wpAny_call (codeAny_mono (FG.run X.A X.stack s0 H ⟨ws, []⟩ ws xs Z noX gd room I0.env0 bd rel pr) fun out s1 done => ?_)
  match out, done with
  | .error er, done =>
    obtain ⟨_, _, _, _, _, _, _, _, _, _, _, _, none⟩ := done
    exact none.elim
  | .ok (.ret u), done => exact I0.after done
  | .ok .next, done => exact done.elim
  | .ok .brk, done => exact done.elim
  | .ok .cont, done => exact done.elim
theorem qe_cg (C : CalleeG X.prog X.w X.K X.mg X.base k x n m) (gd : X.A.guards = some []) (room : Room j X.A) (kj : k ≤ j) (args : QA X Wx (e :: es) as) (hg : Gl X x := by rfl) (hdb : (x == ("__debug__" : Str)) = false := by decide)
    (hst : starEach (e :: es) X.env = (false, eval e X.env) :: starEach es X.env := by rfl) (hno : (backTo pos (starEach es X.env)).any (·.1) = false := by rfl) : QE X Wx (.Call (.Name x p) (e :: es) [] pos) (mCallG n m as) := by
  obtain ⟨f, fd, ps, FG, hm, kp, bi⟩ := C
  obtain ⟨t, q, sa⟩ := args
  refine ⟨fun σ H Q => t σ H fun vs H1 => spM X.K X.mg n m vs H1 Q noX, ⟨fun pins s σ H Q I0 h => ?_⟩, ?_⟩
  · apply wpAny_Call_Name_kw
    apply ld_glob I0 hg hm _ hdb
    apply PySem.W.callWith_K (h₀ := X.base) I0.ok.mod.kin kp _ hst hno
    refine thn (q.run pos pins s σ H _ I0 h) fun ws s1 got => ?_
    obtain ⟨vs, H1, I1, rel, pr⟩ := got
    exact ⟨I1.kIn, run_G FG gd (room.mono kj) bi I1 rel pr⟩
  · intro h H0 H s σ ρ Q g S pp
    refine sa h H0 H s σ ρ _ g S (Post.bind pp fun ds s1 xs A B st g1 dx p1 => ?_)
    by_cases c2 : ds.length = n
    · rw [if_pos c2] at p1
      refine ⟨by rw [dx.len]; exact c2, h.a, A, s1, ds, g1, dx, ?_⟩
      cases hm : m ds s1 with
      | ok d s2 =>
        rw [hm] at p1
        exact p1
      | err cc fs ρ' s2 =>
        rw [hm] at p1
        exact p1.elim
      | bad =>
        rw [hm] at p1
        exact p1.elim
    · rw [if_neg c2] at p1
      exact p1.elim
end
end Mir


set_option Elab.async false
set_option linter.all false
/-! An empty tuple that is a default; + of tuples of which the first may be empty. -/
namespace Mir
open PySem PySem.Spec PyProof.Rows L2
open PySem.W (Frag)
theorem nil_den {K : Frag} {mg : Str → Option Value} {Z : Addr} {od : Option Addr} {n : Nat} {sl : Array (Option Value)} (l : K.lookup Z = some ⟨.type "tuple", od, .seq #[] n, sl⟩) (h : Addr) (H : Hp) : Den K mg h H (.ref Z) (.tup []) :=
  .tup (xs := []) (.inr ⟨_, _, _, l, rfl, rfl, (by show 0 ≤ sizeLine; decide), .nil⟩) .nil
def fAddE : Dt → Dt → Option Dt
  | .tup a, .tup b => if sizeOk (a.length + b.length) then some (.tup (a ++ b)) else none
  | d, e => fAdd d e
def rAddE (K : Frag) : R2 := fun x y H Q => rCatA K x y H Q ∨ rAddA K x y H Q
section
variable {X : Cx} {K : Frag} {mg : Str → Option Value}
theorem op_addE : OpR X (binaryOp .Add) (rAddE X.K) := op_catA.or op_addA
theorem os_addE : OpS K mg (rAddE K) fAddE := by
  intro h H0 H s x y d e z Q g0 hx hy hz q
  unfold fAddE at hz
  split at hz
  · split at hz
    · rename_i c
      cases hz
      cases hx with
      | tup qa ra =>
        cases hy with
        | tup qb rb =>
          have la := ra.len
          have lb := rb.len
          refine .inl ⟨_, _, _, _, rfl, rfl, sqt_mono g0.ex qa, sqt_mono g0.ex qb, ?_, fun z => ?_, fun _ z => ?_, fun _ _ p hp => ?_⟩
          · rw [la, lb]
            exact c.le
          · rw [z] at la
            rw [List.length_eq_zero_iff.mp la.symm, List.nil_append] at q
            exact q _ H0 H (.refl _ _) g0 (.tup qb rb)
          · rw [z] at lb
            rw [List.length_eq_zero_iff.mp lb.symm, List.append_nil] at q
            exact q _ H0 H (.refl _ _) g0 (.tup qa ra)
          · obtain ⟨g1, st⟩ := g0.alloc (o := .tup _) hp
            exact q _ _ _ st g1 (.tup (SqT.of upd_same) ((ra.append rb).mono st.s0))
    · cases hz
  · exact .inr (os_add h H0 H s x y d e z Q g0 hx hy hz q)
end
/-- k in (i, j, ..): whole numbers -/
def intsT : List Dt → Option (List Int)
  | [] => some []
  | .int i :: r => (intsT r).map fun l => i :: l
  | _ :: _ => none
def fInI : Dt → Dt → Option Dt
  | .int k, .tup es => (intsT es).map fun l => .bl (l.any fun i => i == k)
  | _, _ => none
section
variable {K : Frag} {mg : Str → Option Value}
theorem intsT_den {h : Addr} {H : Hp} {k : Int} : ∀ {es : List Dt} {xs : List V} {l : List Int}, DenA K mg h H xs es → intsT es = some l → xs.all flatV = true ∧ inV (.int k) xs = l.any fun i => i == k
  | [], _, _, .nil, e => by
    cases e
    exact ⟨rfl, rfl⟩
  | d :: es, _, l, .cons a r, e => by
    cases d with
    | int i =>
      cases a
      cases c : intsT es with
      | none =>
        have e : (intsT es).map (fun l => i :: l) = some l := e
        rw [c] at e
        cases e
      | some l2 =>
        have e : (intsT es).map (fun l => i :: l) = some l := e
        rw [c] at e
        cases e
        obtain ⟨h1, h2⟩ := intsT_den (k := k) r c
        refine ⟨by rw [List.all_cons, h1]; rfl, ?_⟩
        show (eqV (.int i) (.int k) || inV (.int k) _) = ((i == k) || _)
        rw [h2]
        rfl
    | _ => cases e
theorem os_inI : OpS K mg (rIn K false) fInI := by
  intro h H0 H s x y d e z Q g0 hx hy hz q
  unfold fInI at hz
  split at hz
  · rename_i k es
    cases c : intsT es with
    | none =>
      rw [c] at hz
      cases hz
    | some l =>
      rw [c] at hz
      cases hz
      cases hx
      cases hy with
      | tup qa ra =>
        obtain ⟨h1, h2⟩ := intsT_den (k := k) ra c
        refine ⟨_, _, rfl, .inr (sqt_mono g0.ex qa), rfl, h1, ?_⟩
        show Q (.bl (inV (.int k) _)) H
        rw [h2]
        exact q _ H0 H (.refl _ _) g0 (.bl _)
  · cases hz
end
end Mir


set_option Elab.async false
set_option linter.all false
/-! isinstance of an own class; == by an own __eq__; list(range(..)); sorted of whole numbers. -/
namespace Mir
open PySem PySem.Spec PyProof.Rows L2
open PySem.W (Frag)
structure IsOwn (K : Frag) (mg : Str → Option Value) (c : Str) : Prop where
  ex : ∃ C : Addr, mg c = some (.ref C) ∧ Cls K C ∧ PySem.W.findIn K (.ref C) "__class__" = some (some (.builtin "object.__class__")) ∧
    PySem.W.specialIn K (.builtin "object.__class__") "__get__" = some (some (.builtin "getset_descriptor.__get__")) ∧ PySem.W.takesIn K (.builtin "object.__class__") = some true ∧
    PySem.W.mroIn K C (.type "object") = some true ∧ ∀ T : String, T ∈ ["NoneType", "bool", "int", "str", "tuple", "list", "dict"] → PySem.W.kitOne K (.type T) (.ref C) = some false
def fIsiO (c : Str) : Dt → Option Bool
  | .obj c' _ => if c' = c then some true else none
  | d => (tyN d).map fun _ => false
theorem tyN_in {d : Dt} {n : String} (h : tyN d = some n) : n ∈ ["NoneType", "bool", "int", "str", "tuple", "list", "dict"] := by
  cases d <;> first | (cases h; decide) | cases h
def mIsiO (c : Str) (a : ME) : ME := fun ρ s => (a ρ s).bind fun d s1 => liftO ((fIsiO c d).map Dt.bl) s1
section
variable {X : Cx} {Wx : WX} {a : Expr} {ma : ME} {pos p p2 : Pos} {c : Str}
theorem qe_isiO (ha : QE X Wx a ma) (O : IsOwn X.K X.mg c) (hg : Gl X "isinstance") (hm : X.mg "isinstance" = none) (hgT : Gl X c) (hdb : (c == ("__debug__" : Str)) = false := by decide)
    (he : starEach [a, .Name c p2] X.env = (false, eval a X.env) :: starEach [.Name c p2] X.env := by rfl) (he2 : starEach [.Name c p2] X.env = (false, eval (.Name c p2) X.env) :: starEach [] X.env := by rfl)
    (hpl : (backTo pos (starEach [.Name c p2] X.env)).any (·.1) = false := by rfl) : QE X Wx (.Call (.Name "isinstance" p) [a, .Name c p2] [] pos) (mIsiO c ma) := by
  obtain ⟨C, hC, cl, h1, h2, h3, h4, h5⟩ := O.ex
  obtain ⟨ta, pa, sa⟩ := ha
  refine ⟨_, pe_callB call_isi hg hm (by decide +kernel) (pa_cons pa (pa_cons (pe_glob (v := .ref C) hgT hC rfl hdb) pa_nil he2) he) (by decide) (by decide) he hpl, ?_⟩
  intro h H0 H s σ ρ Q g S pp
  refine sa h H0 H s σ ρ _ g S (Post.bind pp fun d s1 x A B st g1 dx p1 => ?_)
  obtain ⟨z, hz, p3⟩ := post_lift p1
  have key : ∀ n, tyN d = some n → fIsiO c d = (tyN d).map (fun _ => false) → rIsi X.K [x, .ref C] B Q := fun n ht hf => by
    rw [hf, ht] at hz
    cases hz
    exact ⟨x, .ref C, .type n, .ref C, false, rfl, .own C, TyX.of (dx.mono g1.ex) ht, h5 n (tyN_in ht), p3 _ A B (.refl _ _) g1 (.bl false)⟩
  cases dx with
  | @obj aa C' dxx c' fv fs mc e r =>
    unfold fIsiO at hz
    simp only at hz
    split at hz
    · rename_i ec
      subst ec
      cases hz
      obtain rfl : C' = C := by
        rw [hC] at mc
        cases mc
        rfl
      exact ⟨.ref aa, .ref C', .ref C', .ref C', true, rfl, .own C', .base (.ins (g1.ex _ _ e) cl h1 h2 h3 h4), by simp [PySem.W.kitOne], p3 _ A B (.refl _ _) g1 (.bl true)⟩
    · cases hz
  | non => exact key _ rfl rfl
  | bl => exact key _ rfl rfl
  | int => exact key _ rfl rfl
  | str => exact key _ rfl rfl
  | tup q r => exact key _ rfl rfl
  | lst q r => exact key _ rfl rfl
  | dct q => exact key _ rfl rfl
  | hnd => cases hz
  | fn q => cases hz
end
/-! ### == by an own __eq__, two objects of one class -/
def rEqO (C : Addr) (sp : Sp) : R2 := fun x y H Q => ∃ a b dx dy fs gs, x = .ref a ∧ y = .ref b ∧ H a = some (.ins C dx fs) ∧ H b = some (.ins C dy gs) ∧ sp [.ref a, .ref b] H (fun v H' => ∃ c : Bool, v = .bl c ∧ Q (.bl c) H') (fun _ _ _ => False)
section
variable {X : Cx} {k : Nat} {f C : Addr} {fd : FuncData} {ps : List Str} {sp : Sp}
theorem op_eqO (hs : PySem.W.findIn X.K (.ref C) "__eq__" = some (some (.ref f))) (hf : PySem.W.isFn X.K (.ref f) = true) (F : FnOk X.prog X.w X.K X.mg X.base (L2.CX X.prog X.w) k f fd ps sp) (hr : Room k X.A) (hb : Binds X.K fd ps []) :
    OpR X (compareOp .Eq) (rEqO C sp) := by
  intro pins s σ H x y v u Q I rx ry h
  obtain ⟨a, b, dx, dy, fs, gs, rfl, rfl, ea, eb, hsp⟩ := h
  cases (show v = Value.ref a from rx)
  cases (show u = Value.ref b from ry)
  obtain ⟨_, J1, _⟩ := ins_get I.hok ea
  obtain ⟨_, J2, _⟩ := ins_get I.hok eb
  obtain ⟨_, J1, _⟩ := J1.look
  obtain ⟨_, J2, _⟩ := J2.look
  obtain ⟨m, hF⟩ := I.fr
  show wpAny (model X.prog X.w) X.A (richCompare .Eq (.ref a) (.ref b)) (EP X pins σ Q) X.xe s
  refine PySem.W.cmp_K (op := .Eq) (tb := .ref C) hr.units0 hF I.ok.mod.kin J1 J2.type (by simp [PySem.W.notFirst]) hs hf ?_
  have ln := F.len _ _ _ _ hsp
  have rr : Vals [V.ref a, V.ref b] [Value.ref a, Value.ref b] := .cons rfl (.cons rfl .nil)
  have bd : BindsTo s fd ⟨[.ref a, .ref b], []⟩ (ps.zip [.ref a, .ref b]) := by
    have q := hb s [.ref a, .ref b] I.kIn (by simpa using ln)
    simpa using q
  refine wpAny_call (codeAny_mono (F.run X.A X.stack s H ⟨[.ref a, .ref b], []⟩ [.ref a, .ref b] [.ref a, .ref b] _ _ hr I.env0 bd rr hsp) fun res s' w => ?_)
  match res, w with
  | .error e, w => exact (cx_false w).elim
  | .ok (.ret u), w =>
    obtain ⟨v, H', I', rv, n, ev, q⟩ := I.after w
    subst ev
    cases (show u = Value.bool n from rv)
    exact ⟨.bl n, H', I', rfl, q⟩
  | .ok .next, w => exact w.elim
  | .ok .brk, w => exact w.elim
  | .ok .cont, w => exact w.elim
end
open Classical in
/-- what the two are told to be, whatever the hand -/
noncomputable def fEqO (c : Str) (m : List Dt → Hd → R Dt) : Dt → Dt → Option Dt
  | .obj c1 fs, .obj c2 gs => if h : c1 = c ∧ c2 = c ∧ ∃ b : Bool, ∀ s, m [.obj c1 fs, .obj c2 gs] s = .ok (.bl b) s then some (.bl (Classical.choose h.2.2)) else none
  | _, _ => none
open Classical in
theorem eqO_of {c : Str} {m : List Dt → Hd → R Dt} {fs gs : List (Str × Dt)} {b : Bool} (h : ∀ s, m [.obj c fs, .obj c gs] s = .ok (.bl b) s) : fEqO c m (.obj c fs) (.obj c gs) = some (.bl b) := by
  have e : c = c ∧ c = c ∧ ∃ b : Bool, ∀ s, m [.obj c fs, .obj c gs] s = .ok (.bl b) s := ⟨rfl, rfl, b, h⟩
  show (if h : _ then _ else _) = _
  rw [dif_pos e]
  have q := Classical.choose_spec e.2.2
  generalize Classical.choose e.2.2 = b' at *
  have z := (q ⟨[], 0, 0⟩).symm.trans (h ⟨[], 0, 0⟩)
  cases z
  rfl
section
variable {K : Frag} {mg : Str → Option Value} {c : Str} {C : Addr} {m : List Dt → Hd → R Dt}
open Classical in
theorem os_eqO (hC : mg c = some (.ref C)) : OpS K mg (rEqO C (spM K mg 2 m)) (fEqO c m) := by
  intro h H0 H s x y d e z Q g0 hx hy hz q
  unfold fEqO at hz
  split at hz
  · rename_i c1 fs c2 gs
    split at hz
    · rename_i hh
      obtain ⟨e1, e2, eb⟩ := hh
      have qb := Classical.choose_spec eb
      generalize Classical.choose eb = b at *
      cases hz
      subst e1
      subst e2
      cases hx with
      | @obj a1 D1 dx1 _ fv1 _ m1 h1 r1 =>
        cases hy with
        | @obj a2 D2 dx2 _ fv2 _ m2 h2 r2 =>
          obtain rfl : D1 = C := by rw [hC] at m1; cases m1; rfl
          obtain rfl : D2 = D1 := by rw [hC] at m2; cases m2; rfl
          refine ⟨a1, a2, dx1, dx2, fv1, fv2, rfl, rfl, g0.ex _ _ h1, g0.ex _ _ h2, rfl, h, H0, s, _, g0, .cons (.obj m1 h1 r1) (.cons (.obj m2 h2 r2) .nil), ?_⟩
          rw [qb s]
          exact fun u A' B' st g1 du => by
            cases du
            exact ⟨b, rfl, q _ A' B' st g1 (.bl b)⟩
    · cases hz
  · cases hz
end
section
variable {X : Cx} {Wx : WX} {a b : Expr} {ma mb : ME} {pos : Pos} {c : Str} {k j : Nat} {m : List Dt → Hd → R Dt}
theorem qe_eqO (M : Method X.prog X.w X.K X.mg X.base k c "__eq__" 2 [] m) (hr : Room j X.A) (hk : k ≤ j) (ha : QE X Wx a ma) (hb : QE X Wx b mb) (hm : behindInMarks .Eq b = false) : QE X Wx (.Compare a [.Eq] [b] pos) (mOp (fEqO c m) ma mb) := by
  obtain ⟨C, f, fd, ps, dvs, dsV, hC, cl, mt, F, hbd, hd, hdd⟩ := M
  obtain rfl : dvs = [] := by cases hdd 0 (fun _ => none); rfl
  cases hd
  exact qe_cmp (op_eqO mt.at_ mt.fn F (hr.mono hk) hbd) (os_eqO hC) ha hb hm
theorem qt_eqO (M : Method X.prog X.w X.K X.mg X.base k c "__eq__" 2 [] m) (hr : Room j X.A) (hk : k ≤ j) (ha : QE X Wx a ma) (hb : QE X Wx b mb) (hm : behindInMarks .Eq b = false) : QT X Wx (.Compare a [.Eq] [b] pos) (mTest (mOp (fEqO c m) ma mb)) := by
  obtain ⟨C, f, fd, ps, dvs, dsV, hC, cl, mt, F, hbd, hd, hdd⟩ := M
  obtain rfl : dvs = [] := by cases hdd 0 (fun _ => none); rfl
  cases hd
  exact qt_cmp (op_eqO mt.at_ mt.fn F (hr.mono hk) hbd) (os_eqO hC) ha hb hm
end
/-! ### list(range(i, j)) -/
theorem ints_row {K : Frag} {mg : Str → Option Value} {h : Addr} {H : Hp} (f : Nat → Int) : ∀ l : List Nat, DenA K mg h H (l.map fun i => V.int (f i)) (l.map fun i => Dt.int (f i))
  | [] => .nil
  | _ :: l => .cons (.int _) (ints_row f l)
def mLstR (a b : ME) : ME := fun ρ s => (a ρ s).bind fun d s1 => (b ρ s1).bind fun e s2 => match d, e with
  | .int i, .int j => if rngOk i ∧ rngOk j then .ok (.lst (rangeD i (j - i).toNat)) s2 else .bad
  | _, _ => .bad
section
variable {K : Frag} {mg : Str → Option Value} {Wx : WX} {ta tb : TE} {ma mb : ME}
theorem se_lstR (ha : SE K mg Wx ta ma) (hb : SE K mg Wx tb mb) : SE K mg Wx (tLstRg (tRg2 ta tb)) (mLstR ma mb) := by
  intro h H0 H s σ ρ Q g S p
  refine ha h H0 H s σ ρ _ g S (Post.bind p fun d s1 x A B st g1 dx p1 => hb h A B s1 σ ρ _ g1 (S.step st) (Post.bind p1 fun e s2 y A2 B2 st2 g2 dy p2 => ?_))
  cases dx with
  | int i =>
    cases dy with
    | int j =>
      by_cases c : rngOk i ∧ rngOk j
      · simp only [if_pos c] at p2
        obtain ⟨⟨c1, c2⟩, c3, c4⟩ := c
        refine ⟨i, j, rfl, rfl, ⟨by omega, by omega, by omega, by omega, by omega⟩, fun q hq => ?_⟩
        obtain ⟨g3, st3⟩ := g2.alloc (o := .lst _) hq
        exact p2 _ _ _ st3 g3 (.lst upd_same (ints_row (fun n => i + (n : Nat)) _))
      · simp only [if_neg c] at p2
        exact p2.elim
    | _ => exact p2.elim
  | _ => cases dy <;> exact p2.elim
end
section
variable {X : Cx} {Wx : WX} {a b : Expr} {ma mb : ME} {p p2 p3 pos : Pos}
theorem qe_lstR (hc : X.calm = true) (hg : Gl X "list") (hm : X.mg "list" = none) (hg2 : Gl X "range") (hm2 : X.mg "range" = none) (ha : QE X Wx a ma) (hb : QE X Wx b mb) (n1 : starEach [a, b] X.env = (false, eval a X.env) :: starEach [b] X.env := by rfl)
    (n2 : starEach [b] X.env = (false, eval b X.env) :: starEach [] X.env := by rfl) (n3 : (backTo p2 (starEach [b] X.env)).any (·.1) = false := by rfl)
    (n4 : starEach [.Call (.Name "range" p) [a, b] [] p2] X.env = (false, eval (.Call (.Name "range" p) [a, b] [] p2) X.env) :: starEach [] X.env := by rfl) : QE X Wx (.Call (.Name "list" p3) [.Call (.Name "range" p) [a, b] [] p2] [] pos) (mLstR ma mb) := by
  obtain ⟨ta, pa, sa⟩ := ha
  obtain ⟨tb, pb, sb⟩ := hb
  exact ⟨_, pe_listRg hc hg hm (prg_2 hg2 hm2 pa pb n1 n2 n3) n4, se_lstR sa sb⟩
end
/-! ### {k: v} with whole numbers -/
def mDct : ME := fun _ s => .ok .dct s
section
variable {X : Cx} {Wx : WX}
theorem qe_dct {i v : Int} {j1 j2} {p1 p2 pos : Pos} : QE X Wx (.Dict [some (.Constant (.int i) j1 p1)] [.Constant (.int v) j2 p2] pos) mDct := by
  refine ⟨_, pe_disp (pps_cons pe_int pe_int pps_nil) rfl rfl (by simp) (by simp), ?_⟩
  intro h H0 H s σ ρ Q g S p q hq
  obtain ⟨g1, st⟩ := g.alloc (o := .dK [(.inl i, .int v)]) hq
  have e : upd (upd H q (.dK [])) q (.dK [(.inl i, .int v)]) = upd H q (.dK [(.inl i, .int v)]) := by
    funext a
    unfold upd
    split <;> rfl
  refine ⟨upd_same, [(.inl i, .int v)], rfl, by simp, ?_⟩
  show Q (.ref q) (upd (upd H q (.dK [])) q (.dK (mergeK [] [(.inl i, .int v)])))
  have e2 : mergeK [] [(Sum.inl i, V.int v)] = [(Sum.inl i, V.int v)] := rfl
  rw [e2, e]
  exact p _ _ _ st g1 (.dct upd_same)
end
end Mir
namespace PyProof.Rows
open PySem PySem.Spec PySem.Calls
section
variable {prog : Program} {w : World} {A : Around} {E : Value → Shared → Prop} {s : Shared}
/-- the items of a tuple, brought into a list -/
theorem tup_collect {t : Addr} {vs : List Value} {Q : List Value → Shared → Prop} (ht : s.heap.IsTuple t vs.toArray) (hz : vs.length ≤ sizeLine)
    (h : Q vs { s with heap := (s.heap.push (seqObj "list" #[] 0)).update s.heap.objs.size (Obj.mapSeq (· ++ vs.toArray)) }) : wpAny (model prog w) A (collect (.ref t)) Q E s := by
  obtain ⟨ob, h1, h2, k, h3⟩ := ht
  unfold collect
  refine wpAny_bind (wpAny_runValue (codeAny_builtin entry_proto_collect'
    ?_))
  show wpAny _ _ (do
    again (.builtin "list.__iadd__" ⟨[← newList [], .ref t], []⟩)) _ _ s
  refine wpAny_bind (wpAny_newList (wpAny_pure ⟨Code.quiet_builtin _
    (by decide +kernel), codeAny_builtin entry_list_iadd' ?_⟩))
  show wpAny _ _ (Builtin.List.listExtendWith (.ref s.heap.objs.size)
    (.ref t) (.ref s.heap.objs.size)) _ _ { s with heap := s.heap.push (seqObj "list" #[] 0) }
  unfold Builtin.List.listExtendWith
  have g1 : (s.heap.push (seqObj "list" #[] 0)).get? t = some ob := Heap.get?_push_of_some _ h1
  refine wpAny_bind (wpAny_typeOf (T := "tuple") ⟨ob, g1, h2⟩ ?_)
  have g2 : (Value.type "tuple" == Value.type "tuple") = true := by rfl
  rw [if_pos (by rw [g2]; simp)]
  refine wpAny_bind (listItems_at g1 h3 ?_)
  refine wpAny_bind (listItems_at (xs := #[]) (n := 0)
    (Heap.get?_push_size _ rfl) rfl ?_)
  rw [if_neg (by simp)]
  refine wpAny_bind (listUpdate_at (xs := #[]) (n := 0) (Heap.get?_push_size _ rfl) rfl
    ?_ (Nat.zero_le _) (by show (#[] ++ vs.toArray).size ≤ sizeLine + 1; simp only [Array.size_append, List.size_toArray, List.length_nil]; omega))
  refine wpAny_pure ?_
  show wpAny (model prog w) A (do
    let o ← load s.heap.objs.size
    match o.data with
    | .seq xs _ => pure xs.toList
    | _ => unsupported "internal:collect") Q E { s with heap := (s.heap.push (seqObj "list" #[] 0)).update s.heap.objs.size (Obj.mapSeq (· ++ vs.toArray)) }
  refine wpAny_bind (wpAny_load
    (get?_update_seq (Heap.get?_push_size _ rfl) _) ?_)
  show wpAny _ _ (pure ((#[] : Array Value) ++ vs.toArray).toList)
    Q E _
  rw [show ((#[] : Array Value) ++ vs.toArray).toList = vs
    by simp]
  exact wpAny_pure h
theorem tup_sorted {t : Addr} {vs : List Value} {ns : List Int} {Q : Value → Shared → Prop} (ht : s.heap.IsTuple t vs.toArray) (hI : IntsAre vs ns) (h6 : vs.length < 64)
    (h : ∀ (out : Array Value) (ms : List Int), IntsAre out.toList ms → ms.Perm ns → ms.Pairwise (· ≤ ·) → Q (.ref (s.heap.objs.size + 1)) { s with heap := sortedAll s.heap vs out }) :
    wpAny (model prog w) A (call (.builtin "sorted") [.ref t]) Q E s := by
  refine Calls.call_function_entry kind_sorted plain_sorted entry_sorted
    (args_sorted1 _) ?_
  unfold Builtin.«sorted»
  refine wpAny_bind (m := checkCount "sorted" 1 1 _)
    (wpAny_pure ?_)
  refine wpAny_bind (tup_collect ht (by rw [sizeLine_eq]; omega) ?_)
  refine wpAny_bind (wpAny_newList ?_)
  have z : ((s.heap.push (seqObj "list" #[] 0)).update s.heap.objs.size (Obj.mapSeq (· ++ vs.toArray))).objs.size = s.heap.objs.size + 1 := by
    rw [Heap.size_update, size_push']
  have k : (((s.heap.push (seqObj "list" #[] 0)).update s.heap.objs.size (Obj.mapSeq (· ++ vs.toArray))).push (seqObj "list" vs.toArray 0)).get? (s.heap.objs.size + 1) = some (seqObj "list" vs.toArray 0) := by
    rw [← z]
    exact Heap.get?_push_size _ rfl
  show wpAny _ _ _ _ _ { s with heap := ((s.heap.push (seqObj "list" #[] 0)).update s.heap.objs.size
    (Obj.mapSeq (· ++ vs.toArray))).push (seqObj "list" vs.toArray 0) }
  rw [z]
  refine wpAny_bind (wpAny_holding (wpAny_call_entry slot_list_sort ⟨_, k, rfl⟩ entry_list_sort (list_sort_tree k hI h6 fun out ms a1 a2 a3 => ⟨_, rfl, ?_⟩)
    (args_list_sort _)))
  exact wpAny_pure ⟨_, rfl, h out ms a1 a2 a3⟩
end
end PyProof.Rows
namespace Mir
open PySem PySem.Spec PyProof.Rows L2
open PySem.W (Frag)
/-- sorted(xs), a list or a tuple of whole numbers -/
def rSortA (K : Frag) : List V → Hp → VK → Prop := fun vs H Q => ∃ (a : Addr) (ns : List Int), vs = [V.ref a] ∧ (SqL K H a (ns.map V.int) ∨ SqT K H a (ns.map V.int)) ∧ ns.length < 64 ∧
  ∀ (ms : List Int) (p : Addr), ms.Perm ns → ms.Pairwise (· ≤ ·) → H p = none → Q (.ref p) (upd H p (.lst (ms.map V.int)))
theorem cr_sortA {X : Cx} : CallR X (.builtin "sorted") (rSortA X.K) := by
  intro pins s σ H vs us Q I r h
  obtain ⟨a, ns, rfl, hs | hs, h6, q⟩ := h
  · exact cr_sorted pins s σ H _ us Q I r ⟨a, ns, rfl, hs, h6, q⟩
  · obtain ⟨its, rv, hl, _⟩ := I.tuple hs
    rw [Vals.ref1 r]
    have hi := rv.ints
    refine tup_sorted hl hi (by rw [hi.length]; exact h6) fun out ms k1 k2 k3 => ?_
    obtain ⟨ep, e⟩ := sortedAll_at s.heap its out
    have z : (ms.map V.int).length ≤ sizeLine := by rw [List.length_map, k2.length_eq]; exact small64 h6
    exact ⟨.ref _, upd H (s.heap.objs.size + 1) (.lst (ms.map V.int)), I.laid (t' := s.toks) (fun _ _ => sortedAll_old) (Nat.le_succ _) ⟨z, out.toList, ep, vals_of_ints k1, e⟩, rfl, q ms _ k2 k3 (I.hok.fresh (Nat.le_succ _))⟩
def fSorted : List Dt → Option Dt
  | [.lst ds] => (intsT ds).bind fun l => if l.length < 64 then some (.lst ((l.mergeSort fun i j => decide (i ≤ j)).map Dt.int)) else none
  | [.tup ds] => (intsT ds).bind fun l => if l.length < 64 then some (.lst ((l.mergeSort fun i j => decide (i ≤ j)).map Dt.int)) else none
  | _ => none
theorem sort_one {ms ns : List Int} (h : ms.Perm ns) (o : ms.Pairwise (· ≤ ·)) : ms = ns.mergeSort fun i j => decide (i ≤ j) := by
  have p := List.mergeSort_perm ns fun i j => decide (i ≤ j)
  have q : (ns.mergeSort fun i j => decide (i ≤ j)).Pairwise (· ≤ ·) := by
    have z := List.pairwise_mergeSort (le := fun i j : Int => decide (i ≤ j)) (fun a b c h1 h2 => decide_eq_true (Int.le_trans (of_decide_eq_true h1) (of_decide_eq_true h2))) (fun a b => by
      rcases Int.le_total a b with h | h
      · simp [h]
      · simp [h]) ns
    exact z.imp fun h => of_decide_eq_true h
  exact (h.trans p.symm).eq_of_pairwise (fun a b _ _ h1 h2 => Int.le_antisymm h1 h2) o q
section
variable {K : Frag} {mg : Str → Option Value}
theorem intsT_eq : ∀ {ds : List Dt} {l : List Int}, intsT ds = some l → ds = l.map Dt.int
  | [], l, e => by
    cases e
    rfl
  | .int i :: r, l, e => by
    have e : (intsT r).map (fun l => i :: l) = some l := e
    cases c : intsT r with
    | none =>
      rw [c] at e
      cases e
    | some l2 =>
      rw [c] at e
      cases e
      rw [List.map_cons, intsT_eq c]
theorem ints_vals {h : Addr} {H : Hp} : ∀ {l : List Int} {xs : List V}, DenA K mg h H xs (l.map Dt.int) → xs = l.map V.int
  | [], _, .nil => rfl
  | _ :: _, _, .cons (.int _) r => by rw [List.map_cons, ints_vals r]
theorem ints_dts {h : Addr} {H : Hp} : ∀ l : List Int, DenA K mg h H (l.map V.int) (l.map Dt.int)
  | [] => .nil
  | _ :: l => .cons (.int _) (ints_dts l)
theorem cs_sorted : CaS K mg (rSortA K) fSorted := by
  intro h H0 H s xs ds z Q g0 hx hz q
  have key : ∀ (a : Addr) (us : List V) (es : List Dt) (l : List Int), DenA K mg h H0 us es → intsT es = some l → (SqL K H a us ∨ SqT K H a us) → l.length < 64 → z = .lst ((l.mergeSort fun i j => decide (i ≤ j)).map Dt.int) → rSortA K [.ref a] H Q := fun a us es l da hl hs h6 hz => by
    subst hz
    rw [intsT_eq hl] at da
    rw [ints_vals da] at hs
    refine ⟨a, l, rfl, hs, h6, fun ms p m1 m2 hp => ?_⟩
    rw [sort_one m1 m2]
    obtain ⟨g1, st⟩ := g0.alloc (o := .lst _) hp
    exact q _ _ _ st g1 (.lst upd_same (ints_dts _))
  unfold fSorted at hz
  split at hz
  · rename_i es
    cases c : intsT es with
    | none =>
      rw [c] at hz
      cases hz
    | some l =>
      rw [c] at hz
      have hz : (if l.length < 64 then some (Dt.lst ((l.mergeSort fun i j => decide (i ≤ j)).map Dt.int)) else none) = some z := hz
      split at hz
      · rename_i h6
        cases hz
        cases hx with
        | cons a r =>
          cases r
          cases a with
          | lst qa ra => exact key _ _ _ l ra c (.inl (SqL.of (g0.ex _ _ qa))) h6 rfl
      · cases hz
  · rename_i es
    cases c : intsT es with
    | none =>
      rw [c] at hz
      cases hz
    | some l =>
      rw [c] at hz
      have hz : (if l.length < 64 then some (Dt.lst ((l.mergeSort fun i j => decide (i ≤ j)).map Dt.int)) else none) = some z := hz
      split at hz
      · rename_i h6
        cases hz
        cases hx with
        | cons a r =>
          cases r
          cases a with
          | tup qa ra => exact key _ _ _ l ra c (.inr (sqt_mono g0.ex qa)) h6 rfl
      · cases hz
  · cases hz
end
/-! ### a tuple many times -/
def fRepT : Dt → Dt → Option Dt
  | .tup a, .int j => if a ≠ [] ∧ 2 ≤ j ∧ j ≤ 1000 ∧ a.length ≤ 1000 then some (.tup (List.replicate j.toNat a).flatten) else none
  | _, _ => none
theorem os_repT {K : Frag} {mg : Str → Option Value} : OpS K mg (rRepT K) fRepT := by
  intro h H0 H s x y d e z Q g0 hx hy hz q
  unfold fRepT at hz
  split at hz
  · split at hz
    · rename_i c
      obtain ⟨c1, c2, c3, c4⟩ := c
      cases hz
      cases hy
      cases hx with
      | tup qa ra =>
        have l := ra.len
        refine ⟨_, _, _, rfl, rfl, sqt_mono g0.ex qa, fun e => c1 ?_, c2, c3, by omega, fun p hp => ?_⟩
        · rw [e] at l
          exact List.length_eq_zero_iff.mp l.symm
        · obtain ⟨g1, st⟩ := g0.alloc (o := .tup _) hp
          exact q _ _ _ st g1 (.tup (SqT.of upd_same) ((ra.rep _).mono st.s0))
    · cases hz
  · cases hz
end Mir


set_option Elab.async false
set_option linter.all false
/-! a property; roots of great numbers. -/
namespace Mir
open PySem PySem.Spec PyProof.Rows L2 PySem.Calls PyProof
open PySem.W (Frag)
/-- e.f, f a property of the class c -/
def mProp (c : Str) (m : List Dt → Hd → R Dt) (a : ME) : ME := fun ρ s => (a ρ s).bind fun d s1 => match d with
  | .obj c' fs => if c' = c then (match m [.obj c' fs] s1 with
      | .ok d s2 => .ok d s2
      | _ => .bad) else .bad
  | _ => .bad
def Propty (P : Program) (w : World) (K : Frag) (mg : Str → Option Value) (base : Heap) (k : Nat) (c f : Str) (m : List Dt → Hd → R Dt) : Prop :=
  ∃ (C p g : Addr) (fd : FuncData) (ps : List Str), mg c = some (.ref C) ∧ Cls K C ∧ PropOf K C f p g ∧ FnOk P w K mg base (L2.CX P w) k g fd ps (spM K mg 1 m) ∧ Binds K fd ps []
section
variable {K : Frag} {mg : Str → Option Value} {Wx : WX} {ta : TE} {a : ME}
theorem se_prop {c : Str} {C : Addr} {m : List Dt → Hd → R Dt} (hC : mg c = some (.ref C)) (he : SE K mg Wx ta a) : SE K mg Wx (tProp C (spM K mg 1 m) [] (fun _ _ _ => False) ta) (mProp c m a) := by
  intro h H0 H s σ ρ Q g S p
  refine he h H0 H s σ ρ _ g S (Post.bind p fun d s1 y A B st g1 dy p1 => ?_)
  cases dy with
  | @obj aa C' dxx c' fv fs mc e r =>
    by_cases cc : c' = c
    · simp only [if_pos cc] at p1
      subst cc
      obtain rfl : C = C' := by
        rw [hC] at mc
        cases mc
        rfl
      have dx2 : DenA K mg h.a A [.ref aa] [.obj c' fs] := .cons (.obj mc e r) .nil
      refine ⟨aa, dxx, fv, rfl, g1.ex _ _ e, rfl, h, A, s1, _, g1, dx2, ?_⟩
      cases hm : m [.obj c' fs] s1 with
      | ok d s3 =>
        rw [hm] at p1
        exact p1
      | err cc fs ρ' s3 =>
        rw [hm] at p1
        exact p1.elim
      | bad =>
        rw [hm] at p1
        exact p1.elim
    · simp only [if_neg cc] at p1
      exact p1.elim
  | _ => exact p1.elim
end
section
variable {X : Cx} {Wx : WX} {o : Expr} {c x : Str} {pos : Pos} {ma : ME} {k j : Nat} {m : List Dt → Hd → R Dt}
theorem qe_prop (M : Propty X.prog X.w X.K X.mg X.base k c x m) (hr : Room j X.A) (hk : k + 1 ≤ j) (ho : QE X Wx o ma) (hb : attributeBase o x X.env (eval o X.env) = eval o X.env := by rfl) : QE X Wx (.Attribute o x pos) (mProp c m ma) := by
  obtain ⟨C, p, g, fd, ps, hm, cl, hp, F, hbd⟩ := M
  obtain ⟨to, po, so⟩ := ho
  exact ⟨_, pe_prop po cl hp F (hr.mono hk) hbd .nil (fun _ _ _ _ _ _ _ z => (cx_false z).elim) hb, se_prop hm so⟩
end
section
variable {P : Program} {w : World} {K : Frag} {mg : Str → Option Value} {base : Heap} {k : Nat} {c x qual : Str} {C p g : Addr} {fd : FuncData} {ps : List Str} {m : List Dt → Hd → R Dt}
theorem propty_of (hm : mg c = some (.ref C)) (cl : Cls K C) (hp : PropOf K C x p g) (F : FnOk P w K mg base (L2.CX P w) k g fd ps (spM K mg 1 m)) (hb : Binds K fd ps []) : Propty P w K mg base k c x m := ⟨C, p, g, fd, ps, hm, cl, hp, F, hb⟩
end
/-! ### math.isqrt of great numbers -/
def rIsqrtW : List V → Hp → VK → Prop := fun vs H Q => ∃ a : Int, vs = [.int a] ∧ 0 ≤ a ∧ a.toNat.log2 < 13000 ∧ Q (.int ((Float64.isqrt a.toNat : Nat) : Int)) H
theorem cr_isqrtW {X : Cx} : CallR X (.builtin "math.isqrt") rIsqrtW := by
  intro pins s σ H vs us Q I r h
  obtain ⟨a, rfl, h0, h1, q⟩ := h
  cases r with
  | cons ra rr =>
    cases rr
    obtain ⟨t, e⟩ := (show ∃ t, _ = Value.int a t from ra)
    cases e
    exact call_function_meets PySem.W.MGF.kind_isqrt PySem.W.MGF.plain_isqrt PySem.W.MGF.entry_isqrt (PySem.W.MGF.args_isqrt _) (PySem.W.mg_run_isqrt a t (by omega) (by omega) (by omega)).meets ⟨.int _, H, I.tok _, ⟨_, rfl⟩, q⟩
def fIsqrtW : List Dt → Option Dt
  | [.int a] => if 0 ≤ a ∧ a.toNat.log2 < 13000 then some (.int ((Float64.isqrt a.toNat : Nat) : Int)) else none
  | _ => none
section
variable {K : Frag} {mg : Str → Option Value}
theorem cs_isqrtW : CaS K mg rIsqrtW fIsqrtW := by
  intro h H0 H s xs ds z Q g0 hx hz q
  unfold fIsqrtW at hz
  split at hz
  · split at hz
    · rename_i hh
      cases hz
      cases hx with
      | cons a r =>
        cases r
        cases a
        exact ⟨_, rfl, hh.1, hh.2, q _ H0 H (.refl _ _) g0 (.int _)⟩
    · cases hz
  · cases hz
end
end Mir


set_option Elab.async false
set_option linter.all false
/-! x in y, y an object with an own __contains__. -/
namespace Mir
open PySem PySem.Spec PyProof.Rows L2
open PySem.W (Frag)
def rInO (C : Addr) (sp : Sp) : R2 := fun x y H Q => ∃ b dy gs, y = .ref b ∧ H b = some (.ins C dy gs) ∧ sp [.ref b, x] H (fun v H' => ∃ c : Bool, v = .bl c ∧ Q (.bl c) H') (fun _ _ _ => False)
section
variable {X : Cx} {k : Nat} {f C : Addr} {fd : FuncData} {ps : List Str} {sp : Sp}
theorem op_inO (hs : PySem.W.findIn X.K (.ref C) "__contains__" = some (some (.ref f))) (hf : PySem.W.isFn X.K (.ref f) = true) (F : FnOk X.prog X.w X.K X.mg X.base (L2.CX X.prog X.w) k f fd ps sp) (hr : Room k X.A) (hb : Binds X.K fd ps []) :
    OpR X (compareOp .In) (rInO C sp) := by
  intro pins s σ H x y v u Q I rx ry h
  obtain ⟨b, dy, gs, rfl, eb, hsp⟩ := h
  cases (show u = Value.ref b from ry)
  obtain ⟨_, J2, _⟩ := ins_get I.hok eb
  obtain ⟨_, J2, _⟩ := J2.look
  obtain ⟨m, hF⟩ := I.fr
  show wpAny (model X.prog X.w) X.A (compareOp .In v (.ref b)) (EP X pins σ Q) X.xe s
  refine PySem.W.in_K hF I.ok.mod.kin J2 hs hf ?_
  have ln := F.len _ _ _ _ hsp
  have rr : Vals [V.ref b, x] [Value.ref b, v] := .cons rfl (.cons rx .nil)
  have bd : BindsTo s fd ⟨[.ref b, v], []⟩ (ps.zip [.ref b, v]) := by
    have q := hb s [.ref b, v] I.kIn (by simpa using ln)
    simpa using q
  refine wpAny_call (codeAny_mono (F.run X.A X.stack s H ⟨[.ref b, v], []⟩ [.ref b, v] [.ref b, x] _ _ hr I.env0 bd rr hsp) fun res s' w => ?_)
  match res, w with
  | .error e, w => exact (cx_false w).elim
  | .ok (.ret u), w =>
    obtain ⟨v, H', I', rv, n, ev, q⟩ := I.after w
    subst ev
    cases (show u = Value.bool n from rv)
    exact wpAny_pure ⟨.bl n, H', I', rfl, q⟩
  | .ok .next, w => exact w.elim
  | .ok .brk, w => exact w.elim
  | .ok .cont, w => exact w.elim
end
open Classical in
/-- what the object says, whatever the hand -/
noncomputable def fInO (c : Str) (m : List Dt → Hd → R Dt) : Dt → Dt → Option Dt
  | d, .obj c2 gs => if h : c2 = c ∧ ∃ b : Bool, ∀ s, m [.obj c2 gs, d] s = .ok (.bl b) s then some (.bl (Classical.choose h.2)) else none
  | _, _ => none
open Classical in
theorem inO_of {c : Str} {m : List Dt → Hd → R Dt} {d : Dt} {gs : List (Str × Dt)} {b : Bool} (h : ∀ s, m [.obj c gs, d] s = .ok (.bl b) s) : fInO c m d (.obj c gs) = some (.bl b) := by
  have e : c = c ∧ ∃ b : Bool, ∀ s, m [.obj c gs, d] s = .ok (.bl b) s := ⟨rfl, b, h⟩
  show (if h : _ then _ else _) = _
  rw [dif_pos e]
  have q := Classical.choose_spec e.2
  generalize Classical.choose e.2 = b' at *
  have z := (q ⟨[], 0, 0⟩).symm.trans (h ⟨[], 0, 0⟩)
  cases z
  rfl
section
variable {K : Frag} {mg : Str → Option Value} {c : Str} {C : Addr} {m : List Dt → Hd → R Dt}
open Classical in
theorem os_inO (hC : mg c = some (.ref C)) : OpS K mg (rInO C (spM K mg 2 m)) (fInO c m) := by
  intro h H0 H s x y d e z Q g0 hx hy hz q
  unfold fInO at hz
  split at hz
  · rename_i c2 gs
    split at hz
    · rename_i hh
      obtain ⟨e2, eb⟩ := hh
      have qb := Classical.choose_spec eb
      generalize Classical.choose eb = b at *
      cases hz
      subst e2
      cases hy with
      | @obj a2 D2 dx2 _ fv2 _ m2 h2 r2 =>
        obtain rfl : D2 = C := by rw [hC] at m2; cases m2; rfl
        refine ⟨a2, dx2, fv2, rfl, g0.ex _ _ h2, rfl, h, H0, s, _, g0, .cons (.obj m2 h2 r2) (.cons hx .nil), ?_⟩
        rw [qb s]
        exact fun u A' B' st g1 du => by
          cases du
          exact ⟨b, rfl, q _ A' B' st g1 (.bl b)⟩
    · cases hz
  · cases hz
end
section
variable {X : Cx} {Wx : WX} {a b : Expr} {ma mb : ME} {pos : Pos} {c : Str} {k j : Nat} {m : List Dt → Hd → R Dt}
theorem qe_inO (M : Method X.prog X.w X.K X.mg X.base k c "__contains__" 2 [] m) (hr : Room j X.A) (hk : k ≤ j) (ha : QE X Wx a ma) (hb : QE X Wx b mb) (hm : behindInMarks .In b = false) : QE X Wx (.Compare a [.In] [b] pos) (mOp (fInO c m) ma mb) := by
  obtain ⟨C, f, fd, ps, dvs, dsV, hC, cl, mt, F, hbd, hd, hdd⟩ := M
  obtain rfl : dvs = [] := by cases hdd 0 (fun _ => none); rfl
  cases hd
  exact qe_cmp (op_inO mt.at_ mt.fn F (hr.mono hk) hbd) (os_inO hC) ha hb hm
theorem qt_inO (M : Method X.prog X.w X.K X.mg X.base k c "__contains__" 2 [] m) (hr : Room j X.A) (hk : k ≤ j) (ha : QE X Wx a ma) (hb : QE X Wx b mb) (hm : behindInMarks .In b = false) : QT X Wx (.Compare a [.In] [b] pos) (mTest (mOp (fInO c m) ma mb)) := by
  obtain ⟨C, f, fd, ps, dvs, dsV, hC, cl, mt, F, hbd, hd, hdd⟩ := M
  obtain rfl : dvs = [] := by cases hdd 0 (fun _ => none); rfl
  cases hd
  exact qt_cmp (op_inO mt.at_ mt.fn F (hr.mono hk) hbd) (os_inO hC) ha hb hm
end
end Mir


set_option Elab.async false
set_option linter.all false
set_option maxRecDepth 100000
/-! A suite among several that returns what a caught error holds. -/
namespace Mir
open PySem PySem.Spec PyProof.Rows L2
open PySem.W (Frag)
section
variable {X : Cx} {C : Addr} {i : Nat} {e : Expr} {pe : Pos} {te : Addr → Value → Option Addr → TE} {m : List (Str × Dt) → ME}
theorem qx_ret (ht : ∀ (a : Addr) (oe : Obj) (cls : Value) (d : Option Addr) (pn : List (Addr × Obj)), Zc cls d oe → (∃ vs, oe.data = .fields vs) → PE (X.suite a ((a, oe) :: pn)) e (te a cls d))
    (hr : ∀ (a : Addr) (dd : Option Addr), XE' X.K X.mg i a dd (te a (.ref C) dd) m) :
    ∃ ts, QXo X (some i) C (.Return (some e) pe) [] ts (xRet m) :=
  ⟨fun a cls d => tRet (te a cls d), ⟨fun a oe cls d pn hz hd => pss_one (ps_ret (ht a oe cls d pn hz hd)), fun a dd => xs_ret (hr a dd)⟩⟩
end
end Mir


set_option Elab.async false
set_option linter.all false
set_option maxRecDepth 100000
/-! {k: v} with any key that is a whole number, any value. -/
namespace Mir
open PySem PySem.Spec PyProof.Rows L2
open PySem.W (Frag)
def mDctG (a b : ME) : ME := fun ρ s => (a ρ s).bind fun d s1 => (b ρ s1).bind fun _ s2 => match d with
  | .int _ => .ok .dct s2
  | _ => .bad
/-- a thing that stood beside the data, changed, becomes data -/
theorem settle {h : Addr} {H0 H A B : Hp} {s : Hd} {p : Addr} {o : HO} (hp : H p = none) (st : Step h H0 H A B) (g : G h A B s) (n0 : A p = none) (nh : ¬ isH h B p) : G h (upd A p o) (upd B p o) s ∧ Step h H0 H (upd A p o) (upd B p o) := by
  obtain ⟨gl, a1, a2, a3, a4⟩ := g.gl
  have e1 : h ≠ p := fun z => nh (.inl z.symm)
  have e2 : gl ≠ p := fun z => nh (.inr ⟨_, by rw [← z]; exact a3⟩)
  refine ⟨⟨fun b u q => ?_, by rw [upd_ne e1]; exact g.h0, gl, by rw [upd_ne e2]; exact a1, a2, by rw [upd_ne e1]; exact a3, by rw [upd_ne e2]; exact a4⟩, ⟨fun b u q => ?_, fun q u x y z => ?_⟩⟩
  · by_cases hb : b = p
    · subst hb
      rw [upd_same] at q ⊢
      exact q
    · rw [upd_ne hb] at q ⊢
      exact g.ex _ _ q
  · have z := st.s0 b u q
    rw [upd_ne (ne_of_none z n0)]
    exact z
  · have nq : q ≠ p := ne_of_none x hp
    obtain ⟨x1, y1, z1⟩ := st.fr q u x y z
    refine ⟨by rw [upd_ne nq]; exact x1, by rw [upd_ne nq]; exact y1, fun w => z1 ?_⟩
    rcases w with w | ⟨r, w⟩
    · exact .inl w
    · rw [upd_ne e1] at w
      exact .inr ⟨r, w⟩
section
variable {K : Frag} {mg : Str → Option Value} {Wx : WX} {ta tb : TE} {a b : ME}
theorem se_dct1 (ha : SE K mg Wx ta a) (hb : SE K mg Wx tb b) : SE K mg Wx (tDisp [(ta, tb)]) (mDctG a b) := by
  intro h H0 H s σ ρ Q g S p q hq
  obtain ⟨g1, st1⟩ := g.side (o := .dK []) hq
  have n0 : H0 q = none := g.ex.free hq
  have nh : ¬ isH h.a (upd H q (.dK [])) q := by
    obtain ⟨gl, a1, a2, a3, a4⟩ := g.gl
    intro z
    rcases z with z | ⟨r, z⟩
    · rw [← z] at a3
      rw [hq] at a3
      cases a3
    · rw [upd_ne (ne_of_none a3 hq), a3] at z
      cases z
      rw [hq] at a4
      cases a4
  unfold mDctG at p
  refine ha h H0 (upd H q (.dK [])) s σ ρ _ g1 (S.step st1) ?_
  cases ea : a ρ s with
  | bad =>
    rw [ea] at p
    exact p.elim
  | err c fs ρ' s' =>
    rw [ea] at p
    exact p
  | ok d s1 =>
    rw [ea] at p
    intro x A B st g2 dx
    refine hb h A B s1 σ ρ _ g2 ((S.step st1).step st) ?_
    simp only [R.bind_ok] at p
    cases eb : b ρ s1 with
    | bad =>
      rw [eb] at p
      exact p.elim
    | err c fs ρ' s' =>
      rw [eb] at p
      exact ErrP.step st.s0 p
    | ok e s2 =>
      rw [eb] at p
      simp only [R.bind_ok] at p
      intro y A2 B2 st2 g3 dy
      obtain ⟨f1, f2, f3⟩ := (st.trans st2).fr q (.dK []) upd_same n0 nh
      cases dx with
      | int =>
        rename_i i
        obtain ⟨g4, st4⟩ := settle (o := .dK (mergeK [] [(.inl i, y)])) hq ((st1.trans st).trans st2) g3 f2 f3
        exact ⟨f1, [(.inl i, y)], rfl, by simp, p _ _ _ st4 g4 (.dct upd_same)⟩
      | _ => exact p.elim
end
section
variable {X : Cx} {Wx : WX} {k v : Expr} {mk mv : ME} {pos : Pos}
theorem qe_dct1 (hk : QE X Wx k mk) (hv : QE X Wx v mv) : QE X Wx (.Dict [some k] [v] pos) (mDctG mk mv) := by
  obtain ⟨tk, pk, sk⟩ := hk
  obtain ⟨tv, pv, sv⟩ := hv
  exact ⟨_, pe_disp (pps_cons pk pv pps_nil) rfl rfl (by simp) (by simp), se_dct1 sk sv⟩
end
end Mir


set_option Elab.async false
set_option linter.all false
set_option maxRecDepth 100000
/-! A suite that appends what a caught error holds to one's own list. -/
namespace Mir
open PySem PySem.Spec PyProof.Rows L2
open PySem.W (Frag)
def xApp (j : Nat) (a : List (Str × Dt) → ME) : MX := fun fs => mApp j (a fs)
section
variable {K : Frag} {mg : Str → Option Value} {i j : Nat} {a : Addr} {dd : Option Addr} {te : TE} {m : List (Str × Dt) → ME}
theorem xs_app (h1 : XE' K mg i a dd te m) : XS' K mg i a dd (tDrop (tBM K "list" rAppend (tVar j) (tCons te tNil))) (xApp j m) := by
  intro h H0 H s σ ρ D fs g S ei0 ed p
  have p : PostS K mg h (mApp j (m fs) ρ s) H0 H WF D := p
  unfold mApp at p
  split at p
  · rename_i ds ei
    obtain ⟨q, vs, es, eq, n0, nh, nf, da⟩ := S.own ei
    refine ⟨.ref q, es, .inl ⟨rfl, vs, SqL.of eq⟩, h1 h H0 H s σ ρ _ fs g S ei0 ed (PostS.bind p fun d s1 x A B st g1 dx p1 => ?_)⟩
    obtain ⟨q2, vs2, es2, eq2, n02, nh2, nf2, da2⟩ := (S.step st).own ei
    obtain rfl : q = q2 := by
      rw [es] at es2
      cases es2
      rfl
    by_cases c : sizeOk ds.length
    · simp only [if_pos c] at p1
      refine ⟨q, vs2, x, rfl, rfl, eq2, by rw [da2.len]; exact c.lt, ?_⟩
      have nha : q ≠ h.a := fun z => nh2 (.inl z)
      exact p1 σ A _ (Same.refl _) (g1.at n02 nh2) ((S.step st).mut (u := .lst (vs2 ++ [x])) ei rfl es nh2 nf2 rfl ⟨q, vs2 ++ [x], rfl, upd_same, n02, isH_upd nha nh2, nf2, da2.append (.cons dx .nil)⟩)
    · simp only [if_neg c] at p1
      exact p1.elim
  · exact p.elim
end
section
variable {X : Cx} {C : Addr} {i j : Nat} {y : Str} {e : Expr} {p p2 p3 pe : Pos} {te : Addr → Value → Option Addr → TE} {m : List (Str × Dt) → ME}
theorem qx_app (hj : X.N[j]? = some y) (hv : Vis X.env.scope y) (hd : (y == ("__debug__" : Str)) = false) (hcd : (y == ("__classdict__" : Str)) = false)
    (hbase : ∀ (a : Addr) (oe : Obj) (pn : List (Addr × Obj)), attributeBase (.Name y p) "append" (X.suite a ((a, oe) :: pn)).env (eval (.Name y p) (X.suite a ((a, oe) :: pn)).env) = eval (.Name y p) (X.suite a ((a, oe) :: pn)).env)
    (hfew : ∀ (a : Addr) (oe : Obj) (pn : List (Addr × Obj)), ((backTo p3 (starEach [e] (X.suite a ((a, oe) :: pn)).env)).all (fun x => !x.1) && (backToKw p3 (keywordEach [] (X.suite a ((a, oe) :: pn)).env)).all (fun x => x.1.isSome) && decide ([e].length + ([] : List Keyword).length + (if ([] : List Keyword).isEmpty then 0 else 1) < 30)) = true)
    (hline : (p2.endLine == p3.line) = true)
    (hse : ∀ (a : Addr) (oe : Obj) (pn : List (Addr × Obj)), starEach [e] (X.suite a ((a, oe) :: pn)).env = (false, eval e (X.suite a ((a, oe) :: pn)).env) :: starEach [] (X.suite a ((a, oe) :: pn)).env)
    (hplain : ∀ (a : Addr) (oe : Obj) (pn : List (Addr × Obj)), (backTo p3 (starEach [] (X.suite a ((a, oe) :: pn)).env)).any (·.1) = false)
    (hs : ∀ (a : Addr) (oe : Obj) (pn : List (Addr × Obj)), swapsWith (.Call (.Attribute (.Name y p) "append" p2) [e] [] p3) none pe.line (X.suite a ((a, oe) :: pn)).env = pure false)
    (ht : ∀ (a : Addr) (oe : Obj) (cls : Value) (d : Option Addr) (pn : List (Addr × Obj)), Zc cls d oe → (∃ vs, oe.data = .fields vs) → PE (X.suite a ((a, oe) :: pn)) e (te a cls d))
    (hr : ∀ (a : Addr) (dd : Option Addr), XE' X.K X.mg i a dd (te a (.ref C) dd) m) :
    ∃ ts, QXo X (some i) C (.Expr (.Call (.Attribute (.Name y p) "append" p2) [e] [] p3) pe) [] ts (xApp j m) :=
  ⟨fun a cls d => tDrop (tBM X.K "list" rAppend (tVar j) (tCons (te a cls d) tNil)),
    ⟨fun a oe cls d pn hz hf => pss_one (ps_expr (pe_bm PySem.F.plainAttrs_list PySem.F.slot_list_append PySem.F.type_list_append mt_append (pe_var hj hv hd hcd) (pa_cons (ht a oe cls d pn hz hf) pa_nil (hse a oe pn)) (hbase a oe pn) (hfew a oe pn) hline (hse a oe pn) (hplain a oe pn)) (hs a oe pn)), fun a dd => xs_app (hr a dd)⟩⟩
end
end Mir


set_option Elab.async false
set_option linter.all false
set_option maxRecDepth 100000
/-! A list that is data is changed behind its last use: all lists are forgotten behind it. -/
namespace Mir
open PySem PySem.Spec PyProof.Rows L2
open PySem.W (Frag)

def nolO : Option HO → Option HO
  | some (.lst _) => none
  | o => o
/-- no lists -/
def nolH (H : Hp) : Hp := fun a => nolO (H a)
theorem nolO_some {x : Option HO} {o : HO} (e : nolO x = some o) : x = some o := by
  unfold nolO at e
  split at e
  · cases e
  · exact e
theorem nolH_some {H : Hp} {a : Addr} {o : HO} (e : nolH H a = some o) : H a = some o := nolO_some e
theorem nolH_lst {H : Hp} {a : Addr} {us : List V} (e : H a = some (.lst us)) : nolH H a = none := by
  unfold nolH
  rw [e]
  rfl
theorem nolH_none {H : Hp} {a : Addr} (e : H a = none) : nolH H a = none := by
  unfold nolH
  rw [e]
  rfl
theorem nolH_or (H : Hp) (a : Addr) (o : HO) (e : H a = some o) : (∃ us, o = .lst us) ∨ nolH H a = some o := by
  unfold nolH
  rw [e]
  unfold nolO
  split
  · rename_i us q
    cases q
    exact .inl ⟨_, rfl⟩
  · exact .inr rfl
theorem nolH_of {H : Hp} {a : Addr} {o : HO} (e : H a = some o) (n : ∀ us, o ≠ .lst us) : nolH H a = some o := (nolH_or H a o e).elim (fun ⟨us, z⟩ => absurd z (n us)) id
theorem sqt_nol {K : Frag} {H : Hp} {a : Addr} {xs : List V} (e : SqT K H a xs) : SqT K (nolH H) a xs := by
  rcases e with (e | ⟨o, e⟩) | e
  · exact .inl (.inl (nolH_of e fun _ z => by cases z))
  · exact .inl (.inr ⟨o, nolH_of e fun _ z => by cases z⟩)
  · exact .inr e
section
variable {K : Frag} {mg : Str → Option Value}
mutual
theorem Den.nol {h : Addr} {H : Hp} : ∀ {v : V} {d : Dt}, Den K mg h H v d → lfree d = true → Den K mg h (nolH H) v d
  | _, _, .non, _ => .non
  | _, _, .bl b, _ => .bl b
  | _, _, .int i, _ => .int i
  | _, _, .str x, _ => .str x
  | _, .tup ds, .tup e r, l => .tup (sqt_nol e) (DenA.nol r (by unfold lfree at l; exact l))
  | _, .lst ds, .lst e r, l => by
    unfold lfree at l
    cases l
  | _, .obj c fs, .obj m e r, l => .obj m (nolH_of e fun _ z => by cases z) (DenF.nol r (by unfold lfree at l; exact l))
  | _, _, .hnd, _ => .hnd
  | _, _, .dct e, _ => .dct (nolH_of e fun _ z => by cases z)
  | _, _, .fn e, _ => .fn e
theorem DenA.nol {h : Addr} {H : Hp} : ∀ {v : List V} {d : List Dt}, DenA K mg h H v d → lfreeA d = true → DenA K mg h (nolH H) v d
  | _, _, .nil, _ => .nil
  | _, d :: ds, .cons r t, l => by
    unfold lfreeA at l
    rw [Bool.and_eq_true] at l
    exact .cons (Den.nol r l.1) (DenA.nol t l.2)
theorem DenF.nol {h : Addr} {H : Hp} : ∀ {v : List (Str × V)} {d : List (Str × Dt)}, DenF K mg h H v d → lfreeF d = true → DenF K mg h (nolH H) v d
  | _, _, .nil, _ => .nil
  | _, (n, d) :: ds, .cons r t, l => by
    unfold lfreeF at l
    rw [Bool.and_eq_true] at l
    exact .cons (Den.nol r l.1) (DenF.nol t l.2)
end
end
/-- two heaps, the first one's word first -/
def uniH (H0 A : Hp) : Hp := fun a => match H0 a with
  | some o => some o
  | none => nolH A a
theorem uniH_l {H0 A : Hp} {a : Addr} {o : HO} (e : H0 a = some o) : uniH H0 A a = some o := by
  unfold uniH
  rw [e]
theorem uniH_r {H0 A : Hp} {a : Addr} (e : H0 a = none) : uniH H0 A a = nolH A a := by
  unfold uniH
  rw [e]
theorem G.notH {h : Addr} {A B : Hp} {s : Hd} {a : Addr} {o : HO} (g : G h A B s) (e : A a = some o) : ¬ isH h B a := by
  obtain ⟨gl, a1, a2, a3, a4⟩ := g.gl
  intro z
  rcases z with z | ⟨r, z⟩
  · rw [z, g.h0] at e
    cases e
  · rw [a3] at z
    cases z
    rw [a1] at e
    cases e
theorem joint {h : Addr} {H0 H A B : Hp} {s s' : Hd} (g : G h H0 H s) (st : Step h (nolH H0) H A B) (g' : G h A B s') :
    Step h H0 H (uniH H0 A) B ∧ G h (uniH H0 A) B s' ∧ Same (nolH A) (uniH H0 A) ∧ (∀ p us, A p = some (.lst us) → uniH H0 A p = none ∧ H0 p = none) := by
  have L : ∀ a us, H0 a = some (.lst us) → B a = some (.lst us) ∧ A a = none ∧ ¬ isH h B a := fun a us e => st.fr a _ (g.ex _ _ e) (nolH_lst e) (g.notH e)
  have N : ∀ a o, H0 a = some o → (∀ us, o ≠ .lst us) → A a = some o := fun a o e n => st.s0 _ _ (nolH_of e n)
  have F1 : ∀ a us, A a = some (.lst us) → H0 a = none := fun a us e => by
    cases e0 : H0 a with
    | none => rfl
    | some o =>
      rcases nolH_or H0 a o e0 with ⟨ws, rfl⟩ | q
      · rw [(L a ws e0).2.1] at e
        cases e
      · have := st.s0 _ _ q
        rw [e] at this
        cases this
        rw [nolH_lst e0] at q
        cases q
  have F2 : ∀ a o, H0 a = some o → B a = some o := fun a o e => by
    rcases nolH_or H0 a o e with ⟨ws, rfl⟩ | q
    · exact (L a ws e).1
    · exact g'.ex _ _ (st.s0 _ _ q)
  have F3 : Same (nolH A) (uniH H0 A) := fun a o e => by
    have ea := nolH_some e
    cases e0 : H0 a with
    | none =>
      rw [uniH_r e0]
      exact e
    | some o2 =>
      rw [uniH_l e0]
      rcases nolH_or H0 a o2 e0 with ⟨ws, rfl⟩ | q
      · rw [(L a ws e0).2.1] at ea
        cases ea
      · have := st.s0 _ _ q
        rw [ea] at this
        exact this.symm
  refine ⟨⟨fun a o e => uniH_l e, fun p o x y z => ?_⟩, ⟨fun a o e => ?_, ?_, ?_⟩, F3, fun p us e => ?_⟩
  · obtain ⟨w1, w2, w3⟩ := st.fr p o x (nolH_none y) z
    exact ⟨w1, by rw [uniH_r y]; exact nolH_none w2, w3⟩
  · cases e0 : H0 a with
    | none =>
      rw [uniH_r e0] at e
      exact g'.ex _ _ (nolH_some e)
    | some o2 =>
      rw [uniH_l e0] at e
      cases e
      exact F2 _ _ e0
  · rw [uniH_r g.h0]
    exact nolH_none g'.h0
  · obtain ⟨gl, a1, a2, a3, a4⟩ := g'.gl
    refine ⟨gl, ?_, a2, a3, a4⟩
    cases e0 : H0 gl with
    | none =>
      rw [uniH_r e0]
      exact nolH_none a1
    | some o2 =>
      rcases nolH_or H0 gl o2 e0 with ⟨ws, rfl⟩ | q
      · exact absurd (.inr ⟨_, a3⟩) (L gl ws e0).2.2
      · have := st.s0 _ _ q
        rw [a1] at this
        cases this
  · have n := F1 p us e
    exact ⟨by rw [uniH_r n]; exact nolH_lst e, n⟩
/-- s12; if t: x[b] = a -- behind it nothing is known of any list -/
def mBlk (i : Nat) (m12 : MS) (mt : MT) (b a : ME) : MS := fun ρ s => match m12 (ρ.map lfSl) s with
  | .ok (.nx ρ1) s1 => (match mt ρ1 s1 with
    | .ok true s2 => (match a ρ1 s2 with
      | .ok d s3 => (match ρ1[i]? with
        | some (.dat (.lst ds)) => (match b ρ1 s3 with
          | .ok (.int k) s4 => (match ixN ds.length k with
            | some j => .ok (.nx (ρ1.map lfSl)) s4
            | none => .bad)
          | _ => .bad)
        | _ => .bad)
      | _ => .bad)
    | .ok false s2 => .ok (.nx (ρ1.map lfSl)) s2
    | _ => .bad)
  | _ => .bad
section
variable {K : Frag} {mg : Str → Option Value} {Wx : WX} {ta tb : TE} {a b : ME} {ts : TS} {ms : MS} {tt : TT} {mt : MT}
theorem lfSl_mine (l : Sl) : (lfSl l).mine = false := by
  cases l with
  | dat d =>
    by_cases c : lfree d = true
    · have e2 : lfSl (.dat d) = .dat d := if_pos c
      rw [e2]
      rfl
    · have e2 : lfSl (.dat d) = .no := if_neg c
      rw [e2]
      rfl
  | no => rfl
  | own ds => rfl
  | slf c fs => rfl
/-- slots that know nothing of lists -/
theorem slots_lf {h h2 : Ent} (eh : h2.a = h.a) {A B U B' : Hp} {σ : L2.St} {ρ : Env'} (S : Slots K mg h A B σ ρ) (sm : Same (nolH A) U) (st : Step h2.a h2.E0 h2.E U B') : Slots K mg h2 U B' σ (ρ.map lfSl) := by
  have mine0 : ∀ (j : Nat) (l : Sl), (ρ.map lfSl)[j]? = some l → l.mine = false := fun j l e => by
    rw [List.getElem?_map] at e
    cases e0 : ρ[j]? with
    | none =>
      rw [e0] at e
      cases e
    | some l0 =>
      rw [e0] at e
      cases e
      exact lfSl_mine l0
  refine ⟨by rw [List.length_map]; exact S.len, fun j o l' x y => ?_, fun i j p x y e1 _ m1 _ _ _ => ?_, st⟩
  · rw [List.getElem?_map] at y
    cases e : ρ[j]? with
    | none =>
      rw [e] at y
      cases y
    | some l0 =>
      rw [e] at y
      cases y
      have w := S.at_ j o l0 x e
      cases l0 with
      | dat d =>
        by_cases c : lfree d = true
        · have e2 : lfSl (.dat d) = .dat d := if_pos c
          rw [e2]
          cases o with
          | none => exact w
          | some v =>
            have w : Den K mg h.a A v d := w
            show Den K mg h2.a U v d
            rw [eh]
            exact (w.nol c).mono sm
        · have e2 : lfSl (.dat d) = .no := if_neg c
          rw [e2]
          cases o <;> exact True.intro
      | no => cases o <;> exact True.intro
      | own ds => cases o <;> exact True.intro
      | slf c fs => cases o <;> exact True.intro
  · rw [mine0 i x e1] at m1
    cases m1
theorem ss_blk {i : Nat} (h12 : SS K mg Wx ts ms) (ht : ST K mg Wx tt mt) (hb : SE K mg Wx tb b) (ha : SE K mg Wx ta a) : SS K mg Wx (tSeq ts (tIfS tt (tAsg ta (gSub (tVar i) tb rSetL)) tNext)) (mBlk i ms mt b a) := by
  intro h H0 H s σ ρ D g S p
  have p : PostS K mg h (mBlk i ms mt b a ρ s) H0 H Wx D := p
  unfold mBlk at p
  have st0 : Step h.a (nolH H0) H (nolH H0) H := .refl _ _
  have g0 : G h.a (nolH H0) H s := by
    obtain ⟨gl, a1, a2, a3, a4⟩ := g.gl
    exact ⟨fun x o e => g.ex _ _ (nolH_some e), nolH_none g.h0, gl, nolH_none a1, a2, a3, a4⟩
  have S0 : Slots K mg ⟨h.a, nolH H0, H, h.sf⟩ (nolH H0) H σ (ρ.map lfSl) := slots_lf (h := h) (h2 := ⟨h.a, nolH H0, H, h.sf⟩) rfl S (Same.refl _) st0
  refine h12 ⟨h.a, nolH H0, H, h.sf⟩ (nolH H0) H s σ (ρ.map lfSl) _ g0 S0 ?_
  cases e12 : ms (ρ.map lfSl) s with
  | bad =>
    rw [e12] at p
    exact p.elim
  | err c fs ρ' s' =>
    rw [e12] at p
    exact p.elim
  | ok f s1 =>
    rw [e12] at p
    cases f with
    | rt d => exact p.elim
    | bk r => exact p.elim
    | ct r => exact p.elim
    | nx ρ1 =>
      simp only at p
      intro σ1 A B sm1 g1 S1
      have fin : ∀ (A2 B2 : Hp) (s2 : Hd), G h.a A2 B2 s2 → Slots K mg ⟨h.a, nolH H0, H, h.sf⟩ A2 B2 σ1 ρ1 → Same H0 (uniH H0 A2) ∧ G h.a (uniH H0 A2) B2 s2 ∧ Slots K mg h (uniH H0 A2) B2 σ1 (ρ1.map lfSl) ∧ Same (nolH A2) (uniH H0 A2) ∧ (∀ p us, A2 p = some (.lst us) → uniH H0 A2 p = none ∧ NF h p) := fun A2 B2 s2 g2 S2 => by
        obtain ⟨j1, j2, j3, j4⟩ := joint g S2.st g2
        refine ⟨j1.s0, j2, slots_lf (h := ⟨h.a, nolH H0, H, h.sf⟩) (h2 := h) rfl S2 j3 (S.st.trans j1), j3, fun p us e => ⟨(j4 p us e).1, fun o x y => ?_⟩⟩
        by_cases c : isH h.a h.E p
        · exact c
        · obtain ⟨w1, w2, w3⟩ := S.st.fr p o x y c
          have w4 := (S2.st.fr p o w1 (nolH_none w2) w3).2.1
          rw [e] at w4
          cases w4
      refine ht _ A B s1 σ1 ρ1 _ g1 S1 ?_
      cases et : mt ρ1 s1 with
      | bad =>
        rw [et] at p
        exact p.elim
      | err c fs ρ' s' =>
        rw [et] at p
        exact p.elim
      | ok bb s2 =>
        rw [et] at p
        intro x A2 B2 st2 g2 ex
        cases (show x = bb from ex)
        have S2 := S1.step st2
        cases bb with
        | false =>
          simp only at p
          obtain ⟨f1, f2, f3, _⟩ := fin A2 B2 s2 g2 S2
          exact p σ1 _ B2 f1 f2 f3
        | true =>
          simp only at p
          refine ha _ A2 B2 s2 σ1 ρ1 _ g2 S2 ?_
          cases ea : a ρ1 s2 with
          | bad =>
            rw [ea] at p
            exact p.elim
          | err c fs ρ' s' =>
            rw [ea] at p
            exact p.elim
          | ok d s3 =>
            rw [ea] at p
            intro v A3 B3 st3 g3 dv
            have S3 := S2.step st3
            simp only at p
            cases ei : ρ1[i]? with
            | none =>
              rw [ei] at p
              exact p.elim
            | some l =>
              rw [ei] at p
              cases l with
              | no => exact p.elim
              | own ds => exact p.elim
              | slf c fs => exact p.elim
              | dat d0 =>
                cases d0 with
                | lst ds =>
                  simp only at p
                  obtain ⟨v0, es, den⟩ := S3.dat ei
                  cases den with
                  | @lst q vs _ eq da =>
                    refine ⟨.ref q, es, hb _ A3 B3 s3 σ1 ρ1 _ g3 S3 ?_⟩
                    cases eb : b ρ1 s3 with
                    | bad =>
                      rw [eb] at p
                      exact p.elim
                    | err c fs ρ' s' =>
                      rw [eb] at p
                      exact p.elim
                    | ok k s4 =>
                      rw [eb] at p
                      intro y A4 B4 st4 g4 dy
                      cases k with
                      | int k =>
                        cases dy
                        simp only at p
                        cases ej : ixN ds.length k with
                        | none =>
                          rw [ej] at p
                          exact p.elim
                        | some j =>
                          rw [ej] at p
                          have eq4 := st4.s0 _ _ eq
                          refine ⟨q, vs, k, j, rfl, rfl, g4.ex _ _ eq4, by rw [da.len]; exact ej, ?_⟩
                          obtain ⟨f1, f2, f3, f5, f4⟩ := fin A4 B4 s4 g4 (S3.step st4)
                          obtain ⟨n1, n2⟩ := f4 q vs eq4
                          have nh := g4.notH eq4
                          exact p σ1 _ _ f1 (f2.at n1 nh) (slots_lf (h := ⟨h.a, nolH H0, H, h.sf⟩) (h2 := h) rfl (S3.step st4) f5 (f3.st.at (fun z => nh (.inl z)) n2))
                      | _ => exact p.elim
                | _ => exact p.elim
end
section
variable {X : Cx} {Wx : WX} {s1 s2 : Stmt} {rest : List Stmt} {c b a : Expr} {mt : MT} {mb ma : ME} {m1 m2 mr : MS} {p p2 pos pos3 : Pos}
theorem qss_blk (i : Nat) {x : Str} (hN : X.N[i]? = some x) (h1 : QS X Wx s1 m1) (h2 : QS X Wx s2 m2) (ht : QT X Wx c mt) (hb : QE X Wx b mb) (ha : QE X Wx a ma) (hr : QSs X Wx rest mr)
    (hv : Vis X.env.scope x := by first | exact Or.inl rfl | exact Or.inr (Or.inl rfl) | exact Or.inr (Or.inr rfl)) (hd : (x == ("__debug__" : Str)) = false := by decide)
    (hcd : (x == ("__classdict__" : Str)) = false := by decide)
    (hh : ∀ v, assign (.Subscript (.Name x p) b p2) X.env v = (do
      let ov ← holding [v] (eval (.Name x p) X.env)
      let iv ← holding [v, ov] (eval b X.env)
      standAt p2
      holding [v, ov, iv] (setItem ov iv v)
      release [v, ov, iv] []) := by intro _; rfl)
    (hs : swapsWithSole [.Subscript (.Name x p) b p2] a pos.line X.env = pure false := by rfl) (hw : swappedStores [.Subscript (.Name x p) b p2] a X.env = pure none := by rfl)
    (hq : (assignEach [.Subscript (.Name x p) b p2] X.env).map (·.2) = [assign (.Subscript (.Name x p) b p2) X.env] := by rfl) :
    QSs X Wx (s1 :: s2 :: .If c [.Assign [.Subscript (.Name x p) b p2] a pos] [] pos3 :: rest) (mSeq (mBlk i (mSeq m1 m2) mt mb ma) mr) := by
  obtain ⟨t1, p1, q1⟩ := h1
  obtain ⟨t2, p2, q2⟩ := h2
  obtain ⟨tt, pt, qt⟩ := ht
  obtain ⟨tb, pb, qb⟩ := hb
  obtain ⟨ta, pa, qa⟩ := ha
  obtain ⟨tr, pr, qr⟩ := hr
  exact ⟨_, pss_cons p1 (pss_cons p2 (pss_cons (ps_if pt (pss_one (ps_asg pa (pg_sub (pe_var hN hv hd hcd) pb set_list hh) hs hw hq)) pss_nil) pr)), (show SS X.K X.mg Wx (tSeq (tSeq (tSeq t1 t2) _) tr) _ from ss_seq (ss_blk (i := i) (ss_seq q1 q2) qt qb qa) qr)⟩
end
end Mir


set_option Elab.async false
set_option linter.all false
set_option maxRecDepth 100000
/-! len of an object by its own __len__; != by an own __eq__; == with something of another kind. -/
namespace Mir
open PySem PySem.Spec PyProof.Rows L2 PySem.Calls PyProof Builtin
open PySem.W (Frag)
/-! ### the steps of the model -/
section
variable {prog : Program} {w : World} {A : Around} {E : Value → Shared → Prop} {s : Shared} {K : Frag} {x C L f : Addr} {h₀ : Heap} {m : Str → Option Value} {ox : Obj} {od : Option Obj} {b tb : Value}
theorem ifBound_ne {M : Model} {args : List Value} {Q : Option Value → Shared → Prop} (X : K.In s.heap) (I : PySem.W.InstAt s.heap x ox C od) (hs : PySem.W.findIn K (.ref C) "__ne__" = some (some (.builtin "object.__ne__")))
    (h : wpAny M A (call (.builtin "object.__ne__") (.ref x :: args)) (fun v => Q (some v)) E s) : wpAny M A (callSpecialIfBound? (.ref x) "__ne__" args) Q E s := by
  simp only [callSpecialIfBound?, bindSpecialIfBound?]
  refine wpAny_holding (wpAny_bind (wpAny_bind (wpAny_bind (I.type.here ((PySem.W.looks_findIn X hs).here ?_)))))
  refine wpAny_bind (wpAny_askSetting (wpAny_ite ?_))
  have fin : wpAny M A (call (.builtin "object.__ne__") ([.ref x] ++ args) >>= fun v => pure (some v)) Q E s := wpAny_bind (wpAny_mono h (fun v s' h' => wpAny_pure h') fun _ _ h' => h')
  simp only [PySem.F.cmp_object.ne.bind]
  split
  · exact wpAny_bind (wpAny_pure (wpAny_pure fin))
  · exact wpAny_tryCatch (wpAny_bind (wpAny_pure (wpAny_pure fin)))
theorem objNe_K {Q : Fin → Shared → Prop} (hu : A.units < cLine) (X : K.In s.heap) (I : PySem.W.InstAt s.heap x ox C od) (hs : PySem.W.findIn K (.ref C) "__eq__" = some (some (.ref f))) (hf : PySem.W.isFn K (.ref f) = true)
    (hcall : wpAny (model prog w) A (call (.ref f) [.ref x, b]) (fun v s' => ∃ c, v = .bool c ∧ Q (.done (.ret (.bool (!c)))) s') E s) :
    wpAny (model prog w) A (Builtin.«object.__ne__» ⟨[.ref x, b], []⟩) Q E s := by
  unfold Builtin.«object.__ne__»
  repeat (first
    | with_reducible refine wpAny_cRoomFor hu ?_
    | (refine wpAny_bind (m := callSpecialIfBound? (.ref x) (Str.ofString "__eq__") [b])
        (PySem.W.ifBound_K X I hs hf (wpAny_mono hcall (fun r s' hr => by
          obtain ⟨c, rfl, hq⟩ := hr
          repeat (first | exact hq | exact wpAny_pure hq | exact wpAny_truthy_bool hq | (refine wpAny_bind (m := truthy (.bool _)) (wpAny_truthy_bool ?_)) | wp_step)) fun _ _ e => e)))
    | wp_step)
theorem ne_K {Q : Value → Shared → Prop} (hu : A.units + 1 < cLine) (F : Fr h₀ L s.heap m) (X₀ : K.In h₀) (I : PySem.W.InstAt s.heap x ox C od) (hb : PySem.W.Looks (model prog w) s.heap (typeOf b) tb) (hn : PySem.W.notFirst K C tb = true)
    (hs : PySem.W.findIn K (.ref C) "__eq__" = some (some (.ref f))) (hf : PySem.W.isFn K (.ref f) = true) (hne : PySem.W.findIn K (.ref C) "__ne__" = some (some (.builtin "object.__ne__"))) (hm : PySem.W.mroIn K C (.type "object") = some true)
    (h : wpAny (model prog w) A.in1 (call (.ref f) [.ref x, b]) (fun v s' => ∃ c, v = .bool c ∧ Q (.bool (!c)) s') E s) : wpAny (model prog w) A (richCompare .NotEq (.ref x) b) Q E s := by
  have X := X₀.keeps F.keep
  have one : wpAny (model prog w) A (tryCompare (.ref x) (cmpInfo .NotEq).2.1 b) (fun r s' => ∃ v, r = some v ∧ Q v s') E s := by
    unfold tryCompare
    refine wpAny_bind (ifBound_ne X I hne (wpAny_call (codeAny_call_builtin PySem.F.cmp_object.ne.plain PySem.F.cmpEntry_ne (PySem.W.check_slot PySem.F.cmpKind_ne PySem.F.cmpSplit_ne (I.type.andThen (PySem.W.looks_mroIn X hm)) (PySem.F.cmpArgs_ne _ _)
      (objNe_K (A := A.in1) hu X I hs hf (wpAny_mono h (fun v s' hv => ?_) fun _ _ e => e))))))
    obtain ⟨c, rfl, hq⟩ := hv
    first | exact ⟨c, rfl, wpAny_pure ⟨_, rfl, hq⟩⟩ | exact ⟨c, rfl, wpAny_pure (wpAny_pure ⟨_, rfl, hq⟩)⟩ | exact ⟨c, rfl, ⟨_, rfl, hq⟩⟩
  unfold richCompare
  simp only [oneThing_ref]
  refine wpAny_holding (wpAny_bind (wpAny_cRoomFor (Nat.lt_of_succ_lt hu) ?_))
  refine wpAny_bind (I.type.here (wpAny_bind (hb.here ?_)))
  split
  · rename_i q
    have e : PySem.W.subIn K tb (.ref C) = some false := by
      rcases Bool.or_eq_true_iff.mp hn with e | e
      · rw [beq_iff_eq.mp e] at q; simp at q
      · exact beq_iff_eq.mp e
    refine wpAny_bind ((PySem.W.looks_subIn X e).here ?_)
    simp only [Bool.false_eq_true, if_false]
    refine wpAny_bind (wpAny_mono one (fun r s' z => ?_) fun _ _ e => e)
    obtain ⟨v, rfl, hq⟩ := z
    exact wpAny_pure hq
  · refine wpAny_bind (wpAny_pure ?_)
    simp only [Bool.false_eq_true, if_false]
    refine wpAny_bind (wpAny_mono one (fun r s' z => ?_) fun _ _ e => e)
    obtain ⟨v, rfl, hq⟩ := z
    exact wpAny_pure hq
end
theorem env0_in1 {P : Program} {w : World} {K : Frag} {mg : Str → Option Value} {base : Heap} {A : Around} {outer : List Env} {s : Shared} {H : Hp} (e : Env0 P w K mg base A outer s H) : Env0 P w K mg base A.in1 outer s H :=
  ⟨by first | exact e.frames | (simpa [Around.in1] using e.frames), e.mod, e.bs, e.bsz, e.funs, e.frf, e.hok, e.bare⟩
/-- what the other one may be: an object of the class, or a thing of the kit -/
def OthK (K : Frag) (C : Addr) (H : Hp) (y : V) : Prop := (∃ b dy gs, y = .ref b ∧ H b = some (.ins C dy gs)) ∨ (∃ n : String, n ∈ ["tuple", "list", "str", "int"] ∧ TyX K H y (.type n))
theorem kinds_nf (K : Frag) (C : Addr) {n : String} (h : n ∈ ["tuple", "list", "str", "int"]) : PySem.W.notFirst K C (.type n) = true := by
  simp only [List.mem_cons, List.not_mem_nil, or_false] at h
  rcases h with rfl | rfl | rfl | rfl <;> rfl
section
variable {X : Cx} {pins : List (Addr × Obj)} {σ : L2.St} {H : Hp} {s : Shared}
theorem OthK.look {C : Addr} {y : V} {u : Value} (I : Inv X pins σ H s) (ry : RelV y u) (o : OthK X.K C H y) : ∃ tb, PySem.W.Looks (model X.prog X.w) s.heap (typeOf u) tb ∧ PySem.W.notFirst X.K C tb = true := by
  rcases o with ⟨b, dy, gs, rfl, eb⟩ | ⟨n, hn, ty⟩
  · cases (show u = Value.ref b from ry)
    obtain ⟨_, J2, _⟩ := ins_get I.hok eb
    obtain ⟨_, J2, _⟩ := J2.look
    exact ⟨_, J2.type, by simp [PySem.W.notFirst]⟩
  · obtain ⟨P, kx, hp, _⟩ := kit_of I ry ty
    exact ⟨_, kx.ty _ _ I.kIn hp, kinds_nf _ _ hn⟩
end
def rEqX (C : Addr) (K : Frag) (sp : Sp) : R2 := fun x y H Q => ∃ a dx fs, x = .ref a ∧ H a = some (.ins C dx fs) ∧ OthK K C H y ∧ sp [.ref a, y] H (fun v H' => ∃ c : Bool, v = .bl c ∧ Q (.bl c) H') (fun _ _ _ => False)
def rNeX (C : Addr) (K : Frag) (sp : Sp) : R2 := fun x y H Q => ∃ a dx fs, x = .ref a ∧ H a = some (.ins C dx fs) ∧ OthK K C H y ∧ sp [.ref a, y] H (fun v H' => ∃ c : Bool, v = .bl c ∧ Q (.bl (!c)) H') (fun _ _ _ => False)
def rLenO (C : Addr) (sp : Sp) : List V → Hp → VK → Prop := fun xs H Q => ∃ a dx fs, xs = [.ref a] ∧ H a = some (.ins C dx fs) ∧ sp [.ref a] H (fun v H' => ∃ n : Int, v = .int n ∧ (0 ≤ n ∧ n < 2 ^ 63) ∧ Q (.int n) H') (fun _ _ _ => False)
section
variable {X : Cx} {k : Nat} {f C : Addr} {fd : FuncData} {ps : List Str} {sp : Sp}
theorem op_eqX (hs : PySem.W.findIn X.K (.ref C) "__eq__" = some (some (.ref f))) (hf : PySem.W.isFn X.K (.ref f) = true) (F : FnOk X.prog X.w X.K X.mg X.base (L2.CX X.prog X.w) k f fd ps sp) (hr : Room k X.A) (hb : Binds X.K fd ps []) :
    OpR X (compareOp .Eq) (rEqX C X.K sp) := by
  intro pins s σ H x y v u Q I rx ry h
  obtain ⟨a, dx, fs, rfl, ea, oth, hsp⟩ := h
  cases (show v = Value.ref a from rx)
  obtain ⟨_, J1, _⟩ := ins_get I.hok ea
  obtain ⟨_, J1, _⟩ := J1.look
  obtain ⟨tb, hb1, hn⟩ := oth.look I ry
  obtain ⟨m, hF⟩ := I.fr
  show wpAny (model X.prog X.w) X.A (richCompare .Eq (.ref a) u) (EP X pins σ Q) X.xe s
  refine PySem.W.cmp_K (op := .Eq) (tb := tb) hr.units0 hF I.ok.mod.kin J1 hb1 hn hs hf ?_
  have ln := F.len _ _ _ _ hsp
  have rr : Vals [V.ref a, y] [Value.ref a, u] := .cons rfl (.cons ry .nil)
  have bd : BindsTo s fd ⟨[.ref a, u], []⟩ (ps.zip [.ref a, u]) := by
    have q := hb s [.ref a, u] I.kIn (by simpa using ln)
    simpa using q
  refine wpAny_call (codeAny_mono (F.run X.A X.stack s H ⟨[.ref a, u], []⟩ [.ref a, u] [.ref a, y] _ _ hr I.env0 bd rr hsp) fun res s' w => ?_)
  match res, w with
  | .error e, w => exact (cx_false w).elim
  | .ok (.ret u), w =>
    obtain ⟨v, H', I', rv, n, ev, q⟩ := I.after w
    subst ev
    cases (show u = Value.bool n from rv)
    exact ⟨.bl n, H', I', rfl, q⟩
  | .ok .next, w => exact w.elim
  | .ok .brk, w => exact w.elim
  | .ok .cont, w => exact w.elim
theorem op_neX (hs : PySem.W.findIn X.K (.ref C) "__eq__" = some (some (.ref f))) (hf : PySem.W.isFn X.K (.ref f) = true) (hne : PySem.W.findIn X.K (.ref C) "__ne__" = some (some (.builtin "object.__ne__"))) (hm : PySem.W.mroIn X.K C (.type "object") = some true)
    (F : FnOk X.prog X.w X.K X.mg X.base (L2.CX X.prog X.w) k f fd ps sp) (hr : Room (k + 1) X.A) (hb : Binds X.K fd ps []) : OpR X (compareOp .NotEq) (rNeX C X.K sp) := by
  intro pins s σ H x y v u Q I rx ry h
  obtain ⟨a, dx, fs, rfl, ea, oth, hsp⟩ := h
  cases (show v = Value.ref a from rx)
  obtain ⟨_, J1, _⟩ := ins_get I.hok ea
  obtain ⟨_, J1, _⟩ := J1.look
  obtain ⟨tb, hb1, hn⟩ := oth.look I ry
  obtain ⟨mm, hF⟩ := I.fr
  show wpAny (model X.prog X.w) X.A (richCompare .NotEq (.ref a) u) (EP X pins σ Q) X.xe s
  refine ne_K (tb := tb) (by have := hr.units; omega) hF I.ok.mod.kin J1 hb1 hn hs hf hne hm ?_
  have ln := F.len _ _ _ _ hsp
  have rr : Vals [V.ref a, y] [Value.ref a, u] := .cons rfl (.cons ry .nil)
  have bd : BindsTo s fd ⟨[.ref a, u], []⟩ (ps.zip [.ref a, u]) := by
    have q := hb s [.ref a, u] I.kIn (by simpa using ln)
    simpa using q
  refine wpAny_call (codeAny_mono (F.run X.A.in1 X.stack s H ⟨[.ref a, u], []⟩ [.ref a, u] [.ref a, y] _ _ hr.in1 (env0_in1 I.env0) bd rr hsp) fun res s' w => ?_)
  match res, w with
  | .error e, w => exact (cx_false w).elim
  | .ok (.ret u), w =>
    obtain ⟨v, H', I', rv, n, ev, q⟩ := I.after w
    subst ev
    cases (show u = Value.bool n from rv)
    exact ⟨n, rfl, .bl (!n), H', I', rfl, q⟩
  | .ok .next, w => exact w.elim
  | .ok .brk, w => exact w.elim
  | .ok .cont, w => exact w.elim
theorem call_lenO (hs : PySem.W.findIn X.K (.ref C) "__len__" = some (some (.ref f))) (hf : PySem.W.isFn X.K (.ref f) = true) (F : FnOk X.prog X.w X.K X.mg X.base (L2.CX X.prog X.w) k f fd ps sp) (hr : Room (k + 1) X.A) (hb : Binds X.K fd ps []) :
    CallR X (.builtin "len") (rLenO C sp) := by
  intro pins s σ H xs us Q I r h
  obtain ⟨a, dx, fs, rfl, ea, hsp⟩ := h
  obtain ⟨u, rfl, rx⟩ := vals1 r
  cases (show u = Value.ref a from rx)
  obtain ⟨_, J1, _⟩ := ins_get I.hok ea
  obtain ⟨_, J1, _⟩ := J1.look
  obtain ⟨m, hF⟩ := I.fr
  refine PySem.W.len_K hF I.ok.mod.kin J1 hs hf ?_
  have ln := F.len _ _ _ _ hsp
  have rr : Vals [V.ref a] [Value.ref a] := .cons rfl .nil
  have bd : BindsTo s fd ⟨[.ref a], []⟩ (ps.zip [.ref a]) := by
    have q := hb s [.ref a] I.kIn (by simpa using ln)
    simpa using q
  refine wpAny_call (codeAny_mono (F.run X.A.in1 X.stack s H ⟨[.ref a], []⟩ [.ref a] [.ref a] _ _ hr.in1 (env0_in1 I.env0) bd rr hsp) fun res s' w => ?_)
  match res, w with
  | .error e, w => exact (cx_false w).elim
  | .ok (.ret u), w =>
    obtain ⟨v, H', I', rv, n, ev, hn, q⟩ := I.after w
    subst ev
    obtain ⟨t, rfl⟩ := (show ∃ t, u = Value.int n t from rv)
    exact ⟨hn, .int n, H', I'.tok _, ⟨_, rfl⟩, q⟩
  | .ok .next, w => exact w.elim
  | .ok .brk, w => exact w.elim
  | .ok .cont, w => exact w.elim
end
/-! ### functions on data -/
def kindX : Dt → Bool
  | .tup _ => true
  | .lst _ => true
  | .str _ => true
  | .int _ => true
  | _ => false
def othD (c : Str) : Dt → Bool
  | .obj c2 _ => decide (c2 = c)
  | d => kindX d
open Classical in
/-- what the two are told to be, whatever the hand -/
noncomputable def fEqX (c : Str) (m : List Dt → Hd → R Dt) : Dt → Dt → Option Dt
  | .obj c1 fs, e => if h : (c1 = c ∧ othD c e = true) ∧ ∃ b : Bool, ∀ s, m [.obj c1 fs, e] s = .ok (.bl b) s then some (.bl (Classical.choose h.2)) else none
  | _, _ => none
open Classical in
noncomputable def fNeX (c : Str) (m : List Dt → Hd → R Dt) : Dt → Dt → Option Dt
  | .obj c1 fs, e => if h : (c1 = c ∧ othD c e = true) ∧ ∃ b : Bool, ∀ s, m [.obj c1 fs, e] s = .ok (.bl b) s then some (.bl (!(Classical.choose h.2))) else none
  | _, _ => none
open Classical in
theorem eqX_of {c : Str} {m : List Dt → Hd → R Dt} {fs : List (Str × Dt)} {e : Dt} {b : Bool} (h : ∀ s, m [.obj c fs, e] s = .ok (.bl b) s) (o : othD c e = true := by rfl) : fEqX c m (.obj c fs) e = some (.bl b) ∧ fNeX c m (.obj c fs) e = some (.bl (!b)) := by
  have k : (c = c ∧ othD c e = true) ∧ ∃ b : Bool, ∀ s, m [.obj c fs, e] s = .ok (.bl b) s := ⟨⟨rfl, o⟩, b, h⟩
  have q := Classical.choose_spec k.2
  have z := (q ⟨[], 0, 0⟩).symm.trans (h ⟨[], 0, 0⟩)
  have z2 : Classical.choose k.2 = b := by injection z with z _; injection z
  constructor
  · show (if h : _ then _ else _) = _
    rw [dif_pos k, z2]
  · show (if h : _ then _ else _) = _
    rw [dif_pos k, z2]
open Classical in
noncomputable def fLenO (c : Str) (m : List Dt → Hd → R Dt) : List Dt → Option Dt
  | [.obj c1 fs] => if h : c1 = c ∧ ∃ n : Nat, n < 2 ^ 63 ∧ ∀ s, m [.obj c1 fs] s = .ok (.int n) s then some (.int (Classical.choose h.2 : Nat)) else none
  | _ => none
open Classical in
theorem lenO_of {c : Str} {m : List Dt → Hd → R Dt} {fs : List (Str × Dt)} {n : Nat} (h : ∀ s, m [.obj c fs] s = .ok (.int n) s) (hn : n < 2 ^ 63) : fLenO c m [.obj c fs] = some (.int n) := by
  have k : c = c ∧ ∃ n : Nat, n < 2 ^ 63 ∧ ∀ s, m [.obj c fs] s = .ok (.int n) s := ⟨rfl, n, hn, h⟩
  have q := (Classical.choose_spec k.2).2
  have z := (q ⟨[], 0, 0⟩).symm.trans (h ⟨[], 0, 0⟩)
  have z2 : ((Classical.choose k.2 : Nat) : Int) = (n : Int) := by injection z with z _; injection z
  show (if h : _ then _ else _) = _
  rw [dif_pos k, z2]
section
variable {K : Frag} {mg : Str → Option Value} {c : Str} {C : Addr} {m : List Dt → Hd → R Dt}
theorem oth_of (hC : mg c = some (.ref C)) {h : Addr} {H0 H : Hp} {y : V} {e : Dt} (ex : Same H0 H) (hy : Den K mg h H0 y e) (o : othD c e = true) : OthK K C H y := by
  cases hy with
  | @obj a2 D2 dx2 _ fv2 _ m2 h2 r2 =>
    have e2 := of_decide_eq_true o
    subst e2
    obtain rfl : D2 = C := by rw [hC] at m2; cases m2; rfl
    exact .inl ⟨a2, dx2, fv2, rfl, ex _ _ h2⟩
  | tup q r => exact .inr ⟨"tuple", by decide, TyX.of (Den.mono ex (.tup q r)) rfl⟩
  | lst q r => exact .inr ⟨"list", by decide, TyX.of (Den.mono ex (.lst q r)) rfl⟩
  | str x => exact .inr ⟨"str", by decide, TyX.of (h := h) (mg := mg) (.str x) rfl⟩
  | int i => exact .inr ⟨"int", by decide, TyX.of (h := h) (mg := mg) (.int i) rfl⟩
  | non => cases o
  | bl b => cases o
  | hnd => cases o
  | dct q => cases o
  | fn q => cases o
open Classical in
theorem os_eqX (hC : mg c = some (.ref C)) : OpS K mg (rEqX C K (spM K mg 2 m)) (fEqX c m) := by
  intro h H0 H s x y d e z Q g0 hx hy hz q
  unfold fEqX at hz
  split at hz
  · rename_i c1 fs e
    split at hz
    · rename_i hh
      obtain ⟨⟨e1, oo⟩, eb⟩ := hh
      have qb := Classical.choose_spec eb
      generalize Classical.choose eb = b at *
      cases hz
      subst e1
      cases hx with
      | @obj a1 D1 dx1 _ fv1 _ m1 h1 r1 =>
        obtain rfl : D1 = C := by rw [hC] at m1; cases m1; rfl
        refine ⟨a1, dx1, fv1, rfl, g0.ex _ _ h1, oth_of hC g0.ex hy oo, rfl, h, H0, s, _, g0, .cons (.obj m1 h1 r1) (.cons hy .nil), ?_⟩
        rw [qb s]
        exact fun u A' B' st g1 du => by
          cases du
          exact ⟨b, rfl, q _ A' B' st g1 (.bl b)⟩
    · cases hz
  · cases hz
open Classical in
theorem os_neX (hC : mg c = some (.ref C)) : OpS K mg (rNeX C K (spM K mg 2 m)) (fNeX c m) := by
  intro h H0 H s x y d e z Q g0 hx hy hz q
  unfold fNeX at hz
  split at hz
  · rename_i c1 fs e
    split at hz
    · rename_i hh
      obtain ⟨⟨e1, oo⟩, eb⟩ := hh
      have qb := Classical.choose_spec eb
      generalize Classical.choose eb = b at *
      cases hz
      subst e1
      cases hx with
      | @obj a1 D1 dx1 _ fv1 _ m1 h1 r1 =>
        obtain rfl : D1 = C := by rw [hC] at m1; cases m1; rfl
        refine ⟨a1, dx1, fv1, rfl, g0.ex _ _ h1, oth_of hC g0.ex hy oo, rfl, h, H0, s, _, g0, .cons (.obj m1 h1 r1) (.cons hy .nil), ?_⟩
        rw [qb s]
        exact fun u A' B' st g1 du => by
          cases du
          exact ⟨b, rfl, q _ A' B' st g1 (.bl (!b))⟩
    · cases hz
  · cases hz
open Classical in
theorem cs_lenO (hC : mg c = some (.ref C)) : CaS K mg (rLenO C (spM K mg 1 m)) (fLenO c m) := by
  intro h H0 H s xs ds z Q g0 hx hz q
  unfold fLenO at hz
  split at hz
  · rename_i c1 fs
    split at hz
    · rename_i hh
      obtain ⟨e1, eb⟩ := hh
      have qb := Classical.choose_spec eb
      generalize Classical.choose eb = b at *
      cases hz
      subst e1
      cases hx with
      | cons hx r =>
        cases r
        cases hx with
        | @obj a1 D1 dx1 _ fv1 _ m1 h1 r1 =>
          obtain rfl : D1 = C := by rw [hC] at m1; cases m1; rfl
          refine ⟨a1, dx1, fv1, rfl, g0.ex _ _ h1, rfl, h, H0, s, _, g0, .cons (.obj m1 h1 r1) .nil, ?_⟩
          rw [qb.2 s]
          exact fun u A' B' st g1 du => by
            cases du
            exact ⟨b, rfl, ⟨by omega, by have := qb.1; omega⟩, q _ A' B' st g1 (.int b)⟩
    · cases hz
  · cases hz
end
/-- what != asks of a class beside its __eq__ -/
structure NeOk (K : Frag) (mg : Str → Option Value) (c : Str) : Prop where
  ex : ∀ C : Addr, mg c = some (.ref C) → PySem.W.findIn K (.ref C) "__ne__" = some (some (.builtin "object.__ne__")) ∧ PySem.W.mroIn K C (.type "object") = some true
section
variable {X : Cx} {Wx : WX} {a b : Expr} {ma mb : ME} {pos p : Pos} {c : Str} {k j : Nat} {m : List Dt → Hd → R Dt}
theorem qe_eqX (M : Method X.prog X.w X.K X.mg X.base k c "__eq__" 2 [] m) (hr : Room j X.A) (hk : k ≤ j) (ha : QE X Wx a ma) (hb : QE X Wx b mb) (hm : behindInMarks .Eq b = false) : QE X Wx (.Compare a [.Eq] [b] pos) (mOp (fEqX c m) ma mb) := by
  obtain ⟨C, f, fd, ps, dvs, dsV, hC, cl, mt, F, hbd, hd, hdd⟩ := M
  obtain rfl : dvs = [] := by cases hdd 0 (fun _ => none); rfl
  cases hd
  exact qe_cmp (op_eqX mt.at_ mt.fn F (hr.mono hk) hbd) (os_eqX hC) ha hb hm
theorem qt_eqX (M : Method X.prog X.w X.K X.mg X.base k c "__eq__" 2 [] m) (hr : Room j X.A) (hk : k ≤ j) (ha : QE X Wx a ma) (hb : QE X Wx b mb) (hm : behindInMarks .Eq b = false) : QT X Wx (.Compare a [.Eq] [b] pos) (mTest (mOp (fEqX c m) ma mb)) := by
  obtain ⟨C, f, fd, ps, dvs, dsV, hC, cl, mt, F, hbd, hd, hdd⟩ := M
  obtain rfl : dvs = [] := by cases hdd 0 (fun _ => none); rfl
  cases hd
  exact qt_cmp (op_eqX mt.at_ mt.fn F (hr.mono hk) hbd) (os_eqX hC) ha hb hm
theorem qe_neX (M : Method X.prog X.w X.K X.mg X.base k c "__eq__" 2 [] m) (N : NeOk X.K X.mg c) (hr : Room j X.A) (hk : k + 1 ≤ j) (ha : QE X Wx a ma) (hb : QE X Wx b mb) (hm : behindInMarks .NotEq b = false) : QE X Wx (.Compare a [.NotEq] [b] pos) (mOp (fNeX c m) ma mb) := by
  obtain ⟨C, f, fd, ps, dvs, dsV, hC, cl, mt, F, hbd, hd, hdd⟩ := M
  obtain rfl : dvs = [] := by cases hdd 0 (fun _ => none); rfl
  cases hd
  obtain ⟨n1, n2⟩ := N.ex C hC
  exact qe_cmp (op_neX mt.at_ mt.fn n1 n2 F (hr.mono hk) hbd) (os_neX hC) ha hb hm
theorem qt_neX (M : Method X.prog X.w X.K X.mg X.base k c "__eq__" 2 [] m) (N : NeOk X.K X.mg c) (hr : Room j X.A) (hk : k + 1 ≤ j) (ha : QE X Wx a ma) (hb : QE X Wx b mb) (hm : behindInMarks .NotEq b = false) : QT X Wx (.Compare a [.NotEq] [b] pos) (mTest (mOp (fNeX c m) ma mb)) := by
  obtain ⟨C, f, fd, ps, dvs, dsV, hC, cl, mt, F, hbd, hd, hdd⟩ := M
  obtain rfl : dvs = [] := by cases hdd 0 (fun _ => none); rfl
  cases hd
  obtain ⟨n1, n2⟩ := N.ex C hC
  exact qt_cmp (op_neX mt.at_ mt.fn n1 n2 F (hr.mono hk) hbd) (os_neX hC) ha hb hm
theorem qe_lenO (M : Method X.prog X.w X.K X.mg X.base k c "__len__" 1 [] m) (hr : Room j X.A) (hk : k + 1 ≤ j) (ha : QE X Wx a ma) (hg : Gl X "len") (hm : X.mg "len" = none) (he : starEach [a] X.env = (false, eval a X.env) :: starEach [] X.env := by rfl)
    (hpl : (backTo pos (starEach [] X.env)).any (·.1) = false := by rfl) : QE X Wx (.Call (.Name "len" p) [a] [] pos) (mCB (fLenO c m) (mCons ma mNil)) := by
  obtain ⟨C, f, fd, ps, dvs, dsV, hC, cl, mt, F, hbd, hd, hdd⟩ := M
  obtain rfl : dvs = [] := by cases hdd 0 (fun _ => none); rfl
  cases hd
  exact qe_callB (call_lenO mt.at_ mt.fn F (hr.mono hk) hbd) (cs_lenO hC) hg hm (by decide +kernel) (qa_cons ha qa_nil he) (he := he) (hpl := hpl)
end
end Mir


set_option Elab.async false
set_option linter.all false
set_option maxRecDepth 100000
namespace Law
open PySem PySem.Spec PyProof.Rows L2 Mir
open PySem.W (Frag)
noncomputable section
def m__law_take : List Dt → Hd → R Dt := mTake
def b_Arms____eq__ : MS :=
  (mRet (mAndV (mIsiO "Arms" (mVar 1)) (mOp fEq (mAttr ["Arms"] "bars" (mVar 0)) (mAttr ["Arms"] "bars" (mVar 1)))))
def m_Arms____eq__ : List Dt → Hd → R Dt := mDef 2 b_Arms____eq__
def b_is_whole : MS :=
  (mSeq (mIfS (mOr (mNot (mTru (mIsi "int" (mVar 0)))) (mTru (mIsi "bool" (mVar 0)))) (mRet (mC (.bl false))) mNext)
    (mRet (mAndV (mOrV (mOp fIs (mVar 1) (mC .non)) (mOp fGe (mVar 0) (mVar 1))) (mOrV (mOp fIs (mVar 2) (mC .non)) (mOp fLe (mVar 0) (mVar 2))))))
def m_is_whole : List Dt → Hd → R Dt := mDef 3 b_is_whole
def b_is_ratio : MS :=
  (mSeq (mIfS (mOr (mNot (mTru (mIsi "tuple" (mVar 0)))) (mTest (mOp fNe (mCB fLen (mCons (mVar 0) mNil)) (mC (.int 2))))) (mRet (mC (.bl false))) mNext)
    (mSeq (mAsg (gmSeq 2 (gmCons (gmName 1) (gmCons (gmName 2) gmNil))) (mVar 0))
    (mRet (mAndV (mCall 3 [.non, .non] m_is_whole (mCons (mVar 1) mNil)) (mAndV (mCall 3 [.non] m_is_whole (mCons (mVar 2) (mCons (mC (.int 1)) mNil))) (mOp fEq (mCB fGcd (mCons (mVar 1) (mCons (mVar 2) mNil))) (mC (.int 1))))))))
def m_is_ratio : List Dt → Hd → R Dt := mDef 3 b_is_ratio
def b_is_row : MS :=
  (mSeq (mIfS (mNot (mTru (mIsi2 "list" "tuple" (mVar 0)))) (mRet (mC (.bl false))) mNext)
    (mRet (mAndV (mOp fGe (mCB fLen (mCons (mVar 0) mNil)) (mVar 1)) (mOrV (mOp fIs (mVar 2) (mC .non)) (mOp fLe (mCB fLen (mCons (mVar 0) mNil)) (mVar 2))))))
def m_is_row : List Dt → Hd → R Dt := mDef 3 b_is_row
def b__check_bar : MS :=
  (mSeq (mIfS (mNot (mTru (mCall 3 [] m_is_row (mCons (mVar 1) (mCons (mC (.int 3)) (mCons (mC (.int 3)) mNil)))))) (mRaise "BadArms" ["index", "what"] (mCons (mVar 0) (mCons (mC (.str "bar")) mNil))) mNext)
    (mSeq (mAsg (gmSeq 3 (gmCons (gmName 2) (gmCons (gmName 3) (gmCons (gmName 4) gmNil)))) (mVar 1))
    (mSeq (mIfS (mNot (mTru (mCall 3 [] m_is_whole (mCons (mVar 2) (mCons (mC (.int (-1))) (mCons (mOp fSub (mVar 0) (mC (.int 1))) mNil)))))) (mRaise "BadArms" ["index", "what"] (mCons (mVar 0) (mCons (mC (.str "host")) mNil))) mNext)
    (mSeq (mIfS (mNot (mTru (mCall 1 [] m_is_ratio (mCons (mVar 3) mNil)))) (mRaise "BadArms" ["index", "what"] (mCons (mVar 0) (mCons (mC (.str "mark")) mNil))) mNext)
    (mIfS (mNot (mTru (mCall 3 [] m_is_whole (mCons (mVar 4) (mCons (mC (.int 0)) (mCons (mC (.int 4)) mNil)))))) (mRaise "BadArms" ["index", "what"] (mCons (mVar 0) (mCons (mC (.str "letter")) mNil))) mNext)))))
def m__check_bar : List Dt → Hd → R Dt := mDef 5 b__check_bar
def b__check_bars : MS :=
  (mSeq (mIfS (mNot (mTru (mCall 3 [] m_is_row (mCons (mVar 0) (mCons (mC (.int 1)) (mCons (mC (.int 6)) mNil)))))) (mRaise "BadArms" ["index", "what"] (mCons (mC (.int 0)) (mCons (mC (.str "many")) mNil))) mNext)
    (mFor (gmSeq 2 (gmCons (gmName 1) (gmCons (gmName 2) gmNil))) (mEnum (mVar 0))
      (mDrop (mCall 2 [] m__check_bar (mCons (mVar 1) (mCons (mVar 2) mNil))))))
def m__check_bars : List Dt → Hd → R Dt := mDef 3 b__check_bars
def b__count_letters : MS :=
  (mSeq (mSet 1 (mLc (gmName 2) (mSeqI (mVar 0)) mYes (mOp fIx (mVar 2) (mC (.int 2))) [2]))
    (mSeq (mSet 3 (mCB fMax (mCons (mVar 1) mNil)))
    (mSeq (mIfS (mOr (mTest (mOp fEq (mVar 3) (mC (.int 0)))) (mNot (mTru (mCB fAll (mCons (mLc (gmName 4) (mRng2 (mC (.int 1)) (mOp fAdd (mVar 3) (mC (.int 1)))) mYes (mOp fIn (mVar 4) (mVar 1)) [4]) mNil))))) (mRaise "BadArms" ["index", "what"] (mCons (mC (.int 0)) (mCons (mC (.str "gap")) mNil))) mNext)
    (mRet (mVar 3)))))
def m__count_letters : List Dt → Hd → R Dt := mDef 5 b__count_letters
def b_Arms____init__ : MS :=
  (mSeq (mDrop (mCall 1 [] m__check_bars (mCons (mVar 1) mNil)))
    (mSeq (mFld 0 ["Arms"] "letters" (mCall 1 [] m__count_letters (mCons (mVar 1) mNil)))
    (mFld 0 ["Arms"] "bars" (mCB fTupC (mCons (mLc (gmName 2) (mSeqI (mVar 1)) mYes (mCB fTupC (mCons (mVar 2) mNil)) [2]) mNil)))))
def m_Arms____init__ : List Dt → Hd → R (List (Str × Dt)) := mInit 3 "Arms" b_Arms____init__
def b_Arms____len__ : MS :=
  (mRet (mCB fLen (mCons (mAttr ["Arms"] "bars" (mVar 0)) mNil)))
def m_Arms____len__ : List Dt → Hd → R Dt := mDef 1 b_Arms____len__
def b__law_letters : MS :=
  (mSeq (mSet 3 (mOp fAdd (mC (.int 1)) (mCall 2 [] m__law_take (mCons (mVar 0) (mCons (mCB fMin (mCons (mVar 1) (mCons (mVar 2) mNil))) mNil)))))
    (mSeq (mSetO 4 (mToL (mLc (gmName 5) (mRng1 (mVar 1)) mYes (mIf (mTest (mOp fLt (mVar 5) (mVar 3))) (mOp fAdd (mVar 5) (mC (.int 1))) (mCall 2 [] m__law_take (mCons (mVar 0) (mCons (mOp fAdd (mVar 3) (mC (.int 1))) mNil)))) [5])))
    (mSeq (mFor (gmName 5) (mRngD (mOp fSub (mVar 1) (mC (.int 1))) (mC (.int 0)))
      (mSeq (mSet 6 (mCall 2 [] m__law_take (mCons (mVar 0) (mCons (mOp fAdd (mVar 5) (mC (.int 1))) mNil))))
    (mSwp 4 (mVar 5) (mVar 6) (mIxO 4 (mVar 6)) (mIxO 4 (mVar 5)))))
    (mFrz [4] (mRet (mVar 4))))))
def m__law_letters : List Dt → Hd → R Dt := mDef 7 b__law_letters
def b__law_gcd : MS :=
  (mSeq (mPar 0 1 (mCons (mCB fAbs (mCons (mVar 0) mNil)) (mCons (mCB fAbs (mCons (mVar 1) mNil)) mNil)))
    (mSeq (mWhile (mTru (mVar 1)) (mPar 0 1 (mCons (mVar 1) (mCons (mOp fMod (mCB fIntC (mCons (mVar 0) mNil)) (mVar 1)) mNil))))
    (mRet (mVar 0))))
def m__law_gcd : List Dt → Hd → R Dt := mDef 2 b__law_gcd
def b__law_ratio : MS :=
  (mSeq (mSet 2 (mCall 2 [] m__law_gcd (mCons (mVar 0) (mCons (mVar 1) mNil))))
    (mSeq (mIfS (mTest (mOp fLt (mVar 1) (mC (.int 0)))) (mSet 2 (mUn fNeg (mVar 2))) mNext)
    (mRet (mTup (mCons (mOp fDiv (mVar 0) (mVar 2)) (mCons (mOp fDiv (mVar 1) (mVar 2)) mNil))))))
def m__law_ratio : List Dt → Hd → R Dt := mDef 3 b__law_ratio
def b__law_mark : MS :=
  (mRet (mCall 2 [] m__law_ratio (mCons (mOp fSub (mCall 2 [] m__law_take (mCons (mVar 0) (mCons (mC (.int 13)) mNil))) (mC (.int 4))) (mCons (mC (.int 2)) mNil))))
def m__law_mark : List Dt → Hd → R Dt := mDef 1 b__law_mark
def b__law_bars : MS :=
  (mSeq (mSet 2 (mOp fIx (mLst (mCons (mC (.int 2)) (mCons (mC (.int 1)) (mCons (mC (.int 3)) (mCons (mC (.int 2)) (mCons (mC (.int 3)) (mCons (mC (.int 2)) (mCons (mC (.int 3)) (mCons (mC (.int 6)) mNil))))))))) (mCall 2 [] m__law_take (mCons (mVar 0) (mCons (mC (.int 8)) mNil)))))
    (mSeq (mSet 3 (mCall 3 [] m__law_letters (mCons (mVar 0) (mCons (mVar 2) (mCons (mVar 1) mNil)))))
    (mSeq (mSetO 4 (mLstO mNil))
    (mSeq (mFor (gmName 5) (mRng1 (mVar 2))
      (mApp 4 (mTup (mCons (mOp fSub (mCall 2 [] m__law_take (mCons (mVar 0) (mCons (mOp fAdd (mVar 5) (mC (.int 1))) mNil))) (mC (.int 1))) (mCons (mCall 1 [] m__law_mark (mCons (mVar 0) mNil)) (mCons (mOp fIx (mVar 3) (mVar 5)) mNil))))))
    (mRet (mBor 4 (mCB fTupC (mCons (mVar 4) mNil))))))))
def m__law_bars : List Dt → Hd → R Dt := mDef 6 b__law_bars
def b__law_made : MS :=
  (mTryAs 1 "BadArms" (mRet (mMake "Arms" 1 [] m_Arms____init__ (mCons (mVar 0) mNil))) (xRet (xTup (xCons (xFld "index") (xCons (xFld "what") xNil)))))
def m__law_made : List Dt → Hd → R Dt := mDef 2 b__law_made
def b__law_most : MS :=
  (mRet (mCB fMax (mCons (mLc (gmName 1) (mSeqI (mVar 0)) mYes (mOp fIx (mVar 1) (mC (.int 2))) [1]) mNil)))
def m__law_most : List Dt → Hd → R Dt := mDef 2 b__law_most
def b__law_gaps : MS :=
  (mSeq (mSet 2 (mLc (gmSeq 3 (gmCons (gmName 3) (gmCons (gmName 4) (gmCons (gmName 5) gmNil)))) (mSeqI (mVar 1)) mYes (mTup (mCons (mVar 3) (mCons (mVar 4) (mCons (mC (.int 0)) mNil)))) [3, 4, 5]))
    (mSeq (mIfS (mTest (mOp fNe (mCall 1 [] m__law_made (mCons (mVar 2) mNil)) (mTup (mCons (mC (.int 0)) (mCons (mC (.str "gap")) mNil))))) (mRet (mC (.bl false))) mNext)
    (mSeq (mIfS (mTest (mOp fLt (mCall 1 [] m__law_most (mCons (mVar 1) mNil)) (mC (.int 4)))) (mSeq (mSet 6 (mLc (gmSeq 3 (gmCons (gmName 3) (gmCons (gmName 4) (gmCons (gmName 5) gmNil)))) (mSeqI (mVar 1)) mYes (mTup (mCons (mVar 3) (mCons (mVar 4) (mCons (mIf (mTru (mVar 5)) (mOp fAdd (mVar 5) (mC (.int 1))) (mC (.int 0))) mNil)))) [3, 4, 5]))
    (mIfS (mTest (mOp fNe (mCall 1 [] m__law_made (mCons (mVar 6) mNil)) (mTup (mCons (mC (.int 0)) (mCons (mC (.str "gap")) mNil))))) (mRet (mC (.bl false))) mNext)) mNext)
    (mSeq (mSet 7 (mSl (mOp fAdd (mCB fListC (mCons (mVar 1) mNil)) (mOp fMul (mLst (mCons (mTup (mCons (mUn fNeg (mC (.int 1))) (mCons (mTup (mCons (mC (.int 0)) (mCons (mC (.int 1)) mNil))) (mCons (mC (.int 1)) mNil)))) mNil)) (mC (.int 6)))) mPartN (mPart (mC (.int 7)))))
    (mSeq (mIfS (mOr (mTest (mOp fNe (mCall 1 [] m__law_made (mCons (mVar 7) mNil)) (mTup (mCons (mC (.int 0)) (mCons (mC (.str "many")) mNil))))) (mNot (mTru (mIsiO "Arms" (mCall 1 [] m__law_made (mCons (mSl (mOp fAdd (mCB fListC (mCons (mVar 1) mNil)) (mOp fMul (mLst (mCons (mLst (mCons (mUn fNeg (mC (.int 1))) (mCons (mTup (mCons (mC (.int 0)) (mCons (mC (.int 1)) mNil))) (mCons (mC (.int 1)) mNil)))) mNil)) (mC (.int 6)))) mPartN (mPart (mC (.int 6)))) mNil)))))) (mRet (mC (.bl false))) mNext)
    (mSeq (mSet 8 (mOp fIx (mLst (mCons (mTup mNil) (mCons (mLst mNil) (mCons (mC .non) (mCons (mC (.str "bars")) (mCons (mC (.int 3)) (mCons (mDctG (mC (.int 0)) (mOp fIx (mVar 1) (mC (.int 0)))) mNil))))))) (mCall 2 [] m__law_take (mCons (mVar 0) (mCons (mC (.int 6)) mNil)))))
    (mRet (mOp fEq (mCall 1 [] m__law_made (mCons (mVar 8) mNil)) (mTup (mCons (mC (.int 0)) (mCons (mC (.str "many")) mNil)))))))))))
def m__law_gaps : List Dt → Hd → R Dt := mDef 9 b__law_gaps
def b__law_lists : MS :=
  (mSeq (mSetO 2 (mLstO mNil))
    (mSeq (mFor (gmName 3) (mSeqI (mVar 1))
      (mApp 2 (mIf (mTru (mCall 2 [] m__law_take (mCons (mVar 0) (mCons (mC (.int 2)) mNil)))) (mLc (gmName 4) (mSeqI (mVar 3)) mYes (mVar 4) [4]) (mCB fTupC (mCons (mVar 3) mNil)))))
    (mFrz [2] (mRet (mIf (mTru (mCall 2 [] m__law_take (mCons (mVar 0) (mCons (mC (.int 2)) mNil)))) (mVar 2) (mCB fTupC (mCons (mVar 2) mNil)))))))
def m__law_lists : List Dt → Hd → R Dt := mDef 5 b__law_lists
def b__law_plus : MS :=
  (mRet (mCall 2 [] m__law_ratio (mCons (mOp fAdd (mOp fMul (mOp fIx (mVar 0) (mC (.int 0))) (mOp fIx (mVar 1) (mC (.int 1)))) (mOp fMul (mOp fIx (mVar 1) (mC (.int 0))) (mOp fIx (mVar 0) (mC (.int 1))))) (mCons (mOp fMul (mOp fIx (mVar 0) (mC (.int 1))) (mOp fIx (mVar 1) (mC (.int 1)))) mNil))))
def m__law_plus : List Dt → Hd → R Dt := mDef 2 b__law_plus
def b__law_tuples (m__law_tuples : List Dt → Hd → R Dt) : MS :=
  (mSeq (mIfS (mTru (mIsi "tuple" (mVar 0))) (mRet (mNotV (mLc (gmName 1) (mSeqI (mVar 0)) (mNot (mTru (mCall 1 [] m__law_tuples (mCons (mVar 1) mNil)))) (mC (.int 1)) [1]))) mNext)
    (mRet (mOrV (mOp fIs (mVar 0) (mC .non)) (mOrV (mIsi "str" (mVar 0)) (mAndV (mIsi "int" (mVar 0)) (mNotV (mIsi "bool" (mVar 0))))))))
def rec__law_tuples : Nat → List Dt → Hd → R Dt
  | 0 => mNone
  | n + 1 => mDef 2 (b__law_tuples (rec__law_tuples n))
def m__law_tuples : List Dt → Hd → R Dt := (rec__law_tuples 16)
def b__law_wide : MS :=
  (mSeq (mSet 1 (mCall 2 [] m__law_take (mCons (mVar 0) (mCons (mC (.int 9)) mNil))))
    (mSeq (mIfS (mTest (mOp fLt (mVar 1) (mC (.int 6)))) (mRet (mOp fSub (mCall 2 [] m__law_take (mCons (mVar 0) (mCons (mC (.int 25)) mNil))) (mC (.int 12)))) mNext)
    (mSeq (mSet 2 (mC (.int 0)))
    (mSeq (mFor (gmName 3) (mRng1 (mIf (mTest (mOp fLt (mVar 1) (mC (.int 8)))) (mC (.int 1)) (mC (.int 5))))
      (mSet 2 (mOp fAdd (mOp fMul (mVar 2) (mOp fPow (mC (.int 10)) (mC (.int 9)))) (mCall 2 [] m__law_take (mCons (mVar 0) (mCons (mOp fPow (mC (.int 10)) (mC (.int 9))) mNil))))))
    (mRet (mOp fMul (mVar 2) (mOp fSub (mC (.int 1)) (mOp fMul (mC (.int 2)) (mCall 2 [] m__law_take (mCons (mVar 0) (mCons (mC (.int 2)) mNil)))))))))))
def m__law_wide : List Dt → Hd → R Dt := mDef 4 b__law_wide
def b__law_wide_ratio : MS :=
  (mRet (mCall 2 [] m__law_ratio (mCons (mCall 1 [] m__law_wide (mCons (mVar 0) mNil)) (mCons (mOp fAdd (mC (.int 1)) (mCB fAbs (mCons (mCall 1 [] m__law_wide (mCons (mVar 0) mNil)) mNil))) mNil))))
def m__law_wide_ratio : List Dt → Hd → R Dt := mDef 1 b__law_wide_ratio
def b__law_odd : MS :=
  (mSeq (mSet 1 (mOp fSub (mCall 2 [] m__law_take (mCons (mVar 0) (mCons (mC (.int 9)) mNil))) (mC (.int 4))))
    (mSeq (mSet 2 (mLst (mCons (mVar 1) (mCons (mLst (mCons (mVar 1) (mCons (mC (.int 1)) mNil))) (mCons (mTup (mCons (mVar 1) (mCons (mC (.int 0)) mNil))) (mCons (mTup (mCons (mOp fMul (mC (.int 2)) (mVar 1)) (mCons (mC (.int 2)) mNil))) (mCons (mTup (mCons (mVar 1) (mCons (mC (.int 1)) (mCons (mC (.int 1)) mNil)))) (mCons (mTup (mCons (mC (.bl true)) (mCons (mC (.int 1)) mNil))) mNil))))))))
    (mSeq (mSet 2 (mOp fAdd (mVar 2) (mLst (mCons (mTup (mCons (mVar 1) (mCons (mC (.bl true)) mNil))) (mCons (mC .non) (mCons (mC (.str "1")) (mCons (mTup (mCons (mVar 1) (mCons (mUn fNeg (mC (.int 1))) mNil))) (mCons (mTup (mCons (mVar 1) mNil)) (mCons (mTup mNil) mNil)))))))))
    (mRet (mOp fIx (mVar 2) (mCall 2 [] m__law_take (mCons (mVar 0) (mCons (mC (.int 12)) mNil))))))))
def m__law_odd : List Dt → Hd → R Dt := mDef 3 b__law_odd
def b__law_faults : MS :=
  (mSeq (mAsg (gmSeq 3 (gmCons (gmName 3) (gmCons (gmName 4) (gmCons (gmName 5) gmNil)))) (mOp fIx (mVar 1) (mVar 2)))
    (mSeq (mSet 6 (mOp fIx (mLst (mCons (mVar 2) (mCons (mUn fNeg (mC (.int 2))) (mCons (mOp fAdd (mVar 2) (mC (.int 7))) (mCons (mC (.bl true)) (mCons (mC .non) (mCons (mTup (mCons (mC (.int 0)) (mCons (mC (.int 1)) mNil))) (mCons (mC (.str "mast")) mNil)))))))) (mCall 2 [] m__law_take (mCons (mVar 0) (mCons (mC (.int 7)) mNil)))))
    (mSeq (mSet 7 (mOp fIx (mLst (mCons (mUn fNeg (mC (.int 1))) (mCons (mC (.int 5)) (mCons (mC (.bl true)) (mCons (mC .non) (mCons (mTup (mCons (mC (.int 1)) (mCons (mC (.int 1)) mNil))) (mCons (mOp fAdd (mC (.int 5)) (mCall 2 [] m__law_take (mCons (mVar 0) (mCons (mOp fPow (mC (.int 10)) (mC (.int 9))) mNil)))) (mCons (mC (.str "1")) mNil)))))))) (mCall 2 [] m__law_take (mCons (mVar 0) (mCons (mC (.int 7)) mNil)))))
    (mSeq (mSet 8 (mOp fIx (mLst (mCons (mC .non) (mCons (mC (.int 7)) (mCons (mTup (mCons (mVar 3) (mCons (mVar 4) mNil))) (mCons (mTup (mCons (mVar 3) (mCons (mVar 4) (mCons (mVar 5) (mCons (mVar 5) mNil))))) (mCons (mC (.str "bar")) (mCons (mLst mNil) (mCons (mDctG (mVar 3) (mVar 4)) mNil)))))))) (mCall 2 [] m__law_take (mCons (mVar 0) (mCons (mC (.int 7)) mNil)))))
    (mSeq (mSet 9 (mCall 1 [] m__law_odd (mCons (mVar 0) mNil)))
    (mRet (mLst (mCons (mTup (mCons (mVar 8) (mCons (mC (.str "bar")) mNil))) (mCons (mTup (mCons (mTup (mCons (mVar 6) (mCons (mVar 9) (mCons (mVar 7) mNil)))) (mCons (mC (.str "host")) mNil))) (mCons (mTup (mCons (mLst (mCons (mVar 3) (mCons (mVar 9) (mCons (mVar 7) mNil)))) (mCons (mC (.str "mark")) mNil))) (mCons (mTup (mCons (mTup (mCons (mVar 3) (mCons (mVar 4) (mCons (mVar 7) mNil)))) (mCons (mC (.str "letter")) mNil))) mNil)))))))))))
def m__law_faults : List Dt → Hd → R Dt := mDef 10 b__law_faults
def b__law_wrong : MS :=
  (mSeq (mSet 2 (mCall 2 [] m__law_take (mCons (mVar 0) (mCons (mCB fLen (mCons (mVar 1) mNil)) mNil))))
    (mSeq (mSet 3 (mCall 3 [] m__law_faults (mCons (mVar 0) (mCons (mVar 1) (mCons (mVar 2) mNil)))))
    (mSeq (mFor (gmSeq 2 (gmCons (gmName 4) (gmCons (gmName 5) gmNil))) (mSeqI (mVar 3))
      (mSeq (mSetO 6 (mCatO (mOp fAdd (mCB fListC (mCons (mSl (mVar 1) mPartN (mPart (mVar 2))) mNil)) (mLst (mCons (mVar 4) mNil))) (mCB fListC (mCons (mSl (mVar 1) (mPart (mOp fAdd (mVar 2) (mC (.int 1)))) mPartN) mNil))))
    (mIfS (mTest (mOp fNe (mBor 6 (mCall 1 [] m__law_made (mCons (mVar 6) mNil))) (mTup (mCons (mVar 2) (mCons (mVar 5) mNil))))) (mRet (mC (.bl false))) mNext)))
    (mSeq (mAsg (gmSeq 2 (gmCons (gmName 4) (gmCons (gmName 5) gmNil))) (mOp fIx (mVar 3) (mCall 2 [] m__law_take (mCons (mVar 0) (mCons (mC (.int 4)) mNil)))))
    (mSeq (mSetO 6 (mCatO (mOp fAdd (mCB fListC (mCons (mSl (mVar 1) mPartN (mPart (mVar 2))) mNil)) (mLst (mCons (mVar 4) mNil))) (mCB fListC (mCons (mSl (mVar 1) (mPart (mOp fAdd (mVar 2) (mC (.int 1)))) mPartN) mNil))))
    (mSeq (mIfS (mTest (mOp fLt (mVar 2) (mOp fSub (mCB fLen (mCons (mVar 1) mNil)) (mC (.int 1))))) (mSetI 6 (mUn fNeg (mC (.int 1))) (mC .non)) (mSetO 6 (mCatO (mLc (gmSeq 3 (gmCons (gmName 7) (gmCons (gmName 8) (gmCons (gmName 9) gmNil)))) (mSeqI (mSl (mVar 1) mPartN (mPart (mVar 2)))) mYes (mTup (mCons (mVar 7) (mCons (mVar 8) (mCons (mC (.int 0)) mNil)))) [7, 8, 9]) (mLst (mCons (mVar 4) mNil)))))
    (mFrz [6] (mRet (mOp fEq (mCall 1 [] m__law_made (mCons (mVar 6) mNil)) (mTup (mCons (mVar 2) (mCons (mVar 5) mNil))))))))))))
def m__law_wrong : List Dt → Hd → R Dt := mDef 10 b__law_wrong
def b_law : MS :=
  (mSeq (mSet 2 (mCall 2 [] m__law_bars (mCons (mVar 1) (mCons (mC (.int 4)) mNil))))
    (mSeq (mIfS (mTest (mOp fEq (mCall 2 [] m__law_take (mCons (mVar 1) (mCons (mC (.int 4)) mNil))) (mC (.int 0)))) (mSeq (mAsg (gmSeq 3 (gmCons (gmName 3) (gmCons (gmName 4) (gmCons (gmName 5) gmNil)))) (mOp fIx (mVar 2) (mUn fNeg (mC (.int 1)))))
    (mSet 2 (mOp fAddE (mSl (mVar 2) mPartN (mPart (mUn fNeg (mC (.int 1))))) (mTup (mCons (mTup (mCons (mVar 3) (mCons (mCall 1 [] m__law_wide_ratio (mCons (mVar 1) mNil)) (mCons (mVar 5) mNil)))) mNil))))) mNext)
    (mSeq (mBlk 6 (mSeq (mSet 6 (mCall 2 [] m__law_lists (mCons (mVar 1) (mCons (mVar 2) mNil)))) (mSet 7 (mMake "Arms" 1 [] m_Arms____init__ (mCons (mVar 6) mNil)))) (mTru (mIsi "list" (mVar 6))) (mC (.int 0)) (mTup (mCons (mUn fNeg (mC (.int 1))) (mCons (mTup (mCons (mC (.int 7)) (mCons (mC (.int 3)) mNil))) (mCons (mC (.int 4)) mNil)))))
    (mSeq (mIfS (mOr (mTest (mOp fNe (mAttr ["Arms"] "bars" (mVar 7)) (mVar 2))) (mOr (mNot (mTru (mCall 1 [] m__law_tuples (mCons (mAttr ["Arms"] "bars" (mVar 7)) mNil)))) (mOr (mTest (mOp fNe (mAttr ["Arms"] "letters" (mVar 7)) (mCall 1 [] m__law_most (mCons (mVar 2) mNil)))) (mTest (mOp fNe (mCB (fLenO "Arms" m_Arms____len__) (mCons (mVar 7) mNil)) (mCB fLen (mCons (mVar 2) mNil))))))) (mRet (mC (.bl false))) mNext)
    (mSeq (mSet 8 (mMake "Arms" 1 [] m_Arms____init__ (mCons (mVar 2) mNil)))
    (mSeq (mAsg (gmSeq 3 (gmCons (gmName 3) (gmCons (gmName 4) (gmCons (gmName 5) gmNil)))) (mOp fIx (mVar 2) (mC (.int 0))))
    (mSeq (mSet 9 (mMake "Arms" 1 [] m_Arms____init__ (mCons (mOp fAddE (mTup (mCons (mTup (mCons (mVar 3) (mCons (mCall 2 [] m__law_plus (mCons (mVar 4) (mCons (mTup (mCons (mC (.int 1)) (mCons (mC (.int 1)) mNil))) mNil))) (mCons (mVar 5) mNil)))) mNil)) (mSl (mVar 2) (mPart (mC (.int 1))) mPartN)) mNil)))
    (mSeq (mIfS (mOr (mNot (mTest (mOp (fEqO "Arms" m_Arms____eq__) (mVar 8) (mVar 7)))) (mOr (mTest (mOp (fEqO "Arms" m_Arms____eq__) (mVar 9) (mVar 7))) (mOr (mTest (mOp (fEqX "Arms" m_Arms____eq__) (mVar 7) (mVar 2))) (mNot (mTest (mOp (fNeX "Arms" m_Arms____eq__) (mVar 9) (mVar 7))))))) (mRet (mC (.bl false))) mNext)
    (mSeq (mSet 10 (mOp fAddE (mVar 2) (mTup (mCons (mTup (mCons (mOp fSub (mCB fLen (mCons (mVar 2) mNil)) (mC (.int 1))) (mCons (mTup (mCons (mC (.int 1)) (mCons (mC (.int 1)) mNil))) (mCons (mC (.int 0)) mNil)))) mNil))))
    (mSeq (mIfS (mAnd (mTest (mOp fLe (mCB fLen (mCons (mVar 10) mNil)) (mC (.int 6)))) (mTest (mOp (fEqO "Arms" m_Arms____eq__) (mMake "Arms" 1 [] m_Arms____init__ (mCons (mVar 10) mNil)) (mVar 7)))) (mRet (mC (.bl false))) mNext)
    (mRet (mAndV (mCall 2 [] m__law_wrong (mCons (mVar 1) (mCons (mVar 2) mNil))) (mCall 2 [] m__law_gaps (mCons (mVar 1) (mCons (mVar 2) mNil)))))))))))))))
end
end Law


set_option Elab.async false
set_option linter.all false
set_option maxRecDepth 100000
namespace Hk
open PySem PySem.Spec PyProof.Rows L2 Mir
open PySem.W (Frag)
section
variable {K : Frag} {C f : Addr}
theorem thr_ {mg : Str → Option Value} {c : Str} (m : mg c = some (.ref C)) (h : thrB K C = true) : Thrown0 K mg c := by
  obtain ⟨h1, h2⟩ := two h
  obtain ⟨h3, h4⟩ := two h1
  obtain ⟨h5, h6⟩ := two h2
  exact ⟨C, _, _, _, _, m, PySem.F.excBase_ValueError, h3, h4, b_eq h5, typ_eq h6⟩
end
section
variable {K : Frag} {mg : Str → Option Value} {Z : Addr}
theorem tupD {vs : List V} {ds : List Dt} (c : tupB K Z vs = true) (hl : Nat.ble vs.length sizeLine = true) (h : Addr) (H : Hp) (da : DenA K mg h H vs ds) : Den K mg h H (.ref Z) (.tup ds) := by
  obtain ⟨its, od, n, sl, lk, r⟩ := tup_ c
  have e : its.size = vs.length := by
    have q := r.length
    rw [← Array.length_toList]
    exact q.symm
  exact .tup (.inr ⟨_, its, n, lk, rfl, rfl, by rw [e]; exact Nat.le_of_ble_eq_true hl, r⟩) da
theorem nilD (c : tupB K Z [] = true) (h : Addr) (H : Hp) : Den K mg h H (.ref Z) (.tup []) := tupD c rfl h H .nil
theorem ratD {a b : Int} (c : tupB K Z [.int a, .int b] = true) (h : Addr) (H : Hp) : Den K mg h H (.ref Z) (.tup [.int a, .int b]) := tupD c rfl h H (.cons (.int a) (.cons (.int b) .nil))
theorem twoD {Y W : Addr} {d e : Dt} (c : tupB K Z [.ref Y, .ref W] = true) (h : Addr) (H : Hp) (x : Den K mg h H (.ref Y) d) (y : Den K mg h H (.ref W) e) : Den K mg h H (.ref Z) (.tup [d, e]) := tupD c rfl h H (.cons x (.cons y .nil))
end
section
variable {K : Frag} {h : Heap} {mg : Str → Option Value} (X : K.In h) (G : h.Ns mainGlobals mg)
include X G
variable {C f : Addr} {x q c m : Str} {st : Stmt}
theorem gF (t : tx K f = some (x, q, defArgs st, .stmts (defBody st), defScope st)) (p : plainF K f q [] = true) (r : isRef (PySem.W.nsIn K mainGlobals x) f = true) : ∃ (f : Addr) (fd : FuncData), Fun K x q st f fd ∧ mg x = some (.ref f) := by
  obtain ⟨fd, F⟩ := fun_ t p
  exact ⟨f, fd, F, ref X G r⟩
theorem gD {vs : List V} (t : tx K f = some (x, q, defArgs st, .stmts (defBody st), defScope st)) (p : plainF K f q vs = true) (r : isRef (PySem.W.nsIn K mainGlobals x) f = true) :
    ∃ (f : Addr) (fd : FuncData), FunD K x q (defArgs st) (defBody st) (defScope st) vs [] f fd ∧ mg x = some (.ref f) := by
  obtain ⟨fd, F⟩ := funD t p
  exact ⟨f, fd, F, ref X G r⟩
theorem gM (t : tx K f = some (m, q, defArgs st, .stmts (defBody st), defScope st)) (p : plainF K f q [] = true) (r : isRef (PySem.W.nsIn K mainGlobals c) C = true) (k : clsB K C = true) (a : methB K C m f = true) :
    ∃ (C f : Addr) (fd : FuncData), mg c = some (.ref C) ∧ Cls K C ∧ Meth K C m f ∧ Fun K m q st f fd := by
  obtain ⟨fd, F⟩ := fun_ t p
  exact ⟨C, f, fd, ref X G r, cls_ k, meth_ a, F⟩
theorem gI (t : tx K f = some (m, q, defArgs st, .stmts (defBody st), defScope st)) (p : plainF K f q [] = true) (r : isRef (PySem.W.nsIn K mainGlobals c) C = true) (a : mkB K C f = true) :
    ∃ (C f : Addr) (fd : FuncData), mg c = some (.ref C) ∧ Mk K C f ∧ Fun K m q st f fd := by
  obtain ⟨fd, F⟩ := fun_ t p
  exact ⟨C, f, fd, ref X G r, mk_ a, F⟩
theorem gX {ns : List Str} (t : tx K f = some (m, q, defArgs st, .stmts (defBody st), defScope st)) (p : plainF K f q [] = true) (r : isRef (PySem.W.nsIn K mainGlobals c) C = true) (o : oexB K C = true) (e : errB K C = true)
    (n : ∀ f ∈ ns, PySem.W.findIn K (.ref C) f = some none) (i : isRef (PySem.W.findIn K (.ref C) "__init__") f = true) (ti : isTyp (PySem.W.typeIn K (.ref f)) "function" = true) (s : isB (PySem.W.exmOne K (.ref C) (.ref C)) true = true) (g : getB K C = true) :
    ∃ (C fI : Addr) (fd : FuncData), mg c = some (.ref C) ∧ OexC K C ∧ (∀ f ∈ ns, PySem.W.findIn K (.ref C) f = some none) ∧ PySem.W.findIn K (.ref C) "__init__" = some (some (.ref fI)) ∧ PySem.W.typeIn K (.ref fI) = some (.type "function") ∧ Fun K m q st fI fd ∧
      PySem.W.exmOne K (.ref C) (.ref C) = some true ∧ XfC K C := by
  obtain ⟨fd, F⟩ := fun_ t p
  exact ⟨C, f, fd, ref X G r, oex_ o e, n, ref_eq i, typ_eq ti, F, b_eq s, xf_ g⟩
theorem gZ {Z : Addr} {a b : Int} (r : isRef (PySem.W.nsIn K mainGlobals x) Z = true) (k : tupB K Z [.int a, .int b] = true) : ∃ Z : Addr, mg x = some (.ref Z) ∧ ∀ (h : Addr) (H : Hp), Den K mg h H (.ref Z) (.tup [.int a, .int b]) :=
  ⟨Z, ref X G r, ratD k⟩
theorem gW {Z Y W : Addr} {a b a' b' : Int} (r : isRef (PySem.W.nsIn K mainGlobals x) Z = true) (k : tupB K Z [.ref Y, .ref W] = true) (y : tupB K Y [.int a, .int b] = true) (w : tupB K W [.int a', .int b'] = true) :
    ∃ Z : Addr, mg x = some (.ref Z) ∧ ∀ (h : Addr) (H : Hp), Den K mg h H (.ref Z) (.tup [.tup [.int a, .int b], .tup [.int a', .int b']]) :=
  ⟨Z, ref X G r, fun h H => twoD k h H (ratD y h H) (ratD w h H)⟩
end
/-! ### the end -/
theorem walk {l : PySem.W.OpenLaw} {k : Nat} {q : Program} {loose : List Str} {XP : (Str → Option Value) → Heap → Prop} {YP : World → Heap → Prop} {d : DefRec} {x : Str}
    (hn : l.most = some 63) (hd0 : d.params.defaults = []) (room : Room k callerA)
    (F : ∀ (w : World) (mg : Str → Option Value) (fa : Addr) (h : Heap), YP w h → h.Ns mainGlobals mg → mg d.name = some (.ref fa) →
      ∃ K : Frag, K.In h ∧ ∃ fd : FuncData, (∀ (s : Shared) (u : Value), BindsTo s fd ⟨[u], []⟩ [(x, u)]) ∧ ∀ base : Heap, K.In base → base.Ns mainGlobals mg → FnOk l.prog w K mg base (L2.CX l.prog w) k fa fd [x] (spLaw K)) :
    PySem.W.WalkO q loose XP YP l.row.toRowW d [] (fun f vs => PySem.call f vs) := by
  refine Att.attach_call hn hd0 fun w s₀ s₁ mg mb fa o pm cd doc a vs ns G Y ho hd hcd hm hob hi hle hgn => ?_
  obtain ⟨K, KX, fd, hb, hF⟩ := F w mg fa _ Y G.T.g hm
  exact law_call KX G.T.g G.T.b G.T.builtins G.T.nolimit hgn hob hi (Nat.le_trans hle (by decide)) room hF hb (fun H only hS => ⟨a, ns, rfl, hS, hle, fun _ => rfl⟩) fun H e s' z => Mir.cx_false z
theorem walkG {l : PySem.W.OpenLaw} {k : Nat} {q : Program} {loose : List Str} {XP : (Str → Option Value) → Heap → Prop} {YP : World → Heap → Prop} {d : DefRec} {x : Str}
    (hn : l.most = some 63) (hd0 : d.params.defaults = []) (room : Room k callerA)
    (F : ∀ (w : World) (mg : Str → Option Value) (fa : Addr) (h : Heap), YP w h → h.Ns mainGlobals mg → mg d.name = some (.ref fa) →
      ∃ K : Frag, K.In h ∧ ∃ fd : FuncData, (∀ (s : Shared) (u : Value), BindsTo s fd ⟨[u], []⟩ [(x, u)]) ∧ ∀ base : Heap, K.In base → base.Ns mainGlobals mg → FnG l.prog w K mg base k fa fd [x] (spLaw K)) :
    PySem.W.WalkO q loose XP YP l.row.toRowW d [] (fun f vs => PySem.call f vs) := by
  refine Att.attach_call hn hd0 fun w s₀ s₁ mg mb fa o pm cd doc a vs ns G Y ho hd hcd hm hob hi hle hgn => ?_
  obtain ⟨K, KX, fd, hb, hF⟩ := F w mg fa _ Y G.T.g hm
  exact law_callG KX G.T.g G.T.b G.T.builtins G.T.nolimit hgn hob hi (Nat.le_trans hle (by decide)) room hF hb (fun H only hS => ⟨a, ns, rfl, hS, hle, fun _ => rfl⟩)
end Hk


set_option Elab.async false
set_option linter.all false
set_option maxRecDepth 100000
set_option maxHeartbeats 4000000
namespace Law
open PySem PySem.Spec PyProof.Rows L2 Mir
open PySem.W (Frag)
theorem sc__law_hand : FnScope ["_law_script", "_law_great", "_law_mixed", "_law_cell", "_law_size"] ["_law_script"] (defScope st__law_hand) := ⟨rfl, rfl, rfl, by decide +kernel, rfl, by decide +kernel, by decide +kernel⟩
theorem sc__law_take : FnScope ["_law_hand_here", "_law_many", "_law_cell", "_law_once", "_law_twice"] ["_law_hand_here", "_law_many"] (defScope st__law_take) := ⟨rfl, rfl, rfl, by decide +kernel, rfl, by decide +kernel, by decide +kernel⟩
theorem sc_Arms____eq__ : FnScope ["self", "other"] ["self", "other"] (defScope st_Arms____eq__) := ⟨rfl, rfl, rfl, by decide +kernel, rfl, by decide +kernel, by decide +kernel⟩
theorem sc_is_whole : FnScope ["thing", "low", "high"] ["thing", "low", "high"] (defScope st_is_whole) := ⟨rfl, rfl, rfl, by decide +kernel, rfl, by decide +kernel, by decide +kernel⟩
theorem sc_is_ratio : FnScope ["thing", "top", "bottom"] ["thing"] (defScope st_is_ratio) := ⟨rfl, rfl, rfl, by decide +kernel, rfl, by decide +kernel, by decide +kernel⟩
theorem sc_is_row : FnScope ["thing", "least", "most"] ["thing", "least", "most"] (defScope st_is_row) := ⟨rfl, rfl, rfl, by decide +kernel, rfl, by decide +kernel, by decide +kernel⟩
theorem sc__check_bar : FnScope ["index", "bar", "host", "mark", "letter"] ["index", "bar"] (defScope st__check_bar) := ⟨rfl, rfl, rfl, by decide +kernel, rfl, by decide +kernel, by decide +kernel⟩
theorem sc__check_bars : FnScope ["bars", "index", "bar"] ["bars"] (defScope st__check_bars) := ⟨rfl, rfl, rfl, by decide +kernel, rfl, by decide +kernel, by decide +kernel⟩
theorem sc__count_letters : FnScope ["bars", "used", "bar", "greatest", "letter"] ["bars"] (defScope st__count_letters) := ⟨rfl, rfl, rfl, by decide +kernel, rfl, by decide +kernel, by decide +kernel⟩
theorem sc_Arms____init__ : FnScope ["self", "bars", "bar"] ["self", "bars"] (defScope st_Arms____init__) := ⟨rfl, rfl, rfl, by decide +kernel, rfl, by decide +kernel, by decide +kernel⟩
theorem sc_Arms____len__ : FnScope ["self"] ["self"] (defScope st_Arms____len__) := ⟨rfl, rfl, rfl, by decide +kernel, rfl, by decide +kernel, by decide +kernel⟩
theorem sc__law_letters : FnScope ["_law_hand_here", "_law_many", "_law_most_here", "_law_n", "_law_row", "_law_k", "_law_other"] ["_law_hand_here", "_law_many", "_law_most_here"] (defScope st__law_letters) := ⟨rfl, rfl, rfl, by decide +kernel, rfl, by decide +kernel, by decide +kernel⟩
theorem sc__law_gcd : FnScope ["_law_one", "_law_other"] ["_law_one", "_law_other"] (defScope st__law_gcd) := ⟨rfl, rfl, rfl, by decide +kernel, rfl, by decide +kernel, by decide +kernel⟩
theorem sc__law_ratio : FnScope ["_law_top", "_law_bottom", "_law_part"] ["_law_top", "_law_bottom"] (defScope st__law_ratio) := ⟨rfl, rfl, rfl, by decide +kernel, rfl, by decide +kernel, by decide +kernel⟩
theorem sc__law_mark : FnScope ["_law_hand_here"] ["_law_hand_here"] (defScope st__law_mark) := ⟨rfl, rfl, rfl, by decide +kernel, rfl, by decide +kernel, by decide +kernel⟩
theorem sc__law_bars : FnScope ["_law_hand_here", "_law_most_here", "_law_many", "_law_row", "_law_bars_here", "_law_k"] ["_law_hand_here", "_law_most_here"] (defScope st__law_bars) := ⟨rfl, rfl, rfl, by decide +kernel, rfl, by decide +kernel, by decide +kernel⟩
theorem sc__law_made : FnScope ["_law_bars_here", "wrong"] ["_law_bars_here"] (defScope st__law_made) := ⟨rfl, rfl, rfl, by decide +kernel, rfl, by decide +kernel, by decide +kernel⟩
theorem sc__law_most : FnScope ["_law_bars_here", "_law_bar"] ["_law_bars_here"] (defScope st__law_most) := ⟨rfl, rfl, rfl, by decide +kernel, rfl, by decide +kernel, by decide +kernel⟩
theorem sc__law_gaps : FnScope ["_law_hand_here", "_law_bars_here", "_law_flat", "_law_host", "_law_mark_here", "_law_letter", "_law_higher", "_law_seven", "_law_odd_here"] ["_law_hand_here", "_law_bars_here"] (defScope st__law_gaps) := ⟨rfl, rfl, rfl, by decide +kernel, rfl, by decide +kernel, by decide +kernel⟩
theorem sc__law_lists : FnScope ["_law_hand_here", "_law_rows", "_law_made_here", "_law_row", "_law_part"] ["_law_hand_here", "_law_rows"] (defScope st__law_lists) := ⟨rfl, rfl, rfl, by decide +kernel, rfl, by decide +kernel, by decide +kernel⟩
theorem sc__law_plus : FnScope ["_law_one", "_law_other"] ["_law_one", "_law_other"] (defScope st__law_plus) := ⟨rfl, rfl, rfl, by decide +kernel, rfl, by decide +kernel, by decide +kernel⟩
theorem sc__law_tuples : FnScope ["_law_thing", "_law_part"] ["_law_thing"] (defScope st__law_tuples) := ⟨rfl, rfl, rfl, by decide +kernel, rfl, by decide +kernel, by decide +kernel⟩
theorem sc__law_wide : FnScope ["_law_hand_here", "_law_way", "_law_total", "_law_turn"] ["_law_hand_here"] (defScope st__law_wide) := ⟨rfl, rfl, rfl, by decide +kernel, rfl, by decide +kernel, by decide +kernel⟩
theorem sc__law_wide_ratio : FnScope ["_law_hand_here"] ["_law_hand_here"] (defScope st__law_wide_ratio) := ⟨rfl, rfl, rfl, by decide +kernel, rfl, by decide +kernel, by decide +kernel⟩
theorem sc__law_odd : FnScope ["_law_hand_here", "_law_top", "_law_odds"] ["_law_hand_here"] (defScope st__law_odd) := ⟨rfl, rfl, rfl, by decide +kernel, rfl, by decide +kernel, by decide +kernel⟩
theorem sc__law_faults : FnScope ["_law_hand_here", "_law_bars_here", "_law_number", "_law_host", "_law_mark_here", "_law_letter", "_law_bad_host", "_law_bad_letter", "_law_row", "_law_odd_here"] ["_law_hand_here", "_law_bars_here", "_law_number"] (defScope st__law_faults) := ⟨rfl, rfl, rfl, by decide +kernel, rfl, by decide +kernel, by decide +kernel⟩
theorem sc__law_wrong : FnScope ["_law_hand_here", "_law_bars_here", "_law_number", "_law_faults_here", "_law_row", "_law_word", "_law_spoilt", "_law_host", "_law_mark_here", "_law_letter"] ["_law_hand_here", "_law_bars_here"] (defScope st__law_wrong) := ⟨rfl, rfl, rfl, by decide +kernel, rfl, by decide +kernel, by decide +kernel⟩
theorem sc_law : FnScope ["_law_script", "_law_hand_here", "_law_bars_here", "_law_host", "_law_mark_here", "_law_letter", "_law_given", "_law_arms", "_law_again", "_law_other", "_law_longer"] ["_law_script"] (defScope st_law) := ⟨rfl, rfl, rfl, by decide +kernel, rfl, by decide +kernel, by decide +kernel⟩
theorem sc_BadArms : FnScope ["self", "index", "what"] ["self", "index", "what"] (defScope st_BadArms) := ⟨rfl, rfl, rfl, by decide +kernel, rfl, by decide +kernel, by decide +kernel⟩
/-- what the top has written -/
structure Txt (K : Frag) (mg : Str → Option Value) : Prop where
  F__law_hand : ∃ (f : Addr) (fd : FuncData), Fun K "_law_hand" "_law_hand" st__law_hand f fd ∧ mg "_law_hand" = some (.ref f)
  F__law_take : ∃ (f : Addr) (fd : FuncData), Fun K "_law_take" "_law_take" st__law_take f fd ∧ mg "_law_take" = some (.ref f)
  G_Arms____eq__ : ∃ (C f : Addr) (fd : FuncData), mg "Arms" = some (.ref C) ∧ Cls K C ∧ Meth K C "__eq__" f ∧ Fun K "__eq__" "Arms.__eq__" st_Arms____eq__ f fd
  F_is_whole : ∃ (f : Addr) (fd : FuncData), FunD K "is_whole" "is_whole" (defArgs st_is_whole) (defBody st_is_whole) (defScope st_is_whole) [.non, .non] [] f fd ∧ mg "is_whole" = some (.ref f)
  F_is_ratio : ∃ (f : Addr) (fd : FuncData), Fun K "is_ratio" "is_ratio" st_is_ratio f fd ∧ mg "is_ratio" = some (.ref f)
  F_is_row : ∃ (f : Addr) (fd : FuncData), FunD K "is_row" "is_row" (defArgs st_is_row) (defBody st_is_row) (defScope st_is_row) [.int 0, .non] [] f fd ∧ mg "is_row" = some (.ref f)
  F__check_bar : ∃ (f : Addr) (fd : FuncData), Fun K "_check_bar" "_check_bar" st__check_bar f fd ∧ mg "_check_bar" = some (.ref f)
  F__check_bars : ∃ (f : Addr) (fd : FuncData), Fun K "_check_bars" "_check_bars" st__check_bars f fd ∧ mg "_check_bars" = some (.ref f)
  F__count_letters : ∃ (f : Addr) (fd : FuncData), Fun K "_count_letters" "_count_letters" st__count_letters f fd ∧ mg "_count_letters" = some (.ref f)
  G_Arms____init__ : ∃ (C f : Addr) (fd : FuncData), mg "Arms" = some (.ref C) ∧ Mk K C f ∧ Fun K "__init__" "Arms.__init__" st_Arms____init__ f fd
  G_Arms____len__ : ∃ (C f : Addr) (fd : FuncData), mg "Arms" = some (.ref C) ∧ Cls K C ∧ Meth K C "__len__" f ∧ Fun K "__len__" "Arms.__len__" st_Arms____len__ f fd
  F__law_letters : ∃ (f : Addr) (fd : FuncData), Fun K "_law_letters" "_law_letters" st__law_letters f fd ∧ mg "_law_letters" = some (.ref f)
  F__law_gcd : ∃ (f : Addr) (fd : FuncData), Fun K "_law_gcd" "_law_gcd" st__law_gcd f fd ∧ mg "_law_gcd" = some (.ref f)
  F__law_ratio : ∃ (f : Addr) (fd : FuncData), Fun K "_law_ratio" "_law_ratio" st__law_ratio f fd ∧ mg "_law_ratio" = some (.ref f)
  F__law_mark : ∃ (f : Addr) (fd : FuncData), Fun K "_law_mark" "_law_mark" st__law_mark f fd ∧ mg "_law_mark" = some (.ref f)
  F__law_bars : ∃ (f : Addr) (fd : FuncData), FunD K "_law_bars" "_law_bars" (defArgs st__law_bars) (defBody st__law_bars) (defScope st__law_bars) [.int 2] [] f fd ∧ mg "_law_bars" = some (.ref f)
  F__law_made : ∃ (f : Addr) (fd : FuncData), Fun K "_law_made" "_law_made" st__law_made f fd ∧ mg "_law_made" = some (.ref f)
  F__law_most : ∃ (f : Addr) (fd : FuncData), Fun K "_law_most" "_law_most" st__law_most f fd ∧ mg "_law_most" = some (.ref f)
  F__law_gaps : ∃ (f : Addr) (fd : FuncData), Fun K "_law_gaps" "_law_gaps" st__law_gaps f fd ∧ mg "_law_gaps" = some (.ref f)
  F__law_lists : ∃ (f : Addr) (fd : FuncData), Fun K "_law_lists" "_law_lists" st__law_lists f fd ∧ mg "_law_lists" = some (.ref f)
  F__law_plus : ∃ (f : Addr) (fd : FuncData), Fun K "_law_plus" "_law_plus" st__law_plus f fd ∧ mg "_law_plus" = some (.ref f)
  F__law_tuples : ∃ (f : Addr) (fd : FuncData), Fun K "_law_tuples" "_law_tuples" st__law_tuples f fd ∧ mg "_law_tuples" = some (.ref f)
  F__law_wide : ∃ (f : Addr) (fd : FuncData), Fun K "_law_wide" "_law_wide" st__law_wide f fd ∧ mg "_law_wide" = some (.ref f)
  F__law_wide_ratio : ∃ (f : Addr) (fd : FuncData), Fun K "_law_wide_ratio" "_law_wide_ratio" st__law_wide_ratio f fd ∧ mg "_law_wide_ratio" = some (.ref f)
  F__law_odd : ∃ (f : Addr) (fd : FuncData), Fun K "_law_odd" "_law_odd" st__law_odd f fd ∧ mg "_law_odd" = some (.ref f)
  F__law_faults : ∃ (f : Addr) (fd : FuncData), Fun K "_law_faults" "_law_faults" st__law_faults f fd ∧ mg "_law_faults" = some (.ref f)
  F__law_wrong : ∃ (f : Addr) (fd : FuncData), Fun K "_law_wrong" "_law_wrong" st__law_wrong f fd ∧ mg "_law_wrong" = some (.ref f)
  F_law : ∃ (f : Addr) (fd : FuncData), Fun K "law" "law" st_law f fd ∧ mg "law" = some (.ref f)
  X_BadArms : ∃ (C fI : Addr) (fd : FuncData), mg "BadArms" = some (.ref C) ∧ OexC K C ∧ (∀ f ∈ [("index" : Str), ("what" : Str)], PySem.W.findIn K (.ref C) f = some none) ∧ PySem.W.findIn K (.ref C) "__init__" = some (some (.ref fI)) ∧ PySem.W.typeIn K (.ref fI) = some (.type "function") ∧ Fun K "__init__" "BadArms.__init__" st_BadArms fI fd ∧ PySem.W.exmOne K (.ref C) (.ref C) = some true ∧ XfC K C
  g_MAST : ∃ t : Tok, mg "MAST" = some (.int (-1) t)
  g_MOST_BARS : ∃ t : Tok, mg "MOST_BARS" = some (.int 6 t)
  g_MOST_LETTERS : ∃ t : Tok, mg "MOST_LETTERS" = some (.int 4 t)
  A_bars : FldOk K mg ["Arms"] "bars"
  A_letters : FldOk K mg ["Arms"] "letters"
  i_gcd : mg "gcd" = some (.builtin "math.gcd")
  O_Arms : IsOwn K mg "Arms"
  N_Arms : NeOk K mg "Arms"
  z_abs : mg "abs" = none
  z_all : mg "all" = none
  z_bool : mg "bool" = none
  z_enumerate : mg "enumerate" = none
  z_int : mg "int" = none
  z_isinstance : mg "isinstance" = none
  z_len : mg "len" = none
  z_list : mg "list" = none
  z_max : mg "max" = none
  z_min : mg "min" = none
  z_range : mg "range" = none
  z_str : mg "str" = none
  z_tuple : mg "tuple" = none
section
variable {P : Program} {w : World} {K : Frag} {mg : Str → Option Value} {base : Heap}
theorem t_BadArms (T : Txt K mg) : Thrown P w K mg base "BadArms" ["index", "what"] := by
  obtain ⟨C, fI, fd, h1, h2, h3, h4, h5, F, h6, h7⟩ := T.X_BadArms
  exact ⟨C, fI, fd, ["self", "index", "what"], h1, h2, h3, h4, h5, init2 F sc_BadArms rfl, F.binds fun _ _ _ _ _ _ us hl => match us, hl with | [_, _, _], _ => rfl⟩
theorem f__law_hand (T : Txt K mg) {f : Addr} {fd : FuncData} (F : Fun K "_law_hand" "_law_hand" st__law_hand f fd) : FnOk P w K mg base (L2.CX P w) 1 f fd ["_law_script"] (spHand K) := by
  refine F.okX (k := 0) sc__law_hand (fun vs H Q E h => ?_) (fun cdv A outer s H vs Q E hr h => ⟨tHand K, ?_, ?_⟩)
  · obtain ⟨a, ns, rfl, _⟩ := h
    rfl
  · exact pss_cons (ps_set (i := 1) sc__law_hand.nd rfl (.inl rfl) (pe_lst pa_nil)) (pss_cons (ps_set (i := 2) sc__law_hand.nd rfl (.inl rfl) (pe_op op_add (pe_callB call_lenA (by rfl) T.z_len (by decide +kernel) (pa_cons (pv 0) pa_nil)) pe_int)) (pss_cons (ps_for (passes_of rfl) rfl (pi_list (pv 0)) (pg_name (i := 3) sc__law_hand.nd rfl (.inl rfl)) (pss_cons (ps_set (i := 4) sc__law_hand.nd rfl (.inl rfl) (pe_callB call_abs (by rfl) T.z_abs (by decide +kernel) (pa_cons (pe_callTy call_int1 (by rfl) T.z_int (by decide +kernel) (pa_cons (pv 3) pa_nil)) pa_nil))) (pss_cons (ps_set (i := 2) sc__law_hand.nd rfl (.inl rfl) (pe_op op_add (pe_op op_mod (pe_callTy call_int1 (by rfl) T.z_int (by decide +kernel) (pa_cons (pe_op op_add (pe_op op_mul (pv 2) pe_int) (pv 4)) pa_nil)) pe_int) pe_int)) (pss_one (ps_if (pt_cmpR op_ge (pv 4) (pe_op op_pow pe_int pe_int) (nomark _)) (pss_one (ps_expr (pe_bm PySem.F.plainAttrs_list PySem.F.slot_list_append PySem.F.type_list_append mt_append (pv 1) (pa_cons (pv 4) pa_nil)))) pss_nil))))) (pss_one (ps_ret (pe_lst (pa_cons (pv 1) (pa_cons (pv 2) (pa_cons pe_int pa_nil))))))))
  · have h' := h
    obtain ⟨a, ns, rfl, _⟩ := h'
    exact hand_run h
theorem f__law_take (T : Txt K mg) {f : Addr} {fd : FuncData} (F : Fun K "_law_take" "_law_take" st__law_take f fd) : FnOk P w K mg base (L2.CX P w) 1 f fd ["_law_hand_here", "_law_many"] (spM K mg 2 m__law_take) := by
  refine F.okX (k := 0) sc__law_take (fun vs H Q E h => h.1) (fun cdv A outer s H vs Q E hr h => ⟨tTake K, ?_, ?_⟩)
  · exact pss_cons (ps_while (passes_of rfl) (pw_and (pt_truth (pe_ix ix_list (pv 0) pe_int (fun _ _ => rfl)) (fun _ => rfl)) (pw_and1 (pt_cmpR op_eq (pe_ix ix_list (pe_ix ix_list (pv 0) pe_int (fun _ _ => rfl)) pe_int (fun _ _ => rfl)) pe_int (nomark _)))).pt (pss_one (ps_asg (pe_slice sl_list (pe_ix ix_list (pv 0) pe_int (fun _ _ => rfl)) (po_some pe_int) po_none) (pg_sub (pv 0) pe_int set_list)))) (pss_cons (ps_if (pt_truth (pe_ix ix_list (pv 0) pe_int (fun _ _ => rfl)) (fun _ => rfl)) (pss_cons (ps_set (i := 2) sc__law_take.nd rfl (.inl rfl) (pe_ix ix_list (pe_ix ix_list (pv 0) pe_int (fun _ _ => rfl)) pe_int (fun _ _ => rfl))) (pss_cons (ps_asg (pe_op op_fdivW (pe_callTy call_int1 (by rfl) T.z_int (by decide +kernel) (pa_cons (pv 2) pa_nil)) (pv 1)) (pg_sub (pe_ix ix_list (pv 0) pe_int (fun _ _ => rfl)) pe_int set_list)) (pss_one (ps_ret (pe_op op_mod (pe_callTy call_int1 (by rfl) T.z_int (by decide +kernel) (pa_cons (pv 2) pa_nil)) (pv 1)))))) pss_nil) (pss_cons (ps_asg (pe_op op_add (pe_ix ix_list (pv 0) pe_int (fun _ _ => rfl)) pe_int) (pg_sub (pv 0) pe_int set_list)) (pss_cons (ps_asg (pe_op op_mod (pe_callTy call_int1 (by rfl) T.z_int (by decide +kernel) (pa_cons (pe_op op_add (pe_op op_mul (pe_ix ix_list (pv 0) pe_int (fun _ _ => rfl)) pe_int) pe_int) pa_nil)) pe_int) (pg_sub (pv 0) pe_int set_list)) (pss_cons (ps_set (i := 3) sc__law_take.nd rfl (.inl rfl) (pe_op op_mod (pe_callTy call_int1 (by rfl) T.z_int (by decide +kernel) (pa_cons (pe_op op_add (pe_op op_mul (pe_ix ix_list (pv 0) pe_int (fun _ _ => rfl)) pe_int) (pe_op op_mul (pe_ix ix_list (pv 0) pe_int (fun _ _ => rfl)) pe_int)) pa_nil)) pe_int)) (pss_cons (ps_set (i := 4) sc__law_take.nd rfl (.inl rfl) (pe_op op_mod (pe_callTy call_int1 (by rfl) T.z_int (by decide +kernel) (pa_cons (pe_op op_add (pe_op op_add (pe_op op_mul (pv 3) (pv 3)) (pe_op op_mul (pe_ix ix_list (pv 0) pe_int (fun _ _ => rfl)) pe_int)) (pe_op op_fdiv (pv 3) pe_int)) pa_nil)) pe_int)) (pss_one (ps_ret (pe_op op_mod (pe_callTy call_int1 (by rfl) T.z_int (by decide +kernel) (pa_cons (pe_op op_fdiv (pv 4) pe_int) pa_nil)) (pv 1)))))))))
  · have h' := h
    obtain ⟨hl, _⟩ := h'
    obtain ⟨a, b, rfl⟩ : ∃ a b, vs = [a, b] := by
      match vs, hl with
      | [a, b], _ => exact ⟨a, b, rfl⟩
    exact take_run h
theorem c__law_take (T : Txt K mg) : Callee P w K mg base 1 "_law_take" 2 [] m__law_take := by
  obtain ⟨f, fd, F, hm⟩ := T.F__law_take
  exact ⟨f, fd, ["_law_hand_here", "_law_many"], [], [], f__law_take T F, hm, F.kp, F.binds (ps := ["_law_hand_here", "_law_many"]) (fun _ _ _ _ _ _ us hl => match us, hl with | [_, _], _ => rfl), .nil, fun _ _ => .nil⟩
theorem f_Arms____eq__ (T : Txt K mg) {f : Addr} {fd : FuncData} (F : Fun K "__eq__" "Arms.__eq__" st_Arms____eq__ f fd) : FnOk P w K mg base (L2.CX P w) (0 + 1) f fd ["self", "other"] (spM K mg 2 (mDef 2 b_Arms____eq__)) := by
  have A_bars := T.A_bars
  have O_Arms := T.O_Arms
  have z_isinstance := T.z_isinstance
  refine okM F sc_Arms____eq__ rfl rfl (fun cdv A outer s H E hr => ?_)
  exact (qss_one (qs_ret (qe_and (qe_isiO (qe_var 1) O_Arms (by rfl) z_isinstance (by rfl)) (qe_one (qe_cmp (op_eqD hr.units) os_eq (qe_attr A_bars (qe_var 0)) (qe_attr A_bars (qe_var 1)) (nomark _))))))
theorem c_Arms____eq__ (T : Txt K mg) : Method P w K mg base 1 "Arms" "__eq__" 2 [] m_Arms____eq__ := by
  obtain ⟨C, f, fd, h1, h2, h3, F⟩ := T.G_Arms____eq__
  exact Mir.method_of (qual := "") (st := st_Arms____eq__) h1 h2 h3 (f_Arms____eq__ T  F) (F.binds (ps := ["self", "other"]) (fun _ _ _ _ _ _ us hl => match us, hl with | [_, _], _ => rfl))
theorem f_is_whole (T : Txt K mg) {f : Addr} {fd : FuncData} (F : FunD K "is_whole" "is_whole" (defArgs st_is_whole) (defBody st_is_whole) (defScope st_is_whole) [.non, .non] [] f fd) : FnOk P w K mg base (L2.CX P w) 1 f fd ["thing", "low", "high"] (spM K mg 3 m_is_whole) := by
  have z_bool := T.z_bool
  have z_int := T.z_int
  have z_isinstance := T.z_isinstance
  show FnOk P w K mg base (L2.CX P w) (0 + 1) f fd ["thing", "low", "high"] (spM K mg 3 (mDef 3 b_is_whole))
  refine okMD F sc_is_whole rfl rfl (fun cdv A outer s H E hr => ?_)
  exact (qss_cons (qs_if (qt_w (qw_or (qt_not (qt_tru (qe_isi (qe_var 0) (by rfl) z_isinstance (by rfl) z_int (by decide +kernel)))) (qw_or1 (qt_tru (qe_isi (qe_var 0) (by rfl) z_isinstance (by rfl) z_bool (by decide +kernel)))))) (qss_one (qs_ret qe_bl)) qss_nil) (qss_one (qs_ret (qe_and (qe_or (qe_cmp op_isA os_is (qe_var 1) qe_non (nomark _)) (qe_one (qe_cmp op_ge os_ge (qe_var 0) (qe_var 1) (nomark _)))) (qe_one (qe_or (qe_cmp op_isA os_is (qe_var 2) qe_non (nomark _)) (qe_one (qe_cmp op_le os_le (qe_var 0) (qe_var 2) (nomark _)))))))))
theorem c_is_whole_1 (T : Txt K mg) : Callee P w K mg base 1 "is_whole" 3 [.non, .non] m_is_whole := by
  obtain ⟨f, fd, F, hm⟩ := T.F_is_whole
  obtain ⟨ds, hv, hb⟩ := FunD.binds1 (ps := ["thing", "low", "high"]) F 1 0 (by simp) rfl (fun T kV doc pm an cdv ct us its l1 l2 => match us, its, l1, l2 with | [_], [_, _], _, _ => ⟨_, rfl, rfl⟩)
  exact ⟨f, fd, ["thing", "low", "high"], _, ds, f_is_whole T  F, hm, F.kp, hb, hv, fun _ _ => .cons .non (.cons .non (.nil))⟩
theorem c_is_whole_2 (T : Txt K mg) : Callee P w K mg base 1 "is_whole" 3 [.non] m_is_whole := by
  obtain ⟨f, fd, F, hm⟩ := T.F_is_whole
  obtain ⟨ds, hv, hb⟩ := FunD.binds1 (ps := ["thing", "low", "high"]) F 2 1 (by simp) rfl (fun T kV doc pm an cdv ct us its l1 l2 => match us, its, l1, l2 with | [_, _], [_, _], _, _ => ⟨_, rfl, rfl⟩)
  exact ⟨f, fd, ["thing", "low", "high"], _, ds, f_is_whole T  F, hm, F.kp, hb, hv, fun _ _ => .cons .non (.nil)⟩
theorem c_is_whole (T : Txt K mg) : Callee P w K mg base 1 "is_whole" 3 [] m_is_whole := by
  obtain ⟨f, fd, F, hm⟩ := T.F_is_whole
  obtain ⟨ds, hv, hb⟩ := FunD.binds1 (ps := ["thing", "low", "high"]) F 3 2 (by simp) rfl (fun T kV doc pm an cdv ct us its l1 l2 => match us, its, l1, l2 with | [_, _, _], [_, _], _, _ => ⟨_, rfl, rfl⟩)
  exact ⟨f, fd, ["thing", "low", "high"], _, ds, f_is_whole T  F, hm, F.kp, hb, hv, fun _ _ => .nil⟩
theorem f_is_ratio (T : Txt K mg) (C_is_whole_1 : Callee P w K mg base 1 "is_whole" 3 [.non, .non] m_is_whole) (C_is_whole_2 : Callee P w K mg base 1 "is_whole" 3 [.non] m_is_whole) {f : Addr} {fd : FuncData} (F : Fun K "is_ratio" "is_ratio" st_is_ratio f fd) : FnOk P w K mg base (L2.CX P w) 2 f fd ["thing"] (spM K mg 1 m_is_ratio) := by
  have i_gcd := T.i_gcd
  have z_isinstance := T.z_isinstance
  have z_len := T.z_len
  have z_tuple := T.z_tuple
  show FnOk P w K mg base (L2.CX P w) (1 + 1) f fd ["thing"] (spM K mg 1 (mDef 3 b_is_ratio))
  refine okM F sc_is_ratio rfl rfl (fun cdv A outer s H E hr => ?_)
  exact (qss_cons (qs_if (qt_w (qw_or (qt_not (qt_tru (qe_isi (qe_var 0) (by rfl) z_isinstance (by rfl) z_tuple (by decide +kernel)))) (qw_or1 (qt_cmp (op_neD hr.units) os_ne (qe_callB call_lenA cs_len (by rfl) z_len (by decide +kernel) (qa_cons (qe_var 0) qa_nil)) qe_int (nomark _))))) (qss_one (qs_ret qe_bl)) qss_nil) (qss_cons (qs_asg (qe_var 0) (qg_seq 2 rfl (qgs_cons (qg_name 1 sc_is_ratio.nd) (qgs_cons (qg_name 2 sc_is_ratio.nd) qgs_nil)))) (qss_one (qs_ret (qe_and (qe_c C_is_whole_1 hr (by decide) cx_takes (qa_cons (qe_var 1) qa_nil)) (qe_and (qe_c C_is_whole_2 hr (by decide) cx_takes (qa_cons (qe_var 2) (qa_cons qe_int qa_nil))) (qe_one (qe_cmp (op_eqD hr.units) os_eq (qe_callBfun cr_gcd cs_gcd (by rfl) i_gcd (qa_cons (qe_var 1) (qa_cons (qe_var 2) qa_nil))) qe_int (nomark _)))))))))
theorem c_is_ratio (T : Txt K mg) (C_is_whole_1 : Callee P w K mg base 1 "is_whole" 3 [.non, .non] m_is_whole) (C_is_whole_2 : Callee P w K mg base 1 "is_whole" 3 [.non] m_is_whole) : Callee P w K mg base 2 "is_ratio" 1 [] m_is_ratio := by
  obtain ⟨f, fd, F, hm⟩ := T.F_is_ratio
  exact ⟨f, fd, ["thing"], [], [], f_is_ratio T C_is_whole_1 C_is_whole_2 F, hm, F.kp, F.binds (ps := ["thing"]) (fun _ _ _ _ _ _ us hl => match us, hl with | [_], _ => rfl), .nil, fun _ _ => .nil⟩
theorem f_is_row (T : Txt K mg) {f : Addr} {fd : FuncData} (F : FunD K "is_row" "is_row" (defArgs st_is_row) (defBody st_is_row) (defScope st_is_row) [.int 0, .non] [] f fd) : FnOk P w K mg base (L2.CX P w) 1 f fd ["thing", "least", "most"] (spM K mg 3 m_is_row) := by
  have z_isinstance := T.z_isinstance
  have z_len := T.z_len
  have z_list := T.z_list
  have z_tuple := T.z_tuple
  show FnOk P w K mg base (L2.CX P w) (0 + 1) f fd ["thing", "least", "most"] (spM K mg 3 (mDef 3 b_is_row))
  refine okMD F sc_is_row rfl rfl (fun cdv A outer s H E hr => ?_)
  exact (qss_cons (qs_if (qt_not (qt_tru (qe_isi2 (qe_var 0) (by rfl) z_isinstance (by rfl) z_list (by decide +kernel) (by rfl) z_tuple (by decide +kernel)))) (qss_one (qs_ret qe_bl)) qss_nil) (qss_one (qs_ret (qe_and (qe_cmp op_ge os_ge (qe_callB call_lenA cs_len (by rfl) z_len (by decide +kernel) (qa_cons (qe_var 0) qa_nil)) (qe_var 1) (nomark _)) (qe_one (qe_or (qe_cmp op_isA os_is (qe_var 2) qe_non (nomark _)) (qe_one (qe_cmp op_le os_le (qe_callB call_lenA cs_len (by rfl) z_len (by decide +kernel) (qa_cons (qe_var 0) qa_nil)) (qe_var 2) (nomark _)))))))))
theorem c_is_row (T : Txt K mg) : Callee P w K mg base 1 "is_row" 3 [] m_is_row := by
  obtain ⟨f, fd, F, hm⟩ := T.F_is_row
  obtain ⟨ds, hv, hb⟩ := FunD.binds1 (ps := ["thing", "least", "most"]) F 3 2 (by simp) rfl (fun T kV doc pm an cdv ct us its l1 l2 => match us, its, l1, l2 with | [_, _, _], [_, _], _, _ => ⟨_, rfl, rfl⟩)
  exact ⟨f, fd, ["thing", "least", "most"], _, ds, f_is_row T  F, hm, F.kp, hb, hv, fun _ _ => .nil⟩
theorem f__check_bar (T : Txt K mg) (C_is_ratio : Callee P w K mg base 2 "is_ratio" 1 [] m_is_ratio) (C_is_row : Callee P w K mg base 1 "is_row" 3 [] m_is_row) (C_is_whole : Callee P w K mg base 1 "is_whole" 3 [] m_is_whole) {f : Addr} {fd : FuncData} (F : Fun K "_check_bar" "_check_bar" st__check_bar f fd) : FnOk P w K mg base (L2.CX P w) 3 f fd ["index", "bar"] (spM K mg 2 m__check_bar) := by
  obtain ⟨_, g_MAST⟩ := T.g_MAST
  obtain ⟨_, g_MOST_LETTERS⟩ := T.g_MOST_LETTERS
  have T_BadArms : Thrown P w K mg base "BadArms" ["index", "what"] := t_BadArms T
  show FnOk P w K mg base (L2.CX P w) (2 + 1) f fd ["index", "bar"] (spM K mg 2 (mDef 5 b__check_bar))
  refine okM F sc__check_bar rfl rfl (fun cdv A outer s H E hr => ?_)
  exact (qss_cons (qs_if (qt_not (qt_tru (qe_c C_is_row hr (by decide) cx_takes (qa_cons (qe_var 1) (qa_cons qe_int (qa_cons qe_int qa_nil)))))) (qss_one (qs_throw T_BadArms hr (by decide) rfl cx_takes (qa_cons (qe_var 0) (qa_cons qe_str qa_nil)))) qss_nil) (qss_cons (qs_asg (qe_var 1) (qg_seq 3 rfl (qgs_cons (qg_name 2 sc__check_bar.nd) (qgs_cons (qg_name 3 sc__check_bar.nd) (qgs_cons (qg_name 4 sc__check_bar.nd) qgs_nil))))) (qss_cons (qs_if (qt_not (qt_tru (qe_c C_is_whole hr (by decide) cx_takes (qa_cons (qe_var 2) (qa_cons (qe_glob (v := .int _) (by rfl) g_MAST ⟨_, rfl⟩ fun _ _ => .int _) (qa_cons (qe_op op_sub os_sub (qe_var 0) qe_int) qa_nil)))))) (qss_one (qs_throw T_BadArms hr (by decide) rfl cx_takes (qa_cons (qe_var 0) (qa_cons qe_str qa_nil)))) qss_nil) (qss_cons (qs_if (qt_not (qt_tru (qe_c C_is_ratio hr (by decide) cx_takes (qa_cons (qe_var 3) qa_nil)))) (qss_one (qs_throw T_BadArms hr (by decide) rfl cx_takes (qa_cons (qe_var 0) (qa_cons qe_str qa_nil)))) qss_nil) (qss_one (qs_if (qt_not (qt_tru (qe_c C_is_whole hr (by decide) cx_takes (qa_cons (qe_var 4) (qa_cons qe_int (qa_cons (qe_glob (v := .int _) (by rfl) g_MOST_LETTERS ⟨_, rfl⟩ fun _ _ => .int _) qa_nil)))))) (qss_one (qs_throw T_BadArms hr (by decide) rfl cx_takes (qa_cons (qe_var 0) (qa_cons qe_str qa_nil)))) qss_nil))))))
theorem c__check_bar (T : Txt K mg) (C_is_ratio : Callee P w K mg base 2 "is_ratio" 1 [] m_is_ratio) (C_is_row : Callee P w K mg base 1 "is_row" 3 [] m_is_row) (C_is_whole : Callee P w K mg base 1 "is_whole" 3 [] m_is_whole) : Callee P w K mg base 3 "_check_bar" 2 [] m__check_bar := by
  obtain ⟨f, fd, F, hm⟩ := T.F__check_bar
  exact ⟨f, fd, ["index", "bar"], [], [], f__check_bar T C_is_ratio C_is_row C_is_whole F, hm, F.kp, F.binds (ps := ["index", "bar"]) (fun _ _ _ _ _ _ us hl => match us, hl with | [_, _], _ => rfl), .nil, fun _ _ => .nil⟩
theorem f__check_bars (T : Txt K mg) (C__check_bar : Callee P w K mg base 3 "_check_bar" 2 [] m__check_bar) (C_is_row : Callee P w K mg base 1 "is_row" 3 [] m_is_row) {f : Addr} {fd : FuncData} (F : Fun K "_check_bars" "_check_bars" st__check_bars f fd) : FnOk P w K mg base (L2.CX P w) 4 f fd ["bars"] (spM K mg 1 m__check_bars) := by
  obtain ⟨_, g_MOST_BARS⟩ := T.g_MOST_BARS
  have z_enumerate := T.z_enumerate
  have T_BadArms : Thrown P w K mg base "BadArms" ["index", "what"] := t_BadArms T
  show FnOk P w K mg base (L2.CX P w) (3 + 1) f fd ["bars"] (spM K mg 1 (mDef 3 b__check_bars))
  refine okM F sc__check_bars rfl rfl (fun cdv A outer s H E hr => ?_)
  exact (qss_cons (qs_if (qt_not (qt_tru (qe_c C_is_row hr (by decide) cx_takes (qa_cons (qe_var 0) (qa_cons qe_int (qa_cons (qe_glob (v := .int _) (by rfl) g_MOST_BARS ⟨_, rfl⟩ fun _ _ => .int _) qa_nil)))))) (qss_one (qs_throw T_BadArms hr (by decide) rfl cx_takes (qa_cons qe_int (qa_cons qe_str qa_nil)))) qss_nil) (qss_one (qs_forp cx_pass rfl (qip_enum (by rfl) z_enumerate (qe_var 0)) (qg_seq 2 rfl (qgs_cons (qg_name 1 sc__check_bars.nd) (qgs_cons (qg_name 2 sc__check_bars.nd) qgs_nil))) (qss_one (qs_expr (qe_c C__check_bar hr (by decide) cx_takes (qa_cons (qe_var 1) (qa_cons (qe_var 2) qa_nil))))))))
theorem c__check_bars (T : Txt K mg) (C__check_bar : Callee P w K mg base 3 "_check_bar" 2 [] m__check_bar) (C_is_row : Callee P w K mg base 1 "is_row" 3 [] m_is_row) : Callee P w K mg base 4 "_check_bars" 1 [] m__check_bars := by
  obtain ⟨f, fd, F, hm⟩ := T.F__check_bars
  exact ⟨f, fd, ["bars"], [], [], f__check_bars T C__check_bar C_is_row F, hm, F.kp, F.binds (ps := ["bars"]) (fun _ _ _ _ _ _ us hl => match us, hl with | [_], _ => rfl), .nil, fun _ _ => .nil⟩
theorem f__count_letters (T : Txt K mg) {f : Addr} {fd : FuncData} (F : Fun K "_count_letters" "_count_letters" st__count_letters f fd) : FnOk P w K mg base (L2.CX P w) 3 f fd ["bars"] (spM K mg 1 m__count_letters) := by
  have z_all := T.z_all
  have z_max := T.z_max
  have z_range := T.z_range
  have T_BadArms : Thrown P w K mg base "BadArms" ["index", "what"] := t_BadArms T
  show FnOk P w K mg base (L2.CX P w) (2 + 1) f fd ["bars"] (spM K mg 1 (mDef 5 b__count_letters))
  refine okM F sc__count_letters rfl rfl (fun cdv A outer s H E hr => ?_)
  exact (qss_cons (qs_set 1 sc__count_letters.nd (qe_lc rfl sc__count_letters.nd (qi_seq (qe_var 0)) (blkOk_by (N := ["bars", "used", "bar", "greatest", "letter"]) (sc := defScope st__count_letters) (own := [("bar", 2)]) (by decide +kernel)) rfl (by decide) sg_name (g := gName 2) (fun _ _ _ _ _ => (qg_name 2 sc__count_letters.nd).1) (fun _ _ _ _ _ => qts_nil) (fun _ _ _ _ _ => (qe_ix (qe_var 2) qe_int)))) (qss_cons (qs_set 3 sc__count_letters.nd (qe_callB (call_maxA rfl) cs_max (by rfl) z_max (by decide +kernel) (qa_cons (qe_var 1) qa_nil))) (qss_cons (qs_if (qt_w (qw_or (qt_cmp (op_eqD hr.units) os_eq (qe_var 3) qe_int (nomark _)) (qw_or1 (qt_not (qt_tru (qe_callB (cr_all rfl) cs_all (by rfl) z_all (by decide +kernel) (qa_cons (qe_lc rfl sc__count_letters.nd (qi_rng2 (by rfl) z_range qe_int (qe_op op_addA os_add (qe_var 3) qe_int)) (blkOk_by (N := ["bars", "used", "bar", "greatest", "letter"]) (sc := defScope st__count_letters) (own := [("letter", 4)]) (by decide +kernel)) rfl (by decide) sg_name (g := gName 4) (fun _ _ _ _ _ => (qg_name 4 sc__count_letters.nd).1) (fun _ _ _ _ _ => qts_nil) (fun _ _ _ _ _ => (qe_cmp (op_inD hr.units65) os_in (qe_var 4) (qe_var 1) rfl))) qa_nil))))))) (qss_one (qs_throw T_BadArms hr (by decide) rfl cx_takes (qa_cons qe_int (qa_cons qe_str qa_nil)))) qss_nil) (qss_one (qs_ret (qe_var 3))))))
theorem c__count_letters (T : Txt K mg) : Callee P w K mg base 3 "_count_letters" 1 [] m__count_letters := by
  obtain ⟨f, fd, F, hm⟩ := T.F__count_letters
  exact ⟨f, fd, ["bars"], [], [], f__count_letters T  F, hm, F.kp, F.binds (ps := ["bars"]) (fun _ _ _ _ _ _ us hl => match us, hl with | [_], _ => rfl), .nil, fun _ _ => .nil⟩
theorem f_Arms____init__ (T : Txt K mg) (C__check_bars : Callee P w K mg base 4 "_check_bars" 1 [] m__check_bars) (C__count_letters : Callee P w K mg base 3 "_count_letters" 1 [] m__count_letters) {f : Addr} {fd : FuncData} (F : Fun K "__init__" "Arms.__init__" st_Arms____init__ f fd) : FnOk P w K mg base (L2.CX P w) (4 + 1) f fd ["self", "bars"] (spN K mg "Arms" 1 (mInit 3 "Arms" b_Arms____init__)) := by
  have A_bars := T.A_bars
  have A_letters := T.A_letters
  have z_tuple := T.z_tuple
  refine okI F sc_Arms____init__ rfl rfl (by decide) (fun cdv A outer s H E hr => ?_)
  exact (qss_cons (qs_expr (qe_c C__check_bars hr (by decide) cx_takes (qa_cons (qe_var 1) qa_nil))) (qss_cons (qs_fld 0 A_letters rfl (qe_c C__count_letters hr (by decide) cx_takes (qa_cons (qe_var 1) qa_nil))) (qss_one (qs_fld 0 A_bars rfl (qe_callTy call_tuple_of cs_tuple (by rfl) z_tuple (by decide +kernel) (qa_cons (qe_lc rfl sc_Arms____init__.nd (qi_seq (qe_var 1)) (blkOk_by (N := ["self", "bars", "bar"]) (sc := defScope st_Arms____init__) (own := [("bar", 2)]) (by decide +kernel)) rfl (by decide) sg_name (g := gName 2) (fun _ _ _ _ _ => (qg_name 2 sc_Arms____init__.nd).1) (fun _ _ _ _ _ => qts_nil) (fun _ _ _ _ _ => (qe_callTy call_tuple_of cs_tuple (by rfl) z_tuple (by decide +kernel) (qa_cons (qe_var 2) qa_nil)))) qa_nil))))))
theorem c_Arms____init__ (T : Txt K mg) (C__check_bars : Callee P w K mg base 4 "_check_bars" 1 [] m__check_bars) (C__count_letters : Callee P w K mg base 3 "_count_letters" 1 [] m__count_letters) : Maker P w K mg base 5 "Arms" 1 [] m_Arms____init__ := by
  obtain ⟨C, f, fd, h1, h2, F⟩ := T.G_Arms____init__
  exact Mir.maker_of h1 h2 (f_Arms____init__ T C__check_bars C__count_letters F) (F.binds (ps := ["self", "bars"]) (fun _ _ _ _ _ _ us hl => match us, hl with | [_, _], _ => rfl))
theorem f_Arms____len__ (T : Txt K mg) {f : Addr} {fd : FuncData} (F : Fun K "__len__" "Arms.__len__" st_Arms____len__ f fd) : FnOk P w K mg base (L2.CX P w) (0 + 1) f fd ["self"] (spM K mg 1 (mDef 1 b_Arms____len__)) := by
  have A_bars := T.A_bars
  have z_len := T.z_len
  refine okM F sc_Arms____len__ rfl rfl (fun cdv A outer s H E hr => ?_)
  exact (qss_one (qs_ret (qe_callB call_lenA cs_len (by rfl) z_len (by decide +kernel) (qa_cons (qe_attr A_bars (qe_var 0)) qa_nil))))
theorem c_Arms____len__ (T : Txt K mg) : Method P w K mg base 1 "Arms" "__len__" 1 [] m_Arms____len__ := by
  obtain ⟨C, f, fd, h1, h2, h3, F⟩ := T.G_Arms____len__
  exact Mir.method_of (qual := "") (st := st_Arms____len__) h1 h2 h3 (f_Arms____len__ T  F) (F.binds (ps := ["self"]) (fun _ _ _ _ _ _ us hl => match us, hl with | [_], _ => rfl))
theorem f__law_letters (T : Txt K mg) (C__law_take : Callee P w K mg base 1 "_law_take" 2 [] m__law_take) {f : Addr} {fd : FuncData} (F : Fun K "_law_letters" "_law_letters" st__law_letters f fd) : FnOk P w K mg base (L2.CX P w) 2 f fd ["_law_hand_here", "_law_many", "_law_most_here"] (spM K mg 3 m__law_letters) := by
  have z_min := T.z_min
  have z_range := T.z_range
  show FnOk P w K mg base (L2.CX P w) (1 + 1) f fd ["_law_hand_here", "_law_many", "_law_most_here"] (spM K mg 3 (mDef 7 b__law_letters))
  refine okM F sc__law_letters rfl rfl (fun cdv A outer s H E hr => ?_)
  exact (qss_cons (qs_set 3 sc__law_letters.nd (qe_op op_addA os_add qe_int (qe_c C__law_take hr (by decide) cx_takes (qa_cons (qe_var 0) (qa_cons (qe_callB (call_minA rfl) cs_min (by rfl) z_min (by decide +kernel) (qa_cons (qe_var 1) (qa_cons (qe_var 2) qa_nil))) qa_nil))))) (qss_cons (qs_setLcO 4 rfl sc__law_letters.nd (qi_rng1 (by rfl) z_range (qe_var 1)) (blkOk_by (N := ["_law_hand_here", "_law_many", "_law_most_here", "_law_n", "_law_row", "_law_k", "_law_other"]) (sc := defScope st__law_letters) (own := [("_law_k", 5)]) (by decide +kernel)) rfl (by decide) sg_name (g := gName 5) (fun _ _ _ _ _ => (qg_name 5 sc__law_letters.nd).1) (fun _ _ _ _ _ => qts_nil) (fun _ _ _ _ _ => (qe_if (qt_cmp op_lt os_lt (qe_var 5) (qe_var 3) (nomark _)) (qe_op op_addA os_add (qe_var 5) qe_int) (qe_c C__law_take hr (by decide) takes0 (qa_cons (qe_var 0) (qa_cons (qe_op op_addA os_add (qe_var 3) qe_int) qa_nil)))))) (qss_cons (qs_for cx_pass rfl (qi_rngD (by rfl) z_range (qe_op op_sub os_sub (qe_var 1) qe_int) qe_int) (qg_name 5 sc__law_letters.nd) (qss_cons (qs_set 6 sc__law_letters.nd (qe_c C__law_take hr (by decide) cx_takes (qa_cons (qe_var 0) (qa_cons (qe_op op_addA os_add (qe_var 5) qe_int) qa_nil)))) (qss_one (qs_swp 4 rfl rfl (qe_var 5) (qe_var 6) (qe_ixO 4 rfl (qe_var 6)) (qe_ixO 4 rfl (qe_var 5)))))) (qss_one (qs_frz [4] (qs_ret (qe_var 4)))))))
theorem c__law_letters (T : Txt K mg) (C__law_take : Callee P w K mg base 1 "_law_take" 2 [] m__law_take) : Callee P w K mg base 2 "_law_letters" 3 [] m__law_letters := by
  obtain ⟨f, fd, F, hm⟩ := T.F__law_letters
  exact ⟨f, fd, ["_law_hand_here", "_law_many", "_law_most_here"], [], [], f__law_letters T C__law_take F, hm, F.kp, F.binds (ps := ["_law_hand_here", "_law_many", "_law_most_here"]) (fun _ _ _ _ _ _ us hl => match us, hl with | [_, _, _], _ => rfl), .nil, fun _ _ => .nil⟩
theorem f__law_gcd (T : Txt K mg) {f : Addr} {fd : FuncData} (F : Fun K "_law_gcd" "_law_gcd" st__law_gcd f fd) : FnOk P w K mg base (L2.CX P w) 1 f fd ["_law_one", "_law_other"] (spM K mg 2 m__law_gcd) := by
  have z_abs := T.z_abs
  have z_int := T.z_int
  show FnOk P w K mg base (L2.CX P w) (0 + 1) f fd ["_law_one", "_law_other"] (spM K mg 2 (mDef 2 b__law_gcd))
  refine okM F sc__law_gcd rfl rfl (fun cdv A outer s H E hr => ?_)
  exact (qss_cons (qs_par 0 1 rfl sc__law_gcd.nd (by decide) (qa_cons (qe_callB call_abs cs_abs (by rfl) z_abs (by decide +kernel) (qa_cons (qe_var 0) qa_nil)) (qa_cons (qe_callB call_abs cs_abs (by rfl) z_abs (by decide +kernel) (qa_cons (qe_var 1) qa_nil)) qa_nil))) (qss_cons (qs_while cx_pass (qt_tru (qe_var 1)) (qss_one (qs_par 0 1 rfl sc__law_gcd.nd (by decide) (qa_cons (qe_var 1) (qa_cons (qe_op op_modN os_mod (qe_callTy call_int1 cs_int (by rfl) z_int (by decide +kernel) (qa_cons (qe_var 0) qa_nil)) (qe_var 1)) qa_nil))))) (qss_one (qs_ret (qe_var 0)))))
theorem c__law_gcd (T : Txt K mg) : Callee P w K mg base 1 "_law_gcd" 2 [] m__law_gcd := by
  obtain ⟨f, fd, F, hm⟩ := T.F__law_gcd
  exact ⟨f, fd, ["_law_one", "_law_other"], [], [], f__law_gcd T  F, hm, F.kp, F.binds (ps := ["_law_one", "_law_other"]) (fun _ _ _ _ _ _ us hl => match us, hl with | [_, _], _ => rfl), .nil, fun _ _ => .nil⟩
theorem f__law_ratio (T : Txt K mg) (C__law_gcd : Callee P w K mg base 1 "_law_gcd" 2 [] m__law_gcd) {f : Addr} {fd : FuncData} (F : Fun K "_law_ratio" "_law_ratio" st__law_ratio f fd) : FnOk P w K mg base (L2.CX P w) 2 f fd ["_law_top", "_law_bottom"] (spM K mg 2 m__law_ratio) := by
  show FnOk P w K mg base (L2.CX P w) (1 + 1) f fd ["_law_top", "_law_bottom"] (spM K mg 2 (mDef 3 b__law_ratio))
  refine okM F sc__law_ratio rfl rfl (fun cdv A outer s H E hr => ?_)
  exact (qss_cons (qs_set 2 sc__law_ratio.nd (qe_c C__law_gcd hr (by decide) cx_takes (qa_cons (qe_var 0) (qa_cons (qe_var 1) qa_nil)))) (qss_cons (qs_if (qt_cmp op_lt os_lt (qe_var 1) qe_int (nomark _)) (qss_one (qs_set 2 sc__law_ratio.nd (qe_un un_neg us_neg (qe_var 2)))) qss_nil) (qss_one (qs_ret (qe_tup (qa_cons (qe_op op_divA os_div (qe_var 0) (qe_var 2)) (qa_cons (qe_op op_divA os_div (qe_var 1) (qe_var 2)) qa_nil)))))))
theorem c__law_ratio (T : Txt K mg) (C__law_gcd : Callee P w K mg base 1 "_law_gcd" 2 [] m__law_gcd) : Callee P w K mg base 2 "_law_ratio" 2 [] m__law_ratio := by
  obtain ⟨f, fd, F, hm⟩ := T.F__law_ratio
  exact ⟨f, fd, ["_law_top", "_law_bottom"], [], [], f__law_ratio T C__law_gcd F, hm, F.kp, F.binds (ps := ["_law_top", "_law_bottom"]) (fun _ _ _ _ _ _ us hl => match us, hl with | [_, _], _ => rfl), .nil, fun _ _ => .nil⟩
theorem f__law_mark (T : Txt K mg) (C__law_ratio : Callee P w K mg base 2 "_law_ratio" 2 [] m__law_ratio) (C__law_take : Callee P w K mg base 1 "_law_take" 2 [] m__law_take) {f : Addr} {fd : FuncData} (F : Fun K "_law_mark" "_law_mark" st__law_mark f fd) : FnOk P w K mg base (L2.CX P w) 3 f fd ["_law_hand_here"] (spM K mg 1 m__law_mark) := by
  show FnOk P w K mg base (L2.CX P w) (2 + 1) f fd ["_law_hand_here"] (spM K mg 1 (mDef 1 b__law_mark))
  refine okM F sc__law_mark rfl rfl (fun cdv A outer s H E hr => ?_)
  exact (qss_one (qs_ret (qe_c C__law_ratio hr (by decide) cx_takes (qa_cons (qe_op op_sub os_sub (qe_c C__law_take hr (by decide) cx_takes (qa_cons (qe_var 0) (qa_cons qe_int qa_nil))) qe_int) (qa_cons qe_int qa_nil)))))
theorem c__law_mark (T : Txt K mg) (C__law_ratio : Callee P w K mg base 2 "_law_ratio" 2 [] m__law_ratio) (C__law_take : Callee P w K mg base 1 "_law_take" 2 [] m__law_take) : Callee P w K mg base 3 "_law_mark" 1 [] m__law_mark := by
  obtain ⟨f, fd, F, hm⟩ := T.F__law_mark
  exact ⟨f, fd, ["_law_hand_here"], [], [], f__law_mark T C__law_ratio C__law_take F, hm, F.kp, F.binds (ps := ["_law_hand_here"]) (fun _ _ _ _ _ _ us hl => match us, hl with | [_], _ => rfl), .nil, fun _ _ => .nil⟩
theorem f__law_bars (T : Txt K mg) (C__law_letters : Callee P w K mg base 2 "_law_letters" 3 [] m__law_letters) (C__law_mark : Callee P w K mg base 3 "_law_mark" 1 [] m__law_mark) (C__law_take : Callee P w K mg base 1 "_law_take" 2 [] m__law_take) {f : Addr} {fd : FuncData} (F : FunD K "_law_bars" "_law_bars" (defArgs st__law_bars) (defBody st__law_bars) (defScope st__law_bars) [.int 2] [] f fd) : FnOk P w K mg base (L2.CX P w) 4 f fd ["_law_hand_here", "_law_most_here"] (spM K mg 2 m__law_bars) := by
  have z_range := T.z_range
  have z_tuple := T.z_tuple
  show FnOk P w K mg base (L2.CX P w) (3 + 1) f fd ["_law_hand_here", "_law_most_here"] (spM K mg 2 (mDef 6 b__law_bars))
  refine okMD F sc__law_bars rfl rfl (fun cdv A outer s H E hr => ?_)
  exact (qss_cons (qs_set 2 sc__law_bars.nd (qe_ix (qe_lst (qa_cons qe_int (qa_cons qe_int (qa_cons qe_int (qa_cons qe_int (qa_cons qe_int (qa_cons qe_int (qa_cons qe_int (qa_cons qe_int qa_nil))))))))) (qe_c C__law_take hr (by decide) cx_takes (qa_cons (qe_var 0) (qa_cons qe_int qa_nil))))) (qss_cons (qs_set 3 sc__law_bars.nd (qe_c C__law_letters hr (by decide) cx_takes (qa_cons (qe_var 0) (qa_cons (qe_var 2) (qa_cons (qe_var 1) qa_nil))))) (qss_cons (qs_setO 4 sc__law_bars.nd (qf_lst qa_nil)) (qss_cons (qs_for cx_pass rfl (qi_rng1 (by rfl) z_range (qe_var 2)) (qg_name 5 sc__law_bars.nd) (qss_one (qs_app 4 rfl (qe_tup (qa_cons (qe_op op_sub os_sub (qe_c C__law_take hr (by decide) cx_takes (qa_cons (qe_var 0) (qa_cons (qe_op op_addA os_add (qe_var 5) qe_int) qa_nil))) qe_int) (qa_cons (qe_c C__law_mark hr (by decide) cx_takes (qa_cons (qe_var 0) qa_nil)) (qa_cons (qe_ix (qe_var 3) (qe_var 5)) qa_nil))))))) (qss_one (qs_ret (qe_bor 4 (qe_callTy call_tuple_of cs_tuple (by rfl) z_tuple (by decide +kernel) (qa_cons (qe_var 4) qa_nil)))))))))
theorem c__law_bars (T : Txt K mg) (C__law_letters : Callee P w K mg base 2 "_law_letters" 3 [] m__law_letters) (C__law_mark : Callee P w K mg base 3 "_law_mark" 1 [] m__law_mark) (C__law_take : Callee P w K mg base 1 "_law_take" 2 [] m__law_take) : Callee P w K mg base 4 "_law_bars" 2 [] m__law_bars := by
  obtain ⟨f, fd, F, hm⟩ := T.F__law_bars
  obtain ⟨ds, hv, hb⟩ := FunD.binds1 (ps := ["_law_hand_here", "_law_most_here"]) F 2 1 (by simp) rfl (fun T kV doc pm an cdv ct us its l1 l2 => match us, its, l1, l2 with | [_, _], [_], _, _ => ⟨_, rfl, rfl⟩)
  exact ⟨f, fd, ["_law_hand_here", "_law_most_here"], _, ds, f__law_bars T C__law_letters C__law_mark C__law_take F, hm, F.kp, hb, hv, fun _ _ => .nil⟩
theorem f__law_made (T : Txt K mg) (C_Arms____init__ : Maker P w K mg base 5 "Arms" 1 [] m_Arms____init__) {f : Addr} {fd : FuncData} (F : Fun K "_law_made" "_law_made" st__law_made f fd) : FnOk P w K mg base (L2.CX P w) 7 f fd ["_law_bars_here"] (spM K mg 1 m__law_made) := by
  have K_BadArms : ∃ C : Addr, mg "BadArms" = some (.ref C) ∧ PySem.W.exmOne K (.ref C) (.ref C) = some true ∧ XfC K C ∧ PySem.W.findIn K (.ref C) "index" = some none ∧ PySem.W.findIn K (.ref C) "what" = some none := by
    obtain ⟨C, fI, fd, h1, h2, h3, h4, h5, F, h6, h7⟩ := T.X_BadArms
    exact ⟨C, h1, h6, h7, h3 _ (by simp), h3 _ (by simp)⟩
  show FnOk P w K mg base (L2.CX P w) (6 + 1) f fd ["_law_bars_here"] (spM K mg 1 (mDef 2 b__law_made))
  refine okM F sc__law_made rfl rfl (fun cdv A outer s H E hr => ?_)
  exact (qss_one (by obtain ⟨CC, hm_C, he_C, xf_C, nof_index, nof_what⟩ := K_BadArms; exact qs_tryAs (C := CC) rfl rfl sc__law_made.nd rfl rfl hm_C (by rfl) (by decide) cx_takes he_C (fun W pn xe tkT psT => (qss_one (qs_ret (qe_make C_Arms____init__ hr (by decide) tkT (qa_cons (qe_var 0) qa_nil))))) ⟨fun a oe cls d pn hz hf => pss_one (ps_ret (pe_tup (pa_cons (pe_xf xf_C nof_index hz hf (pv 1)) (pa_cons (pe_xf xf_C nof_what hz hf (pv 1)) pa_nil)))), fun a dd => xs_ret (xe_tup (xa_cons xe_fld (xa_cons xe_fld xa_nil)))⟩))
theorem c__law_made (T : Txt K mg) (C_Arms____init__ : Maker P w K mg base 5 "Arms" 1 [] m_Arms____init__) : Callee P w K mg base 7 "_law_made" 1 [] m__law_made := by
  obtain ⟨f, fd, F, hm⟩ := T.F__law_made
  exact ⟨f, fd, ["_law_bars_here"], [], [], f__law_made T C_Arms____init__ F, hm, F.kp, F.binds (ps := ["_law_bars_here"]) (fun _ _ _ _ _ _ us hl => match us, hl with | [_], _ => rfl), .nil, fun _ _ => .nil⟩
theorem f__law_most (T : Txt K mg) {f : Addr} {fd : FuncData} (F : Fun K "_law_most" "_law_most" st__law_most f fd) : FnOk P w K mg base (L2.CX P w) 1 f fd ["_law_bars_here"] (spM K mg 1 m__law_most) := by
  have z_max := T.z_max
  show FnOk P w K mg base (L2.CX P w) (0 + 1) f fd ["_law_bars_here"] (spM K mg 1 (mDef 2 b__law_most))
  refine okM F sc__law_most rfl rfl (fun cdv A outer s H E hr => ?_)
  exact (qss_one (qs_ret (qe_callB (call_maxA rfl) cs_max (by rfl) z_max (by decide +kernel) (qa_cons (qe_lc rfl sc__law_most.nd (qi_seq (qe_var 0)) (blkOk_by (N := ["_law_bars_here", "_law_bar"]) (sc := defScope st__law_most) (own := [("_law_bar", 1)]) (by decide +kernel)) rfl (by decide) sg_name (g := gName 1) (fun _ _ _ _ _ => (qg_name 1 sc__law_most.nd).1) (fun _ _ _ _ _ => qts_nil) (fun _ _ _ _ _ => (qe_ix (qe_var 1) qe_int))) qa_nil))))
theorem c__law_most (T : Txt K mg) : Callee P w K mg base 1 "_law_most" 1 [] m__law_most := by
  obtain ⟨f, fd, F, hm⟩ := T.F__law_most
  exact ⟨f, fd, ["_law_bars_here"], [], [], f__law_most T  F, hm, F.kp, F.binds (ps := ["_law_bars_here"]) (fun _ _ _ _ _ _ us hl => match us, hl with | [_], _ => rfl), .nil, fun _ _ => .nil⟩
theorem f__law_gaps (T : Txt K mg) (C__law_made : Callee P w K mg base 7 "_law_made" 1 [] m__law_made) (C__law_most : Callee P w K mg base 1 "_law_most" 1 [] m__law_most) (C__law_take : Callee P w K mg base 1 "_law_take" 2 [] m__law_take) {f : Addr} {fd : FuncData} (F : Fun K "_law_gaps" "_law_gaps" st__law_gaps f fd) : FnOk P w K mg base (L2.CX P w) 8 f fd ["_law_hand_here", "_law_bars_here"] (spM K mg 2 m__law_gaps) := by
  have O_Arms := T.O_Arms
  have z_isinstance := T.z_isinstance
  have z_list := T.z_list
  show FnOk P w K mg base (L2.CX P w) (7 + 1) f fd ["_law_hand_here", "_law_bars_here"] (spM K mg 2 (mDef 9 b__law_gaps))
  refine okM F sc__law_gaps rfl rfl (fun cdv A outer s H E hr => ?_)
  exact (qss_cons (qs_setLc 2 rfl sc__law_gaps.nd (qi_seq (qe_var 1)) (blkOk_by (N := ["_law_hand_here", "_law_bars_here", "_law_flat", "_law_host", "_law_mark_here", "_law_letter", "_law_higher", "_law_seven", "_law_odd_here"]) (sc := defScope st__law_gaps) (own := [("_law_host", 3), ("_law_mark_here", 4), ("_law_letter", 5)]) (by decide +kernel)) rfl (by decide) (sg_seq (sgs_cons sg_name (sgs_cons sg_name (sgs_cons sg_name sgs_nil)))) (g := gSeq K 3 ((gCons (gName 3) ((gCons (gName 4) ((gCons (gName 5) (gNil)))))))) (fun _ _ _ _ _ => (qg_seq 3 rfl (qgs_cons (qg_name 3 sc__law_gaps.nd) (qgs_cons (qg_name 4 sc__law_gaps.nd) (qgs_cons (qg_name 5 sc__law_gaps.nd) qgs_nil)))).1) (fun _ _ _ _ _ => qts_nil) (fun _ _ _ _ _ => (qe_tup (qa_cons (qe_var 3) (qa_cons (qe_var 4) (qa_cons qe_int qa_nil)))))) (qss_cons (qs_if (qt_cmp (op_neD hr.units) os_ne (qe_c C__law_made hr (by decide) cx_takes (qa_cons (qe_var 2) qa_nil)) (qe_tup (qa_cons qe_int (qa_cons qe_str qa_nil))) (nomark _)) (qss_one (qs_ret qe_bl)) qss_nil) (qss_cons (qs_if (qt_cmp op_lt os_lt (qe_c C__law_most hr (by decide) cx_takes (qa_cons (qe_var 1) qa_nil)) qe_int (nomark _)) (qss_cons (qs_setLc 6 rfl sc__law_gaps.nd (qi_seq (qe_var 1)) (blkOk_by (N := ["_law_hand_here", "_law_bars_here", "_law_flat", "_law_host", "_law_mark_here", "_law_letter", "_law_higher", "_law_seven", "_law_odd_here"]) (sc := defScope st__law_gaps) (own := [("_law_host", 3), ("_law_mark_here", 4), ("_law_letter", 5)]) (by decide +kernel)) rfl (by decide) (sg_seq (sgs_cons sg_name (sgs_cons sg_name (sgs_cons sg_name sgs_nil)))) (g := gSeq K 3 ((gCons (gName 3) ((gCons (gName 4) ((gCons (gName 5) (gNil)))))))) (fun _ _ _ _ _ => (qg_seq 3 rfl (qgs_cons (qg_name 3 sc__law_gaps.nd) (qgs_cons (qg_name 4 sc__law_gaps.nd) (qgs_cons (qg_name 5 sc__law_gaps.nd) qgs_nil)))).1) (fun _ _ _ _ _ => qts_nil) (fun _ _ _ _ _ => (qe_tup (qa_cons (qe_var 3) (qa_cons (qe_var 4) (qa_cons (qe_if (qt_tru (qe_var 5)) (qe_op op_addA os_add (qe_var 5) qe_int) qe_int) qa_nil)))))) (qss_one (qs_if (qt_cmp (op_neD hr.units) os_ne (qe_c C__law_made hr (by decide) cx_takes (qa_cons (qe_var 6) qa_nil)) (qe_tup (qa_cons qe_int (qa_cons qe_str qa_nil))) (nomark _)) (qss_one (qs_ret qe_bl)) qss_nil))) qss_nil) (qss_cons (qs_set 7 sc__law_gaps.nd (qe_sl (qe_op op_addA os_add (qe_callTy call_list_of cs_list (by rfl) z_list (by decide +kernel) (qa_cons (qe_var 1) qa_nil)) (qe_op op_mulA os_mul (qe_lst (qa_cons (qe_tup (qa_cons (qe_un un_neg us_neg qe_int) (qa_cons (qe_tup (qa_cons qe_int (qa_cons qe_int qa_nil))) (qa_cons qe_int qa_nil)))) qa_nil)) qe_int)) qo_none (qo_some qe_int))) (qss_cons (qs_if (qt_w (qw_or (qt_cmp (op_neD hr.units) os_ne (qe_c C__law_made hr (by decide) cx_takes (qa_cons (qe_var 7) qa_nil)) (qe_tup (qa_cons qe_int (qa_cons qe_str qa_nil))) (nomark _)) (qw_or1 (qt_not (qt_tru (qe_isiO (qe_c C__law_made hr (by decide) cx_takes (qa_cons (qe_sl (qe_op op_addA os_add (qe_callTy call_list_of cs_list (by rfl) z_list (by decide +kernel) (qa_cons (qe_var 1) qa_nil)) (qe_op op_mulA os_mul (qe_lst (qa_cons (qe_lst (qa_cons (qe_un un_neg us_neg qe_int) (qa_cons (qe_tup (qa_cons qe_int (qa_cons qe_int qa_nil))) (qa_cons qe_int qa_nil)))) qa_nil)) qe_int)) qo_none (qo_some qe_int)) qa_nil)) O_Arms (by rfl) z_isinstance (by rfl))))))) (qss_one (qs_ret qe_bl)) qss_nil) (qss_cons (qs_set 8 sc__law_gaps.nd (qe_ix (qe_lst (qa_cons (qe_tup qa_nil) (qa_cons (qe_lst qa_nil) (qa_cons qe_non (qa_cons qe_str (qa_cons qe_int (qa_cons (qe_dct1 qe_int (qe_ix (qe_var 1) qe_int)) qa_nil))))))) (qe_c C__law_take hr (by decide) cx_takes (qa_cons (qe_var 0) (qa_cons qe_int qa_nil))))) (qss_one (qs_ret (qe_cmp (op_eqD hr.units) os_eq (qe_c C__law_made hr (by decide) cx_takes (qa_cons (qe_var 8) qa_nil)) (qe_tup (qa_cons qe_int (qa_cons qe_str qa_nil))) (nomark _))))))))))
theorem c__law_gaps (T : Txt K mg) (C__law_made : Callee P w K mg base 7 "_law_made" 1 [] m__law_made) (C__law_most : Callee P w K mg base 1 "_law_most" 1 [] m__law_most) (C__law_take : Callee P w K mg base 1 "_law_take" 2 [] m__law_take) : Callee P w K mg base 8 "_law_gaps" 2 [] m__law_gaps := by
  obtain ⟨f, fd, F, hm⟩ := T.F__law_gaps
  exact ⟨f, fd, ["_law_hand_here", "_law_bars_here"], [], [], f__law_gaps T C__law_made C__law_most C__law_take F, hm, F.kp, F.binds (ps := ["_law_hand_here", "_law_bars_here"]) (fun _ _ _ _ _ _ us hl => match us, hl with | [_, _], _ => rfl), .nil, fun _ _ => .nil⟩
theorem f__law_lists (T : Txt K mg) (C__law_take : Callee P w K mg base 1 "_law_take" 2 [] m__law_take) {f : Addr} {fd : FuncData} (F : Fun K "_law_lists" "_law_lists" st__law_lists f fd) : FnOk P w K mg base (L2.CX P w) 2 f fd ["_law_hand_here", "_law_rows"] (spM K mg 2 m__law_lists) := by
  have z_tuple := T.z_tuple
  show FnOk P w K mg base (L2.CX P w) (1 + 1) f fd ["_law_hand_here", "_law_rows"] (spM K mg 2 (mDef 5 b__law_lists))
  refine okM F sc__law_lists rfl rfl (fun cdv A outer s H E hr => ?_)
  exact (qss_cons (qs_setO 2 sc__law_lists.nd (qf_lst qa_nil)) (qss_cons (qs_for cx_pass rfl (qi_seq (qe_var 1)) (qg_name 3 sc__law_lists.nd) (qss_one (qs_app 2 rfl (qe_if (qt_tru (qe_c C__law_take hr (by decide) cx_takes (qa_cons (qe_var 0) (qa_cons qe_int qa_nil)))) (qe_lc rfl sc__law_lists.nd (qi_seq (qe_var 3)) (blkOk_by (N := ["_law_hand_here", "_law_rows", "_law_made_here", "_law_row", "_law_part"]) (sc := defScope st__law_lists) (own := [("_law_part", 4)]) (by decide +kernel)) rfl (by decide) sg_name (g := gName 4) (fun _ _ _ _ _ => (qg_name 4 sc__law_lists.nd).1) (fun _ _ _ _ _ => qts_nil) (fun _ _ _ _ _ => (qe_var 4))) (qe_callTy call_tuple_of cs_tuple (by rfl) z_tuple (by decide +kernel) (qa_cons (qe_var 3) qa_nil)))))) (qss_one (qs_frz [2] (qs_ret (qe_if (qt_tru (qe_c C__law_take hr (by decide) cx_takes (qa_cons (qe_var 0) (qa_cons qe_int qa_nil)))) (qe_var 2) (qe_callTy call_tuple_of cs_tuple (by rfl) z_tuple (by decide +kernel) (qa_cons (qe_var 2) qa_nil))))))))
theorem c__law_lists (T : Txt K mg) (C__law_take : Callee P w K mg base 1 "_law_take" 2 [] m__law_take) : Callee P w K mg base 2 "_law_lists" 2 [] m__law_lists := by
  obtain ⟨f, fd, F, hm⟩ := T.F__law_lists
  exact ⟨f, fd, ["_law_hand_here", "_law_rows"], [], [], f__law_lists T C__law_take F, hm, F.kp, F.binds (ps := ["_law_hand_here", "_law_rows"]) (fun _ _ _ _ _ _ us hl => match us, hl with | [_, _], _ => rfl), .nil, fun _ _ => .nil⟩
theorem f__law_plus (T : Txt K mg) (C__law_ratio : Callee P w K mg base 2 "_law_ratio" 2 [] m__law_ratio) {f : Addr} {fd : FuncData} (F : Fun K "_law_plus" "_law_plus" st__law_plus f fd) : FnOk P w K mg base (L2.CX P w) 3 f fd ["_law_one", "_law_other"] (spM K mg 2 m__law_plus) := by
  show FnOk P w K mg base (L2.CX P w) (2 + 1) f fd ["_law_one", "_law_other"] (spM K mg 2 (mDef 2 b__law_plus))
  refine okM F sc__law_plus rfl rfl (fun cdv A outer s H E hr => ?_)
  exact (qss_one (qs_ret (qe_c C__law_ratio hr (by decide) cx_takes (qa_cons (qe_op op_addA os_add (qe_op op_mulA os_mul (qe_ix (qe_var 0) qe_int) (qe_ix (qe_var 1) qe_int)) (qe_op op_mulA os_mul (qe_ix (qe_var 1) qe_int) (qe_ix (qe_var 0) qe_int))) (qa_cons (qe_op op_mulA os_mul (qe_ix (qe_var 0) qe_int) (qe_ix (qe_var 1) qe_int)) qa_nil)))))
theorem c__law_plus (T : Txt K mg) (C__law_ratio : Callee P w K mg base 2 "_law_ratio" 2 [] m__law_ratio) : Callee P w K mg base 3 "_law_plus" 2 [] m__law_plus := by
  obtain ⟨f, fd, F, hm⟩ := T.F__law_plus
  exact ⟨f, fd, ["_law_one", "_law_other"], [], [], f__law_plus T C__law_ratio F, hm, F.kp, F.binds (ps := ["_law_one", "_law_other"]) (fun _ _ _ _ _ _ us hl => match us, hl with | [_, _], _ => rfl), .nil, fun _ _ => .nil⟩
theorem f__law_tuples {k : Nat} {m__law_tuples : List Dt → Hd → R Dt} (hk : 0 ≤ k) (T : Txt K mg) (C__law_tuples : Callee P w K mg base k "_law_tuples" 1 [] m__law_tuples) {f : Addr} {fd : FuncData} (F : Fun K "_law_tuples" "_law_tuples" st__law_tuples f fd) : FnOk P w K mg base (L2.CX P w) (k + 1) f fd ["_law_thing"] (spM K mg 1 (mDef 2 (b__law_tuples m__law_tuples))) := by
  have z_bool := T.z_bool
  have z_int := T.z_int
  have z_isinstance := T.z_isinstance
  have z_str := T.z_str
  have z_tuple := T.z_tuple
  refine okM F sc__law_tuples rfl rfl (fun cdv A outer s H E hr => ?_)
  exact (qss_cons (qs_if (qt_tru (qe_isi (qe_var 0) (by rfl) z_isinstance (by rfl) z_tuple (by decide +kernel))) (qss_one (qs_ret (qe_not (qe_lc rfl sc__law_tuples.nd (qi_seq (qe_var 0)) (blkOk_by (N := ["_law_thing", "_law_part"]) (sc := defScope st__law_tuples) (own := [("_law_part", 1)]) (by decide +kernel)) rfl (by decide) sg_name (g := gName 1) (fun _ _ _ _ _ => (qg_name 1 sc__law_tuples.nd).1) (fun _ _ _ _ _ => (qts_one (qt_not (qt_tru (qe_c C__law_tuples hr (by omega) takes0 (qa_cons (qe_var 1) qa_nil)))))) (fun _ _ _ _ _ => qe_int))))) qss_nil) (qss_one (qs_ret (qe_or (qe_cmp op_isA os_is (qe_var 0) qe_non (nomark _)) (qe_or (qe_isi (qe_var 0) (by rfl) z_isinstance (by rfl) z_str (by decide +kernel)) (qe_one (qe_and (qe_isi (qe_var 0) (by rfl) z_isinstance (by rfl) z_int (by decide +kernel)) (qe_one (qe_not (qe_isi (qe_var 0) (by rfl) z_isinstance (by rfl) z_bool (by decide +kernel)))))))))))
theorem cr__law_tuples (T : Txt K mg)  : ∀ n : Nat, (Callee P w K mg base (0 + n) "_law_tuples" 1 [] (rec__law_tuples n)) := by
  intro n
  induction n with
  | zero =>
    obtain ⟨fa__law_tuples, fd__law_tuples, F, hm__law_tuples⟩ := T.F__law_tuples
    have z__law_tuples : Callee P w K mg base (0 + 0) "_law_tuples" 1 [] mNone := ⟨fa__law_tuples, fd__law_tuples, ["_law_thing"], [], [], none_ok, hm__law_tuples, F.kp, (F.binds (ps := ["_law_thing"]) (fun _ _ _ _ _ _ us hl => match us, hl with | [_], _ => rfl)), .nil, fun _ _ => .nil⟩
    exact z__law_tuples
  | succ n ih =>
    have C__law_tuples := ih
    obtain ⟨fa__law_tuples, fd__law_tuples, F, hm__law_tuples⟩ := T.F__law_tuples
    have z__law_tuples : Callee P w K mg base (0 + n + 1) "_law_tuples" 1 [] (mDef 2 (b__law_tuples (rec__law_tuples n))) := ⟨fa__law_tuples, fd__law_tuples, ["_law_thing"], [], [], (f__law_tuples (k := 0 + n) (by omega) T C__law_tuples F), hm__law_tuples, F.kp, (F.binds (ps := ["_law_thing"]) (fun _ _ _ _ _ _ us hl => match us, hl with | [_], _ => rfl)), .nil, fun _ _ => .nil⟩
    exact z__law_tuples
theorem c__law_tuples (T : Txt K mg)  : Callee P w K mg base 16 "_law_tuples" 1 [] m__law_tuples := (cr__law_tuples T  16)
theorem f__law_wide (T : Txt K mg) (C__law_take : Callee P w K mg base 1 "_law_take" 2 [] m__law_take) {f : Addr} {fd : FuncData} (F : Fun K "_law_wide" "_law_wide" st__law_wide f fd) : FnOk P w K mg base (L2.CX P w) 2 f fd ["_law_hand_here"] (spM K mg 1 m__law_wide) := by
  have z_range := T.z_range
  show FnOk P w K mg base (L2.CX P w) (1 + 1) f fd ["_law_hand_here"] (spM K mg 1 (mDef 4 b__law_wide))
  refine okM F sc__law_wide rfl rfl (fun cdv A outer s H E hr => ?_)
  exact (qss_cons (qs_set 1 sc__law_wide.nd (qe_c C__law_take hr (by decide) cx_takes (qa_cons (qe_var 0) (qa_cons qe_int qa_nil)))) (qss_cons (qs_if (qt_cmp op_lt os_lt (qe_var 1) qe_int (nomark _)) (qss_one (qs_ret (qe_op op_sub os_sub (qe_c C__law_take hr (by decide) cx_takes (qa_cons (qe_var 0) (qa_cons qe_int qa_nil))) qe_int))) qss_nil) (qss_cons (qs_set 2 sc__law_wide.nd qe_int) (qss_cons (qs_for cx_pass rfl (qi_rng1 (by rfl) z_range (qe_if (qt_cmp op_lt os_lt (qe_var 1) qe_int (nomark _)) qe_int qe_int)) (qg_name 3 sc__law_wide.nd) (qss_one (qs_set 2 sc__law_wide.nd (qe_op op_addA os_add (qe_op op_mulA os_mul (qe_var 2) (qe_op op_pow os_pow qe_int qe_int)) (qe_c C__law_take hr (by decide) cx_takes (qa_cons (qe_var 0) (qa_cons (qe_op op_pow os_pow qe_int qe_int) qa_nil))))))) (qss_one (qs_ret (qe_op op_mulA os_mul (qe_var 2) (qe_op op_sub os_sub qe_int (qe_op op_mulA os_mul qe_int (qe_c C__law_take hr (by decide) cx_takes (qa_cons (qe_var 0) (qa_cons qe_int qa_nil))))))))))))
theorem c__law_wide (T : Txt K mg) (C__law_take : Callee P w K mg base 1 "_law_take" 2 [] m__law_take) : Callee P w K mg base 2 "_law_wide" 1 [] m__law_wide := by
  obtain ⟨f, fd, F, hm⟩ := T.F__law_wide
  exact ⟨f, fd, ["_law_hand_here"], [], [], f__law_wide T C__law_take F, hm, F.kp, F.binds (ps := ["_law_hand_here"]) (fun _ _ _ _ _ _ us hl => match us, hl with | [_], _ => rfl), .nil, fun _ _ => .nil⟩
theorem f__law_wide_ratio (T : Txt K mg) (C__law_ratio : Callee P w K mg base 2 "_law_ratio" 2 [] m__law_ratio) (C__law_wide : Callee P w K mg base 2 "_law_wide" 1 [] m__law_wide) {f : Addr} {fd : FuncData} (F : Fun K "_law_wide_ratio" "_law_wide_ratio" st__law_wide_ratio f fd) : FnOk P w K mg base (L2.CX P w) 3 f fd ["_law_hand_here"] (spM K mg 1 m__law_wide_ratio) := by
  have z_abs := T.z_abs
  show FnOk P w K mg base (L2.CX P w) (2 + 1) f fd ["_law_hand_here"] (spM K mg 1 (mDef 1 b__law_wide_ratio))
  refine okM F sc__law_wide_ratio rfl rfl (fun cdv A outer s H E hr => ?_)
  exact (qss_one (qs_ret (qe_c C__law_ratio hr (by decide) cx_takes (qa_cons (qe_c C__law_wide hr (by decide) cx_takes (qa_cons (qe_var 0) qa_nil)) (qa_cons (qe_op op_addA os_add qe_int (qe_callB call_abs cs_abs (by rfl) z_abs (by decide +kernel) (qa_cons (qe_c C__law_wide hr (by decide) cx_takes (qa_cons (qe_var 0) qa_nil)) qa_nil))) qa_nil)))))
theorem c__law_wide_ratio (T : Txt K mg) (C__law_ratio : Callee P w K mg base 2 "_law_ratio" 2 [] m__law_ratio) (C__law_wide : Callee P w K mg base 2 "_law_wide" 1 [] m__law_wide) : Callee P w K mg base 3 "_law_wide_ratio" 1 [] m__law_wide_ratio := by
  obtain ⟨f, fd, F, hm⟩ := T.F__law_wide_ratio
  exact ⟨f, fd, ["_law_hand_here"], [], [], f__law_wide_ratio T C__law_ratio C__law_wide F, hm, F.kp, F.binds (ps := ["_law_hand_here"]) (fun _ _ _ _ _ _ us hl => match us, hl with | [_], _ => rfl), .nil, fun _ _ => .nil⟩
theorem f__law_odd (T : Txt K mg) (C__law_take : Callee P w K mg base 1 "_law_take" 2 [] m__law_take) {f : Addr} {fd : FuncData} (F : Fun K "_law_odd" "_law_odd" st__law_odd f fd) : FnOk P w K mg base (L2.CX P w) 2 f fd ["_law_hand_here"] (spM K mg 1 m__law_odd) := by
  show FnOk P w K mg base (L2.CX P w) (1 + 1) f fd ["_law_hand_here"] (spM K mg 1 (mDef 3 b__law_odd))
  refine okM F sc__law_odd rfl rfl (fun cdv A outer s H E hr => ?_)
  exact (qss_cons (qs_set 1 sc__law_odd.nd (qe_op op_sub os_sub (qe_c C__law_take hr (by decide) cx_takes (qa_cons (qe_var 0) (qa_cons qe_int qa_nil))) qe_int)) (qss_cons (qs_set 2 sc__law_odd.nd (qe_lst (qa_cons (qe_var 1) (qa_cons (qe_lst (qa_cons (qe_var 1) (qa_cons qe_int qa_nil))) (qa_cons (qe_tup (qa_cons (qe_var 1) (qa_cons qe_int qa_nil))) (qa_cons (qe_tup (qa_cons (qe_op op_mulA os_mul qe_int (qe_var 1)) (qa_cons qe_int qa_nil))) (qa_cons (qe_tup (qa_cons (qe_var 1) (qa_cons qe_int (qa_cons qe_int qa_nil)))) (qa_cons (qe_tup (qa_cons qe_bl (qa_cons qe_int qa_nil))) qa_nil)))))))) (qss_cons (qs_set 2 sc__law_odd.nd (qe_op op_addA os_add (qe_var 2) (qe_lst (qa_cons (qe_tup (qa_cons (qe_var 1) (qa_cons qe_bl qa_nil))) (qa_cons qe_non (qa_cons qe_str (qa_cons (qe_tup (qa_cons (qe_var 1) (qa_cons (qe_un un_neg us_neg qe_int) qa_nil))) (qa_cons (qe_tup (qa_cons (qe_var 1) qa_nil)) (qa_cons (qe_tup qa_nil) qa_nil))))))))) (qss_one (qs_ret (qe_ix (qe_var 2) (qe_c C__law_take hr (by decide) cx_takes (qa_cons (qe_var 0) (qa_cons qe_int qa_nil)))))))))
theorem c__law_odd (T : Txt K mg) (C__law_take : Callee P w K mg base 1 "_law_take" 2 [] m__law_take) : Callee P w K mg base 2 "_law_odd" 1 [] m__law_odd := by
  obtain ⟨f, fd, F, hm⟩ := T.F__law_odd
  exact ⟨f, fd, ["_law_hand_here"], [], [], f__law_odd T C__law_take F, hm, F.kp, F.binds (ps := ["_law_hand_here"]) (fun _ _ _ _ _ _ us hl => match us, hl with | [_], _ => rfl), .nil, fun _ _ => .nil⟩
theorem f__law_faults (T : Txt K mg) (C__law_odd : Callee P w K mg base 2 "_law_odd" 1 [] m__law_odd) (C__law_take : Callee P w K mg base 1 "_law_take" 2 [] m__law_take) {f : Addr} {fd : FuncData} (F : Fun K "_law_faults" "_law_faults" st__law_faults f fd) : FnOk P w K mg base (L2.CX P w) 3 f fd ["_law_hand_here", "_law_bars_here", "_law_number"] (spM K mg 3 m__law_faults) := by
  show FnOk P w K mg base (L2.CX P w) (2 + 1) f fd ["_law_hand_here", "_law_bars_here", "_law_number"] (spM K mg 3 (mDef 10 b__law_faults))
  refine okM F sc__law_faults rfl rfl (fun cdv A outer s H E hr => ?_)
  exact (qss_cons (qs_asg (qe_ix (qe_var 1) (qe_var 2)) (qg_seq 3 rfl (qgs_cons (qg_name 3 sc__law_faults.nd) (qgs_cons (qg_name 4 sc__law_faults.nd) (qgs_cons (qg_name 5 sc__law_faults.nd) qgs_nil))))) (qss_cons (qs_set 6 sc__law_faults.nd (qe_ix (qe_lst (qa_cons (qe_var 2) (qa_cons (qe_un un_neg us_neg qe_int) (qa_cons (qe_op op_addA os_add (qe_var 2) qe_int) (qa_cons qe_bl (qa_cons qe_non (qa_cons (qe_tup (qa_cons qe_int (qa_cons qe_int qa_nil))) (qa_cons qe_str qa_nil)))))))) (qe_c C__law_take hr (by decide) cx_takes (qa_cons (qe_var 0) (qa_cons qe_int qa_nil))))) (qss_cons (qs_set 7 sc__law_faults.nd (qe_ix (qe_lst (qa_cons (qe_un un_neg us_neg qe_int) (qa_cons qe_int (qa_cons qe_bl (qa_cons qe_non (qa_cons (qe_tup (qa_cons qe_int (qa_cons qe_int qa_nil))) (qa_cons (qe_op op_addA os_add qe_int (qe_c C__law_take hr (by decide) cx_takes (qa_cons (qe_var 0) (qa_cons (qe_op op_pow os_pow qe_int qe_int) qa_nil)))) (qa_cons qe_str qa_nil)))))))) (qe_c C__law_take hr (by decide) cx_takes (qa_cons (qe_var 0) (qa_cons qe_int qa_nil))))) (qss_cons (qs_set 8 sc__law_faults.nd (qe_ix (qe_lst (qa_cons qe_non (qa_cons qe_int (qa_cons (qe_tup (qa_cons (qe_var 3) (qa_cons (qe_var 4) qa_nil))) (qa_cons (qe_tup (qa_cons (qe_var 3) (qa_cons (qe_var 4) (qa_cons (qe_var 5) (qa_cons (qe_var 5) qa_nil))))) (qa_cons qe_str (qa_cons (qe_lst qa_nil) (qa_cons (qe_dct1 (qe_var 3) (qe_var 4)) qa_nil)))))))) (qe_c C__law_take hr (by decide) cx_takes (qa_cons (qe_var 0) (qa_cons qe_int qa_nil))))) (qss_cons (qs_set 9 sc__law_faults.nd (qe_c C__law_odd hr (by decide) cx_takes (qa_cons (qe_var 0) qa_nil))) (qss_one (qs_ret (qe_lst (qa_cons (qe_tup (qa_cons (qe_var 8) (qa_cons qe_str qa_nil))) (qa_cons (qe_tup (qa_cons (qe_tup (qa_cons (qe_var 6) (qa_cons (qe_var 9) (qa_cons (qe_var 7) qa_nil)))) (qa_cons qe_str qa_nil))) (qa_cons (qe_tup (qa_cons (qe_lst (qa_cons (qe_var 3) (qa_cons (qe_var 9) (qa_cons (qe_var 7) qa_nil)))) (qa_cons qe_str qa_nil))) (qa_cons (qe_tup (qa_cons (qe_tup (qa_cons (qe_var 3) (qa_cons (qe_var 4) (qa_cons (qe_var 7) qa_nil)))) (qa_cons qe_str qa_nil))) qa_nil))))))))))))
theorem c__law_faults (T : Txt K mg) (C__law_odd : Callee P w K mg base 2 "_law_odd" 1 [] m__law_odd) (C__law_take : Callee P w K mg base 1 "_law_take" 2 [] m__law_take) : Callee P w K mg base 3 "_law_faults" 3 [] m__law_faults := by
  obtain ⟨f, fd, F, hm⟩ := T.F__law_faults
  exact ⟨f, fd, ["_law_hand_here", "_law_bars_here", "_law_number"], [], [], f__law_faults T C__law_odd C__law_take F, hm, F.kp, F.binds (ps := ["_law_hand_here", "_law_bars_here", "_law_number"]) (fun _ _ _ _ _ _ us hl => match us, hl with | [_, _, _], _ => rfl), .nil, fun _ _ => .nil⟩
theorem f__law_wrong (T : Txt K mg) (C__law_faults : Callee P w K mg base 3 "_law_faults" 3 [] m__law_faults) (C__law_made : Callee P w K mg base 7 "_law_made" 1 [] m__law_made) (C__law_take : Callee P w K mg base 1 "_law_take" 2 [] m__law_take) {f : Addr} {fd : FuncData} (F : Fun K "_law_wrong" "_law_wrong" st__law_wrong f fd) : FnOk P w K mg base (L2.CX P w) 8 f fd ["_law_hand_here", "_law_bars_here"] (spM K mg 2 m__law_wrong) := by
  have z_len := T.z_len
  have z_list := T.z_list
  show FnOk P w K mg base (L2.CX P w) (7 + 1) f fd ["_law_hand_here", "_law_bars_here"] (spM K mg 2 (mDef 10 b__law_wrong))
  refine okM F sc__law_wrong rfl rfl (fun cdv A outer s H E hr => ?_)
  exact (qss_cons (qs_set 2 sc__law_wrong.nd (qe_c C__law_take hr (by decide) cx_takes (qa_cons (qe_var 0) (qa_cons (qe_callB call_lenA cs_len (by rfl) z_len (by decide +kernel) (qa_cons (qe_var 1) qa_nil)) qa_nil)))) (qss_cons (qs_set 3 sc__law_wrong.nd (qe_c C__law_faults hr (by decide) cx_takes (qa_cons (qe_var 0) (qa_cons (qe_var 1) (qa_cons (qe_var 2) qa_nil))))) (qss_cons (qs_for cx_pass rfl (qi_seq (qe_var 3)) (qg_seq 2 rfl (qgs_cons (qg_name 4 sc__law_wrong.nd) (qgs_cons (qg_name 5 sc__law_wrong.nd) qgs_nil))) (qss_cons (qs_setO 6 sc__law_wrong.nd (qf_cat (qe_op op_addA os_add (qe_callTy call_list_of cs_list (by rfl) z_list (by decide +kernel) (qa_cons (qe_sl (qe_var 1) qo_none (qo_some (qe_var 2))) qa_nil)) (qe_lst (qa_cons (qe_var 4) qa_nil))) (qe_callTy call_list_of cs_list (by rfl) z_list (by decide +kernel) (qa_cons (qe_sl (qe_var 1) (qo_some (qe_op op_addA os_add (qe_var 2) qe_int)) qo_none) qa_nil)))) (qss_one (qs_if (qt_cmp (op_neD hr.units) os_ne (qe_bor 6 (qe_c C__law_made hr (by decide) cx_takes (qa_cons (qe_var 6) qa_nil))) (qe_tup (qa_cons (qe_var 2) (qa_cons (qe_var 5) qa_nil))) (nomark _)) (qss_one (qs_ret qe_bl)) qss_nil)))) (qss_cons (qs_asg (qe_ix (qe_var 3) (qe_c C__law_take hr (by decide) cx_takes (qa_cons (qe_var 0) (qa_cons qe_int qa_nil)))) (qg_seq 2 rfl (qgs_cons (qg_name 4 sc__law_wrong.nd) (qgs_cons (qg_name 5 sc__law_wrong.nd) qgs_nil)))) (qss_cons (qs_setO 6 sc__law_wrong.nd (qf_cat (qe_op op_addA os_add (qe_callTy call_list_of cs_list (by rfl) z_list (by decide +kernel) (qa_cons (qe_sl (qe_var 1) qo_none (qo_some (qe_var 2))) qa_nil)) (qe_lst (qa_cons (qe_var 4) qa_nil))) (qe_callTy call_list_of cs_list (by rfl) z_list (by decide +kernel) (qa_cons (qe_sl (qe_var 1) (qo_some (qe_op op_addA os_add (qe_var 2) qe_int)) qo_none) qa_nil)))) (qss_cons (qs_if (qt_cmp op_lt os_lt (qe_var 2) (qe_op op_sub os_sub (qe_callB call_lenA cs_len (by rfl) z_len (by decide +kernel) (qa_cons (qe_var 1) qa_nil)) qe_int) (nomark _)) (qss_one (qs_setI 6 rfl (qe_un un_neg us_neg qe_int) qe_non)) (qss_one (qs_setO 6 sc__law_wrong.nd (qf_cat (qe_lc rfl sc__law_wrong.nd (qi_seq (qe_sl (qe_var 1) qo_none (qo_some (qe_var 2)))) (blkOk_by (N := ["_law_hand_here", "_law_bars_here", "_law_number", "_law_faults_here", "_law_row", "_law_word", "_law_spoilt", "_law_host", "_law_mark_here", "_law_letter"]) (sc := defScope st__law_wrong) (own := [("_law_host", 7), ("_law_mark_here", 8), ("_law_letter", 9)]) (by decide +kernel)) rfl (by decide) (sg_seq (sgs_cons sg_name (sgs_cons sg_name (sgs_cons sg_name sgs_nil)))) (g := gSeq K 3 ((gCons (gName 7) ((gCons (gName 8) ((gCons (gName 9) (gNil)))))))) (fun _ _ _ _ _ => (qg_seq 3 rfl (qgs_cons (qg_name 7 sc__law_wrong.nd) (qgs_cons (qg_name 8 sc__law_wrong.nd) (qgs_cons (qg_name 9 sc__law_wrong.nd) qgs_nil)))).1) (fun _ _ _ _ _ => qts_nil) (fun _ _ _ _ _ => (qe_tup (qa_cons (qe_var 7) (qa_cons (qe_var 8) (qa_cons qe_int qa_nil)))))) (qe_lst (qa_cons (qe_var 4) qa_nil)))))) (qss_one (qs_frz [6] (qs_ret (qe_cmp (op_eqD hr.units) os_eq (qe_c C__law_made hr (by decide) cx_takes (qa_cons (qe_var 6) qa_nil)) (qe_tup (qa_cons (qe_var 2) (qa_cons (qe_var 5) qa_nil))) (nomark _)))))))))))
theorem c__law_wrong (T : Txt K mg) (C__law_faults : Callee P w K mg base 3 "_law_faults" 3 [] m__law_faults) (C__law_made : Callee P w K mg base 7 "_law_made" 1 [] m__law_made) (C__law_take : Callee P w K mg base 1 "_law_take" 2 [] m__law_take) : Callee P w K mg base 8 "_law_wrong" 2 [] m__law_wrong := by
  obtain ⟨f, fd, F, hm⟩ := T.F__law_wrong
  exact ⟨f, fd, ["_law_hand_here", "_law_bars_here"], [], [], f__law_wrong T C__law_faults C__law_made C__law_take F, hm, F.kp, F.binds (ps := ["_law_hand_here", "_law_bars_here"]) (fun _ _ _ _ _ _ us hl => match us, hl with | [_, _], _ => rfl), .nil, fun _ _ => .nil⟩
theorem f_law (T : Txt K mg) (C__law_bars : Callee P w K mg base 4 "_law_bars" 2 [] m__law_bars) (C__law_gaps : Callee P w K mg base 8 "_law_gaps" 2 [] m__law_gaps) (C__law_lists : Callee P w K mg base 2 "_law_lists" 2 [] m__law_lists) (C__law_most : Callee P w K mg base 1 "_law_most" 1 [] m__law_most) (C__law_plus : Callee P w K mg base 3 "_law_plus" 2 [] m__law_plus) (C__law_take : Callee P w K mg base 1 "_law_take" 2 [] m__law_take) (C__law_tuples : Callee P w K mg base 16 "_law_tuples" 1 [] m__law_tuples) (C__law_wide_ratio : Callee P w K mg base 3 "_law_wide_ratio" 1 [] m__law_wide_ratio) (C__law_wrong : Callee P w K mg base 8 "_law_wrong" 2 [] m__law_wrong) (C_Arms____eq__ : Method P w K mg base 1 "Arms" "__eq__" 2 [] m_Arms____eq__) (C_Arms____len__ : Method P w K mg base 1 "Arms" "__len__" 1 [] m_Arms____len__) (C_Arms____init__ : Maker P w K mg base 5 "Arms" 1 [] m_Arms____init__) (M : ∀ s : Hd, ∃ s' : Hd, b_law (lawE 9) s = .ok (.rt (.bl true)) s') {f : Addr} {fd : FuncData} (F : Fun K "law" "law" st_law f fd) : FnOk P w K mg base (L2.CX P w) 17 f fd ["_law_script"] (spLaw K) := by
  have A_bars := T.A_bars
  have A_letters := T.A_letters
  have N_Arms := T.N_Arms
  have z_isinstance := T.z_isinstance
  have z_len := T.z_len
  have z_list := T.z_list
  obtain ⟨fh, fdh, Fh, hmh⟩ := T.F__law_hand
  have Gh : FnOk P w K mg base (L2.CX P w) 1 fh fdh ["_law_script"] (spHand K) := f__law_hand T Fh
  have bh : Binds K fdh ["_law_script"] [] := Fh.binds (ps := ["_law_script"]) (fun _ _ _ _ _ _ us hl => match us, hl with | [_], _ => rfl)
  refine F.okX (k := 16) sc_law (fun vs H Q E h => ?_) (fun cdv A outer s H vs Q E hr h => ?_)
  · obtain ⟨a, ns, rfl, _⟩ := h
    rfl
  · have h' := h
    obtain ⟨a, ns, rfl, _⟩ := h'
    obtain ⟨ts, q, ss⟩ : QSs (cxD P w K mg base ["_law_script", "_law_hand_here", "_law_bars_here", "_law_host", "_law_mark_here", "_law_letter", "_law_given", "_law_arms", "_law_again", "_law_other", "_law_longer"] "law" (defScope st_law) f cdv A outer s H E) (wE E) ((defBody st_law).drop 1) b_law := by
      exact (qss_cons (qs_set 2 sc_law.nd (qe_c C__law_bars hr (by decide) cx_takes (qa_cons (qe_var 1) (qa_cons qe_int qa_nil)))) (qss_cons (qs_if (qt_cmp (op_eqD hr.units) os_eq (qe_c C__law_take hr (by decide) cx_takes (qa_cons (qe_var 1) (qa_cons qe_int qa_nil))) qe_int (nomark _)) (qss_cons (qs_asg (qe_ix (qe_var 2) (qe_un un_neg us_neg qe_int)) (qg_seq 3 rfl (qgs_cons (qg_name 3 sc_law.nd) (qgs_cons (qg_name 4 sc_law.nd) (qgs_cons (qg_name 5 sc_law.nd) qgs_nil))))) (qss_one (qs_set 2 sc_law.nd (qe_op op_addE os_addE (qe_sl (qe_var 2) qo_none (qo_some (qe_un un_neg us_neg qe_int))) (qe_tup (qa_cons (qe_tup (qa_cons (qe_var 3) (qa_cons (qe_c C__law_wide_ratio hr (by decide) cx_takes (qa_cons (qe_var 1) qa_nil)) (qa_cons (qe_var 5) qa_nil)))) qa_nil)))))) qss_nil) (qss_blk 6 rfl (qs_set 6 sc_law.nd (qe_c C__law_lists hr (by decide) cx_takes (qa_cons (qe_var 1) (qa_cons (qe_var 2) qa_nil)))) (qs_set 7 sc_law.nd (qe_make C_Arms____init__ hr (by decide) cx_takes (qa_cons (qe_var 6) qa_nil))) (qt_tru (qe_isi (qe_var 6) (by rfl) z_isinstance (by rfl) z_list (by decide +kernel))) qe_int (qe_tup (qa_cons (qe_un un_neg us_neg qe_int) (qa_cons (qe_tup (qa_cons qe_int (qa_cons qe_int qa_nil))) (qa_cons qe_int qa_nil)))) (qss_cons (qs_if (qt_w (qw_or (qt_cmp (op_neD hr.units) os_ne (qe_attr A_bars (qe_var 7)) (qe_var 2) (nomark _)) (qw_or (qt_not (qt_tru (qe_c C__law_tuples hr (by decide) cx_takes (qa_cons (qe_attr A_bars (qe_var 7)) qa_nil)))) (qw_or (qt_cmp (op_neD hr.units) os_ne (qe_attr A_letters (qe_var 7)) (qe_c C__law_most hr (by decide) cx_takes (qa_cons (qe_var 2) qa_nil)) (nomark _)) (qw_or1 (qt_cmp (op_neD hr.units) os_ne (qe_lenO C_Arms____len__ hr (by decide) (qe_var 7) (by rfl) z_len) (qe_callB call_lenA cs_len (by rfl) z_len (by decide +kernel) (qa_cons (qe_var 2) qa_nil)) (nomark _))))))) (qss_one (qs_ret qe_bl)) qss_nil) (qss_cons (qs_set 8 sc_law.nd (qe_make C_Arms____init__ hr (by decide) cx_takes (qa_cons (qe_var 2) qa_nil))) (qss_cons (qs_asg (qe_ix (qe_var 2) qe_int) (qg_seq 3 rfl (qgs_cons (qg_name 3 sc_law.nd) (qgs_cons (qg_name 4 sc_law.nd) (qgs_cons (qg_name 5 sc_law.nd) qgs_nil))))) (qss_cons (qs_set 9 sc_law.nd (qe_make C_Arms____init__ hr (by decide) cx_takes (qa_cons (qe_op op_addE os_addE (qe_tup (qa_cons (qe_tup (qa_cons (qe_var 3) (qa_cons (qe_c C__law_plus hr (by decide) cx_takes (qa_cons (qe_var 4) (qa_cons (qe_tup (qa_cons qe_int (qa_cons qe_int qa_nil))) qa_nil))) (qa_cons (qe_var 5) qa_nil)))) qa_nil)) (qe_sl (qe_var 2) (qo_some qe_int) qo_none)) qa_nil))) (qss_cons (qs_if (qt_w (qw_or (qt_not (qt_eqO C_Arms____eq__ hr (by decide) (qe_var 8) (qe_var 7) (nomark _))) (qw_or (qt_eqO C_Arms____eq__ hr (by decide) (qe_var 9) (qe_var 7) (nomark _)) (qw_or (qt_eqX C_Arms____eq__ hr (by decide) (qe_var 7) (qe_var 2) (nomark _)) (qw_or1 (qt_not (qt_neX C_Arms____eq__ N_Arms hr (by decide) (qe_var 9) (qe_var 7) (nomark _)))))))) (qss_one (qs_ret qe_bl)) qss_nil) (qss_cons (qs_set 10 sc_law.nd (qe_op op_addE os_addE (qe_var 2) (qe_tup (qa_cons (qe_tup (qa_cons (qe_op op_sub os_sub (qe_callB call_lenA cs_len (by rfl) z_len (by decide +kernel) (qa_cons (qe_var 2) qa_nil)) qe_int) (qa_cons (qe_tup (qa_cons qe_int (qa_cons qe_int qa_nil))) (qa_cons qe_int qa_nil)))) qa_nil)))) (qss_cons (qs_if (qt_w (qw_and (qt_cmp op_le os_le (qe_callB call_lenA cs_len (by rfl) z_len (by decide +kernel) (qa_cons (qe_var 10) qa_nil)) qe_int (nomark _)) (qw_and1 (qt_eqO C_Arms____eq__ hr (by decide) (qe_make C_Arms____init__ hr (by decide) cx_takes (qa_cons (qe_var 10) qa_nil)) (qe_var 7) (nomark _))))) (qss_one (qs_ret qe_bl)) qss_nil) (qss_one (qs_ret (qe_and (qe_c C__law_wrong hr (by decide) cx_takes (qa_cons (qe_var 1) (qa_cons (qe_var 2) qa_nil))) (qe_one (qe_c C__law_gaps hr (by decide) cx_takes (qa_cons (qe_var 1) (qa_cons (qe_var 2) qa_nil)))))))))))))))))
    exact ⟨_, pss_cons (ps_set (i := 1) sc_law.nd rfl (by first | exact Or.inl rfl | exact Or.inr rfl) (pe_callSD Gh (hr.mono (by decide)) (by rfl) hmh Fh.kp bh .nil (fun σ => passAt (W := wE E) cx_takes σ) (pa_cons (pv 0) pa_nil))) q, law_run h ss M⟩
end
end Law


set_option Elab.async false
set_option linter.all false
/-! Mathematics for the laws: kinds of data, sizes, lowest terms. -/
namespace Mir
open PySem PySem.Spec PyProof.Rows L2

/-! ### isinstance of plain data -/
theorem kit_table : kitB "int" "int" = some true ∧ kitB "bool" "int" = some true ∧ kitB "NoneType" "int" = some false ∧ kitB "str" "int" = some false ∧ kitB "tuple" "int" = some false ∧ kitB "list" "int" = some false ∧
    kitB "int" "bool" = some false ∧ kitB "bool" "bool" = some true ∧ kitB "NoneType" "bool" = some false ∧ kitB "str" "bool" = some false ∧ kitB "tuple" "bool" = some false ∧ kitB "list" "bool" = some false ∧
    kitB "int" "tuple" = some false ∧ kitB "bool" "tuple" = some false ∧ kitB "NoneType" "tuple" = some false ∧ kitB "str" "tuple" = some false ∧ kitB "tuple" "tuple" = some true ∧ kitB "list" "tuple" = some false := by decide +kernel
theorem kit_table2 : kitB "int" "list" = some false ∧ kitB "bool" "list" = some false ∧ kitB "NoneType" "list" = some false ∧ kitB "str" "list" = some false ∧ kitB "tuple" "list" = some false ∧ kitB "list" "list" = some true ∧
    kitB "int" "str" = some false ∧ kitB "bool" "str" = some false ∧ kitB "NoneType" "str" = some false ∧ kitB "str" "str" = some true ∧ kitB "tuple" "str" = some false ∧ kitB "list" "str" = some false := by decide +kernel
theorem kit_table3 : kitB "dict" "int" = some false ∧ kitB "dict" "bool" = some false ∧ kitB "dict" "tuple" = some false ∧ kitB "dict" "list" = some false ∧ kitB "dict" "str" = some false := by decide +kernel
@[simp] theorem isi_int (d : Dt) : fIsi "int" d = (match d with | .int _ => some true | .bl _ => some true | .obj _ _ => none | .hnd => none | .fn _ => none | _ => some false) := by
  obtain ⟨a1, a2, a3, a4, a5, a6, _⟩ := kit_table
  obtain ⟨d1, d2, d3, d4, d5⟩ := kit_table3
  cases d <;> first | rfl | assumption
@[simp] theorem isi_bool (d : Dt) : fIsi "bool" d = (match d with | .bl _ => some true | .obj _ _ => none | .hnd => none | .fn _ => none | _ => some false) := by
  obtain ⟨_, _, _, _, _, _, a1, a2, a3, a4, a5, a6, _⟩ := kit_table
  obtain ⟨d1, d2, d3, d4, d5⟩ := kit_table3
  cases d <;> first | rfl | assumption
@[simp] theorem isi_tuple (d : Dt) : fIsi "tuple" d = (match d with | .tup _ => some true | .obj _ _ => none | .hnd => none | .fn _ => none | _ => some false) := by
  obtain ⟨_, _, _, _, _, _, _, _, _, _, _, _, a1, a2, a3, a4, a5, a6⟩ := kit_table
  obtain ⟨d1, d2, d3, d4, d5⟩ := kit_table3
  cases d <;> first | rfl | assumption
@[simp] theorem isi_list (d : Dt) : fIsi "list" d = (match d with | .lst _ => some true | .obj _ _ => none | .hnd => none | .fn _ => none | _ => some false) := by
  obtain ⟨a1, a2, a3, a4, a5, a6, _⟩ := kit_table2
  obtain ⟨d1, d2, d3, d4, d5⟩ := kit_table3
  cases d <;> first | rfl | assumption
@[simp] theorem isi_str (d : Dt) : fIsi "str" d = (match d with | .str _ => some true | .obj _ _ => none | .hnd => none | .fn _ => none | _ => some false) := by
  obtain ⟨_, _, _, _, _, _, a1, a2, a3, a4, a5, a6⟩ := kit_table2
  obtain ⟨d1, d2, d3, d4, d5⟩ := kit_table3
  cases d <;> first | rfl | assumption

/-! ### sizes -/
def Sz (n : Nat) (i : Int) : Prop := i.natAbs < 2 ^ n
theorem Sz.mono {m n : Nat} {i : Int} (h : Sz m i) (e : m ≤ n) : Sz n i := Nat.lt_of_lt_of_le h (Nat.pow_le_pow_right (by decide) e)
theorem Sz.mul {m n : Nat} {i j : Int} (a : Sz m i) (b : Sz n j) : Sz (m + n) (i * j) := wide_lt a b
theorem Sz.add {m : Nat} {i j : Int} (a : Sz m i) (b : Sz m j) : Sz (m + 1) (i + j) := by
  unfold Sz at *
  have := Int.natAbs_add_le i j
  rw [Nat.pow_succ]
  omega
theorem Sz.neg {m : Nat} {i : Int} (a : Sz m i) : Sz m (-i) := by
  unfold Sz at *
  rw [Int.natAbs_neg]
  exact a
theorem Sz.sub {m : Nat} {i j : Int} (a : Sz m i) (b : Sz m j) : Sz (m + 1) (i - j) := by
  rw [Int.sub_eq_add_neg]
  exact a.add b.neg
theorem Sz.le {m : Nat} {i j : Int} (a : Sz m j) (h : i.natAbs ≤ j.natAbs) : Sz m i := Nat.lt_of_le_of_lt h a
theorem MulOk.of {m n : Nat} {i j : Int} (a : Sz m i) (b : Sz n j) (h : m + n ≤ 900000) : MulOk i j := by
  have a' := a.mono (Nat.le_succ m)
  have b' := b.mono (Nat.le_succ n)
  exact wide_mul a' b' (Nat.succ_pos _) (Nat.succ_pos _) (by omega)
theorem DivOk.of {n : Nat} {j : Int} (h0 : j ≠ 0) (a : Sz n j) (h : n ≤ 8900) : DivOk j :=
  ⟨h0, Nat.lt_of_lt_of_le (PySem.Flt.log2_lt_of (Nat.succ_pos n) (a.mono (Nat.le_succ n))) (by omega)⟩

/-! ### lowest terms -/
def sgcd (t b : Int) : Int := if b < 0 then -((Nat.gcd t.natAbs b.natAbs : Nat) : Int) else ((Nat.gcd t.natAbs b.natAbs : Nat) : Int)
def lowT (t b : Int) : Int := t.fdiv (sgcd t b)
def lowB (t b : Int) : Int := b.fdiv (sgcd t b)
abbrev rat (a b : Int) : Dt := .tup [.int a, .int b]
def low (t b : Int) : Dt := rat (lowT t b) (lowB t b)
theorem gcd_pos {t b : Int} (h : b ≠ 0) : 0 < Nat.gcd t.natAbs b.natAbs := Nat.gcd_pos_of_pos_right _ (by omega)
theorem sgcd_ne {t b : Int} (h : b ≠ 0) : sgcd t b ≠ 0 := by
  have := gcd_pos (t := t) h
  unfold sgcd
  split <;> omega
theorem sgcd_abs (t b : Int) : (sgcd t b).natAbs = Nat.gcd t.natAbs b.natAbs := by
  unfold sgcd
  split <;> omega
theorem sgcd_dvd_t (t b : Int) : sgcd t b ∣ t := by
  rw [← Int.natAbs_dvd_natAbs, sgcd_abs]
  exact Nat.gcd_dvd_left _ _
theorem sgcd_dvd_b (t b : Int) : sgcd t b ∣ b := by
  rw [← Int.natAbs_dvd_natAbs, sgcd_abs]
  exact Nat.gcd_dvd_right _ _
theorem low_t {t b : Int} : lowT t b * sgcd t b = t := by
  unfold lowT
  rw [Int.fdiv_eq_ediv_of_dvd (sgcd_dvd_t t b)]
  exact Int.ediv_mul_cancel (sgcd_dvd_t t b)
theorem low_b {t b : Int} : lowB t b * sgcd t b = b := by
  unfold lowB
  rw [Int.fdiv_eq_ediv_of_dvd (sgcd_dvd_b t b)]
  exact Int.ediv_mul_cancel (sgcd_dvd_b t b)
theorem lowT_abs {t b : Int} (h : b ≠ 0) : (lowT t b).natAbs ≤ t.natAbs := by
  have e : (lowT t b).natAbs * (sgcd t b).natAbs = t.natAbs := by rw [← Int.natAbs_mul, low_t]
  have p : 0 < (sgcd t b).natAbs := by rw [sgcd_abs]; exact gcd_pos h
  rw [← e]
  exact Nat.le_mul_of_pos_right _ p
theorem lowB_abs {t b : Int} (h : b ≠ 0) : (lowB t b).natAbs ≤ b.natAbs := by
  have e : (lowB t b).natAbs * (sgcd t b).natAbs = b.natAbs := by rw [← Int.natAbs_mul, low_b]
  have p : 0 < (sgcd t b).natAbs := by rw [sgcd_abs]; exact gcd_pos h
  calc (lowB t b).natAbs ≤ (lowB t b).natAbs * (sgcd t b).natAbs := Nat.le_mul_of_pos_right _ p
    _ = b.natAbs := e
theorem lowB_pos {t b : Int} (h : b ≠ 0) : 0 < lowB t b := by
  have e := low_b (t := t) (b := b)
  have p := gcd_pos (t := t) h
  have hs : (0 < b → 0 < sgcd t b) ∧ (b < 0 → sgcd t b < 0) := by
    unfold sgcd
    constructor <;> intro z
    · rw [if_neg (by omega)]
      omega
    · rw [if_pos z]
      omega
  rcases Int.lt_trichotomy b 0 with z | z | z
  · have q := hs.2 z
    rcases (Int.lt_or_le 0 (lowB t b)) with w | w
    · exact w
    · have := Int.mul_nonneg_of_nonpos_of_nonpos w (Int.le_of_lt q)
      omega
  · exact absurd z h
  · have q := hs.1 z
    rcases (Int.lt_or_le 0 (lowB t b)) with w | w
    · exact w
    · have := Int.mul_nonpos_of_nonpos_of_nonneg w (Int.le_of_lt q)
      omega
theorem low_gcd {t b : Int} (h : b ≠ 0) : Nat.gcd (lowT t b).natAbs (lowB t b).natAbs = 1 := by
  have e1 : (lowT t b).natAbs * (sgcd t b).natAbs = t.natAbs := by rw [← Int.natAbs_mul, low_t]
  have e2 : (lowB t b).natAbs * (sgcd t b).natAbs = b.natAbs := by rw [← Int.natAbs_mul, low_b]
  have p : 0 < (sgcd t b).natAbs := by rw [sgcd_abs]; exact gcd_pos h
  have e3 : Nat.gcd t.natAbs b.natAbs = Nat.gcd (lowT t b).natAbs (lowB t b).natAbs * (sgcd t b).natAbs := by rw [← Nat.gcd_mul_right, e1, e2]
  rw [← sgcd_abs] at e3
  have e4 : 1 * (sgcd t b).natAbs = Nat.gcd (lowT t b).natAbs (lowB t b).natAbs * (sgcd t b).natAbs := by rw [Nat.one_mul]; exact e3
  exact (Nat.eq_of_mul_eq_mul_right p e4).symm
/-- a ratio in lowest terms -/
structure IsR (a b : Int) : Prop where
  pos : 0 < b
  co : Nat.gcd a.natAbs b.natAbs = 1
theorem low_is {t b : Int} (h : b ≠ 0) : IsR (lowT t b) (lowB t b) := ⟨lowB_pos h, low_gcd h⟩
/-! ### stepping -/
theorem seq_nx {a b : MS} {ρ ρ' : Env'} {s s' : Hd} (h : a ρ s = .ok (.nx ρ') s') : mSeq a b ρ s = b ρ' s' := by
  unfold mSeq
  rw [h]
theorem seq_rt {a b : MS} {ρ : Env'} {d : Dt} {s s' : Hd} (h : a ρ s = .ok (.rt d) s') : mSeq a b ρ s = .ok (.rt d) s' := by
  unfold mSeq
  rw [h]
theorem def_rt {n : Nat} {b : MS} {ds : List Dt} {d : Dt} {s s' : Hd} (h : b (startE n ds) s = .ok (.rt d) s') : mDef n b ds s = .ok d s' := by
  unfold mDef
  rw [h]
theorem for_of {g : GM} {it : MA} {body : MS} {ρ : Env'} {s s' : Hd} {ds : List Dt} (h : it ρ s = .ok ds s') : mFor g it body ρ s = loopF g body ds ρ s' := by
  unfold mFor
  rw [h]
  rfl
theorem lc_of {g : GM} {it : MA} {t : MT} {a : ME} {vs : List Nat} {ρ : Env'} {s s' : Hd} {ds : List Dt} (h : it ρ s = .ok ds s') : mLc g it t a vs ρ s = loopC g t a vs ds [] ρ s' := by
  unfold mLc
  rw [h]
  rfl
end Mir


set_option Elab.async false
set_option linter.all false
/-! Ratios in lowest terms are the core's rational numbers. -/
namespace Mir
open PySem PySem.Spec PyProof.Rows L2
abbrev tp (q : Rat) : Int := q.num
abbrev bt (q : Rat) : Int := (q.den : Int)
/-- a rational number as the program writes it -/
abbrev dq (q : Rat) : Dt := rat q.num (q.den : Int)
theorem bt_pos (q : Rat) : (0 : Int) < (q.den : Int) := by
  have := q.den_pos
  omega
theorem bt_ne (q : Rat) : (q.den : Int) ≠ 0 := Int.ne_of_gt (bt_pos q)
theorem dq_is (q : Rat) : IsR q.num (q.den : Int) := ⟨bt_pos q, by rw [Int.natAbs_natCast]; exact q.reduced⟩
theorem rat_of {a b : Int} (h : IsR a b) : ∃ q : Rat, q.num = a ∧ (q.den : Int) = b ∧ q = Rat.divInt a b := by
  have hb : (((b.natAbs : Nat)) : Int) = b := by
    have := h.pos
    omega
  have e := Rat.num_divInt_den ⟨a, b.natAbs, by have := h.pos; omega, h.co⟩
  refine ⟨⟨a, b.natAbs, by have := h.pos; omega, h.co⟩, rfl, hb, ?_⟩
  rw [← e]
  simp only
  rw [hb]
theorem low_val (t b : Int) (h : b ≠ 0) : ∃ q : Rat, q.num = lowT t b ∧ (q.den : Int) = lowB t b ∧ q = Rat.divInt t b := by
  obtain ⟨q, e1, e2, e3⟩ := rat_of (low_is (t := t) h)
  refine ⟨q, e1, e2, e3.trans ?_⟩
  rw [Rat.divInt_eq_divInt_iff (Int.ne_of_gt (lowB_pos h)) h]
  have x := low_t (t := t) (b := b)
  have y := low_b (t := t) (b := b)
  have g0 := sgcd_ne (t := t) h
  refine Int.eq_of_mul_eq_mul_right g0 ?_
  generalize lowT t b = u at *
  generalize lowB t b = v at *
  generalize sgcd t b = w at *
  grind
theorem low_dq (t b : Int) (h : b ≠ 0) : low t b = dq (Rat.divInt t b) := by
  obtain ⟨q, e1, e2, e3⟩ := low_val t b h
  unfold low
  rw [← e1, ← e2, e3]
theorem divInt_eq {t b : Int} (h : b ≠ 0) : Rat.divInt t b = (t : Rat) / (b : Rat) := Rat.divInt_eq_div t b
theorem q_eq (q : Rat) : q = (q.num : Rat) / ((q.den : Int) : Rat) := by
  rw [← Rat.divInt_eq_div]
  exact (Rat.num_divInt_den q).symm
theorem cast_ne {b : Int} (h : b ≠ 0) : (b : Rat) ≠ 0 := by
  intro e
  exact h (Rat.intCast_inj.mp (by rw [e]; rfl))
theorem low_add (p q : Rat) : low (p.num * (q.den : Int) + q.num * (p.den : Int)) ((p.den : Int) * (q.den : Int)) = dq (p + q) := by
  have h : (p.den : Int) * (q.den : Int) ≠ 0 := Int.mul_ne_zero (bt_ne p) (bt_ne q)
  rw [low_dq _ _ h, divInt_eq h]
  have e1 := q_eq p
  have e2 := q_eq q
  have n1 := cast_ne (bt_ne p)
  have n2 := cast_ne (bt_ne q)
  congr 1
  rw [Rat.intCast_add, Rat.intCast_mul, Rat.intCast_mul, Rat.intCast_mul]
  generalize hp1 : ((p.num : Int) : Rat) = a at *
  generalize hp2 : (((p.den : Int)) : Rat) = b at *
  generalize hq1 : ((q.num : Int) : Rat) = c at *
  generalize hq2 : (((q.den : Int)) : Rat) = d at *
  grind
theorem low_sub (p q : Rat) : low (p.num * (q.den : Int) - q.num * (p.den : Int)) ((p.den : Int) * (q.den : Int)) = dq (p - q) := by
  have h : (p.den : Int) * (q.den : Int) ≠ 0 := Int.mul_ne_zero (bt_ne p) (bt_ne q)
  rw [low_dq _ _ h, divInt_eq h]
  have e1 := q_eq p
  have e2 := q_eq q
  have n1 := cast_ne (bt_ne p)
  have n2 := cast_ne (bt_ne q)
  congr 1
  rw [Rat.intCast_sub, Rat.intCast_mul, Rat.intCast_mul, Rat.intCast_mul]
  generalize hp1 : ((p.num : Int) : Rat) = a at *
  generalize hp2 : (((p.den : Int)) : Rat) = b at *
  generalize hq1 : ((q.num : Int) : Rat) = c at *
  generalize hq2 : (((q.den : Int)) : Rat) = d at *
  grind
theorem low_mul' (p q : Rat) : low (p.num * q.num) ((p.den : Int) * (q.den : Int)) = dq (p * q) := by
  have h : (p.den : Int) * (q.den : Int) ≠ 0 := Int.mul_ne_zero (bt_ne p) (bt_ne q)
  rw [low_dq _ _ h, divInt_eq h]
  have e1 := q_eq p
  have e2 := q_eq q
  have n1 := cast_ne (bt_ne p)
  have n2 := cast_ne (bt_ne q)
  congr 1
  rw [Rat.intCast_mul, Rat.intCast_mul]
  generalize hp1 : ((p.num : Int) : Rat) = a at *
  generalize hp2 : (((p.den : Int)) : Rat) = b at *
  generalize hq1 : ((q.num : Int) : Rat) = c at *
  generalize hq2 : (((q.den : Int)) : Rat) = d at *
  grind
theorem num_ne {q : Rat} (h : q ≠ 0) : q.num ≠ 0 := fun e => h (Rat.num_eq_zero.mp e)
theorem low_div (p q : Rat) (hq : q ≠ 0) : low (p.num * (q.den : Int)) ((p.den : Int) * q.num) = dq (p / q) := by
  have h : (p.den : Int) * q.num ≠ 0 := Int.mul_ne_zero (bt_ne p) (num_ne hq)
  rw [low_dq _ _ h, divInt_eq h]
  have e1 := q_eq p
  have e2 := q_eq q
  have n1 := cast_ne (bt_ne p)
  have n2 := cast_ne (bt_ne q)
  have n3 := cast_ne (num_ne hq)
  congr 1
  rw [Rat.intCast_mul, Rat.intCast_mul]
  generalize hp1 : ((p.num : Int) : Rat) = a at *
  generalize hp2 : (((p.den : Int)) : Rat) = b at *
  generalize hq1 : ((q.num : Int) : Rat) = c at *
  generalize hq2 : (((q.den : Int)) : Rat) = d at *
  grind
theorem low_frac (t b : Int) (h : b ≠ 0) : low t b = dq ((t : Rat) / (b : Rat)) := by rw [low_dq _ _ h, divInt_eq h]
theorem neg_dq (q : Rat) : rat (-q.num) (q.den : Int) = dq (-q) := rfl
theorem dq_inj {p q : Rat} : dq p = dq q ↔ p = q := by
  constructor
  · intro h
    injection h with h
    injection h with h1 h2
    injection h1 with h1
    injection h2 with h2
    injection h2 with h2
    exact Rat.ext h1 (Int.ofNat_inj.mp h2)
  · intro h
    rw [h]
theorem dq_beq (p q : Rat) : ((p.num == q.num) && ((p.den : Int) == (q.den : Int))) = decide (p = q) := by
  by_cases h : p = q
  · rw [h]
    simp
  · rw [decide_eq_false h]
    by_cases c : p.num = q.num
    · by_cases c2 : p.den = q.den
      · exact absurd (Rat.ext c c2) h
      · have c3 : ¬ ((p.den : Int) = (q.den : Int)) := fun e => c2 (Int.ofNat_inj.mp e)
        have c4 : ((p.den : Int) == (q.den : Int)) = false := beq_eq_false_iff_ne.mpr c3
        rw [c4, Bool.and_false]
    · have c4 : (p.num == q.num) = false := beq_eq_false_iff_ne.mpr c
      rw [c4, Bool.false_and]
theorem lt_dq (p q : Rat) : p.num * (q.den : Int) < q.num * (p.den : Int) ↔ p < q := (Rat.lt_iff p q).symm
theorem dq_zero : dq 0 = rat 0 1 := rfl
theorem dq_one : dq 1 = rat 1 1 := rfl
theorem dq_int (i : Int) : dq (i : Rat) = rat i 1 := rfl
/-- how many figures -/
structure Bd (n : Nat) (q : Rat) : Prop where
  t : Sz n q.num
  b : Sz n (q.den : Int)
theorem Bd.mono {m n : Nat} {q : Rat} (h : Bd m q) (e : m ≤ n) : Bd n q := ⟨h.t.mono e, h.b.mono e⟩
theorem Bd.frac {n : Nat} {t b : Int} (h : b ≠ 0) (ht : Sz n t) (hb : Sz n b) : Bd n ((t : Rat) / (b : Rat)) := by
  obtain ⟨q, e1, e2, e3⟩ := low_val t b h
  rw [divInt_eq h] at e3
  rw [← e3]
  exact ⟨by rw [e1]; exact ht.le (lowT_abs h), by rw [e2]; exact hb.le (lowB_abs h)⟩
theorem Bd.of {n : Nat} {t b : Int} {q : Rat} (h : b ≠ 0) (ht : Sz n t) (hb : Sz n b) (e : low t b = dq q) : Bd n q := by
  rw [low_frac t b h] at e
  rw [← dq_inj.mp e]
  exact Bd.frac h ht hb
theorem Bd.add {m n : Nat} {p q : Rat} (a : Bd m p) (b : Bd n q) : Bd (m + n + 1) (p + q) :=
  Bd.of (Int.mul_ne_zero (bt_ne p) (bt_ne q)) ((a.t.mul b.b).add ((b.t.mul a.b).mono (by omega))) ((a.b.mul b.b).mono (by omega)) (low_add p q)
theorem Bd.sub {m n : Nat} {p q : Rat} (a : Bd m p) (b : Bd n q) : Bd (m + n + 1) (p - q) :=
  Bd.of (Int.mul_ne_zero (bt_ne p) (bt_ne q)) ((a.t.mul b.b).sub ((b.t.mul a.b).mono (by omega))) ((a.b.mul b.b).mono (by omega)) (low_sub p q)
theorem Bd.mul {m n : Nat} {p q : Rat} (a : Bd m p) (b : Bd n q) : Bd (m + n) (p * q) :=
  Bd.of (Int.mul_ne_zero (bt_ne p) (bt_ne q)) (a.t.mul b.t) (a.b.mul b.b) (low_mul' p q)
theorem Bd.div {m n : Nat} {p q : Rat} (h : q ≠ 0) (a : Bd m p) (b : Bd n q) : Bd (m + n) (p / q) :=
  Bd.of (Int.mul_ne_zero (bt_ne p) (num_ne h)) (a.t.mul b.b) (a.b.mul b.t) (low_div p q h)
theorem Bd.neg {m : Nat} {p : Rat} (a : Bd m p) : Bd m (-p) := ⟨a.t.neg, a.b⟩
end Mir


set_option Elab.async false
set_option linter.all false
set_option maxRecDepth 100000
namespace Law
open PySem PySem.Spec PyProof.Rows L2 Mir

theorem take_ok (s : Hd) {n : Int} (h : manyOk n) : m__law_take [.hnd, .int n] s = .ok (.int (takeV s n)) (takeS s n) := by
  show (if manyOk n then R.ok (Dt.int (takeV s n)) (takeS s n) else .bad) = _
  rw [if_pos h]
theorem is_whole_int (i : Int) (s : Hd) : m_is_whole [.int i, .non, .non] s = .ok (.bl true) s := by
  simp [m_is_whole, mDef, b_is_whole, startE, mSeq, mIfS, mOr, mNot, mTru, mIsi, mVar, mRet, mAndV, mOrV, mOp, mC, mNext, fTru, fIs]
theorem is_whole_bl (i : Bool) (a b : Dt) (s : Hd) : m_is_whole [.bl i, a, b] s = .ok (.bl false) s := by
  simp [m_is_whole, mDef, b_is_whole, startE, mSeq, mIfS, mOr, mNot, mTru, mIsi, mVar, mRet, mAndV, mOrV, mOp, mC, mNext, fTru, fIs]
theorem is_whole_tup (i : List Dt) (a b : Dt) (s : Hd) : m_is_whole [.tup i, a, b] s = .ok (.bl false) s := by
  simp [m_is_whole, mDef, b_is_whole, startE, mSeq, mIfS, mOr, mNot, mTru, mIsi, mVar, mRet, mAndV, mOrV, mOp, mC, mNext, fTru, fIs]
theorem is_whole_lst (i : List Dt) (a b : Dt) (s : Hd) : m_is_whole [.lst i, a, b] s = .ok (.bl false) s := by
  simp [m_is_whole, mDef, b_is_whole, startE, mSeq, mIfS, mOr, mNot, mTru, mIsi, mVar, mRet, mAndV, mOrV, mOp, mC, mNext, fTru, fIs]
theorem is_whole_non (a b : Dt) (s : Hd) : m_is_whole [.non, a, b] s = .ok (.bl false) s := by
  simp [m_is_whole, mDef, b_is_whole, startE, mSeq, mIfS, mOr, mNot, mTru, mIsi, mVar, mRet, mAndV, mOrV, mOp, mC, mNext, fTru, fIs]
theorem is_whole_str (x : Str) (a b : Dt) (s : Hd) : m_is_whole [.str x, a, b] s = .ok (.bl false) s := by
  simp [m_is_whole, mDef, b_is_whole, startE, mSeq, mIfS, mOr, mNot, mTru, mIsi, mVar, mRet, mAndV, mOrV, mOp, mC, mNext, fTru, fIs]
theorem is_whole_low (i l : Int) (s : Hd) : m_is_whole [.int i, .int l, .non] s = .ok (.bl (decide (l ≤ i))) s := by
  by_cases c : l ≤ i <;> simp [m_is_whole, mDef, b_is_whole, startE, mSeq, mIfS, mOr, mNot, mTru, mIsi, mVar, mRet, mAndV, mOrV, mOp, mC, mNext, fTru, fIs, fI, c]
theorem is_whole_high (i l : Int) (s : Hd) : m_is_whole [.int i, .non, .int l] s = .ok (.bl (decide (i ≤ l))) s := by
  by_cases c : i ≤ l <;> simp [m_is_whole, mDef, b_is_whole, startE, mSeq, mIfS, mOr, mNot, mTru, mIsi, mVar, mRet, mAndV, mOrV, mOp, mC, mNext, fTru, fIs, fI, c]
theorem is_whole_both (i l k : Int) (s : Hd) : m_is_whole [.int i, .int l, .int k] s = .ok (.bl (decide (l ≤ i) && decide (i ≤ k))) s := by
  by_cases c : l ≤ i <;> by_cases c2 : i ≤ k <;> simp [m_is_whole, mDef, b_is_whole, startE, mSeq, mIfS, mOr, mNot, mTru, mIsi, mVar, mRet, mAndV, mOrV, mOp, mC, mNext, fTru, fIs, fI, c, c2]
theorem sgcd_sz {t b : Int} {n : Nat} (h : b ≠ 0) (hs : Sz n b) : Sz n (sgcd t b) := by
  refine hs.le ?_
  rw [sgcd_abs]
  exact Nat.le_of_dvd (by omega) (Nat.gcd_dvd_right _ _)
/-- the law's own greatest divisor -/
def gcdBody : MS := mPar 0 1 (mCons (mVar 1) (mCons (mOp fMod (mCB fIntC (mCons (mVar 0) mNil)) (mVar 1)) mNil))
theorem gcd_loop (s : Hd) : ∀ (n x y : Nat), y < n → loopW (mTru (mVar 1)) gcdBody n [.dat (.int x), .dat (.int y)] s = .ok (.nx [.dat (.int (Nat.gcd x y : Nat)), .dat (.int 0)]) s
  | 0, x, y, h => by omega
  | n + 1, x, y, h => by
    unfold loopW
    by_cases c : y = 0
    · subst c
      simp [mTru, mVar, fTru]
    · have c' : ((y : Int) != 0) = true := by
        simp
        omega
      have c2 : (y : Int) ≠ 0 := by omega
      have ih := gcd_loop s n y (x % y) (by have := Nat.mod_lt x (show 0 < y by omega); omega)
      have e : Int.fmod (x : Int) (y : Int) = ((x % y : Nat) : Int) := by
        rw [Int.fmod_eq_emod_of_nonneg _ (by omega)]
        rfl
      have eb : gcdBody [.dat (.int x), .dat (.int y)] s = .ok (.nx [.dat (.int y), .dat (.int ((x % y : Nat) : Int))]) s := by
        simp [gcdBody, mPar, mCons, mVar, mOp, mCB, mNil, fIntC, fI, c2, c, e]
      have eg : Nat.gcd y (x % y) = Nat.gcd x y := by rw [Nat.gcd_comm y, ← Nat.gcd_rec, Nat.gcd_comm]
      simp only [mTru, mVar, fTru, List.getElem?_cons_succ, List.getElem?_cons_zero, R.bind_ok, liftO_some, c', if_true, eb]
      rw [ih, eg]
theorem gcd_ok (a b : Int) (s : Hd) : m__law_gcd [.int a, .int b] s = .ok (.int (Nat.gcd a.natAbs b.natAbs : Nat)) s := by
  have ea : ∀ i : Int, (if i < 0 then -i else i) = ((i.natAbs : Nat) : Int) := fun i => by split <;> omega
  have h1 : mPar 0 1 (mCons (mCB fAbs (mCons (mVar 0) mNil)) (mCons (mCB fAbs (mCons (mVar 1) mNil)) mNil)) (startE 2 [.int a, .int b]) s = .ok (.nx [.dat (.int a.natAbs), .dat (.int b.natAbs)]) s := by
    simp [mPar, mCons, mCB, mVar, mNil, fAbs, startE, ea]
  have h2 := gcd_loop s (fuelE [.dat (.int a.natAbs), .dat (.int b.natAbs)]) a.natAbs b.natAbs (by simp [fuelE, absS]; omega)
  have h3 : mWhile (mTru (mVar 1)) gcdBody [.dat (.int a.natAbs), .dat (.int b.natAbs)] s = _ := h2
  show mDef 2 (mSeq _ (mSeq (mWhile (mTru (mVar 1)) gcdBody) _)) _ _ = _
  unfold mDef mSeq
  rw [h1]
  simp only [h3]
  simp [mRet, mVar]
theorem ratio_ok {t b : Int} (h : b ≠ 0) (hs : Sz 8000 b) (s : Hd) : m__law_ratio [.int t, .int b] s = .ok (low t b) s := by
  have hd : DivOk (sgcd t b) := DivOk.of (sgcd_ne h) (sgcd_sz h hs) (by decide)
  have e : sgcd t b = if b < 0 then -((Nat.gcd t.natAbs b.natAbs : Nat) : Int) else ((Nat.gcd t.natAbs b.natAbs : Nat) : Int) := rfl
  by_cases c : b < 0
  · rw [if_pos c] at e
    rw [e] at hd
    simp [m__law_ratio, mDef, b__law_ratio, startE, mSeq, mSet, mCall, mCons, mVar, mNil, gcd_ok, mIfS, mTest, mOp, fI, mC, mUn, fNeg, mNext, mRet, mTup, c, hd, low, lowT, lowB, e]
  · rw [if_neg c] at e
    rw [e] at hd
    simp [m__law_ratio, mDef, b__law_ratio, startE, mSeq, mSet, mCall, mCons, mVar, mNil, gcd_ok, mIfS, mTest, mOp, fI, mC, mUn, fNeg, mNext, mRet, mTup, c, hd, low, lowT, lowB, e]
/-! ### ratios -/
theorem sz_ok {a b c d : Int} {n : Nat} (hn : n ≤ 3000) (h1 : Sz n a) (h2 : Sz n b) (h3 : Sz n c) (h4 : Sz n d) : MulOk a d ∧ MulOk c b ∧ MulOk b d ∧ MulOk a c ∧ MulOk b c ∧ MulOk d a :=
  ⟨MulOk.of h1 h4 (by omega), MulOk.of h3 h2 (by omega), MulOk.of h2 h4 (by omega), MulOk.of h1 h3 (by omega), MulOk.of h2 h3 (by omega), MulOk.of h4 h1 (by omega)⟩
theorem at0 (a b : Int) : atI [Dt.int a, Dt.int b] 0 = some (.int a) := rfl
theorem at1 (a b : Int) : atI [Dt.int a, Dt.int b] 1 = some (.int b) := rfl
/-- two ratios whose numbers are small enough -/
structure Rs (n : Nat) (a b c d : Int) : Prop where
  hn : n ≤ 3000
  sa : Sz n a
  sb : Sz n b
  sc : Sz n c
  sd : Sz n d
  b0 : b ≠ 0
  d0 : d ≠ 0
theorem Rs.bd {n : Nat} {a b c d : Int} (r : Rs n a b c d) : b * d ≠ 0 ∧ Sz 8000 (b * d) := ⟨Int.mul_ne_zero r.b0 r.d0, (r.sb.mul r.sd).mono (by have := r.hn; omega)⟩
theorem lplus_ok {n : Nat} {a b c d : Int} (r : Rs n a b c d) (s : Hd) : m__law_plus [rat a b, rat c d] s = .ok (low (a * d + c * b) (b * d)) s := by
  obtain ⟨m1, m2, m3, m4, m5, m6⟩ := sz_ok r.hn r.sa r.sb r.sc r.sd
  have l := ratio_ok (t := a * d + c * b) r.bd.1 r.bd.2 s
  simp [m__law_plus, mDef, b__law_plus, startE, mRet, mCall, mCons, mNil, mOp, mVar, mC, fIx, at0, at1, fMul, fAdd, m1, m2, m3, l]
theorem py_int (i : Int) : pyOk (.int i) = some (.int i) := by
  have e : SeqAt.shaped (.int i) = true := rfl
  simp [pyOk, toPy, e]
theorem py_str (x : Str) (h : SeqAt.shaped (.str x) = true) : pyOk (.str x) = some (.str x) := by simp [pyOk, toPy, h]
theorem py_rat (a b : Int) : pyOk (rat a b) = some (.tuple [.int a, .int b]) := by
  have e : SeqAt.shaped (.tuple [.int a, .int b]) = true := rfl
  simp [pyOk, toPy, toPyA, e]
theorem eq_int (i j : Int) : fEqB (.int i) (.int j) = some (i == j) := by simp [fEqB, py_int, PyData.eqv]
theorem eq_rat (a b c d : Int) : fEqB (rat a b) (rat c d) = some ((a == c) && (b == d)) := by simp [fEqB, py_rat, PyData.eqv, PyData.eqvAll]
end Law


set_option Elab.async false
set_option linter.all false
set_option maxRecDepth 100000
namespace Law
open PySem PySem.Spec PyProof.Rows L2 Mir
theorem isr_tup (a b : Int) (s : Hd) : m_is_ratio [rat a b] s = .ok (.bl (decide (1 ≤ b) && decide (Nat.gcd a.natAbs b.natAbs = 1))) s := by
  have e1 : fEqB (.int 2) (.int 2) = some true := by rw [eq_int]; rfl
  by_cases c : 1 ≤ b
  · by_cases c2 : Nat.gcd a.natAbs b.natAbs = 1
    · simp [m_is_ratio, mDef, b_is_ratio, startE, mSeq, mIfS, mOr, mNot, mTru, mIsi, mVar, fTru, mTest, mOp, mCB, mCons, mNil, fLen, fNe, e1, mC, mNext, mAsg, gmSeq, gmCons, gmName, gmNil, mRet, mAndV, mCall, is_whole_int, is_whole_low, c, fGcd, fEq, eq_int, c2]
    · have c3 : ((Nat.gcd a.natAbs b.natAbs : Nat) : Int) ≠ 1 := by omega
      simp [m_is_ratio, mDef, b_is_ratio, startE, mSeq, mIfS, mOr, mNot, mTru, mIsi, mVar, fTru, mTest, mOp, mCB, mCons, mNil, fLen, fNe, e1, mC, mNext, mAsg, gmSeq, gmCons, gmName, gmNil, mRet, mAndV, mCall, is_whole_int, is_whole_low, c, fGcd, fEq, eq_int, c2, c3]
  · simp [m_is_ratio, mDef, b_is_ratio, startE, mSeq, mIfS, mOr, mNot, mTru, mIsi, mVar, fTru, mTest, mOp, mCB, mCons, mNil, fLen, fNe, e1, mC, mNext, mAsg, gmSeq, gmCons, gmName, gmNil, mRet, mAndV, mCall, is_whole_int, is_whole_low, c]
section
variable {n : Nat} {p q : Rat}
theorem rs_of (hn : n ≤ 3000) (a : Bd n p) (b : Bd n q) : Rs n p.num (p.den : Int) q.num (q.den : Int) := ⟨hn, a.t, a.b, b.t, b.b, bt_ne p, bt_ne q⟩
theorem lplus_q (hn : n ≤ 3000) (a : Bd n p) (b : Bd n q) (s : Hd) : m__law_plus [dq p, dq q] s = .ok (dq (p + q)) s := by
  rw [lplus_ok (rs_of hn a b) s, low_add]
theorem isr_q (s : Hd) : m_is_ratio [dq p] s = .ok (.bl true) s := by
  have h := dq_is p
  rw [isr_tup, decide_eq_true (show 1 ≤ (p.den : Int) from h.pos), decide_eq_true (show Nat.gcd p.num.natAbs ((p.den : Int)).natAbs = 1 from h.co), Bool.and_self]
theorem eq_q : fEqB (dq p) (dq q) = some (decide (p = q)) := by
  rw [eq_rat, dq_beq]
end
/-- small numbers -/
theorem bd1 : Bd 1 (1 : Rat) := ⟨by unfold Sz; decide, by unfold Sz; decide⟩
theorem bd0 : Bd 1 (0 : Rat) := ⟨by unfold Sz; decide, by unfold Sz; decide⟩
theorem lratio_q {t b : Int} {n : Nat} (h : b ≠ 0) (hn : n ≤ 8000) (z1 : Sz n t) (z2 : Sz n b) (s : Hd) : ∃ q : Rat, m__law_ratio [.int t, .int b] s = .ok (dq q) s ∧ Bd n q ∧ q = (t : Rat) / (b : Rat) ∧ q.num = lowT t b ∧ (q.den : Int) = lowB t b := by
  have l := ratio_ok (t := t) h (z2.mono hn) s
  obtain ⟨q, e1, e2, e3⟩ := low_val t b h
  refine ⟨q, ?_, ⟨?_, ?_⟩, e3.trans (divInt_eq h), e1, e2⟩
  · rw [l]
    unfold low
    rw [← e1, ← e2]
  · rw [e1]
    exact z1.le (lowT_abs h)
  · rw [e2]
    exact z2.le (lowB_abs h)
end Law


set_option Elab.async false
set_option linter.all false
namespace Mir
open PySem PySem.Spec PyProof.Rows L2
/-! Lists: comprehensions and loops that go through a list of known things -/
section
variable {α : Type} {g : GM} {t : MT} {a : ME} {vs : List Nat} {ρ : Env'} {s : Hd}
/-- a comprehension that changes no state -/
theorem lc_some (dv f : α → Dt) (c : α → Bool) : ∀ (xs : List α) (acc : List Dt), acc.length + xs.length ≤ 100000 →
    (∀ x ∈ xs, ∃ ρ1, g (dv x) (wipeE ρ vs) = some ρ1 ∧ t ρ1 s = .ok (c x) s ∧ (c x = true → a ρ1 s = .ok (f x) s)) →
    loopC g t a vs (xs.map dv) acc ρ s = .ok (.lst (acc ++ (xs.filter c).map f)) s
  | [], acc, _, _ => by simp [loopC]
  | x :: xs, acc, hl, hx => by
    obtain ⟨ρ1, e1, e2, e3⟩ := hx x List.mem_cons_self
    have hl2 : acc.length + (xs.length + 1) ≤ 100000 := hl
    rw [List.map_cons]
    unfold loopC
    rw [e1]
    simp only [e2, noErr, R.bind]
    cases hc : c x with
    | true =>
      have so : sizeOk acc.length := by unfold sizeOk; omega
      simp only [if_pos, e3 hc, noErr, R.bind, if_pos so]
      rw [lc_some dv f c xs (acc ++ [f x]) (by rw [List.length_append]; simp; omega) (fun y hy => hx y (List.mem_cons_of_mem _ hy)), List.filter_cons, if_pos hc]
      simp
    | false =>
      simp only [Bool.false_eq_true, if_false]
      rw [lc_some dv f c xs acc (by omega) (fun y hy => hx y (List.mem_cons_of_mem _ hy)), List.filter_cons, if_neg (by simp [hc])]
theorem lc_map (dv f : α → Dt) (xs : List α) (hl : xs.length ≤ 100000) (hx : ∀ x ∈ xs, ∃ ρ1, g (dv x) (wipeE ρ vs) = some ρ1 ∧ a ρ1 s = .ok (f x) s) :
    loopC g mYes a vs (xs.map dv) [] ρ s = .ok (.lst (xs.map f)) s := by
  rw [lc_some (t := mYes) dv f (fun _ => true) xs [] (by simpa using hl) (fun x h => let ⟨ρ1, e1, e2⟩ := hx x h; ⟨ρ1, e1, rfl, fun _ => e2⟩), List.filter_eq_self.2 (fun _ _ => rfl)]
  simp
theorem lc_range {lo : Int} {n : Nat} (f : Nat → Dt) (hl : n ≤ 100000) (hx : ∀ j : Nat, j < n → ∃ ρ1, g (.int (lo + j)) (wipeE ρ vs) = some ρ1 ∧ a ρ1 s = .ok (f j) s) :
    loopC g mYes a vs (rangeD lo n) [] ρ s = .ok (.lst ((List.range n).map f)) s := by
  unfold rangeD
  exact lc_map _ f (List.range n) (by rw [List.length_range]; exact hl) (fun j h => hx j (List.mem_range.1 h))
theorem rng_nat {n : Nat} (h : n ≤ 1000) : rngOk (n : Int) := ⟨by omega, by omega⟩
theorem rng1_of {b : ME} {s' : Hd} {i : Int} (n : Nat) (h : b ρ s = .ok (.int i) s') (e : i = (n : Int)) (hn : n ≤ 1000) : mRng1 b ρ s = .ok (rangeD 0 n) s' := by
  have k : rngOk i := by rw [e]; exact rng_nat hn
  have t : i.toNat = n := by omega
  clear e
  unfold mRng1
  rw [h]
  simp only [R.bind]
  rw [if_pos k, t]
theorem rng2_of {b c : ME} {s1 s' : Hd} {i j : Int} (n : Nat) (h : b ρ s = .ok (.int i) s1) (h2 : c ρ s1 = .ok (.int j) s') (e : j = i + (n : Int)) (h0 : -1000 ≤ i) (h1 : i ≤ 1000) (hn : n ≤ 1000) : mRng2 b c ρ s = .ok (rangeD i n) s' := by
  have k : rngOk i := ⟨by omega, by omega⟩
  have k2 : rngOk j := ⟨by omega, by omega⟩
  have t : (j - i).toNat = n := by omega
  clear e
  unfold mRng2
  rw [h]
  simp only [R.bind]
  rw [h2]
  simp only [R.bind]
  rw [if_pos ⟨k, k2⟩, t]
/-- these speak of any expression: the kernel never evaluates it (a range of unknown length must not be evaluated) -/
theorem ret_of {c : ME} {d : Dt} {s' : Hd} (h : c ρ s = .ok d s') : mRet c ρ s = .ok (.rt d) s' := by
  unfold mRet
  rw [h]
  rfl
theorem tup_of {c : ME} {ds : List Dt} {s' : Hd} (h : c ρ s = .ok (.lst ds) s') : mCB fTupC (mCons c mNil) ρ s = .ok (.tup ds) s' := by
  simp only [mCB, mCons, mNil, h, R.bind, fTupC, liftO]
theorem all_of {c : ME} {bs : List Bool} {s' : Hd} (h : c ρ s = .ok (.lst (bs.map Dt.bl)) s') : mCB fAll (mCons c mNil) ρ s = .ok (.bl (bs.all id)) s' := by
  have e : ∀ l : List Bool, boolsD (l.map Dt.bl) = some l := by
    intro l
    induction l with
    | nil => rfl
    | cons b l ih => simp [boolsD, ih]
  simp only [mCB, mCons, mNil, h, R.bind, fAll, e, Option.map, liftO]
/-- a comprehension of which each turn takes from the hand -/
theorem lc_hand (dv : α → Dt) (P : α → Dt → Prop) : ∀ (xs : List α) (acc : List Dt) (s : Hd), acc.length + xs.length ≤ 100000 →
    (∀ x ∈ xs, ∀ s, ∃ ρ1 d s', g (dv x) (wipeE ρ vs) = some ρ1 ∧ a ρ1 s = .ok d s' ∧ P x d) →
    ∃ ds s', loopC g mYes a vs (xs.map dv) acc ρ s = .ok (.lst (acc ++ ds)) s' ∧ ds.length = xs.length ∧ ∀ (i : Nat) (x : α) (d : Dt), xs[i]? = some x → ds[i]? = some d → P x d
  | [], acc, s, _, _ => ⟨[], s, by simp [loopC], rfl, fun i x d e => by simp at e⟩
  | x :: xs, acc, s, hl, hx => by
    obtain ⟨ρ1, d, s', e1, e2, e3⟩ := hx x List.mem_cons_self s
    have hl2 : acc.length + (xs.length + 1) ≤ 100000 := hl
    have so : sizeOk acc.length := by unfold sizeOk; omega
    obtain ⟨ds, s2, h1, h2, h3⟩ := lc_hand dv P xs (acc ++ [d]) s' (by rw [List.length_append]; simp; omega) (fun y hy => hx y (List.mem_cons_of_mem _ hy))
    refine ⟨d :: ds, s2, ?_, by simp [h2], fun i y z ey ez => ?_⟩
    · rw [List.map_cons]
      unfold loopC
      rw [e1]
      simp only [mYes, noErr, R.bind, if_pos, e2, if_pos so]
      rw [h1]
      simp
    · cases i with
      | zero => simp at ey ez; subst ey; subst ez; exact e3
      | succ i => simp at ey ez; exact h3 i y z ey ez
/-- a loop with what it keeps -/
theorem for_inv {body : MS} (dv : α → Dt) (I : List α → Env' → Hd → Prop) : ∀ (xs pre : List α) (ρ : Env') (s : Hd), I pre ρ s →
    (∀ (p : List α) (x : α) (q : List α) (ρ : Env') (s : Hd), pre ++ xs = p ++ x :: q → I p ρ s → ∃ ρ1 ρ2 s2, g (dv x) ρ = some ρ1 ∧ body ρ1 s = .ok (.nx ρ2) s2 ∧ I (p ++ [x]) ρ2 s2) →
    ∃ ρ' s', loopF g body (xs.map dv) ρ s = .ok (.nx ρ') s' ∧ I (pre ++ xs) ρ' s'
  | [], pre, ρ, s, h0, _ => ⟨ρ, s, rfl, by simpa using h0⟩
  | x :: xs, pre, ρ, s, h0, hs => by
    obtain ⟨ρ1, ρ2, s2, e1, e2, e3⟩ := hs pre x xs ρ s rfl h0
    obtain ⟨ρ', s', h1, h2⟩ := for_inv dv I xs (pre ++ [x]) ρ2 s2 e3 (fun p y q ρ s e i => hs p y q ρ s (by rw [← e]; simp) i)
    refine ⟨ρ', s', ?_, by simpa using h2⟩
    rw [List.map_cons]
    unfold loopF
    rw [e1]
    simp only [e2]
    exact h1
theorem for_range {body : MS} (dv : Nat → Dt) (I : Nat → Env' → Hd → Prop) (n : Nat) (h0 : I 0 ρ s)
    (hs : ∀ (i : Nat) (ρ : Env') (s : Hd), i < n → I i ρ s → ∃ ρ1 ρ2 s2, g (dv i) ρ = some ρ1 ∧ body ρ1 s = .ok (.nx ρ2) s2 ∧ I (i + 1) ρ2 s2) :
    ∃ ρ' s', loopF g body ((List.range n).map dv) ρ s = .ok (.nx ρ') s' ∧ I n ρ' s' := by
  obtain ⟨ρ', s', h1, h2⟩ := for_inv (g := g) (body := body) dv (fun p ρ s => I p.length ρ s) (List.range n) [] ρ s h0 (fun p x q ρ s e i => by
    rw [List.nil_append] at e
    have hx : (List.range n)[p.length]? = some x := by rw [e]; simp
    have hn : p.length < n := by
      have := congrArg List.length e
      simp at this
      omega
    rw [List.getElem?_range hn] at hx
    have ex : x = p.length := by simpa using hx.symm
    subst ex
    obtain ⟨ρ1, ρ2, s2, a1, a2, a3⟩ := hs p.length ρ s hn i
    exact ⟨ρ1, ρ2, s2, a1, a2, by simpa using a3⟩)
  exact ⟨ρ', s', h1, by simpa using h2⟩
end
end Mir


set_option Elab.async false
set_option linter.all false
set_option maxRecDepth 100000
namespace Law
open PySem PySem.Spec PyProof.Rows L2 Mir
/-- a row of entries -/
def rD (N : Nat) (f : Nat → Rat) : List Dt := (List.range (N + 1)).map fun j => dq (f j)
def dR (N : Nat) (f : Nat → Rat) : Dt := .tup (rD N f)
def one (l : Nat) (q : Rat) : Nat → Rat := fun j => if j = l then q else 0
theorem zip_map {α : Type} (a b : α → Dt) : ∀ xs : List α, zipD (xs.map a) (xs.map b) = xs.map fun x => Dt.tup [a x, b x]
  | [] => rfl
  | x :: xs => by
    have h := zip_map a b xs
    unfold zipD at h ⊢
    simp [h]
theorem dq0 : (Dt.tup [.int 0, .int 1]) = dq 0 := rfl
theorem dq1 : (Dt.tup [.int 1, .int 1]) = dq 1 := rfl
theorem row_at_lc {N : Nat} (hN : N ≤ 10) (l : Nat) (q : Rat) (s : Hd) : loopC (gmName 3) mYes (mIf (mTest (mOp fEq (mVar 3) (mVar 1))) (mVar 2) (mC (.tup [.int 0, .int 1]))) [3] (rangeD 0 (N + 1)) [] [.dat (.int N), .dat (.int l), .dat (dq q), .no] s = .ok (.lst (rD N (one l q))) s := by
  refine lc_range (fun j => dq (one l q j)) (by omega) fun j _ => ⟨_, rfl, ?_⟩
  by_cases c : j = l
  · simp [mIf, mTest, mOp, mVar, fEq, eq_int, wipeE, one, mC, c]
  · have c2 : ¬ ((j : Int) = (l : Int)) := by omega
    simp [mIf, mTest, mOp, mVar, fEq, eq_int, wipeE, one, mC, c, c2, ← dq0]
end Law


set_option Elab.async false
set_option linter.all false
set_option maxRecDepth 100000
namespace Law
open PySem PySem.Spec PyProof.Rows L2 Mir
def gm2 : GM := gmSeq 2 (gmCons (gmName 2) (gmCons (gmName 3) gmNil))
theorem zip_of {a b : ME} {ρ : Env'} {s s1 s2 : Hd} {d e : Dt} {xs ys : List Dt} (h1 : a ρ s = .ok d s1) (h2 : b ρ s1 = .ok e s2) (k1 : seqD d = some xs) (k2 : seqD e = some ys) : mZip a b ρ s = .ok (zipD xs ys) s2 := by
  unfold mZip
  rw [h1]
  simp only [R.bind]
  rw [h2]
  simp only [R.bind, k1, k2]
theorem zip_rD (N : Nat) (f g : Nat → Rat) : zipD (rD N f) (rD N g) = (List.range (N + 1)).map fun j => Dt.tup [dq (f j), dq (g j)] := zip_map _ _ _
/-- a comprehension over the couples of two rows -/
theorem pairs_lc {N n : Nat} (hN : N ≤ 10) (hn : n ≤ 3000) {f g : Nat → Rat} (op : Rat → Rat → Rat) {m : List Dt → Hd → R Dt} {d e : Dt} (hd : seqD d = some (rD N f)) (he : seqD e = some (rD N g))
    (hm : ∀ (p q : Rat) (s : Hd), Bd n p → Bd n q → m [dq p, dq q] s = .ok (dq (op p q)) s) (hf : ∀ j, j ≤ N → Bd n (f j)) (hg : ∀ j, j ≤ N → Bd n (g j)) (s : Hd) :
    mDef 4 (mRet (mCB fTupC (mCons (mLc gm2 (mZip (mVar 0) (mVar 1)) mYes (mCall 2 [] m (mCons (mVar 2) (mCons (mVar 3) mNil))) [2, 3]) mNil))) [d, e] s = .ok (dR N fun j => op (f j) (g j)) s := by
  have z : mZip (mVar 0) (mVar 1) [.dat d, .dat e, .no, .no] s = .ok (zipD (rD N f) (rD N g)) s := zip_of rfl rfl hd he
  refine def_rt (ret_of (tup_of ((lc_of z).trans ?_)))
  rw [zip_rD]
  refine lc_map (ρ := [.dat d, .dat e, .no, .no]) (fun j => Dt.tup [dq (f j), dq (g j)]) (fun j => dq (op (f j) (g j))) (List.range (N + 1)) (by rw [List.length_range]; omega) fun j hj => ⟨[.dat d, .dat e, .dat (dq (f j)), .dat (dq (g j))], rfl, ?_⟩
  have hj2 : j ≤ N := by have := List.mem_range.1 hj; omega
  have k := hm (f j) (g j) s (hf j hj2) (hg j hj2)
  simp [mCall, mCons, mVar, mNil, k]
section
variable {N n : Nat} {f g : Nat → Rat}
theorem seqI_of {a : ME} {ρ : Env'} {s s1 : Hd} {d : Dt} {xs : List Dt} (h1 : a ρ s = .ok d s1) (k1 : seqD d = some xs) : mSeqI a ρ s = .ok xs s1 := by
  unfold mSeqI
  rw [h1]
  cases d <;> simp_all [seqD, R.bind]
end
end Law


set_option Elab.async false
set_option linter.all false
set_option maxRecDepth 100000
namespace Law
open PySem PySem.Spec PyProof.Rows L2 Mir
structure Bars where
  n : Nat
  N : Nat
  h : Nat → Int
  m : Nat → Rat
  l : Nat → Nat
structure Bars.Ok (B : Bars) : Prop where
  n1 : 1 ≤ B.n
  n6 : B.n ≤ 6
  N1 : 1 ≤ B.N
  N4 : B.N ≤ 4
  h0 : ∀ i, i < B.n → -1 ≤ B.h i
  h1 : ∀ i, i < B.n → B.h i < i
  m : ∀ i, i < B.n → Bd 210 (B.m i)
  l : ∀ i, i < B.n → B.l i ≤ B.N
  all : ∀ k, 1 ≤ k → k ≤ B.N → ∃ i, i < B.n ∧ B.l i = k
def Bars.bar (B : Bars) (i : Nat) : Dt := .tup [.int (B.h i), dq (B.m i), .int (B.l i : Nat)]
def Bars.row (B : Bars) : List Dt := (List.range B.n).map B.bar
def Bars.d (B : Bars) : Dt := .tup B.row
def Bars.arms (B : Bars) : Dt := .obj "Arms" [("letters", .int (B.N : Nat)), ("bars", B.d)]
/-- the row of a place -/
def W (B : Bars) : Nat → Int → Rat → Nat → Rat
  | 0, _, q => one 0 q
  | k + 1, b, q => if b < 0 then one 0 q else fun j => W B k (B.h b.toNat) (B.m b.toNat) j + one (B.l b.toNat) q j
theorem eq22 : fEqB (.int 2) (.int 2) = some true := by rw [eq_int]; rfl
theorem i2_tup (ds : List Dt) : fIsi2 "list" "tuple" (.tup ds) = some true := by simp [fIsi2, tyN]; decide
theorem i2_lst (ds : List Dt) : fIsi2 "list" "tuple" (.lst ds) = some true := by simp [fIsi2, tyN]; decide
theorem row2_tup (a b : Dt) (s : Hd) : m_is_row [.tup [a, b], .int 2, .int 2] s = .ok (.bl true) s := by
  simp [m_is_row, mDef, b_is_row, startE, mSeq, mIfS, mNot, mTru, mIsi2, i2_tup, mVar, fTru, mNext, mRet, mAndV, mOrV, mOp, mCB, mCons, mNil, fLen, fI, fIs, mC, fGe, fLe]
theorem row2_lst (a b : Dt) (s : Hd) : m_is_row [.lst [a, b], .int 2, .int 2] s = .ok (.bl true) s := by
  simp [m_is_row, mDef, b_is_row, startE, mSeq, mIfS, mNot, mTru, mIsi2, i2_lst, mVar, fTru, mNext, mRet, mAndV, mOrV, mOp, mCB, mCons, mNil, fLen, fI, fIs, mC, fGe, fLe]
theorem bl_ne : (("bars" : Str) == ("letters" : Str)) = false := by decide +kernel
theorem lk_bars (x d : Dt) : List.lookup ("bars" : Str) [(("letters" : Str), x), (("bars" : Str), d)] = some d := by
  simp only [List.lookup, bl_ne, beq_self_eq_true]
theorem lk_letters (x d : Dt) : List.lookup ("letters" : Str) [(("letters" : Str), x), (("bars" : Str), d)] = some x := by
  simp only [List.lookup, beq_self_eq_true]
theorem whole_both (i l k : Int) (s : Hd) : m_is_whole [.int i, .int l, .int k] s = .ok (.bl (decide (l ≤ i) && decide (i ≤ k))) s := is_whole_both i l k s
theorem bars_len (B : Bars) : B.row.length = B.n := by simp [Bars.row]
section
variable {B : Bars} (ok : B.Ok) {b : Int} {q : Rat} (h0 : -1 ≤ b) (h1 : b < B.n)
include ok h0 h1
end
end Law


set_option Elab.async false
set_option linter.all false
set_option maxRecDepth 100000
namespace Law
open PySem PySem.Spec PyProof.Rows L2 Mir
theorem one_bd {n : Nat} {l : Nat} {q : Rat} (hn : 1 ≤ n) (h : Bd n q) (j : Nat) : Bd n (one l q j) := by
  unfold one
  by_cases c : j = l
  · rw [if_pos c]; exact h
  · rw [if_neg c]; exact bd0.mono hn
theorem W_bd {B : Bars} (ok : B.Ok) : ∀ (k n : Nat) (b : Int) (q : Rat), b < B.n → 1 ≤ n → Bd n q → ∀ j, Bd (n + 212 * k) (W B k b q j)
  | 0, n, b, q, _, hn, hq, j => one_bd hn hq j
  | k + 1, n, b, q, hb, hn, hq, j => by
    unfold W
    by_cases c : b < 0
    · rw [if_pos c]; exact (one_bd hn hq j).mono (by omega)
    · rw [if_neg c]
      have hi : b.toNat < B.n := by omega
      have h1 := ok.h1 b.toNat hi
      have a := W_bd ok k 210 (B.h b.toNat) (B.m b.toNat) (by omega) (by omega) (ok.m b.toNat hi) j
      exact (a.add (one_bd hn hq j)).mono (by omega)
theorem lk_row_of (x d : Dt) : List.lookup ("row_of" : Str) [(("letters" : Str), x), (("bars" : Str), d)] = none := by
  have e1 : (("row_of" : Str) == ("letters" : Str)) = false := by decide +kernel
  have e2 : (("row_of" : Str) == ("bars" : Str)) = false := by decide +kernel
  simp only [List.lookup, e1, e2]
theorem lk_hinge (x d : Dt) : List.lookup ("hinge_row" : Str) [(("letters" : Str), x), (("bars" : Str), d)] = none := by
  have e1 : (("hinge_row" : Str) == ("letters" : Str)) = false := by decide +kernel
  have e2 : (("hinge_row" : Str) == ("bars" : Str)) = false := by decide +kernel
  simp only [List.lookup, e1, e2]
theorem atI_row (B : Bars) {b : Int} (h0 : 0 ≤ b) (h1 : b < B.n) : atI B.row b = some (B.bar b.toNat) := by
  have e : B.row[b.toNat]? = some (B.bar b.toNat) := by
    unfold Bars.row
    rw [List.getElem?_map, List.getElem?_range (by omega)]
    rfl
  have e2 : ixN B.row.length b = some b.toNat := by
    unfold ixN
    rw [if_pos h0, if_pos (by rw [bars_len]; exact h1)]
  unfold atI
  rw [e2]
  exact e
section
variable {B : Bars} (ok : B.Ok)
include ok
end
end Law


set_option Elab.async false
set_option linter.all false
/-! Steps of expressions and statements, one lemma each, and a tactic that puts them together. -/
namespace Mir
open PySem PySem.Spec PyProof.Rows L2
section
variable {ρ ρ1 ρ2 : Env'} {s s1 s2 s3 s4 : Hd} {d e r : Dt} {ds es : List Dt} {a b : ME} {as : MA} {t t2 : MT} {b1 b2 : MS} {c : Bool} {i j : Nat}
theorem ev_var (h : ρ[i]? = some (.dat d)) : mVar i ρ s = .ok d s := by unfold mVar; rw [h]
theorem ev_c : mC d ρ s = .ok d s := rfl
theorem ev_op {f : Dt → Dt → Option Dt} (h1 : a ρ s = .ok d s1) (h2 : b ρ s1 = .ok e s2) (h3 : f d e = some r) : mOp f a b ρ s = .ok r s2 := by
  unfold mOp; rw [h1]; simp only [R.bind_ok]; rw [h2]; simp only [R.bind_ok]; rw [h3]; rfl
theorem ev_un {f : Dt → Option Dt} (h1 : a ρ s = .ok d s1) (h3 : f d = some r) : mUn f a ρ s = .ok r s1 := by
  unfold mUn; rw [h1]; simp only [R.bind_ok]; rw [h3]; rfl
theorem ev_test (h : a ρ s = .ok (.bl c) s1) : mTest a ρ s = .ok c s1 := by unfold mTest; rw [h]; rfl
theorem ev_tru (h : a ρ s = .ok d s1) (h2 : fTru d = some c) : mTru a ρ s = .ok c s1 := by unfold mTru; rw [h]; simp only [R.bind_ok]; rw [h2]; rfl
theorem ev_not_f (h : t ρ s = .ok true s1) : mNot t ρ s = .ok false s1 := by unfold mNot; rw [h]; rfl
theorem ev_not_t (h : t ρ s = .ok false s1) : mNot t ρ s = .ok true s1 := by unfold mNot; rw [h]; rfl
theorem ev_or_t (h : t ρ s = .ok true s1) : mOr t t2 ρ s = .ok true s1 := by unfold mOr; rw [h]; rfl
theorem ev_or_f (h : t ρ s = .ok false s1) (h2 : t2 ρ s1 = .ok c s2) : mOr t t2 ρ s = .ok c s2 := by unfold mOr; rw [h]; exact h2
theorem ev_and_f (h : t ρ s = .ok false s1) : mAnd t t2 ρ s = .ok false s1 := by unfold mAnd; rw [h]; rfl
theorem ev_and_t (h : t ρ s = .ok true s1) (h2 : t2 ρ s1 = .ok c s2) : mAnd t t2 ρ s = .ok c s2 := by unfold mAnd; rw [h]; exact h2
theorem ev_if_t (h : t ρ s = .ok true s1) (h2 : a ρ s1 = .ok d s2) : mIf t a b ρ s = .ok d s2 := by unfold mIf; rw [h]; exact h2
theorem ev_if_f (h : t ρ s = .ok false s1) (h2 : b ρ s1 = .ok d s2) : mIf t a b ρ s = .ok d s2 := by unfold mIf; rw [h]; exact h2
theorem ev_andv_t (h : a ρ s = .ok d s1) (h1 : fTru d = some true) (h2 : b ρ s1 = .ok e s2) : mAndV a b ρ s = .ok e s2 := by
  unfold mAndV; rw [h]; simp only [R.bind_ok]; rw [h1]; exact h2
theorem ev_andv_f (h : a ρ s = .ok d s1) (h1 : fTru d = some false) : mAndV a b ρ s = .ok d s1 := by
  unfold mAndV; rw [h]; simp only [R.bind_ok]; rw [h1]; rfl
theorem ev_orv_f (h : a ρ s = .ok d s1) (h1 : fTru d = some false) (h2 : b ρ s1 = .ok e s2) : mOrV a b ρ s = .ok e s2 := by
  unfold mOrV; rw [h]; simp only [R.bind_ok]; rw [h1]; exact h2
theorem ev_orv_t (h : a ρ s = .ok d s1) (h1 : fTru d = some true) : mOrV a b ρ s = .ok d s1 := by
  unfold mOrV; rw [h]; simp only [R.bind_ok]; rw [h1]; rfl
theorem ev_notv (h : a ρ s = .ok d s1) (h1 : fTru d = some c) : mNotV a ρ s = .ok (.bl (!c)) s1 := by
  unfold mNotV; rw [h]; simp only [R.bind_ok]; rw [h1]; rfl
theorem ev_nil : mNil ρ s = .ok [] s := rfl
theorem ev_cons (h : a ρ s = .ok d s1) (h2 : as ρ s1 = .ok ds s2) : mCons a as ρ s = .ok (d :: ds) s2 := by
  unfold mCons; rw [h]; simp only [R.bind_ok]; rw [h2]; rfl
theorem ev_tup (h : as ρ s = .ok ds s1) (hl : ds.length ≤ 100000) : mTup as ρ s = .ok (.tup ds) s1 := by
  unfold mTup; rw [h]; simp only [R.bind_ok]; rw [if_pos hl]
theorem ev_lst (h : as ρ s = .ok ds s1) (hl : ds.length ≤ 100000) : mLst as ρ s = .ok (.lst ds) s1 := by
  unfold mLst; rw [h]; simp only [R.bind_ok]; rw [if_pos hl]
theorem ev_cb {f : List Dt → Option Dt} (h : as ρ s = .ok ds s1) (h1 : f ds = some r) : mCB f as ρ s = .ok r s1 := by
  unfold mCB; rw [h]; simp only [R.bind_ok]; rw [h1]; rfl
theorem ev_call {n : Nat} {dd : List Dt} {m : List Dt → Hd → R Dt} (h : as ρ s = .ok ds s1) (hl : (ds ++ dd).length = n) (hm : m (ds ++ dd) s1 = .ok r s2) : mCall n dd m as ρ s = .ok r s2 := by
  unfold mCall; rw [h]; simp only [R.bind_ok]; rw [if_pos hl, hm]
theorem ev_call0 {n : Nat} {m : List Dt → Hd → R Dt} (h : as ρ s = .ok ds s1) (hl : ds.length = n) (hm : m ds s1 = .ok r s2) : mCall n [] m as ρ s = .ok r s2 := ev_call h (by rw [List.append_nil]; exact hl) (by rw [List.append_nil]; exact hm)
theorem ev_call_err {n : Nat} {dd : List Dt} {m : List Dt → Hd → R Dt} {cl : Str} {fs : List (Str × Dt)} {ρ' : Env'} (h : as ρ s = .ok ds s1) (hl : (ds ++ dd).length = n) (hm : m (ds ++ dd) s1 = .err cl fs ρ' s2) : mCall n dd m as ρ s = .err cl fs ρ s2 := by
  unfold mCall; rw [h]; simp only [R.bind_ok]; rw [if_pos hl, hm]
theorem ev_meth {cl x : Str} {n : Nat} {dd : List Dt} {m : List Dt → Hd → R Dt} {fs : List (Str × Dt)} (h : a ρ s = .ok (.obj cl fs) s1) (hx : fs.lookup x = none) (h2 : as ρ s1 = .ok ds s2) (hl : (ds ++ dd).length + 1 = n) (hm : m (.obj cl fs :: (ds ++ dd)) s2 = .ok r s3) : mMeth cl x n dd m a as ρ s = .ok r s3 := by
  unfold mMeth; rw [h]; simp only [R.bind_ok]; simp only [hx, and_self, if_true]; rw [h2]; simp only [R.bind_ok]; rw [if_pos hl, hm]
theorem ev_meth0 {cl x : Str} {n : Nat} {m : List Dt → Hd → R Dt} {fs : List (Str × Dt)} (h : a ρ s = .ok (.obj cl fs) s1) (hx : fs.lookup x = none) (h2 : as ρ s1 = .ok ds s2) (hl : ds.length + 1 = n) (hm : m (.obj cl fs :: ds) s2 = .ok r s3) : mMeth cl x n [] m a as ρ s = .ok r s3 := ev_meth h hx h2 (by rw [List.append_nil]; exact hl) (by rw [List.append_nil]; exact hm)
theorem ev_make0 {cl : Str} {n : Nat} {m : List Dt → Hd → R (List (Str × Dt))} {fs : List (Str × Dt)} (h : as ρ s = .ok ds s1) (hl : ds.length = n) (hm : m ds s1 = .ok fs s2) : mMake cl n [] m as ρ s = .ok (.obj cl fs) s2 := by
  unfold mMake; rw [h]; simp only [R.bind_ok, List.append_nil]; rw [if_pos hl, hm]
theorem ev_meth_err {cl x : Str} {n : Nat} {dd : List Dt} {m : List Dt → Hd → R Dt} {fs : List (Str × Dt)} {c2 : Str} {f2 : List (Str × Dt)} {ρ' : Env'} (h : a ρ s = .ok (.obj cl fs) s1) (hx : fs.lookup x = none) (h2 : as ρ s1 = .ok ds s2) (hl : (ds ++ dd).length + 1 = n) (hm : m (.obj cl fs :: (ds ++ dd)) s2 = .err c2 f2 ρ' s3) : mMeth cl x n dd m a as ρ s = .err c2 f2 ρ s3 := by
  unfold mMeth; rw [h]; simp only [R.bind_ok]; simp only [hx, and_self, if_true]; rw [h2]; simp only [R.bind_ok]; rw [if_pos hl, hm]
theorem ev_attr {cs : List Str} {f cl : Str} {fs : List (Str × Dt)} (h : a ρ s = .ok (.obj cl fs) s1) (hc : cl ∈ cs) (h2 : fs.lookup f = some d) : mAttr cs f a ρ s = .ok d s1 := by
  unfold mAttr; rw [h]; simp only [R.bind_ok]; rw [if_pos hc, h2]; rfl
theorem ev_make {cl : Str} {n : Nat} {dd : List Dt} {m : List Dt → Hd → R (List (Str × Dt))} {fs : List (Str × Dt)} (h : as ρ s = .ok ds s1) (hl : (ds ++ dd).length = n) (hm : m (ds ++ dd) s1 = .ok fs s2) : mMake cl n dd m as ρ s = .ok (.obj cl fs) s2 := by
  unfold mMake; rw [h]; simp only [R.bind_ok]; rw [if_pos hl, hm]
theorem ev_isi {T : String} (h : a ρ s = .ok d s1) (h2 : fIsi T d = some c) : mIsi T a ρ s = .ok (.bl c) s1 := by
  unfold mIsi; rw [h]; simp only [R.bind_ok]; rw [h2]; rfl
theorem ev_isi2 {T U : String} (h : a ρ s = .ok d s1) (h2 : fIsi2 T U d = some c) : mIsi2 T U a ρ s = .ok (.bl c) s1 := by
  unfold mIsi2; rw [h]; simp only [R.bind_ok]; rw [h2]; rfl
theorem ev_lc {g : GM} {it : MA} {vs : List Nat} (h : it ρ s = .ok ds s1) (h2 : loopC g t a vs ds [] ρ s1 = .ok d s2) : mLc g it t a vs ρ s = .ok d s2 := (lc_of h).trans h2
theorem ev_seqI (h : a ρ s = .ok d s1) (k : seqD d = some ds) : mSeqI a ρ s = .ok ds s1 := by
  unfold mSeqI
  rw [h]
  cases d <;> simp_all [seqD, R.bind]
theorem ev_ixo_own {k : Int} (h : ρ[i]? = some (.own ds)) (h2 : b ρ s = .ok (.int k) s1) (h3 : atI ds k = some r) : mIxO i b ρ s = .ok r s1 := by
  unfold mIxO; rw [h]; simp only; rw [h2]; simp only [R.bind_ok]; rw [h3]; rfl
theorem ev_ixo_dat (h : ρ[i]? = some (.dat d)) (h2 : b ρ s = .ok e s1) (h3 : fIx d e = some r) : mIxO i b ρ s = .ok r s1 := by
  unfold mIxO; rw [h]; simp only; rw [h2]; simp only [R.bind_ok]; rw [h3]; rfl
/-! statements -/
theorem es_next : mNext ρ s = .ok (.nx ρ) s := rfl
theorem es_seq {q : R Fl} (h : b1 ρ s = .ok (.nx ρ1) s1) (h2 : b2 ρ1 s1 = q) : mSeq b1 b2 ρ s = q := (seq_nx h).trans h2
theorem es_set (h : a ρ s = .ok d s1) : mSet i a ρ s = .ok (.nx (ρ.set i (.dat d))) s1 := by unfold mSet; rw [h]; rfl
theorem es_break : mBreak ρ s = .ok (.bk ρ) s := rfl
theorem seq_bk (h : b1 ρ s = .ok (.bk ρ1) s1) : mSeq b1 b2 ρ s = .ok (.bk ρ1) s1 := by unfold mSeq; rw [h]
theorem es_ret (h : a ρ s = .ok d s1) : mRet a ρ s = .ok (.rt d) s1 := ret_of h
theorem es_drop (h : a ρ s = .ok d s1) : mDrop a ρ s = .ok (.nx ρ) s1 := by unfold mDrop; rw [h]; rfl
theorem es_if_t {q : R Fl} (h : t ρ s = .ok true s1) (h2 : b1 ρ s1 = q) : mIfS t b1 b2 ρ s = q := by unfold mIfS; rw [h]; exact h2
theorem es_if_f {q : R Fl} (h : t ρ s = .ok false s1) (h2 : b2 ρ s1 = q) : mIfS t b1 b2 ρ s = q := by unfold mIfS; rw [h]; exact h2
theorem es_asg {g : GM} (h : a ρ s = .ok d s1) (h2 : g d ρ = some ρ1) : mAsg g a ρ s = .ok (.nx ρ1) s1 := by
  unfold mAsg; rw [h]; simp only [R.bind_ok]; rw [h2]
theorem es_par (h : as ρ s = .ok [d, e] s1) : mPar i j as ρ s = .ok (.nx ((ρ.set i (.dat d)).set j (.dat e))) s1 := by
  unfold mPar; rw [h]; rfl
theorem es_setO {m : MA} (h : m ρ s = .ok ds s1) : mSetO i m ρ s = .ok (.nx (ρ.set i (.own ds))) s1 := by unfold mSetO; rw [h]; rfl
theorem ev_lstO (h : as ρ s = .ok ds s1) (hl : ds.length ≤ 100000) : mLstO as ρ s = .ok ds s1 := by
  unfold mLstO; rw [h]; simp only [R.bind_ok]; rw [if_pos hl]
theorem es_for {g : GM} {it : MA} {q : R Fl} (h : it ρ s = .ok ds s1) (h2 : loopF g b1 ds ρ s1 = q) : mFor g it b1 ρ s = q := (for_of h).trans h2
theorem es_def {n : Nat} {b : MS} {ρ : Env'} (hρ : startE n ds = ρ) (h : b ρ s = .ok (.rt d) s1) : mDef n b ds s = .ok d s1 := by
  subst hρ
  exact def_rt h
theorem es_def_nx {n : Nat} {b : MS} {ρ : Env'} (hρ : startE n ds = ρ) (h : b ρ s = .ok (.nx ρ1) s1) : mDef n b ds s = .ok .non s1 := by
  subst hρ
  unfold mDef
  rw [h]
theorem es_def_err {n : Nat} {b : MS} {ρ : Env'} {cl : Str} {fs : List (Str × Dt)} (hρ : startE n ds = ρ) (h : b ρ s = .err cl fs ρ1 s1) : mDef n b ds s = .err cl fs ρ1 s1 := by
  subst hρ
  unfold mDef
  rw [h]
theorem es_app (h : ρ[i]? = some (.own ds)) (h2 : a ρ s = .ok d s1) (hl : ds.length ≤ 100000) : mApp i a ρ s = .ok (.nx (ρ.set i (.own (ds ++ [d])))) s1 := by
  unfold mApp; rw [h]; simp only; rw [h2]; simp only [R.bind_ok]; rw [if_pos (show sizeOk ds.length from hl)]
theorem es_setI {k : Int} (h1 : a ρ s = .ok d s1) (h : ρ[i]? = some (.own ds)) (h2 : b ρ s1 = .ok (.int k) s2) (hj : ixN ds.length k = some j) : mSetI i b a ρ s = .ok (.nx (ρ.set i (.own (ds.set j d)))) s2 := by
  unfold mSetI; rw [h1]; simp only [R.bind_ok]; rw [h]; simp only; rw [h2]; simp only [R.bind_ok]; rw [hj]
theorem ev_bor (h : ρ[i]? = some (.own ds)) (h2 : a (ρ.set i (.dat (.lst ds))) s = .ok d s1) (hf : lfree d = true) : mBor i a ρ s = .ok d s1 := by
  unfold mBor; rw [h]; simp only; rw [h2]; simp only; rw [if_pos hf]
theorem es_fld {cl f : Str} {cs : List Str} {fs : List (Str × Dt)} (h : a ρ s = .ok d s1) (h2 : ρ[i]? = some (.slf cl fs)) (hc : cl ∈ cs) (hl : fs.length < 1000) : mFld i cs f a ρ s = .ok (.nx (ρ.set i (.slf cl (putFD f d fs)))) s1 := by
  unfold mFld; rw [h]; simp only [R.bind_ok]; rw [h2]; simp only; rw [if_pos ⟨hc, hl⟩]
theorem es_init {n : Nat} {cl : Str} {ms : MS} {fs : List (Str × Dt)} (hρ : startI n cl ds = ρ) (h : ms ρ s = .ok (.nx ρ1) s1) (h2 : ρ1[0]? = some (.slf cl fs)) : mInit n cl ms ds s = .ok fs s1 := by
  subst hρ
  unfold mInit; rw [h]; simp only; rw [h2]; simp
theorem es_frz {is : List Nat} (h : is.foldl frzE ρ = ρ1) {q : R Fl} (h2 : b1 ρ1 s = q) : mFrz is b1 ρ s = q := by
  unfold mFrz; rw [h]; exact h2
theorem loop_nx {g : GM} {q : R Fl} (h : g d ρ = some ρ1) (h2 : b1 ρ1 s = .ok (.nx ρ2) s1) (h3 : loopF g b1 ds ρ2 s1 = q) : loopF g b1 (d :: ds) ρ s = q := by
  unfold loopF; rw [h]; simp only; rw [h2]; exact h3
theorem loop_bk {g : GM} (h : g d ρ = some ρ1) (h2 : b1 ρ1 s = .ok (.bk ρ2) s1) : loopF g b1 (d :: ds) ρ s = .ok (.nx ρ2) s1 := by
  unfold loopF; rw [h]; simp only; rw [h2]
theorem loop_rt {g : GM} (h : g d ρ = some ρ1) (h2 : b1 ρ1 s = .ok (.rt e) s1) : loopF g b1 (d :: ds) ρ s = .ok (.rt e) s1 := by
  unfold loopF; rw [h]; simp only; rw [h2]
theorem loop_err {g : GM} {cl : Str} {fs : List (Str × Dt)} (h : g d ρ = some ρ1) (h2 : b1 ρ1 s = .err cl fs ρ2 s1) : loopF g b1 (d :: ds) ρ s = .err cl fs ρ2 s1 := by
  unfold loopF; rw [h]; simp only; rw [h2]
/-- a loop that ends with a return -/
theorem for_until {α : Type} {g : GM} {body : MS} (dv : α → Dt) (I : List α → Env' → Hd → Prop) (P : Dt → Hd → Prop) (x : α) (ys : List α) : ∀ (xs pre : List α) (ρ : Env') (s : Hd), I pre ρ s →
    (∀ (p : List α) (y : α) (q : List α) (ρ : Env') (s : Hd), pre ++ xs = p ++ y :: q → I p ρ s → ∃ ρ1 ρ2 s2, g (dv y) ρ = some ρ1 ∧ body ρ1 s = .ok (.nx ρ2) s2 ∧ I (p ++ [y]) ρ2 s2) →
    (∀ (ρ : Env') (s : Hd), I (pre ++ xs) ρ s → ∃ ρ1 d s2, g (dv x) ρ = some ρ1 ∧ body ρ1 s = .ok (.rt d) s2 ∧ P d s2) →
    ∃ d s', loopF g body ((xs ++ x :: ys).map dv) ρ s = .ok (.rt d) s' ∧ P d s'
  | [], pre, ρ, s, h0, _, hx => by
    obtain ⟨ρ1, d, s2, e1, e2, e3⟩ := hx ρ s (by simpa using h0)
    refine ⟨d, s2, ?_, e3⟩
    rw [List.nil_append, List.map_cons]
    unfold loopF
    rw [e1]
    simp only [e2]
  | y :: xs, pre, ρ, s, h0, hs, hx => by
    obtain ⟨ρ1, ρ2, s2, e1, e2, e3⟩ := hs pre y xs ρ s rfl h0
    obtain ⟨d, s', h1, h2⟩ := for_until dv I P x ys xs (pre ++ [y]) ρ2 s2 e3 (fun p z q ρ s e i => hs p z q ρ s (by rw [← e]; simp) i) (fun ρ s i => hx ρ s (by simpa using i))
    refine ⟨d, s', ?_, h2⟩
    rw [List.cons_append, List.map_cons]
    unfold loopF
    rw [e1]
    simp only [e2]
    exact h1
theorem for_stop {g : GM} {body : MS} (dv : Nat → Dt) (I : Nat → Env' → Hd → Prop) (P : Dt → Hd → Prop) {n w : Nat} (hw : w < n) {ρ : Env'} {s : Hd} (h0 : I 0 ρ s)
    (hs : ∀ (i : Nat) (ρ : Env') (s : Hd), i < w → I i ρ s → ∃ ρ1 ρ2 s2, g (dv i) ρ = some ρ1 ∧ body ρ1 s = .ok (.nx ρ2) s2 ∧ I (i + 1) ρ2 s2)
    (hx : ∀ (ρ : Env') (s : Hd), I w ρ s → ∃ ρ1 d s2, g (dv w) ρ = some ρ1 ∧ body ρ1 s = .ok (.rt d) s2 ∧ P d s2) :
    ∃ d s', loopF g body ((List.range n).map dv) ρ s = .ok (.rt d) s' ∧ P d s' := by
  obtain ⟨r, rfl⟩ : ∃ r, n = w + (r + 1) := ⟨n - w - 1, by omega⟩
  have e : List.range (w + (r + 1)) = List.range w ++ w :: ((List.range r).map Nat.succ).map (w + ·) := by
    rw [List.range_add, List.range_succ_eq_map, List.map_cons]
    rfl
  rw [e]
  refine for_until dv (fun p ρ s => I p.length ρ s) P w _ (List.range w) [] ρ s h0 (fun p x q ρ s e i => ?_) (fun ρ s i => hx ρ s (by simpa using i))
  rw [List.nil_append] at e
  have hx : (List.range w)[p.length]? = some x := by rw [e]; simp
  have hn : p.length < w := by
    have := congrArg List.length e
    simp at this
    omega
  rw [List.getElem?_range hn] at hx
  have ex : x = p.length := by simpa using hx.symm
  subst ex
  obtain ⟨ρ1, ρ2, s2, a1, a2, a3⟩ := hs p.length ρ s hn i
  exact ⟨ρ1, ρ2, s2, a1, a2, by simpa using a3⟩
theorem rangeD_succ (lo : Int) (n : Nat) : rangeD lo (n + 1) = .int lo :: rangeD (lo + 1) n := by
  unfold rangeD
  rw [List.range_succ_eq_map, List.map_cons, List.map_map]
  congr 1
  · simp
  · refine List.map_congr_left fun i _ => ?_
    simp only [Function.comp, Dt.int.injEq]
    omega
section
variable {cl : Str} {fs : List (Str × Dt)} {ρ' : Env'}
theorem ev_cons_e1 (h : a ρ s = .err cl fs ρ' s1) : mCons a as ρ s = .err cl fs ρ' s1 := by unfold mCons; rw [h]; rfl
theorem ev_cons_e2 (h : a ρ s = .ok d s1) (h2 : as ρ s1 = .err cl fs ρ' s2) : mCons a as ρ s = .err cl fs ρ' s2 := by unfold mCons; rw [h]; simp only [R.bind_ok]; rw [h2]; rfl
theorem ev_call_ae {n : Nat} {dd : List Dt} {m : List Dt → Hd → R Dt} (h : as ρ s = .err cl fs ρ' s1) : mCall n dd m as ρ s = .err cl fs ρ' s1 := by unfold mCall; rw [h]; rfl
theorem ev_meth_ae {c x : Str} {n : Nat} {dd : List Dt} {m : List Dt → Hd → R Dt} {f2 : List (Str × Dt)} (h : a ρ s = .ok (.obj c f2) s1) (hx : f2.lookup x = none) (h2 : as ρ s1 = .err cl fs ρ' s2) : mMeth c x n dd m a as ρ s = .err cl fs ρ' s2 := by
  unfold mMeth; rw [h]; simp only [R.bind_ok]; simp only [hx, and_self, if_true]; rw [h2]; rfl
theorem ev_call0_e {n : Nat} {m : List Dt → Hd → R Dt} (h : as ρ s = .ok ds s1) (hl : ds.length = n) (hm : m ds s1 = .err cl fs ρ' s2) : mCall n [] m as ρ s = .err cl fs ρ s2 := by
  unfold mCall; rw [h]; simp only [R.bind_ok, List.append_nil]; rw [if_pos hl, hm]
theorem ev_meth0_e {c x : Str} {n : Nat} {m : List Dt → Hd → R Dt} {f2 : List (Str × Dt)} (h : a ρ s = .ok (.obj c f2) s1) (hx : f2.lookup x = none) (h2 : as ρ s1 = .ok ds s2) (hl : ds.length + 1 = n) (hm : m (.obj c f2 :: ds) s2 = .err cl fs ρ' s3) : mMeth c x n [] m a as ρ s = .err cl fs ρ s3 := by
  unfold mMeth; rw [h]; simp only [R.bind_ok]; simp only [hx, and_self, if_true]; rw [h2]; simp only [R.bind_ok, List.append_nil]; rw [if_pos hl, hm]
theorem ev_make0_e {c : Str} {n : Nat} {m : List Dt → Hd → R (List (Str × Dt))} (h : as ρ s = .ok ds s1) (hl : ds.length = n) (hm : m ds s1 = .err cl fs ρ' s2) : mMake c n [] m as ρ s = .err cl fs ρ s2 := by
  unfold mMake; rw [h]; simp only [R.bind_ok, List.append_nil]; rw [if_pos hl, hm]
theorem ev_op_e1 {f : Dt → Dt → Option Dt} (h : a ρ s = .err cl fs ρ' s1) : mOp f a b ρ s = .err cl fs ρ' s1 := by unfold mOp; rw [h]; rfl
theorem es_ret_e (h : a ρ s = .err cl fs ρ' s1) : mRet a ρ s = .err cl fs ρ' s1 := by unfold mRet; rw [h]; rfl
theorem es_drop_e (h : a ρ s = .err cl fs ρ' s1) : mDrop a ρ s = .err cl fs ρ' s1 := by unfold mDrop; rw [h]; rfl
theorem es_set_e (h : a ρ s = .err cl fs ρ' s1) : mSet i a ρ s = .err cl fs ρ' s1 := by unfold mSet; rw [h]; rfl
theorem es_asg_e {g : GM} (h : a ρ s = .err cl fs ρ' s1) : mAsg g a ρ s = .err cl fs ρ' s1 := by unfold mAsg; rw [h]; rfl
theorem es_raise0 {c : Str} : mRaise0 c ρ s = .err c [] ρ s := rfl
theorem es_raise {c : Str} {names : List Str} (h : as ρ s = .ok ds s1) (hl : ds.length = names.length ∧ names.length ≤ 100 ∧ 0 < names.length) : mRaise c names as ρ s = .err c (names.zip ds).reverse ρ s1 := by
  unfold mRaise; rw [h]; simp only [R.bind_ok]; rw [if_pos hl]
/-! try -/
theorem es_tryq {f : Fl} {all : List Str} {cls : List MC} (h : b1 ρ s = .ok f s1) : mTryQ all b1 cls ρ s = .ok f s1 := by
  have e : (fun ρ s => onlyOf all (b1 ρ s)) ρ s = .ok f s1 := by
    show onlyOf all (b1 ρ s) = _
    rw [h]
    rfl
  unfold mTryQ mTryCl
  rw [e]
theorem es_tryq_e {all : List Str} {cls : List MC} {m : MX} {q : R Fl} (h : b1 ρ s = .err cl fs ρ' s1) (ha : cl ∈ all) (hm : m fs ρ' s1 = q) : mTryQ all b1 ((cl, none, m) :: cls) ρ s = clOut none q := by
  have e : (fun ρ s => onlyOf all (b1 ρ s)) ρ s = .err cl fs ρ' s1 := by
    show onlyOf all (b1 ρ s) = _
    rw [h]
    simp only [onlyOf, if_pos ha]
  unfold mTryQ mTryCl
  rw [e]
  simp only [runCl, if_true, clLt, clIn]
  rw [hm]
theorem es_tryq_n {all : List Str} {cls : List MC} {m : MX} (h : b1 ρ s = .err cl fs ρ' s1) (ha : cl ∈ all) (hi : i < ρ'.length) (hm : m fs (ρ'.set i .no) s1 = .ok (.nx ρ2) s2) : mTryQ all b1 ((cl, some i, m) :: cls) ρ s = .ok (.nx (ρ2.set i .no)) s2 := by
  have e : (fun ρ s => onlyOf all (b1 ρ s)) ρ s = .err cl fs ρ' s1 := by
    show onlyOf all (b1 ρ s) = _
    rw [h]
    simp only [onlyOf, if_pos ha]
  unfold mTryQ mTryCl
  rw [e]
  simp only [runCl, if_true, clLt, decide_eq_true hi, clIn]
  rw [hm]
  rfl
theorem es_tryq_2 {all : List Str} {cls : List MC} {c1 : Str} {o1 : Option Nat} {m1 m : MX} (h : b1 ρ s = .err cl fs ρ' s1) (ha : cl ∈ all) (ne : ¬ c1 = cl) (hm : m fs ρ' s1 = .ok (.nx ρ2) s2) : mTryQ all b1 ((c1, o1, m1) :: (cl, none, m) :: cls) ρ s = .ok (.nx ρ2) s2 := by
  have e : (fun ρ s => onlyOf all (b1 ρ s)) ρ s = .err cl fs ρ' s1 := by
    show onlyOf all (b1 ρ s) = _
    rw [h]
    simp only [onlyOf, if_pos ha]
  unfold mTryQ mTryCl
  rw [e]
  simp only [runCl, if_neg ne, if_true, clLt, clIn]
  rw [hm]
  rfl
theorem es_tryas {f : Fl} {c : Str} {m : MX} (h : b1 ρ s = .ok f s1) : mTryAs i c b1 m ρ s = .ok f s1 := by
  unfold mTryAs
  rw [h]
theorem es_tryas_rt {c : Str} {m : MX} (h : b1 ρ s = .err c fs ρ' s1) (hi : i < ρ'.length) (hm : m fs (ρ'.set i .no) s1 = .ok (.rt d) s2) : mTryAs i c b1 m ρ s = .ok (.rt d) s2 := by
  unfold mTryAs
  rw [h]
  simp only [hi, and_self, if_true]
  rw [hm]
end
theorem es_seq_err {cl : Str} {fs : List (Str × Dt)} (h : b1 ρ s = .err cl fs ρ1 s1) : mSeq b1 b2 ρ s = .err cl fs ρ1 s1 := by
  unfold mSeq
  rw [h]
end
end Mir
local macro_rules | `(tactic| array_get_dec) => `(tactic| with_reducible assumption)
local macro_rules | `(tactic| array_mem_dec) => `(tactic| first
  | ((with_reducible apply Mir.ev_test); sizeOf_list_dec)
  | ((with_reducible apply Mir.ev_not_t); array_mem_dec)
  | ((with_reducible apply Mir.ev_not_f); array_mem_dec)
  | ((with_reducible apply Mir.ev_or_t); array_mem_dec)
  | ((with_reducible apply Mir.ev_or_f); array_mem_dec; array_mem_dec)
  | ((with_reducible apply Mir.ev_tru); sizeOf_list_dec; array_get_dec))
local macro_rules | `(tactic| sizeOf_list_dec) => `(tactic| first
  | array_get_dec
  | ((with_reducible apply Mir.ev_var); rfl)
  | with_reducible exact Mir.ev_c
  | with_reducible exact Mir.ev_nil
  | ((with_reducible apply Mir.ev_cons); sizeOf_list_dec; sizeOf_list_dec)
  | ((with_reducible apply Mir.ev_op); sizeOf_list_dec; sizeOf_list_dec; (first | array_get_dec | rfl))
  | ((with_reducible apply Mir.ev_un); sizeOf_list_dec; (first | array_get_dec | rfl))
  | ((with_reducible apply Mir.ev_cb); sizeOf_list_dec; (first | array_get_dec | rfl))
  | ((with_reducible apply Mir.ev_call0); sizeOf_list_dec; rfl; array_get_dec)
  | ((with_reducible apply Mir.ev_call); sizeOf_list_dec; rfl; (simp only [List.append_nil, List.cons_append, List.nil_append]; array_get_dec))
  | ((with_reducible apply Mir.ev_meth0); sizeOf_list_dec; (first | array_get_dec | rfl); sizeOf_list_dec; rfl; array_get_dec)
  | ((with_reducible apply Mir.ev_make0); sizeOf_list_dec; rfl; array_get_dec)
  | ((with_reducible apply Mir.ev_attr); sizeOf_list_dec; (first | array_get_dec | decide | simp); (first | array_get_dec | rfl))
  | ((with_reducible apply Mir.ev_tup); sizeOf_list_dec; (first | array_get_dec | exact Nat.le_of_ble_eq_true rfl))
  | ((with_reducible apply Mir.ev_lst); sizeOf_list_dec; (first | array_get_dec | exact Nat.le_of_ble_eq_true rfl))
  | ((with_reducible apply Mir.ev_if_t); array_mem_dec; sizeOf_list_dec)
  | ((with_reducible apply Mir.ev_if_f); array_mem_dec; sizeOf_list_dec)
  | array_mem_dec)


set_option Elab.async false
set_option linter.all false
/-! Plain data: it equals itself. -/
namespace Mir
open PySem PySem.Spec PyProof.Rows L2
def plD : Nat → Dt → Bool
  | _, .non => true
  | _, .bl _ => true
  | _, .int _ => true
  | _, .str x => PyData.canLay0 (.str x)
  | n + 1, .tup ds => ds.all (plD n)
  | n + 1, .lst ds => ds.all (plD n)
  | _, _ => false
theorem pl_list {n : Nat} (h : ∀ d, plD n d = true → ∃ p, toPy d = some p ∧ p.canLay0 = true ∧ p.depth ≤ n ∧ PyData.eqv p p = true) : ∀ ds : List Dt, ds.all (plD n) = true → ∃ ps, toPyA ds = some ps ∧ PyData.canLayAll0 ps = true ∧ PyData.depthAll ps ≤ n ∧ PyData.eqvAll ps ps = true
  | [], _ => ⟨[], rfl, by simp [PyData.canLayAll0], by simp [PyData.depthAll], by simp [PyData.eqvAll]⟩
  | d :: ds, e => by
    rw [List.all_cons, Bool.and_eq_true] at e
    obtain ⟨p, a1, a2, a3, a4⟩ := h d e.1
    obtain ⟨ps, b1, b2, b3, b4⟩ := pl_list h ds e.2
    refine ⟨p :: ps, by simp [toPyA, a1, b1], by simp [PyData.canLayAll0, a2, b2], by simp [PyData.depthAll]; omega, by simp [PyData.eqvAll, a4, b4]⟩
theorem pl_py : ∀ (n : Nat) (d : Dt), plD n d = true → ∃ p, toPy d = some p ∧ p.canLay0 = true ∧ p.depth ≤ n ∧ PyData.eqv p p = true := by
  intro n
  induction n with
  | zero =>
    intro d h
    cases d with
    | non => exact ⟨_, rfl, by simp [PyData.canLay0], by simp [PyData.depth], by simp [PyData.eqv]⟩
    | bl b => exact ⟨_, rfl, by simp [PyData.canLay0], by simp [PyData.depth], by simp [PyData.eqv]⟩
    | int b => exact ⟨_, rfl, by simp [PyData.canLay0], by simp [PyData.depth], by simp [PyData.eqv]⟩
    | str x => exact ⟨.str x, rfl, by simpa [plD] using h, by simp [PyData.depth], by simp [PyData.eqv]⟩
    | _ => simp [plD] at h
  | succ n ih =>
    intro d h
    cases d with
    | non => exact ⟨_, rfl, by simp [PyData.canLay0], by simp [PyData.depth], by simp [PyData.eqv]⟩
    | bl b => exact ⟨_, rfl, by simp [PyData.canLay0], by simp [PyData.depth], by simp [PyData.eqv]⟩
    | int b => exact ⟨_, rfl, by simp [PyData.canLay0], by simp [PyData.depth], by simp [PyData.eqv]⟩
    | str x => exact ⟨.str x, rfl, by simpa [plD] using h, by simp [PyData.depth], by simp [PyData.eqv]⟩
    | tup ds =>
      obtain ⟨ps, b1, b2, b3, b4⟩ := pl_list ih ds (by simpa only [plD] using h)
      exact ⟨.tuple ps, by simp [toPy, b1], by simp [PyData.canLay0, b2], by simp [PyData.depth]; omega, by simp [PyData.eqv, b4]⟩
    | lst ds =>
      obtain ⟨ps, b1, b2, b3, b4⟩ := pl_list ih ds (by simpa only [plD] using h)
      exact ⟨.list ps, by simp [toPy, b1], by simp [PyData.canLay0, b2], by simp [PyData.depth]; omega, by simp [PyData.eqv, b4]⟩
    | _ => simp [plD] at h
theorem pl_ok {n : Nat} {d : Dt} (hn : n ≤ 64) (h : plD n d = true) : ∃ p, pyOk d = some p ∧ PyData.eqv p p = true := by
  obtain ⟨p, a1, a2, a3, a4⟩ := pl_py n d h
  have e : SeqAt.shaped p = true := by
    show (p.canLay0 && decide (p.depth ≤ 64)) = true
    rw [a2, decide_eq_true (by omega)]
    rfl
  refine ⟨p, ?_, a4⟩
  unfold pyOk
  rw [a1]
  simp [e]
theorem eqB_self {d : Dt} (n : Nat) (hn : n ≤ 64) (h : plD n d = true) : fEqB d d = some true := by
  obtain ⟨p, e1, e2⟩ := pl_ok hn h
  unfold fEqB
  rw [e1]
  simp [e2]
theorem eq_self {d : Dt} (n : Nat) (hn : n ≤ 64) (h : plD n d = true) : fEq d d = some (.bl true) := by
  unfold fEq
  rw [eqB_self n hn h]
  rfl
theorem ne_self {d : Dt} (n : Nat) (hn : n ≤ 64) (h : plD n d = true) : fNe d d = some (.bl false) := by
  unfold fNe
  rw [eqB_self n hn h]
  rfl
/-- a choice along a row -/
theorem choose_row {α : Type} [Inhabited α] {n : Nat} {Q : Nat → α → Prop} (h : ∀ i, i < n → ∃ a, Q i a) : ∃ f : Nat → α, ∀ i, i < n → Q i (f i) := by
  refine ⟨fun i => if c : i < n then Classical.choose (h i c) else default, fun i hi => ?_⟩
  simp only [dif_pos hi]
  exact Classical.choose_spec (h i hi)
/-- a row of data by a function -/
def fD {α : Type} (g : α → Dt) (n : Nat) (f : Nat → α) : List Dt := (List.range n).map fun i => g (f i)
theorem fD_len {α : Type} {g : α → Dt} {n : Nat} {f : Nat → α} : (fD g n f).length = n := by simp [fD]
theorem fD_get {α : Type} {g : α → Dt} {n : Nat} {f : Nat → α} {i : Nat} (h : i < n) : (fD g n f)[i]? = some (g (f i)) := by
  unfold fD
  rw [List.getElem?_map, List.getElem?_range h]
  rfl
theorem fD_at {α : Type} {g : α → Dt} {n : Nat} {f : Nat → α} {i : Int} (h0 : 0 ≤ i) (h : i < n) : atI (fD g n f) i = some (g (f i.toNat)) := by
  have e : ixN (fD g n f).length i = some i.toNat := by
    unfold ixN
    rw [if_pos h0, fD_len, if_pos h]
  unfold atI
  rw [e]
  exact fD_get (by omega)
theorem fD_set {α : Type} {g : α → Dt} {n : Nat} {f : Nat → α} {i : Nat} {a : α} (h : i < n) : (fD g n f).set i (g a) = fD g n (fun j => if j = i then a else f j) := by
  apply List.ext_getElem?
  intro j
  by_cases hj : j < n
  · rw [List.getElem?_set]
    by_cases e : i = j
    · subst e
      rw [if_pos rfl, if_pos (by rw [fD_len]; exact hj), fD_get hj, if_pos rfl]
    · rw [if_neg e, fD_get hj, fD_get hj, if_neg (fun z => e z.symm)]
  · rw [List.getElem?_eq_none (by rw [List.length_set, fD_len]; omega), List.getElem?_eq_none (by rw [fD_len]; omega)]
theorem fD_congr {α : Type} {g : α → Dt} {n : Nat} {f f2 : Nat → α} (h : ∀ i, i < n → f i = f2 i) : fD g n f = fD g n f2 := by
  unfold fD
  exact List.map_congr_left fun i hi => by rw [h i (List.mem_range.1 hi)]
theorem fD_succ {α : Type} {g : α → Dt} {n : Nat} {f : Nat → α} : fD g (n + 1) f = fD g n f ++ [g (f n)] := by simp [fD, List.range_succ]
theorem fD_of {α : Type} [Inhabited α] {g : α → Dt} {n : Nat} {ds : List Dt} {P : Nat → α → Prop} (hl : ds.length = n) (h : ∀ i, i < n → ∃ a, ds[i]? = some (g a) ∧ P i a) : ∃ f : Nat → α, ds = fD g n f ∧ ∀ i, i < n → P i (f i) := by
  obtain ⟨f, hf⟩ := choose_row h
  refine ⟨f, ?_, fun i hi => (hf i hi).2⟩
  apply List.ext_getElem?
  intro j
  by_cases hj : j < n
  · rw [fD_get hj, (hf j hj).1]
  · rw [List.getElem?_eq_none (by omega), List.getElem?_eq_none (by rw [fD_len]; omega)]
theorem fD_all {α : Type} {g : α → Dt} {n : Nat} {f : Nat → α} {P : Dt → Bool} (h : ∀ i, i < n → P (g (f i)) = true) : (fD g n f).all P = true := by
  unfold fD
  rw [List.all_map, List.all_eq_true]
  exact fun i hi => h i (List.mem_range.1 hi)
theorem lfreeA_all : ∀ ds : List Dt, lfreeA ds = ds.all lfree
  | [] => rfl
  | d :: ds => by rw [List.all_cons, ← lfreeA_all ds]; rfl
end Mir


set_option Elab.async false
set_option linter.all false
set_option maxRecDepth 100000
namespace Law
open PySem PySem.Spec PyProof.Rows L2 Mir
theorem feq_t (i j : Int) (h : i = j) : fEq (.int i) (.int j) = some (.bl true) := by simp [fEq, eq_int, h]
theorem feq_f (i j : Int) (h : i ≠ j) : fEq (.int i) (.int j) = some (.bl false) := by simp [fEq, eq_int, h]
section
variable {B : Bars} (ok : B.Ok)
include ok
/-- the row of a place -/
def Rw (B : Bars) (b : Int) (q : Rat) : Nat → Rat := W B 7 b q
theorem W_fuel : ∀ (k : Nat) (b : Int) (q : Rat), b < k → b < B.n → W B (k + 1) b q = W B k b q
  | 0, b, q, h, _ => by
    unfold W
    rw [if_pos (by omega)]
  | k + 1, b, q, h, h1 => by
    rw [W]
    conv => rhs; rw [W]
    by_cases c : b < 0
    · rw [if_pos c, if_pos c]
    · rw [if_neg c, if_neg c]
      have m1 := ok.h1 _ (show b.toNat < B.n by omega)
      rw [W_fuel k (B.h b.toNat) (B.m b.toNat) (by omega) (by omega)]
theorem R_zero {b : Int} (h0 : 0 ≤ b) (h1 : b < B.n) : Rw B b 0 = Rw B (B.h b.toNat) (B.m b.toNat) := by
  have n6 := ok.n6
  have m1 := ok.h1 _ (show b.toNat < B.n by omega)
  unfold Rw
  rw [show (7 : Nat) = 6 + 1 from rfl, W_fuel ok 6 (B.h b.toNat) (B.m b.toNat) (by omega) (by omega), W, if_neg (by omega)]
  funext j
  unfold one
  split <;> exact Rat.add_zero _
theorem R_bd {b : Int} {n : Nat} {q : Rat} (h1 : b < B.n) (hn : 1 ≤ n) (hq : Bd n q) (j : Nat) : Bd (n + 1484) (Rw B b q j) := W_bd ok 7 n b q h1 hn hq j
end
end Law


set_option Elab.async false
set_option linter.all false
set_option maxRecDepth 100000
namespace Law
open PySem PySem.Spec PyProof.Rows L2 Mir
theorem intsD_map {α : Type} (f : α → Int) : ∀ l : List α, intsD (l.map fun x => Dt.int (f x)) = some (l.map f)
  | [] => rfl
  | x :: l => by
    rw [List.map_cons]
    unfold intsD
    rw [intsD_map f l]
    rfl
theorem max_of {a : ME} {ρ : Env'} {s s1 : Hd} {n : Nat} {f : Nat → Int} {m : Int} (h : a ρ s = .ok (.lst ((List.range n).map fun i => Dt.int (f i))) s1) (hm : ∀ i, i < n → f i ≤ m) (hx : ∃ i, i < n ∧ f i = m) : mCB fMax (mCons a mNil) ρ s = .ok (.int m) s1 := by
  refine ev_cb (ev_cons h ev_nil) ?_
  obtain ⟨i, hi, e⟩ := hx
  unfold fMax
  simp only [intsD_map f]
  cases n with
  | zero => omega
  | succ n =>
    rw [List.range_succ_eq_map, List.map_cons]
    simp only [Option.some.injEq, Dt.int.injEq]
    generalize hl : List.map f (List.map Nat.succ (List.range n)) = l
    have all : ∀ x ∈ l, x ≤ m := by
      intro x hx
      rw [← hl] at hx
      simp only [List.mem_map, List.mem_range] at hx
      obtain ⟨y, ⟨z, hz, rfl⟩, rfl⟩ := hx
      exact hm _ (by omega)
    have h0 := hm 0 (by omega)
    obtain ⟨g0, g1⟩ := maxI_ge l (f 0)
    have hmem : f i = f 0 ∨ f i ∈ l := by
      rcases Nat.eq_zero_or_pos i with rfl | hp
      · exact .inl rfl
      · refine .inr ?_
        rw [← hl]
        simp only [List.mem_map, List.mem_range]
        exact ⟨i, ⟨i - 1, by omega, by omega⟩, rfl⟩
    have up : maxI (f 0) l ≤ m := by
      rcases maxI_mem l (f 0) with q | q
      · rw [q]; exact h0
      · exact all _ q
    have low : m ≤ maxI (f 0) l := by
      rcases hmem with q | q
      · rw [← e, q]; exact g0
      · rw [← e]; exact g1 _ q
    omega
section
variable {B : Bars} (ok : B.Ok)
include ok
theorem most_ok (s : Hd) : m__law_most [B.d] s = .ok (.int (B.N : Nat)) s := by
  have z : mSeqI (mVar 0) [.dat B.d, .no] s = .ok B.row s := ev_seqI (ev_var rfl) rfl
  obtain ⟨i, hi, ei⟩ := ok.all B.N ok.N1 (Nat.le_refl _)
  have N4 := ok.N4
  have n6 := ok.n6
  refine es_def (ρ := [.dat B.d, .no]) rfl ?_
  unfold b__law_most
  refine es_ret (max_of (n := B.n) (f := fun i => (B.l i : Int)) (ev_lc z ?_) (fun i hi => by have := ok.l i hi; omega) ⟨i, hi, by omega⟩)
  exact lc_map (ρ := [.dat B.d, .no]) B.bar (fun i => .int (B.l i : Nat)) (List.range B.n) (by rw [List.length_range]; omega) fun j hj => ⟨[.dat B.d, .dat (B.bar j)], rfl, by
    have e6 : fIx (B.bar j) (.int 2) = some (.int (B.l j)) := rfl
    sizeOf_list_dec⟩
end
theorem rD_fD (N : Nat) (f : Nat → Rat) : rD N f = fD dq (N + 1) f := rfl
theorem toL_of {m : ME} {ρ : Env'} {s s1 : Hd} {ds : List Dt} (h : m ρ s = .ok (.lst ds) s1) : mToL m ρ s = .ok ds s1 := by
  unfold mToL
  rw [h]
  rfl
theorem lfree_dR (N : Nat) (f : Nat → Rat) : lfree (dR N f) = true := by
  show lfreeA (rD N f) = true
  rw [lfreeA_all, rD_fD]
  exact fD_all fun i hi => rfl
/-- one turn's body of the law's own walk -/
def walkBody : MS := (mSeq (mSet 7 (mIf (mTest (mOp fLt (mVar 4) (mC (.int 0)))) (mC (.int 0)) (mOp fIx (mOp fIx (mVar 0) (mVar 4)) (mC (.int 2)))))
    (mSeq (mSetI 2 (mVar 7) (mCall 2 [] m__law_plus (mCons (mIxO 2 (mVar 7)) (mCons (mVar 5) mNil))))
    (mSeq (mIfS (mTest (mOp fLt (mVar 4) (mC (.int 0)))) (mRet (mBor 2 (mCB fTupC (mCons (mVar 2) mNil)))) mNext)
    (mPar 4 5 (mCons (mOp fIx (mOp fIx (mVar 0) (mVar 4)) (mC (.int 0))) (mCons (mOp fIx (mOp fIx (mVar 0) (mVar 4)) (mC (.int 1))) mNil))))))
theorem flt_t {i j : Int} (h : i < j) : fLt (.int i) (.int j) = some (.bl true) := by simp [fI, h]
theorem flt_f {i j : Int} (h : ¬ i < j) : fLt (.int i) (.int j) = some (.bl false) := by simp [fI, h]
end Law


set_option Elab.async false
set_option linter.all false
set_option maxRecDepth 100000
namespace Law
open PySem PySem.Spec PyProof.Rows L2 Mir
section
variable {B : Bars} (ok : B.Ok)
include ok
theorem W_more (k : Nat) (b : Int) (q : Rat) (h : b < k) (h1 : b < B.n) : ∀ i, W B (k + i) b q = W B k b q
  | 0 => rfl
  | i + 1 => by
    rw [← W_more k b q h h1 i]
    exact W_fuel ok (k + i) b q (by omega) h1
end
/-! tuples throughout -/
def tpD : Nat → Dt → Bool
  | _, .int _ => true
  | n + 1, .tup ds => ds.all (tpD n)
  | _, _ => false
theorem tup_step {m : List Dt → Hd → R Dt} {ds : List Dt} (h : ∀ d ∈ ds, ∀ s, m [d] s = .ok (.bl true) s) (hl : ds.length ≤ 1000) (s : Hd) : mDef 2 (b__law_tuples m) [.tup ds] s = .ok (.bl true) s := by
  refine es_def (ρ := [.dat (.tup ds), .no]) rfl ?_
  unfold b__law_tuples
  have z : mSeqI (mVar 0) [.dat (.tup ds), .no] s = .ok ds s := ev_seqI (ev_var rfl) rfl
  have lc := lc_some (g := gmName 1) (t := mNot (mTru (mCall 1 [] m (mCons (mVar 1) mNil)))) (a := mC (.int 1)) (vs := [1]) (ρ := [.dat (.tup ds), .no]) (s := s) (fun d => d) (fun _ => .int 1) (fun _ => false) ds [] (by simp; omega) fun d hd => ⟨[.dat (.tup ds), .dat d], rfl, ev_not_f (ev_tru (c := true) (ev_call0 (ev_cons (ev_var rfl) ev_nil) rfl (h d hd s)) rfl), fun z => by cases z⟩
  rw [List.map_id'] at lc
  have lc2 : loopC (gmName 1) (mNot (mTru (mCall 1 [] m (mCons (mVar 1) mNil)))) (mC (.int 1)) [1] ds [] [.dat (.tup ds), .no] s = .ok (.lst []) s := by
    rw [lc]
    simp
  refine seq_rt (es_if_t (ev_tru (ev_isi (c := true) (ev_var rfl) (by simp)) rfl) (es_ret ?_))
  exact ev_notv (c := false) (ev_lc z lc2) rfl
theorem int_step {m : List Dt → Hd → R Dt} (i : Int) (s : Hd) : mDef 2 (b__law_tuples m) [.int i] s = .ok (.bl true) s := by
  refine es_def (ρ := [.dat (.int i), .no]) rfl ?_
  unfold b__law_tuples
  refine es_seq (es_if_f (ev_tru (ev_isi (c := false) (ev_var rfl) (by simp)) rfl) es_next) (es_ret ?_)
  refine ev_orv_f (d := .bl false) (ev_op (ev_var rfl) ev_c rfl) rfl ?_
  refine ev_orv_f (d := .bl false) (ev_isi (c := false) (ev_var rfl) (by simp)) rfl ?_
  refine ev_andv_t (d := .bl true) (ev_isi (c := true) (ev_var rfl) (by simp)) rfl ?_
  exact ev_notv (c := false) (ev_isi (c := false) (ev_var rfl) (by simp)) rfl
theorem tup_rec : ∀ (n t : Nat) (d : Dt) (s : Hd), tpD n d = true → n < t → (∀ ds, d = .tup ds → ds.length ≤ 1000) → (∀ ds e es, d = .tup ds → e ∈ ds → e = .tup es → es.length ≤ 1000) → n ≤ 2 → rec__law_tuples t [d] s = .ok (.bl true) s
  | n, 0, d, s, h, ht, _, _, _ => by omega
  | 0, t + 1, d, s, h, ht, _, _, _ => by
    cases d with
    | int i => exact int_step i s
    | _ => simp [tpD] at h
  | n + 1, t + 1, d, s, h, ht, h1, h2, hn => by
    cases d with
    | int i => exact int_step i s
    | tup ds =>
      refine tup_step (fun e he s => tup_rec n t e s ?_ (by omega) (fun es q => h2 ds e es rfl he q) (fun es f fs q hf q2 => ?_) (by omega)) (h1 ds rfl) s
      · simp only [tpD, List.all_eq_true] at h
        exact h e he
      · exfalso
        simp only [tpD, List.all_eq_true] at h
        have he := h e he
        subst q
        subst q2
        cases n with
        | zero => simp [tpD] at he
        | succ n =>
          simp only [tpD, List.all_eq_true] at he
          have hf := he _ hf
          cases n with
          | zero => simp [tpD] at hf
          | succ n => omega
    | _ => simp [tpD] at h
theorem tuples_row {N : Nat} (hN : N ≤ 10) (f : Nat → Rat) (s : Hd) : m__law_tuples [dR N f] s = .ok (.bl true) s := by
  refine tup_rec 2 16 (dR N f) s ?_ (by omega) (fun ds e => ?_) (fun ds e es q he q2 => ?_) (by omega)
  · show (rD N f).all (tpD 1) = true
    rw [rD_fD]
    exact fD_all fun i hi => rfl
  · cases e
    rw [rD_fD, fD_len]
    omega
  · cases q
    unfold rD at he
    obtain ⟨j, _, e⟩ := List.mem_map.1 he
    rw [← e] at q2
    cases q2
    simp
theorem tuples_place (b : Int) (q : Rat) (s : Hd) : m__law_tuples [.tup [.int b, dq q]] s = .ok (.bl true) s := by
  refine tup_rec 2 16 _ s rfl (by omega) (fun ds e => ?_) (fun ds e es q he q2 => ?_) (by omega)
  · cases e
    simp
  · cases q
    subst q2
    rcases List.mem_cons.1 he with e | he
    · cases e
    · rcases List.mem_cons.1 he with e | he
      · cases e
        simp
      · cases he
end Law


set_option Elab.async false
set_option linter.all false
set_option maxRecDepth 100000
namespace Law
open PySem PySem.Spec PyProof.Rows L2 Mir
/-! places and bars that are none -/
abbrev NotR (d : Dt) : Prop := ∀ s, m_is_ratio [d] s = .ok (.bl false) s
theorem isi2_non : fIsi2 "list" "tuple" .non = some false := by decide +kernel
theorem isi2_str (x : Str) : fIsi2 "list" "tuple" (.str x) = some false := by
  have e : fIsi2 "list" "tuple" (.str x) = fIsi2 "list" "tuple" (.str "") := rfl
  rw [e]
  decide +kernel
theorem row_f {d : Dt} (h : fIsi2 "list" "tuple" d = some false) (s : Hd) : m_is_row [d, .int 2, .int 2] s = .ok (.bl false) s := by
  refine es_def (ρ := [.dat d, .dat (.int 2), .dat (.int 2)]) rfl ?_
  unfold b_is_row
  exact seq_rt (es_if_t (ev_not_t (ev_tru (ev_isi2 (ev_var rfl) h) rfl)) (es_ret ev_c))
theorem row_len {ds : List Dt} (h : ds.length ≠ 2) (s : Hd) : m_is_row [.tup ds, .int 2, .int 2] s = .ok (.bl false) s := by
  refine es_def (ρ := [.dat (.tup ds), .dat (.int 2), .dat (.int 2)]) rfl ?_
  unfold b_is_row
  refine es_seq (es_if_f (ev_not_f (ev_tru (ev_isi2 (ev_var rfl) (i2_tup ds)) rfl)) es_next) (es_ret ?_)
  have e1 : fLen [.tup ds] = some (.int ds.length) := rfl
  by_cases c : (2 : Int) ≤ ds.length
  · have e2 : fGe (.int ds.length) (.int 2) = some (.bl true) := by simp [fI]; omega
    have e3 : fLe (.int ds.length) (.int 2) = some (.bl false) := by simp [fI]; omega
    exact ev_andv_t (d := .bl true) (by sizeOf_list_dec) rfl (ev_orv_f (d := .bl false) (ev_op (ev_var rfl) ev_c rfl) rfl (by sizeOf_list_dec))
  · have e2 : fGe (.int ds.length) (.int 2) = some (.bl false) := by simp [fI]; omega
    exact ev_andv_f (by sizeOf_list_dec) rfl
section
variable {B : Bars} (ok : B.Ok)
end
end Law


set_option Elab.async false
set_option linter.all false
set_option maxRecDepth 100000
namespace Law
open PySem PySem.Spec PyProof.Rows L2 Mir
theorem nr_kind {d : Dt} (h : fIsi "tuple" d = some false) : NotR d := fun s => by
  refine es_def (ρ := [.dat d, .no, .no]) rfl ?_
  unfold b_is_ratio
  exact seq_rt (es_if_t (ev_or_t (ev_not_t (ev_tru (ev_isi (ev_var rfl) h) rfl))) (es_ret ev_c))
theorem nr_len {ds : List Dt} (h : ds.length ≠ 2) : NotR (.tup ds) := fun s => by
  refine es_def (ρ := [.dat (.tup ds), .no, .no]) rfl ?_
  unfold b_is_ratio
  have e : fNe (.int ds.length) (.int 2) = some (.bl true) := by
    have c : ¬ ((ds.length : Int) = 2) := by omega
    simp [fNe, eq_int, c]
  exact seq_rt (es_if_t (ev_or_f (ev_not_f (ev_tru (ev_isi (c := true) (ev_var rfl) (by simp)) rfl)) (ev_test (ev_op (ev_cb (ev_cons (ev_var rfl) ev_nil) rfl) ev_c e))) (es_ret ev_c))
theorem nr_pair {a b : Int} (h : 1 ≤ b → Nat.gcd a.natAbs b.natAbs ≠ 1) : NotR (rat a b) := fun s => by
  rw [isr_tup]
  by_cases c : 1 ≤ b
  · rw [decide_eq_true c, decide_eq_false (h c)]; rfl
  · rw [decide_eq_false c]; rfl
theorem len2 (x y : Dt) : fLen [.tup [x, y]] = some (.int 2) := rfl
theorem ne22 : fNe (.int 2) (.int 2) = some (.bl false) := by simp [fNe, eq_int]
theorem nr_head {x y : Dt} (h : ∀ s, m_is_whole [x, .non, .non] s = .ok (.bl false) s) : NotR (.tup [x, y]) := fun s => by
  have e1 := h s
  have k1 := len2 x y
  have k2 := ne22
  refine es_def (ρ := [.dat (.tup [x, y]), .no, .no]) rfl ?_
  unfold b_is_ratio
  refine es_seq (es_if_f (ev_or_f (ev_not_f (ev_tru (ev_isi (c := true) (ev_var rfl) (by simp)) rfl)) (ev_test (by sizeOf_list_dec))) es_next) ?_
  refine es_seq (ρ1 := [.dat (.tup [x, y]), .dat x, .dat y]) (s1 := s) (es_asg (ev_var rfl) rfl) ?_
  exact es_ret (ev_andv_f (by sizeOf_list_dec) rfl)
theorem nr_tail {i : Int} {y : Dt} (h : ∀ s, m_is_whole [y, .int 1, .non] s = .ok (.bl false) s) : NotR (.tup [.int i, y]) := fun s => by
  have e1 := h s
  have e2 := is_whole_int i s
  have k1 := len2 (.int i) y
  have k2 := ne22
  refine es_def (ρ := [.dat (.tup [.int i, y]), .no, .no]) rfl ?_
  unfold b_is_ratio
  refine es_seq (es_if_f (ev_or_f (ev_not_f (ev_tru (ev_isi (c := true) (ev_var rfl) (by simp)) rfl)) (ev_test (by sizeOf_list_dec))) es_next) ?_
  refine es_seq (ρ1 := [.dat (.tup [.int i, y]), .dat (.int i), .dat y]) (s1 := s) (es_asg (ev_var rfl) rfl) ?_
  exact es_ret (ev_andv_t (by sizeOf_list_dec) rfl (ev_andv_f (by sizeOf_list_dec) rfl))
/-! drawn marks -/
theorem mark_ok (s : Hd) : ∃ (q : Rat) (s' : Hd), m__law_mark [.hnd] s = .ok (dq q) s' ∧ Bd 8 q := by
  have t := take_ok s (n := 13) (by decide)
  have g0 := takeV_ge (s := s) (n := 13) (by decide)
  have g1 := takeV_lt (s := s) (n := 13) (by decide)
  generalize takeV s 13 = v at *
  generalize takeS s 13 = s1 at *
  obtain ⟨q, e, bd, _⟩ := lratio_q (t := v - 4) (b := 2) (n := 8) (by decide) (by decide) (by unfold Sz; omega) (by unfold Sz; decide) s1
  refine ⟨q, s1, ?_, bd⟩
  refine es_def (ρ := [.dat .hnd]) rfl ?_
  unfold b__law_mark
  exact es_ret (by sizeOf_list_dec)
theorem pow9 : fPow (.int 10) (.int 9) = some (.int 1000000000) := rfl
def wideBody : MS := (mSet 2 (mOp fAdd (mOp fMul (mVar 2) (mOp fPow (mC (.int 10)) (mC (.int 9)))) (mCall 2 [] m__law_take (mCons (mVar 0) (mCons (mOp fPow (mC (.int 10)) (mC (.int 9))) mNil)))))
theorem wide_ok (s : Hd) : ∃ (i : Int) (s' : Hd), m__law_wide [.hnd] s = .ok (.int i) s' ∧ Sz 170 i := by
  have t := take_ok s (n := 9) (by decide)
  have g0 := takeV_ge (s := s) (n := 9) (by decide)
  have g1 := takeV_lt (s := s) (n := 9) (by decide)
  generalize takeV s 9 = v at *
  generalize takeS s 9 = s1 at *
  have st : ∀ d s', b__law_wide [.dat .hnd, .no, .no, .no] s = .ok (.rt d) s' → m__law_wide [.hnd] s = .ok d s' := fun d s' h => es_def rfl h
  unfold b__law_wide at st
  by_cases c : v < 6
  · have t2 := take_ok s1 (n := 25) (by decide)
    have g2 := takeV_ge (s := s1) (n := 25) (by decide)
    have g3 := takeV_lt (s := s1) (n := 25) (by decide)
    generalize takeV s1 25 = w at *
    have e := flt_t c
    refine ⟨_, _, st (.int (w - 12)) (takeS s1 25) ?_, ?_⟩
    · refine es_seq (es_set (by sizeOf_list_dec)) ?_
      exact seq_rt (es_if_t (by array_mem_dec) (es_ret (by sizeOf_list_dec)))
    · unfold Sz
      have : (w - 12).natAbs < 2 ^ 6 := by omega
      exact Nat.lt_of_lt_of_le this (by decide)
  · have e := flt_f c
    obtain ⟨m, hm, rg⟩ : ∃ m : Nat, m ≤ 5 ∧ mRng1 (mIf (mTest (mOp fLt (mVar 1) (mC (.int 8)))) (mC (.int 1)) (mC (.int 5))) [.dat .hnd, .dat (.int v), .dat (.int 0), .no] s1 = .ok (rangeD 0 m) s1 := by
      by_cases c2 : v < 8
      · have e2 := flt_t c2
        exact ⟨1, by decide, rng1_of (i := 1) 1 (ev_if_t (by array_mem_dec) ev_c) rfl (by decide)⟩
      · have e2 := flt_f c2
        exact ⟨5, by decide, rng1_of (i := 5) 5 (ev_if_f (by array_mem_dec) ev_c) rfl (by decide)⟩
    obtain ⟨ρ', s2, hl, x, x3, rfl, hx⟩ := for_range (g := gmName 3) (body := wideBody) (ρ := [.dat .hnd, .dat (.int v), .dat (.int 0), .no]) (s := s1) (fun i => .int (0 + i)) (fun i ρ s => ∃ (x : Int) (x3 : Sl), ρ = [.dat .hnd, .dat (.int v), .dat (.int x), x3] ∧ Sz (31 * i + 1) x) m ⟨0, .no, rfl, by unfold Sz; decide⟩ (fun i ρ s hi hI => by
      obtain ⟨x, x3, rfl, hx⟩ := hI
      have t2 := take_ok s (n := 1000000000) (by decide)
      have g2 := takeV_ge (s := s) (n := 1000000000) (by decide)
      have g3 := takeV_lt (s := s) (n := 1000000000) (by decide)
      generalize takeV s 1000000000 = w at *
      generalize takeS s 1000000000 = s9 at *
      have z9 : Sz 30 (1000000000 : Int) := by unfold Sz; decide
      have mo : fMul (.int x) (.int 1000000000) = some (.int (x * 1000000000)) := by
        have k := MulOk.of hx z9 (by omega)
        simp [fMul, k]
      have p9 := pow9
      refine ⟨_, [.dat .hnd, .dat (.int v), .dat (.int (x * 1000000000 + w)), .dat (.int (0 + i))], s9, rfl, es_set (by sizeOf_list_dec), _, _, rfl, ?_⟩
      have zw : Sz (31 * i + 1 + 30) w := by
        unfold Sz
        refine Nat.lt_of_lt_of_le (m := 2 ^ 30) (by omega) (Nat.pow_le_pow_right (by decide) (by omega))
      exact ((hx.mul z9).add zw).mono (by omega))
    have t3 := take_ok s2 (n := 2) (by decide)
    have g4 := takeV_ge (s := s2) (n := 2) (by decide)
    have g5 := takeV_lt (s := s2) (n := 2) (by decide)
    generalize takeV s2 2 = u at *
    have zu : Sz 3 (1 - 2 * u) := by unfold Sz; omega
    have mu : fMul (.int 2) (.int u) = some (.int (2 * u)) := by
      have k := MulOk.of (i := 2) (j := u) (m := 3) (n := 3) (by unfold Sz; decide) (by unfold Sz; omega) (by decide)
      simp [fMul, k]
    have mx : fMul (.int x) (.int (1 - 2 * u)) = some (.int (x * (1 - 2 * u))) := by
      have k := MulOk.of hx zu (by omega)
      simp [fMul, k]
    refine ⟨x * (1 - 2 * u), takeS s2 2, st _ _ ?_, (hx.mul zu).mono (by omega)⟩
    refine es_seq (es_set (by sizeOf_list_dec)) ?_
    refine es_seq (es_if_f (by array_mem_dec) es_next) ?_
    refine es_seq (es_set (by sizeOf_list_dec)) ?_
    refine es_seq (es_for (b1 := wideBody) rg hl) ?_
    exact es_ret (by sizeOf_list_dec)
theorem wratio_ok (s : Hd) : ∃ (q : Rat) (s' : Hd), m__law_wide_ratio [.hnd] s = .ok (dq q) s' ∧ Bd 200 q := by
  obtain ⟨i, s1, e1, z1⟩ := wide_ok s
  obtain ⟨j, s2, e2, z2⟩ := wide_ok s1
  have ab : fAbs [.int j] = some (.int (j.natAbs : Int)) := by
    show some (Dt.int (if j < 0 then -j else j)) = _
    have : (if j < 0 then -j else j) = (j.natAbs : Int) := by split <;> omega
    rw [this]
  have zj : Sz 171 (1 + (j.natAbs : Int)) := by
    unfold Sz at z2 ⊢
    have h : (1 + (j.natAbs : Int)).natAbs = 1 + j.natAbs := by omega
    rw [h, Nat.pow_succ]
    omega
  obtain ⟨q, e, bd, _⟩ := lratio_q (t := i) (b := 1 + (j.natAbs : Int)) (n := 171) (by omega) (by decide) (z1.mono (by omega)) zj s2
  refine ⟨q, s2, ?_, bd.mono (by omega)⟩
  refine es_def (ρ := [.dat .hnd]) rfl ?_
  unfold b__law_wide_ratio
  exact es_ret (by sizeOf_list_dec)
end Law


set_option Elab.async false
set_option linter.all false
set_option maxRecDepth 100000
namespace Law
open PySem PySem.Spec PyProof.Rows L2 Mir
theorem odd_ok (s : Hd) : ∃ (d : Dt) (s' : Hd), m__law_odd [.hnd] s = .ok d s' ∧ NotR d := by
  have t := take_ok s (n := 9) (by decide)
  have g0 := takeV_ge (s := s) (n := 9) (by decide)
  have g1 := takeV_lt (s := s) (n := 9) (by decide)
  generalize takeV s 9 = w at *
  generalize takeS s 9 = s1 at *
  generalize hv : w - 4 = v at *
  have hv2 : fSub (.int w) (.int 4) = some (.int v) := by rw [← hv]; rfl
  have t2 := take_ok s1 (n := 12) (by decide)
  have g2 := takeV_ge (s := s1) (n := 12) (by decide)
  have g3 := takeV_lt (s := s1) (n := 12) (by decide)
  generalize takeV s1 12 = u at *
  generalize takeS s1 12 = s2 at *
  have mu : fMul (.int 2) (.int v) = some (.int (2 * v)) := by
    have k := MulOk.of (i := 2) (j := v) (m := 3) (n := 5) (by unfold Sz; decide) (by unfold Sz; omega) (by decide)
    simp [fMul, k]
  have hd : ∃ d, fIx (.lst ([.int v, .lst [.int v, .int 1], .tup [.int v, .int 0], .tup [.int (2 * v), .int 2], .tup [.int v, .int 1, .int 1], .tup [.bl true, .int 1]] ++ [.tup [.int v, .bl true], .non, .str "1", .tup [.int v, .int (-1)], .tup [.int v], .tup []])) (.int u) = some d ∧ NotR d := by
    have hu : u = 0 ∨ u = 1 ∨ u = 2 ∨ u = 3 ∨ u = 4 ∨ u = 5 ∨ u = 6 ∨ u = 7 ∨ u = 8 ∨ u = 9 ∨ u = 10 ∨ u = 11 := by omega
    rcases hu with rfl | rfl | rfl | rfl | rfl | rfl | rfl | rfl | rfl | rfl | rfl | rfl
    · exact ⟨_, rfl, nr_kind (by simp)⟩
    · exact ⟨_, rfl, nr_kind (by simp)⟩
    · exact ⟨_, rfl, nr_pair fun h => by omega⟩
    · refine ⟨_, rfl, nr_pair fun _ => ?_⟩
      have e : (2 * v).natAbs = 2 * v.natAbs := by omega
      rw [e, show (2 : Int).natAbs = 2 from rfl, Nat.gcd_eq_right (Nat.dvd_mul_right 2 _)]
      decide
    · exact ⟨_, rfl, nr_len (by simp)⟩
    · exact ⟨_, rfl, nr_head fun s => is_whole_bl _ _ _ s⟩
    · exact ⟨_, rfl, nr_tail fun s => is_whole_bl _ _ _ s⟩
    · exact ⟨_, rfl, nr_kind (by simp)⟩
    · exact ⟨_, rfl, nr_kind (by simp)⟩
    · exact ⟨_, rfl, nr_pair fun h => by omega⟩
    · exact ⟨_, rfl, nr_len (by simp)⟩
    · exact ⟨_, rfl, nr_len (by simp)⟩
  obtain ⟨d, hd, hn⟩ := hd
  refine ⟨d, s2, ?_, hn⟩
  refine es_def (ρ := [.dat .hnd, .no, .no]) rfl ?_
  unfold b__law_odd
  refine es_seq (es_set (by sizeOf_list_dec)) ?_
  refine es_seq (es_set (by sizeOf_list_dec)) ?_
  refine es_seq (es_set (by sizeOf_list_dec)) ?_
  exact es_ret (by sizeOf_list_dec)
theorem strok_place : PyData.canLay0 (.str "place") = true := by decide +kernel
theorem strok_bar : PyData.canLay0 (.str "bar") = true := by decide +kernel
end Law


set_option Elab.async false
set_option linter.all false
set_option maxRecDepth 100000
namespace Law
open PySem PySem.Spec PyProof.Rows L2 Mir
theorem es_swp {i : Nat} {b1 b2 a1 a2 : ME} {ρ : Env'} {s s1 s2 s3 s4 : Hd} {ds : List Dt} {d1 d2 : Dt} {k1 k2 : Int} {j1 j2 : Nat} (h : ρ[i]? = some (.own ds)) (ha1 : a1 ρ s = .ok d1 s1) (ha2 : a2 ρ s1 = .ok d2 s2) (hb1 : b1 ρ s2 = .ok (.int k1) s3) (hj1 : ixN ds.length k1 = some j1)
    (hb2 : b2 (ρ.set i (.own (ds.set j1 d1))) s3 = .ok (.int k2) s4) (hj2 : ixN ds.length k2 = some j2) : mSwp i b1 b2 a1 a2 ρ s = .ok (.nx (ρ.set i (.own ((ds.set j1 d1).set j2 d2)))) s4 := by
  have hi : i < ρ.length := by
    rcases Nat.lt_or_ge i ρ.length with c | c
    · exact c
    · rw [List.getElem?_eq_none c] at h
      cases h
  have t : mTup (mCons a1 (mCons a2 mNil)) ρ s = .ok (.tup [d1, d2]) s2 := ev_tup (ev_cons ha1 (ev_cons ha2 ev_nil)) (Nat.le_of_ble_eq_true rfl)
  have r1 : setR i b1 d1 ρ s2 = .ok (ρ.set i (.own (ds.set j1 d1))) s3 := by
    unfold setR
    rw [h]
    simp only
    rw [hb1]
    simp only [R.bind_ok, hj1]
  have r2 : setR i b2 d2 (ρ.set i (.own (ds.set j1 d1))) s3 = .ok (ρ.set i (.own ((ds.set j1 d1).set j2 d2))) s4 := by
    unfold setR
    rw [List.getElem?_set_self hi]
    simp only
    rw [hb2]
    simp only [R.bind_ok, List.length_set, hj2, List.set_set]
  unfold mSwp
  rw [t]
  simp only [R.bind_ok]
  rw [r1]
  simp only [R.bind_ok]
  rw [r2]
  rfl
abbrev dn : Nat → Dt := fun n => .int (n : Nat)
/-- letters of bars: 1 .. n all there -/
structure Good (m n : Nat) (g : Nat → Nat) : Prop where
  le : ∀ t, t < m → g t ≤ n
  all : ∀ k, 1 ≤ k → k ≤ n → ∃ t, t < m ∧ g t = k
def swG (g : Nat → Nat) (i o : Nat) : Nat → Nat := fun t => if t = o then g i else if t = i then g o else g t
theorem good_sw {m n i o : Nat} {g : Nat → Nat} (h : Good m n g) (hi : i < m) (ho : o < m) : Good m n (swG g i o) := by
  refine ⟨fun t ht => ?_, fun k k1 k2 => ?_⟩
  · unfold swG
    split
    · exact h.le _ hi
    · split
      · exact h.le _ ho
      · exact h.le _ ht
  · obtain ⟨t, ht, e⟩ := h.all k k1 k2
    by_cases c : t = i
    · exact ⟨o, ho, by unfold swG; rw [if_pos rfl, ← c, e]⟩
    · by_cases c2 : t = o
      · refine ⟨i, hi, ?_⟩
        unfold swG
        by_cases c3 : i = o
        · omega
        · rw [if_neg c3, if_pos rfl, ← c2, e]
      · exact ⟨t, ht, by unfold swG; rw [if_neg c2, if_neg c, e]⟩
def swBody : MS := (mSeq (mSet 6 (mCall 2 [] m__law_take (mCons (mVar 0) (mCons (mOp fAdd (mVar 5) (mC (.int 1))) mNil))))
    (mSwp 4 (mVar 5) (mVar 6) (mIxO 4 (mVar 6)) (mIxO 4 (mVar 5))))
theorem swap_step {m n : Nat} {g : Nat → Nat} (hg : Good m n g) {i : Nat} (hi : i < m) (hm : m ≤ 6) (k3 x6 : Sl) (x : Int) (hx : x = i) (s : Hd) : ∃ (g' : Nat → Nat) (x6' : Sl) (s' : Hd), swBody [.dat .hnd, .dat (.int m), .dat (.int 4), k3, .own (fD dn m g), .dat (.int x), x6] s = .ok (.nx [.dat .hnd, .dat (.int m), .dat (.int 4), k3, .own (fD dn m g'), .dat (.int x), x6']) s' ∧ Good m n g' := by
  subst hx
  have mk : manyOk ((i : Int) + 1) := ⟨by omega, by
    have : ((i : Int) + 1).natAbs < 2 ^ 3 := by omega
    have := PySem.Flt.log2_lt_of (Nat.succ_pos 2) this
    omega⟩
  have t := take_ok s mk
  have g0 := takeV_ge (s := s) (n := (i : Int) + 1) (by omega)
  have g1 := takeV_lt (s := s) (n := (i : Int) + 1) (by omega)
  generalize takeV s ((i : Int) + 1) = v at *
  generalize takeS s ((i : Int) + 1) = s1 at *
  obtain ⟨o, rfl⟩ : ∃ o : Nat, v = o := ⟨v.toNat, by omega⟩
  have ho : o < m := by omega
  have a1 : atI (fD dn m g) (o : Int) = some (dn (g o)) := fD_at (by omega) (by omega)
  have a2 : atI (fD dn m g) (i : Int) = some (dn (g i)) := fD_at (by omega) (by omega)
  have ix : ∀ j : Nat, j < m → ixN (fD dn m g).length (j : Int) = some j := fun j hj => by
    unfold ixN
    rw [if_pos (by omega), fD_len, if_pos (by omega)]
    rfl
  have e : ((fD dn m g).set i (dn (g o))).set o (dn (g i)) = fD dn m (swG g i o) := by
    rw [fD_set hi, fD_set ho]
    refine fD_congr fun t ht => ?_
    rfl
  refine ⟨swG g i o, .dat (.int o), s1, ?_, good_sw hg hi ho⟩
  refine es_seq (es_set (by sizeOf_list_dec)) ?_
  refine (es_swp (ds := fD dn m g) (d1 := dn (g o)) (d2 := dn (g i)) (k1 := i) (k2 := o) (j1 := i) (j2 := o) rfl (ev_ixo_own (ds := fD dn m g) (k := o) rfl (ev_var rfl) a1) (ev_ixo_own (ds := fD dn m g) (k := i) rfl (ev_var rfl) a2) (ev_var rfl) (ix i hi) (ev_var rfl) (ix o ho)).trans ?_
  rw [e]
  rfl
theorem fmin_ok (i j : Int) : fMin [.int i, .int j] = some (.int (if j < i then j else i)) := rfl
/-- a comprehension of drawn letters -/
theorem draw_letters {m n0 : Nat} (hm : m ≤ 6) (hn : n0 ≤ 4) (h1 : n0 ≤ m) (s : Hd) : ∃ (g : Nat → Nat) (s' : Hd), loopC (gmName 5) mYes (mIf (mTest (mOp fLt (mVar 5) (mVar 3))) (mOp fAdd (mVar 5) (mC (.int 1))) (mCall 2 [] m__law_take (mCons (mVar 0) (mCons (mOp fAdd (mVar 3) (mC (.int 1))) mNil)))) [5] (rangeD 0 m) [] [.dat .hnd, .dat (.int m), .dat (.int 4), .dat (.int n0), .no, .no, .no] s = .ok (.lst (fD dn m g)) s' ∧ Good m n0 g := by
  obtain ⟨ds, s', e, hl, hp⟩ := lc_hand (g := gmName 5) (a := mIf (mTest (mOp fLt (mVar 5) (mVar 3))) (mOp fAdd (mVar 5) (mC (.int 1))) (mCall 2 [] m__law_take (mCons (mVar 0) (mCons (mOp fAdd (mVar 3) (mC (.int 1))) mNil)))) (vs := [5]) (ρ := [.dat .hnd, .dat (.int m), .dat (.int 4), .dat (.int n0), .no, .no, .no]) (fun (i : Nat) => .int (0 + i)) (fun i d => ∃ v : Nat, d = dn v ∧ v ≤ n0 ∧ (i < n0 → v = i + 1)) (List.range m) [] s (by simp; omega) fun i hi s => by
    refine ⟨[.dat .hnd, .dat (.int m), .dat (.int 4), .dat (.int n0), .no, .dat (.int (0 + i)), .no], ?_⟩
    by_cases c : i < n0
    · have t1 := flt_t (i := 0 + (i : Int)) (j := n0) (by omega)
      refine ⟨.int (0 + i + 1), s, rfl, ev_if_t (by array_mem_dec) (by sizeOf_list_dec), i + 1, ?_, by omega, fun _ => rfl⟩
      show Dt.int _ = Dt.int _
      congr 1
      omega
    · have t1 := flt_f (i := 0 + (i : Int)) (j := n0) (by omega)
      have mk : manyOk ((n0 : Int) + 1) := ⟨by omega, by
        have : ((n0 : Int) + 1).natAbs < 2 ^ 3 := by omega
        have := PySem.Flt.log2_lt_of (Nat.succ_pos 2) this
        omega⟩
      have t := take_ok s mk
      have g0 := takeV_ge (s := s) (n := (n0 : Int) + 1) (by omega)
      have g1 := takeV_lt (s := s) (n := (n0 : Int) + 1) (by omega)
      generalize takeV s ((n0 : Int) + 1) = v at *
      generalize takeS s ((n0 : Int) + 1) = s1 at *
      refine ⟨.int v, s1, rfl, ev_if_f (by array_mem_dec) (by sizeOf_list_dec), v.toNat, ?_, by omega, fun h => absurd h c⟩
      show Dt.int _ = Dt.int _
      congr 1
      omega
  rw [List.length_range] at hl
  obtain ⟨g, e2, hg⟩ := fD_of (g := dn) (P := fun i v => v ≤ n0 ∧ (i < n0 → v = i + 1)) hl fun i hi => by
    have hi2 : i < ds.length := by omega
    obtain ⟨v, e1, e2, e3⟩ := hp i i ds[i] (List.getElem?_range hi) (List.getElem?_eq_getElem hi2)
    exact ⟨v, by rw [List.getElem?_eq_getElem hi2, e1], e2, e3⟩
  refine ⟨g, s', ?_, fun t ht => (hg t ht).1, fun k k1 k2 => ⟨k - 1, by omega, ?_⟩⟩
  · unfold rangeD
    rw [e, e2]
    rfl
  · have := (hg (k - 1) (by omega)).2 (by omega)
    omega
theorem letters_ok {m : Nat} (h1 : 1 ≤ m) (hm : m ≤ 6) (s : Hd) : ∃ (n0 : Nat) (g : Nat → Nat) (s' : Hd), m__law_letters [.hnd, .int m, .int 4] s = .ok (.lst (fD dn m g)) s' ∧ Good m n0 g ∧ 1 ≤ n0 ∧ n0 ≤ 4 := by
  have fm := fmin_ok m 4
  have mk : manyOk (if (4 : Int) < m then 4 else (m : Int)) := ⟨by split <;> omega, by
    have : (if (4 : Int) < m then 4 else (m : Int)).natAbs < 2 ^ 3 := by split <;> omega
    have := PySem.Flt.log2_lt_of (Nat.succ_pos 2) this
    omega⟩
  have t := take_ok s mk
  have g0 := takeV_ge (s := s) mk.1
  have g1 := takeV_lt (s := s) mk.1
  have bm : (if (4 : Int) < m then 4 else (m : Int)) ≤ 4 ∧ (if (4 : Int) < m then 4 else (m : Int)) ≤ m := by split <;> omega
  generalize (if (4 : Int) < m then 4 else (m : Int)) = k at *
  generalize takeV s k = v at *
  generalize takeS s k = s1 at *
  obtain ⟨n0, hn0⟩ : ∃ n0 : Nat, 1 + v = n0 := ⟨(1 + v).toNat, by omega⟩
  have ad : fAdd (.int 1) (.int v) = some (.int n0) := by rw [← hn0]; rfl
  obtain ⟨g, s2, lc, hg⟩ := draw_letters (m := m) (n0 := n0) hm (by omega) (by omega) s1
  have rg : mRng1 (mVar 1) [.dat .hnd, .dat (.int m), .dat (.int 4), .dat (.int n0), .no, .no, .no] s1 = .ok (rangeD 0 m) s1 := rng1_of m (ev_var rfl) rfl (by omega)
  have dg : mRngD (mOp fSub (mVar 1) (mC (.int 1))) (mC (.int 0)) [.dat .hnd, .dat (.int m), .dat (.int 4), .dat (.int n0), .own (fD dn m g), .no, .no] s2 = .ok ((List.range (m - 1)).map fun (t : Nat) => Dt.int ((m : Int) - 1 + (t : Int) * -1)) s2 := by
    have k1 : rngOk ((m : Int) - 1) := ⟨by omega, by omega⟩
    have k2 : rngOk 0 := ⟨by omega, by omega⟩
    have a : mOp fSub (mVar 1) (mC (.int 1)) [.dat .hnd, .dat (.int m), .dat (.int 4), .dat (.int n0), .own (fD dn m g), .no, .no] s2 = .ok (.int ((m : Int) - 1)) s2 := by sizeOf_list_dec
    unfold mRngD
    rw [a]
    simp only [R.bind_ok, mC]
    rw [if_pos ⟨k1, k2⟩]
    unfold downD
    rw [show ((m : Int) - 1 - 0).toNat = m - 1 by omega]
  obtain ⟨ρ', s3, hl, g', x5, x6, rfl, hg'⟩ := for_range (g := gmName 5) (body := swBody) (ρ := [.dat .hnd, .dat (.int m), .dat (.int 4), .dat (.int n0), .own (fD dn m g), .no, .no]) (s := s2) (fun (t : Nat) => Dt.int ((m : Int) - 1 + (t : Int) * -1)) (fun i ρ s => ∃ (g : Nat → Nat) (x5 x6 : Sl), ρ = [.dat .hnd, .dat (.int m), .dat (.int 4), .dat (.int n0), .own (fD dn m g), x5, x6] ∧ Good m n0 g) (m - 1) ⟨g, .no, .no, rfl, hg⟩ (fun i ρ s hi hI => by
    obtain ⟨g, x5, x6, rfl, hg⟩ := hI
    obtain ⟨g', x6', s', e, hg'⟩ := swap_step hg (i := m - 1 - i) (by omega) hm (.dat (.int n0)) x6 ((m : Int) - 1 + (i : Int) * -1) (by omega) s
    exact ⟨_, _, s', rfl, e, g', _, _, rfl, hg'⟩)
  refine ⟨n0, g', s3, ?_, hg', by omega, by omega⟩
  refine es_def (ρ := [.dat .hnd, .dat (.int m), .dat (.int 4), .no, .no, .no, .no]) rfl ?_
  unfold b__law_letters
  refine es_seq (es_set (by sizeOf_list_dec)) ?_
  refine es_seq (es_setO (toL_of (ev_lc rg lc))) ?_
  refine es_seq (es_for (b1 := swBody) dg hl) ?_
  exact es_frz (is := [4]) rfl (es_ret (ev_var rfl))
end Law


set_option Elab.async false
set_option linter.all false
set_option maxRecDepth 100000
namespace Law
open PySem PySem.Spec PyProof.Rows L2 Mir
def barsBody : MS := (mApp 4 (mTup (mCons (mOp fSub (mCall 2 [] m__law_take (mCons (mVar 0) (mCons (mOp fAdd (mVar 5) (mC (.int 1))) mNil))) (mC (.int 1))) (mCons (mCall 1 [] m__law_mark (mCons (mVar 0) mNil)) (mCons (mOp fIx (mVar 3) (mVar 5)) mNil)))))
theorem many_le (i : Nat) (h : i ≤ 5) : manyOk (0 + (i : Int) + 1) := ⟨by omega, by
  have : (0 + (i : Int) + 1).natAbs < 2 ^ 3 := by omega
  have := PySem.Flt.log2_lt_of (Nat.succ_pos 2) this
  omega⟩
theorem bars_ok (s : Hd) : ∃ (B : Bars) (s' : Hd), B.Ok ∧ (∀ i, i < B.n → Bd 8 (B.m i)) ∧ m__law_bars [.hnd, .int 4] s = .ok B.d s' := by
  have t := take_ok s (n := 8) (by decide)
  have g0 := takeV_ge (s := s) (n := 8) (by decide)
  have g1 := takeV_lt (s := s) (n := 8) (by decide)
  generalize takeV s 8 = v at *
  generalize takeS s 8 = s1 at *
  have hm : ∃ m : Nat, 1 ≤ m ∧ m ≤ 6 ∧ fIx (.lst [.int 2, .int 1, .int 3, .int 2, .int 3, .int 2, .int 3, .int 6]) (.int v) = some (.int (m : Nat)) := by
    have hu : v = 0 ∨ v = 1 ∨ v = 2 ∨ v = 3 ∨ v = 4 ∨ v = 5 ∨ v = 6 ∨ v = 7 := by omega
    rcases hu with rfl | rfl | rfl | rfl | rfl | rfl | rfl | rfl
    · exact ⟨2, by decide, by decide, rfl⟩
    · exact ⟨1, by decide, by decide, rfl⟩
    · exact ⟨3, by decide, by decide, rfl⟩
    · exact ⟨2, by decide, by decide, rfl⟩
    · exact ⟨3, by decide, by decide, rfl⟩
    · exact ⟨2, by decide, by decide, rfl⟩
    · exact ⟨3, by decide, by decide, rfl⟩
    · exact ⟨6, by decide, by decide, rfl⟩
  obtain ⟨m, h1, h6, ix⟩ := hm
  obtain ⟨n0, g, s2, el, hg, k1, k2⟩ := letters_ok h1 h6 s1
  have rg : mRng1 (mVar 2) [.dat .hnd, .dat (.int 4), .dat (.int m), .dat (.lst (fD dn m g)), .own [], .no] s2 = .ok (rangeD 0 m) s2 := rng1_of m (ev_var rfl) rfl (by omega)
  obtain ⟨ρ', s3, hl, hh, mm, x5, rfl, hp⟩ := for_range (g := gmName 5) (body := barsBody) (ρ := [.dat .hnd, .dat (.int 4), .dat (.int m), .dat (.lst (fD dn m g)), .own [], .no]) (s := s2) (fun (i : Nat) => .int (0 + (i : Int)))
    (fun i ρ s => ∃ (hh : Nat → Int) (mm : Nat → Rat) (x5 : Sl), ρ = [.dat .hnd, .dat (.int 4), .dat (.int m), .dat (.lst (fD dn m g)), .own ((List.range i).map fun t => .tup [.int (hh t), dq (mm t), .int (g t : Nat)]), x5] ∧ ∀ t, t < i → -1 ≤ hh t ∧ hh t < t ∧ Bd 8 (mm t)) m ⟨fun _ => 0, fun _ => 0, .no, rfl, fun t h => by omega⟩ (fun i ρ s hi hI => by
    obtain ⟨hh, mm, x5, rfl, hp⟩ := hI
    have t := take_ok s (many_le i (by omega))
    have g0 := takeV_ge (s := s) (n := 0 + (i : Int) + 1) (by omega)
    have g1 := takeV_lt (s := s) (n := 0 + (i : Int) + 1) (by omega)
    generalize takeV s (0 + (i : Int) + 1) = w at *
    generalize takeS s (0 + (i : Int) + 1) = s4 at *
    obtain ⟨q, s5, eq, bq⟩ := mark_ok s4
    have a1 : fIx (.lst (fD dn m g)) (.int (0 + (i : Int))) = some (.int (g i : Nat)) := by
      show atI (fD dn m g) _ = _
      rw [Int.zero_add, fD_at (by omega) (by omega)]
      rfl
    refine ⟨_, _, s5, rfl, es_app (ds := (List.range i).map fun t => .tup [.int (hh t), dq (mm t), .int (g t : Nat)]) (d := .tup [.int (w - 1), dq q, .int (g i : Nat)]) rfl (by sizeOf_list_dec) (by simp; omega), fun t => if t = i then w - 1 else hh t, fun t => if t = i then q else mm t, .dat (.int (0 + (i : Int))), ?_, fun t ht => ?_⟩
    · have e : ((List.range i).map fun t => Dt.tup [.int (hh t), dq (mm t), .int (g t : Nat)]) ++ [.tup [.int (w - 1), dq q, .int (g i : Nat)]] = (List.range (i + 1)).map fun t => Dt.tup [.int (if t = i then w - 1 else hh t), dq (if t = i then q else mm t), .int (g t : Nat)] := by
        rw [List.range_succ, List.map_append, List.map_singleton, if_pos rfl, if_pos rfl]
        congr 1
        refine List.map_congr_left fun t ht => ?_
        have : t ≠ i := by have := List.mem_range.1 ht; omega
        rw [if_neg this, if_neg this]
      rw [e]
      rfl
    · by_cases c : t = i
      · simp only [if_pos c]
        subst c
        exact ⟨by omega, by omega, bq⟩
      · simp only [if_neg c]
        exact hp t (by omega))
  let B : Bars := ⟨m, n0, hh, mm, g⟩
  refine ⟨B, s3, ⟨h1, h6, k1, k2, fun i hi => (hp i hi).1, fun i hi => (hp i hi).2.1, fun i hi => (hp i hi).2.2.mono (by omega), fun i hi => hg.le i hi, hg.all⟩, fun i hi => (hp i hi).2.2, ?_⟩
  refine es_def (ρ := [.dat .hnd, .dat (.int 4), .no, .no, .no, .no]) rfl ?_
  unfold b__law_bars
  refine es_seq (es_set (d := .int (m : Nat)) (by sizeOf_list_dec)) ?_
  refine es_seq (es_set (d := .lst (fD dn m g)) (by sizeOf_list_dec)) ?_
  refine es_seq (es_setO (ev_lstO ev_nil (by simp))) ?_
  refine es_seq (es_for (b1 := barsBody) rg hl) ?_
  refine es_ret (ev_bor rfl (ev_cb (ev_cons (ev_var rfl) ev_nil) rfl) ?_)
  show lfreeA _ = true
  rw [lfreeA_all, List.all_eq_true]
  intro d hd
  obtain ⟨i, _, e⟩ := List.mem_map.1 hd
  rw [← e]
  rfl
end Law


set_option Elab.async false
set_option linter.all false
set_option maxRecDepth 100000
namespace Law
open PySem PySem.Spec PyProof.Rows L2 Mir
theorem row_ok {d : Dt} {ds : List Dt} {lo hi : Int} (hd : fIsi2 "list" "tuple" d = some true) (hs : seqD d = some ds) (h1 : lo ≤ ds.length) (h2 : ds.length ≤ hi) (s : Hd) : m_is_row [d, .int lo, .int hi] s = .ok (.bl true) s := by
  refine es_def (ρ := [.dat d, .dat (.int lo), .dat (.int hi)]) rfl ?_
  unfold b_is_row
  have l : fLen [d] = some (.int ds.length) := by
    cases d <;> simp_all [seqD, fLen]
  have e1 : fGe (.int ds.length) (.int lo) = some (.bl true) := by simp [fI, h1]
  have e2 : fLe (.int ds.length) (.int hi) = some (.bl true) := by simp [fI, h2]
  refine es_seq (es_if_f (ev_not_f (ev_tru (ev_isi2 (ev_var rfl) hd) rfl)) es_next) (es_ret ?_)
  exact ev_andv_t (d := .bl true) (by sizeOf_list_dec) rfl (ev_orv_f (d := .bl false) (ev_op (ev_var rfl) ev_c rfl) rfl (by sizeOf_list_dec))
theorem toPyA_ints : ∀ l : List Int, toPyA (l.map Dt.int) = some (l.map PyData.int)
  | [] => rfl
  | i :: l => by
    rw [List.map_cons]
    unfold toPyA
    rw [toPyA_ints l]
    rfl
theorem in_ints {k : Int} {l : List Int} (h : k ∈ l) : fIn (.int k) (.lst (l.map Dt.int)) = some (.bl true) := by
  have e : pyOk (.lst (l.map Dt.int)) = some (.list (l.map PyData.int)) := by
    unfold pyOk
    have t : toPy (.lst (l.map Dt.int)) = some (.list (l.map PyData.int)) := by
      show (toPyA (l.map Dt.int)).map PyData.list = _
      rw [toPyA_ints]
      rfl
    rw [t]
    simp [PySem.W.ke_shaped_ints]
  have a : ((l.map PyData.int).any fun z => PyData.eqv z (.int k)) = true := by
    rw [List.any_eq_true]
    exact ⟨.int k, List.mem_map.2 ⟨k, h, rfl⟩, by simp [PyData.eqv]⟩
  have b : fInB (.int k) (.lst (l.map Dt.int)) = some true := by
    unfold fInB
    simp only [py_int, e, Option.bind_some, a]
  unfold fIn
  rw [b]
  rfl
section
variable {B : Bars} (ok : B.Ok)
include ok
theorem check_bar_ok {i : Nat} (hi : i < B.n) (s : Hd) : m__check_bar [.int i, B.bar i] s = .ok .non s := by
  have e1 : m_is_row [B.bar i, .int 3, .int 3] s = .ok (.bl true) s := row_ok (ds := [.int (B.h i), dq (B.m i), .int (B.l i : Nat)]) (i2_tup _) rfl (by simp) (by simp) s
  have h0 := ok.h0 i hi
  have h1 := ok.h1 i hi
  have hl := ok.l i hi
  have N4 := ok.N4
  have e2 : m_is_whole [.int (B.h i), .int (-1), .int ((i : Int) - 1)] s = .ok (.bl true) s := by
    rw [is_whole_both, decide_eq_true h0, decide_eq_true (show B.h i ≤ (i : Int) - 1 by omega)]; rfl
  have e3 : m_is_ratio [dq (B.m i)] s = .ok (.bl true) s := isr_q s
  have e4 : m_is_whole [.int (B.l i : Nat), .int 0, .int 4] s = .ok (.bl true) s := by
    rw [is_whole_both, decide_eq_true (show (0 : Int) ≤ (B.l i : Nat) by omega), decide_eq_true (show ((B.l i : Nat) : Int) ≤ 4 by omega)]; rfl
  have tt : fTru (.bl true) = some true := rfl
  refine es_def_nx (ρ := [.dat (.int i), .dat (B.bar i), .no, .no, .no]) (ρ1 := [.dat (.int i), .dat (B.bar i), .dat (.int (B.h i)), .dat (dq (B.m i)), .dat (.int (B.l i : Nat))]) rfl ?_
  unfold b__check_bar
  refine es_seq (es_if_f (by array_mem_dec) es_next) ?_
  refine es_seq (ρ1 := [.dat (.int i), .dat (B.bar i), .dat (.int (B.h i)), .dat (dq (B.m i)), .dat (.int (B.l i : Nat))]) (s1 := s) (es_asg (ev_var rfl) rfl) ?_
  refine es_seq (es_if_f (by array_mem_dec) es_next) ?_
  refine es_seq (es_if_f (by array_mem_dec) es_next) ?_
  exact es_if_f (by array_mem_dec) es_next
theorem enum_row : enumD 0 B.row = (List.range B.n).map fun (i : Nat) => Dt.tup [.int (i : Nat), B.bar i] := by
  apply List.ext_getElem?
  intro j
  rw [enumD_get, List.getElem?_map]
  unfold Bars.row
  rw [List.getElem?_map]
  by_cases c : j < B.n
  · rw [List.getElem?_range c]
    simp
  · rw [List.getElem?_eq_none (by rw [List.length_range]; omega)]
    rfl
theorem check_bars_ok {D : Dt} (hi2 : fIsi2 "list" "tuple" D = some true) (hs : seqD D = some B.row) (s : Hd) : m__check_bars [D] s = .ok .non s := by
  have n1 := ok.n1
  have n6 := ok.n6
  have e1 : m_is_row [D, .int 1, .int 6] s = .ok (.bl true) s := row_ok (ds := B.row) hi2 hs (by rw [bars_len]; omega) (by rw [bars_len]; omega) s
  have en : mEnum (mVar 0) [.dat D, .no, .no] s = .ok ((List.range B.n).map fun (i : Nat) => Dt.tup [.int (i : Nat), B.bar i]) s := by
    unfold mEnum
    rw [ev_var (ρ := [.dat D, .no, .no]) (i := 0) (d := D) rfl]
    simp only [R.bind_ok, hs]
    rw [enum_row ok]
  obtain ⟨ρ', s', hl, x1, x2, rfl, rfl⟩ := for_range (g := gmSeq 2 (gmCons (gmName 1) (gmCons (gmName 2) gmNil))) (body := mDrop (mCall 2 [] m__check_bar (mCons (mVar 1) (mCons (mVar 2) mNil)))) (ρ := [.dat D, .no, .no]) (s := s) (fun (i : Nat) => Dt.tup [.int (i : Nat), B.bar i]) (fun i ρ s1 => ∃ (x1 x2 : Sl), ρ = [.dat D, x1, x2] ∧ s1 = s) B.n ⟨.no, .no, rfl, rfl⟩ (fun i ρ s1 hi hI => by
    obtain ⟨x1, x2, rfl, rfl⟩ := hI
    have e := check_bar_ok ok hi s1
    exact ⟨[.dat D, .dat (.int i), .dat (B.bar i)], [.dat D, .dat (.int i), .dat (B.bar i)], s1, rfl, es_drop (by sizeOf_list_dec), _, _, rfl, rfl⟩)
  have tt : fTru (.bl true) = some true := rfl
  refine es_def_nx (ρ := [.dat D, .no, .no]) (ρ1 := [.dat D, x1, x2]) rfl ?_
  unfold b__check_bars
  refine es_seq (es_if_f (by array_mem_dec) es_next) ?_
  exact es_for en hl
theorem count_ok {D : Dt} (hs : seqD D = some B.row) (s : Hd) : m__count_letters [D] s = .ok (.int (B.N : Nat)) s := by
  have N1 := ok.N1
  have N4 := ok.N4
  have n6 := ok.n6
  have z : mSeqI (mVar 0) [.dat D, .no, .no, .no, .no] s = .ok B.row s := ev_seqI (ev_var rfl) hs
  obtain ⟨i, hi, ei⟩ := ok.all B.N ok.N1 (Nat.le_refl _)
  have lc : mLc (gmName 2) (mSeqI (mVar 0)) mYes (mOp fIx (mVar 2) (mC (.int 2))) [2] [.dat D, .no, .no, .no, .no] s = .ok (.lst ((List.range B.n).map fun i => Dt.int ((B.l i : Nat) : Int))) s :=
    ev_lc z (lc_map (ρ := [.dat D, .no, .no, .no, .no]) B.bar (fun i => .int (B.l i : Nat)) (List.range B.n) (by rw [List.length_range]; omega) fun j hj => ⟨[.dat D, .no, .dat (B.bar j), .no, .no], rfl, by
      have e6 : fIx (B.bar j) (.int 2) = some (.int (B.l j)) := rfl
      sizeOf_list_dec⟩)
  have mx : mCB fMax (mCons (mVar 1) mNil) [.dat D, .dat (.lst ((List.range B.n).map fun i => Dt.int ((B.l i : Nat) : Int))), .no, .no, .no] s = .ok (.int (B.N : Nat)) s := max_of (n := B.n) (f := fun i => (B.l i : Int)) (ev_var rfl) (fun i hi => by have := ok.l i hi; omega) ⟨i, hi, by omega⟩
  have f0 := feq_f (B.N : Int) 0 (by omega)
  have rg : mRng2 (mC (.int 1)) (mOp fAdd (mVar 3) (mC (.int 1))) [.dat D, .dat (.lst ((List.range B.n).map fun i => Dt.int ((B.l i : Nat) : Int))), .no, .dat (.int (B.N : Nat)), .no] s = .ok (rangeD 1 B.N) s := rng2_of (i := 1) (j := (B.N : Int) + 1) B.N ev_c (ev_op (ev_var rfl) ev_c rfl) (by omega) (by omega) (by omega) (by omega)
  have al := all_of (bs := (List.range B.N).map fun _ => true) (by
    rw [List.map_map]
    exact ev_lc rg (lc_range (g := gmName 4) (a := mOp fIn (mVar 4) (mVar 1)) (vs := [4]) (fun _ => .bl true) (by omega) fun j hj => ⟨_, rfl, by
      obtain ⟨t, ht, e⟩ := ok.all (j + 1) (by omega) (by omega)
      have k : fIn (.int (1 + (j : Int))) (.lst ((List.range B.n).map fun i => Dt.int ((B.l i : Nat) : Int))) = some (.bl true) := by
        have m : (1 + (j : Int)) ∈ (List.range B.n).map fun i => ((B.l i : Nat) : Int) := List.mem_map.2 ⟨t, List.mem_range.2 ht, by omega⟩
        have r := in_ints m
        rw [List.map_map] at r
        exact r
      sizeOf_list_dec⟩))
  have tr : ((List.range B.N).map fun _ => true).all id = true := by
    rw [List.all_map, List.all_eq_true]
    exact fun _ _ => rfl
  rw [tr] at al
  refine es_def (ρ := [.dat D, .no, .no, .no, .no]) rfl ?_
  unfold b__count_letters
  refine es_seq (es_set lc) ?_
  refine es_seq (es_set mx) ?_
  refine es_seq (es_if_f (ev_or_f (ev_test (by sizeOf_list_dec)) (ev_not_f (ev_tru al rfl))) es_next) ?_
  exact es_ret (ev_var rfl)
theorem make_ok {D : Dt} (hi2 : fIsi2 "list" "tuple" D = some true) (hs : seqD D = some B.row) (s : Hd) : m_Arms____init__ [D] s = .ok [(("letters" : Str), .int (B.N : Nat)), (("bars" : Str), B.d)] s := by
  have n6 := ok.n6
  have e1 := check_bars_ok ok hi2 hs s
  have e2 := count_ok ok hs s
  have z : mSeqI (mVar 1) [.slf "Arms" [("letters", .int (B.N : Nat))], .dat D, .no] s = .ok B.row s := ev_seqI (ev_var rfl) hs
  have lc := tup_of (ev_lc z (lc_map (g := gmName 2) (a := mCB fTupC (mCons (mVar 2) mNil)) (vs := [2]) (ρ := [.slf "Arms" [("letters", .int (B.N : Nat))], .dat D, .no]) B.bar B.bar (List.range B.n) (by rw [List.length_range]; omega) fun j hj => ⟨[.slf "Arms" [("letters", .int (B.N : Nat))], .dat D, .dat (B.bar j)], rfl, ev_cb (ev_cons (ev_var rfl) ev_nil) rfl⟩))
  refine es_init (ρ := [.slf "Arms" [], .dat D, .no]) rfl (ρ1 := [.slf "Arms" [(("letters" : Str), .int (B.N : Nat)), (("bars" : Str), B.d)], .dat D, .no]) ?_ rfl
  unfold b_Arms____init__
  refine es_seq (es_drop (by sizeOf_list_dec)) ?_
  refine es_seq (ρ1 := [.slf "Arms" [("letters", .int (B.N : Nat))], .dat D, .no]) (s1 := s) (es_fld (fs := []) (cl := "Arms") (by sizeOf_list_dec) rfl (by simp) (by simp)) ?_
  refine (es_fld (fs := [("letters", .int (B.N : Nat))]) (cl := "Arms") lc rfl (by simp) (by simp)).trans ?_
  have e : putFD "bars" B.d [(("letters" : Str), Dt.int (B.N : Nat))] = [(("letters" : Str), Dt.int (B.N : Nat)), (("bars" : Str), B.d)] := by
    have c : ¬ (("letters" : Str) = ("bars" : Str)) := by decide +kernel
    simp only [putFD, if_neg c]
  have e3 : (Dt.tup ((List.range B.n).map B.bar)) = B.d := rfl
  rw [e3, e]
  rfl
end
end Law


set_option Elab.async false
set_option linter.all false
set_option maxRecDepth 100000
namespace Law
open PySem PySem.Spec PyProof.Rows L2 Mir
/-! ### arms led along -/
def Bars.grow (B : Bars) (r : Rat) : Bars := ⟨B.n, B.N, B.h, fun i => B.m i * r, B.l⟩
def Bars.shift (B : Bars) (t : Rat) : Bars := ⟨B.n, B.N, B.h, fun i => if B.h i = -1 then B.m i + t else B.m i, B.l⟩
/-- the new name of a letter -/
def nam (g : Nat → Nat) (l : Nat) : Nat := if l = 0 then 0 else g (l - 1)
def Bars.ren (B : Bars) (g : Nat → Nat) : Bars := ⟨B.n, B.N, B.h, B.m, fun i => nam g (B.l i)⟩
/-- an order of the letters -/
structure Ord (N : Nat) (g : Nat → Nat) : Prop where
  a : ∀ k, k < N → 1 ≤ g k
  b : ∀ k, k < N → g k ≤ N
  inj : ∀ i j, i < N → j < N → g i = g j → i = j
  onto : ∀ k, 1 ≤ k → k ≤ N → ∃ i, i < N ∧ g i = k
theorem grow_ok {B : Bars} (ok : B.Ok) (m8 : ∀ i, i < B.n → Bd 8 (B.m i)) {r : Rat} (hr : Bd 200 r) : (B.grow r).Ok :=
  ⟨ok.n1, ok.n6, ok.N1, ok.N4, ok.h0, ok.h1, fun i hi => ((m8 i hi).mul hr).mono (by omega), ok.l, ok.all⟩
theorem shift_ok {B : Bars} (ok : B.Ok) (m8 : ∀ i, i < B.n → Bd 8 (B.m i)) {t : Rat} (ht : Bd 200 t) : (B.shift t).Ok := by
  refine ⟨ok.n1, ok.n6, ok.N1, ok.N4, ok.h0, ok.h1, fun i hi => ?_, ok.l, ok.all⟩
  show Bd 210 (if B.h i = -1 then B.m i + t else B.m i)
  split
  · exact ((m8 i hi).add ht).mono (by omega)
  · exact ok.m i hi
theorem ren_ok {B : Bars} (ok : B.Ok) {g : Nat → Nat} (hg : Ord B.N g) : (B.ren g).Ok := by
  refine ⟨ok.n1, ok.n6, ok.N1, ok.N4, ok.h0, ok.h1, ok.m, fun i hi => ?_, fun k h1 h2 => ?_⟩
  · have l := ok.l i hi
    show nam g (B.l i) ≤ B.N
    unfold nam
    split
    · omega
    · exact hg.b _ (by omega)
  · obtain ⟨j, hj, e⟩ := hg.onto k h1 h2
    obtain ⟨i, hi, el⟩ := ok.all (j + 1) (by omega) (by have : j < B.N := hj; omega)
    refine ⟨i, hi, ?_⟩
    show nam g (B.l i) = k
    unfold nam
    rw [if_neg (by omega), el, Nat.add_sub_cancel, e]
/-! rows -/
theorem W_grow (B : Bars) (r : Rat) : ∀ (k : Nat) (b : Int) (q : Rat) (j : Nat), W (B.grow r) k b (q * r) j = W B k b q j * r
  | 0, b, q, j => by
    unfold W one
    split
    · rfl
    · grind
  | k + 1, b, q, j => by
    unfold W
    by_cases c : b < 0
    · rw [if_pos c, if_pos c]
      unfold one
      split
      · rfl
      · grind
    · rw [if_neg c, if_neg c]
      have ih := W_grow B r k (B.h b.toNat) (B.m b.toNat) j
      show W (B.grow r) k (B.h b.toNat) (B.m b.toNat * r) j + one (B.l b.toNat) (q * r) j = _
      rw [ih]
      unfold one
      split <;> grind
/-- the moved place's mark -/
def mov (t : Rat) (b : Int) (q : Rat) : Rat := if b = -1 then q + t else q
theorem W_shift {B : Bars} (ok : B.Ok) (t : Rat) : ∀ (k : Nat) (b : Int) (q : Rat) (j : Nat), -1 ≤ b → b < k → b < B.n → W (B.shift t) k b (mov t b q) j = W B k b q j + one 0 t j
  | 0, b, q, j, h0, hk, _ => by
    have e : b = -1 := by omega
    subst e
    unfold W mov one
    rw [if_pos rfl]
    split <;> grind
  | k + 1, b, q, j, h0, hk, hn => by
    unfold W
    by_cases c : b < 0
    · have e : b = -1 := by omega
      subst e
      rw [if_pos c, if_pos c]
      unfold mov one
      rw [if_pos rfl]
      split <;> grind
    · rw [if_neg c, if_neg c]
      have hi : b.toNat < B.n := by omega
      have m1 := ok.h1 _ hi
      have ih := W_shift ok t k (B.h b.toNat) (B.m b.toNat) j (ok.h0 _ hi) (by omega) (by omega)
      have e : mov t b q = q := if_neg (by omega)
      rw [e]
      show W (B.shift t) k (B.h b.toNat) (mov t (B.h b.toNat) (B.m b.toNat)) j + one (B.l b.toNat) q j = _
      rw [ih]
      grind
theorem one_ren {N : Nat} {g : Nat → Nat} (hg : Ord N g) {l j : Nat} (hl : l ≤ N) (hj : j ≤ N) (q : Rat) : one (nam g l) q (nam g j) = one l q j := by
  have e : nam g j = nam g l ↔ j = l := by
    unfold nam
    by_cases a : j = 0
    · by_cases c : l = 0
      · simp [a, c]
      · have := hg.a (l - 1) (by omega)
        rw [if_pos a, if_neg c]
        omega
    · by_cases c : l = 0
      · have := hg.a (j - 1) (by omega)
        rw [if_neg a, if_pos c]
        omega
      · rw [if_neg a, if_neg c]
        constructor
        · intro h
          have := hg.inj (j - 1) (l - 1) (by omega) (by omega) h
          omega
        · intro h
          rw [h]
  unfold one
  by_cases c : j = l
  · rw [if_pos c, if_pos (e.2 c)]
  · rw [if_neg c, if_neg (fun h => c (e.1 h))]
theorem W_ren {B : Bars} (ok : B.Ok) {g : Nat → Nat} (hg : Ord B.N g) {j : Nat} (hj : j ≤ B.N) : ∀ (k : Nat) (b : Int) (q : Rat), b < B.n → W (B.ren g) k b q (nam g j) = W B k b q j
  | 0, b, q, _ => by
    unfold W
    exact one_ren hg (Nat.zero_le _) hj q
  | k + 1, b, q, hn => by
    unfold W
    by_cases c : b < 0
    · rw [if_pos c, if_pos c]
      exact one_ren hg (Nat.zero_le _) hj q
    · rw [if_neg c, if_neg c]
      have hi : b.toNat < B.n := by omega
      have m1 := ok.h1 _ hi
      show W (B.ren g) k (B.h b.toNat) (B.m b.toNat) (nam g j) + one (nam g (B.l b.toNat)) q (nam g j) = _
      rw [W_ren ok hg hj k (B.h b.toNat) (B.m b.toNat) (by omega), one_ren hg (ok.l _ hi) hj]
/-! ### the methods -/
theorem add_e {a b : List Dt} (h : a.length + b.length ≤ 100000) : fAddE (.tup a) (.tup b) = some (.tup (a ++ b)) := by
  show (if _ then _ else _) = _
  rw [if_pos (show Mir.sizeOk (a.length + b.length) from h)]
section
variable {B : Bars} (ok : B.Ok)
include ok
theorem at_bars {ρ : Env'} {i : Nat} {s : Hd} (h : ρ[i]? = some (.dat B.arms)) : mAttr ["Arms"] "bars" (mVar i) ρ s = .ok B.d s := ev_attr (cl := "Arms") (fs := [("letters", .int (B.N : Nat)), ("bars", B.d)]) (ev_var h) (by simp) (lk_bars _ _)
theorem at_letters {ρ : Env'} {i : Nat} {s : Hd} (h : ρ[i]? = some (.dat B.arms)) : mAttr ["Arms"] "letters" (mVar i) ρ s = .ok (.int (B.N : Nat)) s := ev_attr (cl := "Arms") (fs := [("letters", .int (B.N : Nat)), ("bars", B.d)]) (ev_var h) (by simp) (lk_letters _ _)
end
end Law


set_option Elab.async false
set_option linter.all false
set_option maxRecDepth 100000
namespace Law
open PySem PySem.Spec PyProof.Rows L2 Mir
/-! ### orders of the letters -/
def gInt (N : Nat) (g : Nat → Nat) : List Int := (List.range N).map fun (i : Nat) => ((g i : Nat) : Int)
theorem gInt_fD (N : Nat) (g : Nat → Nat) : fD dn N g = (gInt N g).map Dt.int := by
  unfold fD gInt
  rw [List.map_map]
  rfl
theorem intsT_map : ∀ l : List Int, intsT (l.map Dt.int) = some l
  | [] => rfl
  | i :: l => by
    show (intsT (l.map Dt.int)).map (fun l => i :: l) = _
    rw [intsT_map l]
    rfl
theorem rg_fD (N : Nat) : rangeD 1 N = ((List.range N).map fun (i : Nat) => (1 + (i : Int))).map Dt.int := by
  unfold rangeD
  rw [List.map_map]
  rfl
theorem nodup_map {N : Nat} {f : Nat → Int} (h : ∀ i j, i < N → j < N → f i = f j → i = j) : ((List.range N).map f).Nodup := by
  unfold List.Nodup
  rw [List.pairwise_map]
  have r : (List.range N).Pairwise (· < ·) := List.pairwise_lt_range
  refine List.Pairwise.imp_of_mem ?_ r
  intro a b ha hb hab e
  have := h a b (List.mem_range.1 ha) (List.mem_range.1 hb) e
  omega
theorem ord_perm {N : Nat} {g : Nat → Nat} (hg : Ord N g) : ((List.range N).map fun (i : Nat) => (1 + (i : Int))).Perm (gInt N g) := by
  rw [List.perm_iff_count]
  intro a
  have n1 : ((List.range N).map fun (i : Nat) => (1 + (i : Int))).Nodup := nodup_map fun i j _ _ e => by omega
  have n2 : (gInt N g).Nodup := nodup_map fun i j hi hj e => hg.inj i j hi hj (by omega)
  rw [n1.count, n2.count]
  have m : a ∈ ((List.range N).map fun (i : Nat) => (1 + (i : Int))) ↔ a ∈ gInt N g := by
    unfold gInt
    rw [List.mem_map, List.mem_map]
    constructor
    · rintro ⟨i, hi, e⟩
      obtain ⟨j, hj, ej⟩ := hg.onto (i + 1) (by omega) (by have := List.mem_range.1 hi; omega)
      exact ⟨j, List.mem_range.2 hj, by omega⟩
    · rintro ⟨i, hi, e⟩
      have i2 := List.mem_range.1 hi
      have a1 := hg.a i i2
      have b1 := hg.b i i2
      exact ⟨g i - 1, List.mem_range.2 (by omega), by omega⟩
  by_cases c : a ∈ gInt N g
  · rw [if_pos c, if_pos (m.2 c)]
  · rw [if_neg c, if_neg fun h => c (m.1 h)]
theorem rg_sorted (N : Nat) : ((List.range N).map fun (i : Nat) => (1 + (i : Int))).Pairwise (· ≤ ·) := by
  rw [List.pairwise_map]
  exact List.Pairwise.imp (fun h => by omega) (List.pairwise_lt_range (n := N))
theorem sorted_e {D : Dt} {l : List Int} (hD : D = .tup (l.map Dt.int) ∨ D = .lst (l.map Dt.int)) (h : l.length < 64) : fSorted [D] = some (.lst ((l.mergeSort fun i j => decide (i ≤ j)).map Dt.int)) := by
  rcases hD with rfl | rfl
  · show (intsT (l.map Dt.int)).bind _ = _
    rw [intsT_map, Option.bind_some, if_pos h]
  · show (intsT (l.map Dt.int)).bind _ = _
    rw [intsT_map, Option.bind_some, if_pos h]
theorem sorted_ok {D : Dt} {N : Nat} {g : Nat → Nat} (hN : N ≤ 10) (hg : Ord N g) (hD : D = .tup (fD dn N g) ∨ D = .lst (fD dn N g)) : fSorted [D] = some (.lst (rangeD 1 N)) := by
  rw [gInt_fD] at hD
  rw [sorted_e hD (by simp [gInt]; omega), ← sort_one (ord_perm hg) (rg_sorted N), ← rg_fD]
theorem py_ints (l : List Int) : pyOk (.lst (l.map Dt.int)) = some (.list (l.map PyData.int)) := by
  unfold pyOk
  have t : toPy (.lst (l.map Dt.int)) = some (.list (l.map PyData.int)) := by
    show (toPyA (l.map Dt.int)).map PyData.list = _
    rw [toPyA_ints]
    rfl
  rw [t]
  simp [PySem.W.ke_shaped_ints]
theorem eqvAll_ints : ∀ l m : List Int, PyData.eqvAll (l.map PyData.int) (m.map PyData.int) = decide (l = m)
  | [], [] => by simp [PyData.eqvAll]
  | [], _ :: _ => by simp [PyData.eqvAll]
  | _ :: _, [] => by simp [PyData.eqvAll]
  | i :: l, j :: m => by
    simp only [List.map_cons, PyData.eqvAll, eqvAll_ints l m, PyData.eqv]
    by_cases c : i = j
    · subst c
      simp
    · simp [c]
theorem ne_ints (l m : List Int) : fNe (.lst (l.map Dt.int)) (.lst (m.map Dt.int)) = some (.bl (!decide (l = m))) := by
  have e : fEqB (.lst (l.map Dt.int)) (.lst (m.map Dt.int)) = some (decide (l = m)) := by
    unfold fEqB
    rw [py_ints, py_ints]
    simp only [Option.bind_some, PyData.eqv, eqvAll_ints]
  unfold fNe
  rw [e]
  rfl
theorem lstR_ok {a b : ME} {ρ : Env'} {s : Hd} {N : Nat} (hN : N ≤ 10) (h1 : a ρ s = .ok (.int 1) s) (h2 : b ρ s = .ok (.int ((N : Int) + 1)) s) : mLstR a b ρ s = .ok (.lst (rangeD 1 N)) s := by
  have k1 : rngOk 1 := by decide
  have k2 : rngOk ((N : Int) + 1) := ⟨by omega, by omega⟩
  have e : ((N : Int) + 1 - 1).toNat = N := by omega
  have q : ∀ i j : Int, a ρ s = .ok (.int i) s → b ρ s = .ok (.int j) s → rngOk i → rngOk j → mLstR a b ρ s = .ok (.lst (rangeD i (j - i).toNat)) s := fun i j h1 h2 k1 k2 => by
    unfold mLstR
    rw [h1]
    simp only [R.bind_ok]
    rw [h2]
    simp only [R.bind_ok]
    rw [if_pos ⟨k1, k2⟩]
  rw [q _ _ h1 h2 k1 k2, e]
/-- are all of them whole -/
theorem wholes_lc {D : Dt} {ds : List Dt} {c : Dt → Bool} (hs : seqD D = some ds) (hl : ds.length ≤ 100) (hc : ∀ d ∈ ds, ∀ s, m_is_whole [d, .non, .non] s = .ok (.bl (c d)) s) (N : Nat) (s : Hd) :
    mCB fAll (mCons (mLc (gmName 2) (mSeqI (mVar 1)) mYes (mCall 3 [.non, .non] m_is_whole (mCons (mVar 2) mNil)) [2]) mNil) [.dat (.int N), .dat D, .no] s = .ok (.bl (ds.all c)) s := by
  have z : mSeqI (mVar 1) [.dat (.int N), .dat D, .no] s = .ok ds s := ev_seqI (ev_var rfl) hs
  have al := all_of (bs := ds.map c) (by
    rw [List.map_map]
    have lc := lc_map (g := gmName 2) (a := mCall 3 [.non, .non] m_is_whole (mCons (mVar 2) mNil)) (vs := [2]) (ρ := [.dat (.int N), .dat D, .no]) (s := s) (fun d => d) (fun d => .bl (c d)) ds (by omega) fun d hd => ⟨[.dat (.int N), .dat D, .dat d], rfl, ev_call (ev_cons (ev_var rfl) ev_nil) rfl (hc d hd s)⟩
    rw [List.map_id'] at lc
    exact ev_lc z lc)
  rw [List.all_map] at al
  exact al
/-! wrong orders -/
theorem row_kf {d : Dt} {lo hi : Int} (h : fIsi2 "list" "tuple" d = some false) (s : Hd) : m_is_row [d, .int lo, .int hi] s = .ok (.bl false) s := by
  refine es_def (ρ := [.dat d, .dat (.int lo), .dat (.int hi)]) rfl ?_
  unfold b_is_row
  exact seq_rt (es_if_t (ev_not_t (ev_tru (ev_isi2 (ev_var rfl) h) rfl)) (es_ret ev_c))
theorem row_lf {ds : List Dt} {lo hi : Int} (h : ¬ (lo ≤ ds.length ∧ (ds.length : Int) ≤ hi)) (s : Hd) : m_is_row [.tup ds, .int lo, .int hi] s = .ok (.bl false) s := by
  refine es_def (ρ := [.dat (.tup ds), .dat (.int lo), .dat (.int hi)]) rfl ?_
  unfold b_is_row
  refine es_seq (es_if_f (ev_not_f (ev_tru (ev_isi2 (ev_var rfl) (i2_tup ds)) rfl)) es_next) (es_ret ?_)
  have e1 : fLen [.tup ds] = some (.int ds.length) := rfl
  by_cases c : lo ≤ ds.length
  · have e2 : fGe (.int ds.length) (.int lo) = some (.bl true) := by simp [fI]; omega
    have e3 : fLe (.int ds.length) (.int hi) = some (.bl false) := by simp [fI]; omega
    exact ev_andv_t (d := .bl true) (by sizeOf_list_dec) rfl (ev_orv_f (d := .bl false) (ev_op (ev_var rfl) ev_c rfl) rfl (by sizeOf_list_dec))
  · have e2 : fGe (.int ds.length) (.int lo) = some (.bl false) := by simp [fI]; omega
    exact ev_andv_f (by sizeOf_list_dec) rfl
end Law


set_option Elab.async false
set_option linter.all false
set_option maxRecDepth 100000
namespace Law
open PySem PySem.Spec PyProof.Rows L2 Mir
theorem lk_none {x : Str} (h1 : (x == ("letters" : Str)) = false) (h2 : (x == ("bars" : Str)) = false) (y d : Dt) : List.lookup x [(("letters" : Str), y), (("bars" : Str), d)] = none := by
  simp only [List.lookup, h1, h2]
/-- the new names, 0 first -/
theorem names_e (N : Nat) (g : Nat → Nat) : [Dt.int 0] ++ fD dn N g = fD dn (N + 1) (nam g) := by
  unfold fD
  rw [List.range_succ_eq_map, List.map_cons, List.map_map]
  show Dt.int 0 :: _ = _
  congr 1
theorem names_add {N : Nat} (hN : N ≤ 10) (g : Nat → Nat) : fAddE (.tup [.int 0]) (.tup (fD dn N g)) = some (.tup (fD dn (N + 1) (nam g))) := by
  rw [add_e (by rw [fD_len]; simp; omega), names_e]
theorem tupC_of {D : Dt} {ds : List Dt} (hD : D = .tup ds ∨ D = .lst ds) : fTupC [D] = some (.tup ds) := by rcases hD with rfl | rfl <;> rfl
section
variable {B : Bars} (ok : B.Ok)
include ok
theorem pl_bars : plD 4 B.d = true := by
  show B.row.all (plD 3) = true
  rw [List.all_eq_true]
  intro d hd
  obtain ⟨i, _, e⟩ := List.mem_map.1 hd
  rw [← e]
  rfl
theorem ne_bars : fNe B.d B.d = some (.bl false) := ne_self 4 (by decide) (pl_bars ok)
theorem arms_eq (s : Hd) : m_Arms____eq__ [B.arms, B.arms] s = .ok (.bl true) s := by
  have e := eq_self 4 (by decide) (pl_bars ok)
  have i : mIsiO "Arms" (mVar 1) [.dat B.arms, .dat B.arms] s = .ok (.bl true) s := rfl
  refine es_def (ρ := [.dat B.arms, .dat B.arms]) rfl ?_
  unfold b_Arms____eq__
  exact es_ret (ev_andv_t i rfl (ev_op (at_bars ok rfl) (at_bars ok rfl) e))
theorem eqO_arms : fEqO "Arms" m_Arms____eq__ B.arms B.arms = some (.bl true) := eqO_of fun s => arms_eq ok s
end
/-! ### one bar more -/
def Bars.add (B : Bars) (h : Int) (q : Rat) (l : Nat) : Bars := ⟨B.n + 1, if l ≤ B.N then B.N else l, fun i => if i = B.n then h else B.h i, fun i => if i = B.n then q else B.m i, fun i => if i = B.n then l else B.l i⟩
theorem add_row (B : Bars) (h : Int) (q : Rat) (l : Nat) : (B.add h q l).row = B.row ++ [.tup [.int h, dq q, .int (l : Nat)]] := by
  show (List.range (B.n + 1)).map _ = _
  rw [List.range_succ, List.map_append, List.map_singleton]
  congr 1
  · refine List.map_congr_left fun i hi => ?_
    have : i ≠ B.n := by have := List.mem_range.1 hi; omega
    unfold Bars.bar Bars.add
    simp only [if_neg this]
  · unfold Bars.bar Bars.add
    simp only [if_pos]
theorem add_ok {B : Bars} (ok : B.Ok) (n5 : B.n < 6) {h : Int} {q : Rat} {l : Nat} (h0 : -1 ≤ h) (h1 : h < B.n) (hq : Bd 210 q) (hl : l ≤ B.N + 1) (l4 : l ≤ 4) : (B.add h q l).Ok := by
  have a : (B.add h q l).n = B.n + 1 := rfl
  have b : (B.add h q l).N = if l ≤ B.N then B.N else l := rfl
  have N1 := ok.N1
  have N4 := ok.N4
  have bN : B.N ≤ (B.add h q l).N ∧ l ≤ (B.add h q l).N ∧ (B.add h q l).N ≤ 4 ∧ ((B.add h q l).N = B.N ∨ (B.add h q l).N = l) := by
    rw [b]
    split <;> omega
  refine ⟨by omega, by omega, by omega, bN.2.2.1, fun i hi => ?_, fun i hi => ?_, fun i hi => ?_, fun i hi => ?_, fun k k1 k2 => ?_⟩
  · show -1 ≤ if i = B.n then h else B.h i
    split
    · exact h0
    · exact ok.h0 i (by omega)
  · show (if i = B.n then h else B.h i) < i
    split
    · omega
    · exact ok.h1 i (by omega)
  · show Bd 210 (if i = B.n then q else B.m i)
    split
    · exact hq
    · exact ok.m i (by omega)
  · show (if i = B.n then l else B.l i) ≤ _
    split
    · exact bN.2.1
    · exact Nat.le_trans (ok.l i (by omega)) bN.1
  · by_cases c : k ≤ B.N
    · obtain ⟨i, hi, e⟩ := ok.all k k1 c
      refine ⟨i, by omega, ?_⟩
      show (if i = B.n then l else B.l i) = k
      rw [if_neg (by omega), e]
    · refine ⟨B.n, by omega, ?_⟩
      show (if B.n = B.n then l else B.l B.n) = k
      rw [if_pos rfl]
      omega
/-! loops that end or fail, the hand left alone -/
theorem for_same {g : GM} {body : MS} (I : Env' → Prop) {s : Hd} : ∀ (ds : List Dt) (ρ : Env'), I ρ → (∀ d ∈ ds, ∀ ρ, I ρ → ∃ ρ1 ρ2, g d ρ = some ρ1 ∧ body ρ1 s = .ok (.nx ρ2) s ∧ I ρ2) → ∃ ρ', loopF g body ds ρ s = .ok (.nx ρ') s ∧ I ρ'
  | [], ρ, h, _ => ⟨ρ, rfl, h⟩
  | d :: ds, ρ, h, hs => by
    obtain ⟨ρ1, ρ2, a, b, c⟩ := hs d (List.mem_cons_self ..) ρ h
    obtain ⟨ρ', e, i⟩ := for_same I ds ρ2 c fun d hd => hs d (List.mem_cons_of_mem _ hd)
    exact ⟨ρ', loop_nx a b e, i⟩
theorem for_fail {g : GM} {body : MS} (I : Env' → Prop) {s : Hd} {c : Str} {fs : List (Str × Dt)} {x : Dt} (hx : ∀ ρ, I ρ → ∃ ρ1 ρ2, g x ρ = some ρ1 ∧ body ρ1 s = .err c fs ρ2 s) : ∀ (ds : List Dt) (ρ : Env'), I ρ → (∀ d ∈ ds, ∀ ρ, I ρ → ∃ ρ1 ρ2, g d ρ = some ρ1 ∧ body ρ1 s = .ok (.nx ρ2) s ∧ I ρ2) → ∃ ρ', loopF g body (ds ++ [x]) ρ s = .err c fs ρ' s
  | [], ρ, h, _ => by
    obtain ⟨ρ1, ρ2, a, b⟩ := hx ρ h
    exact ⟨ρ2, loop_err a b⟩
  | d :: ds, ρ, h, hs => by
    obtain ⟨ρ1, ρ2, a, b, e⟩ := hs d (List.mem_cons_self ..) ρ h
    obtain ⟨ρ', e2⟩ := for_fail I hx ds ρ2 e fun d hd => hs d (List.mem_cons_of_mem _ hd)
    exact ⟨ρ', loop_nx a b e2⟩
theorem enum_app : ∀ (xs : List Dt) (k : Nat) (x : Dt), enumD k (xs ++ [x]) = enumD k xs ++ [.tup [.int ((k + xs.length : Nat) : Int), x]]
  | [], k, x => rfl
  | y :: xs, k, x => by
    show _ :: enumD (k + 1) (xs ++ [x]) = _
    rw [enum_app xs (k + 1) x]
    show _ = _ :: (enumD (k + 1) xs ++ _)
    rw [List.length_cons, show k + 1 + xs.length = k + (xs.length + 1) by omega]
abbrev err2 (k : Int) (w : Str) : List (Str × Dt) := [("what", .str w), ("index", .int k)]
end Law


set_option Elab.async false
set_option linter.all false
set_option maxRecDepth 100000
namespace Law
open PySem PySem.Spec PyProof.Rows L2 Mir
theorem in_any (k : Int) (l : List Int) : fIn (.int k) (.lst (l.map Dt.int)) = some (.bl (decide (k ∈ l))) := by
  have a : ((l.map PyData.int).any fun z => PyData.eqv z (.int k)) = decide (k ∈ l) := by
    induction l with
    | nil => simp
    | cons i l ih =>
      simp only [List.map_cons, List.any_cons, ih, PyData.eqv, List.mem_cons]
      by_cases c : i = k
      · simp [c]
      · have c2 : ¬ k = i := fun e => c e.symm
        simp [c, c2]
  have b : fInB (.int k) (.lst (l.map Dt.int)) = some (decide (k ∈ l)) := by
    unfold fInB
    simp only [py_int, py_ints, Option.bind_some, a]
  unfold fIn
  rw [b]
  rfl
section
variable {B : Bars} (ok : B.Ok)
include ok
theorem enum_old {ds : List Dt} {d : Dt} (h : d ∈ enumD 0 B.row) : ∃ i : Nat, i < B.n ∧ d = .tup [.int (i : Nat), B.bar i] := by
  rw [enum_row ok] at h
  obtain ⟨i, hi, e⟩ := List.mem_map.1 h
  exact ⟨i, List.mem_range.1 hi, e.symm⟩
theorem enum_more (x : Dt) : enumD 0 (B.row ++ [x]) = enumD 0 B.row ++ [.tup [.int (B.n : Nat), x]] := by
  rw [enum_app, bars_len, Nat.zero_add]
abbrev cbBody : MS := mDrop (mCall 2 [] m__check_bar (mCons (mVar 1) (mCons (mVar 2) mNil)))
abbrev cbG : GM := gmSeq 2 (gmCons (gmName 1) (gmCons (gmName 2) gmNil))
theorem old_step {D d : Dt} (h : d ∈ enumD 0 B.row) {ρ : Env'} (hI : ∃ (x1 x2 : Sl), ρ = [.dat D, x1, x2]) (s : Hd) : ∃ ρ1 ρ2, cbG d ρ = some ρ1 ∧ cbBody ρ1 s = .ok (.nx ρ2) s ∧ ∃ (x1 x2 : Sl), ρ2 = [.dat D, x1, x2] := by
  obtain ⟨x1, x2, rfl⟩ := hI
  obtain ⟨i, hi, rfl⟩ := enum_old ok (ds := []) h
  have e := check_bar_ok ok hi s
  exact ⟨[.dat D, .dat (.int (i : Nat)), .dat (B.bar i)], [.dat D, .dat (.int (i : Nat)), .dat (B.bar i)], rfl, es_drop (by sizeOf_list_dec), _, _, rfl⟩
theorem en_more (x : Dt) (s : Hd) : mEnum (mVar 0) [.dat (.tup (B.row ++ [x])), .no, .no] s = .ok (enumD 0 B.row ++ [.tup [.int (B.n : Nat), x]]) s := by
  unfold mEnum
  rw [ev_var (ρ := [.dat (.tup (B.row ++ [x])), .no, .no]) (i := 0) (d := .tup (B.row ++ [x])) rfl]
  have q : seqD (.tup (B.row ++ [x])) = some (B.row ++ [x]) := rfl
  simp only [R.bind_ok, q]
  rw [enum_more ok]
theorem row_more (n5 : B.n < 6) (x : Dt) (s : Hd) : m_is_row [.tup (B.row ++ [x]), .int 1, .int 6] s = .ok (.bl true) s :=
  row_ok (ds := B.row ++ [x]) (i2_tup _) rfl (by rw [List.length_append, bars_len]; simp; omega) (by rw [List.length_append, bars_len]; simp; omega) s
theorem bars_more (n5 : B.n < 6) {x : Dt} {s : Hd} (hx : m__check_bar [.int (B.n : Nat), x] s = .ok .non s) : m__check_bars [.tup (B.row ++ [x])] s = .ok .non s := by
  have e1 := row_more ok n5 x s
  have en := en_more ok x s
  generalize Dt.tup (B.row ++ [x]) = D at *
  obtain ⟨ρ', hl, x1, x2, rfl⟩ := for_same (g := cbG) (body := cbBody) (s := s) (fun ρ => ∃ (x1 x2 : Sl), ρ = [.dat D, x1, x2]) (enumD 0 B.row ++ [.tup [.int (B.n : Nat), x]]) [.dat D, .no, .no] ⟨_, _, rfl⟩ (fun d hd ρ hI => by
    rcases List.mem_append.1 hd with h | h
    · exact old_step ok h hI s
    · obtain rfl := List.mem_singleton.1 h
      obtain ⟨x1, x2, rfl⟩ := hI
      exact ⟨[.dat D, .dat (.int (B.n : Nat)), .dat x], [.dat D, .dat (.int (B.n : Nat)), .dat x], rfl, es_drop (by sizeOf_list_dec), _, _, rfl⟩)
  have tt : fTru (.bl true) = some true := rfl
  refine es_def_nx (ρ := [.dat D, .no, .no]) (ρ1 := [.dat D, x1, x2]) rfl ?_
  unfold b__check_bars
  refine es_seq (es_if_f (by array_mem_dec) es_next) ?_
  exact es_for en hl
theorem bars_bad (n5 : B.n < 6) {x : Dt} {s : Hd} {fs : List (Str × Dt)} (hx : ∃ ρ, m__check_bar [.int (B.n : Nat), x] s = .err "BadArms" fs ρ s) : ∃ ρ, m__check_bars [.tup (B.row ++ [x])] s = .err "BadArms" fs ρ s := by
  obtain ⟨ρx, hx⟩ := hx
  have e1 := row_more ok n5 x s
  have en := en_more ok x s
  generalize Dt.tup (B.row ++ [x]) = D at *
  obtain ⟨ρ', hl⟩ := for_fail (g := cbG) (body := cbBody) (s := s) (c := "BadArms") (fs := fs) (x := .tup [.int (B.n : Nat), x]) (fun ρ => ∃ (x1 x2 : Sl), ρ = [.dat D, x1, x2]) (fun ρ hI => by
    obtain ⟨x1, x2, rfl⟩ := hI
    exact ⟨[.dat D, .dat (.int (B.n : Nat)), .dat x], _, rfl, es_drop_e (ev_call0_e (by sizeOf_list_dec) rfl hx)⟩) (enumD 0 B.row) [.dat D, .no, .no] ⟨_, _, rfl⟩ (fun d hd ρ hI => old_step ok hd hI s)
  have tt : fTru (.bl true) = some true := rfl
  refine ⟨ρ', es_def_err (ρ := [.dat D, .no, .no]) rfl ?_⟩
  unfold b__check_bars
  refine es_seq (es_if_f (by array_mem_dec) es_next) ?_
  exact es_for en hl
theorem many_bad (n6 : B.n = 6) (x : Dt) (s : Hd) : ∃ ρ, m__check_bars [.tup (B.row ++ [x])] s = .err "BadArms" (err2 0 "many") ρ s := by
  have e1 := row_lf (ds := B.row ++ [x]) (lo := 1) (hi := 6) (by rw [List.length_append, bars_len]; simp; omega) s
  generalize Dt.tup (B.row ++ [x]) = D at *
  have tt : fTru (.bl false) = some false := rfl
  refine ⟨[.dat D, .no, .no], es_def_err (ρ := [.dat D, .no, .no]) rfl ?_⟩
  unfold b__check_bars
  exact es_seq_err (es_if_t (by array_mem_dec) (es_raise (ev_cons ev_c (ev_cons ev_c ev_nil)) (by simp)))
end
/-! a bar that is none -/
theorem host_bad {n : Nat} {a b c : Dt} {s : Hd} (h : m_is_whole [a, .int (-1), .int ((n : Int) - 1)] s = .ok (.bl false) s) : ∃ ρ, m__check_bar [.int (n : Nat), .tup [a, b, c]] s = .err "BadArms" (err2 n "host") ρ s := by
  have e1 : m_is_row [.tup [a, b, c], .int 3, .int 3] s = .ok (.bl true) s := row_ok (ds := [a, b, c]) (i2_tup _) rfl (by simp) (by simp) s
  have tt : fTru (.bl true) = some true := rfl
  have tf : fTru (.bl false) = some false := rfl
  refine ⟨[.dat (.int n), .dat (.tup [a, b, c]), .dat a, .dat b, .dat c], es_def_err (ρ := [.dat (.int n), .dat (.tup [a, b, c]), .no, .no, .no]) rfl ?_⟩
  unfold b__check_bar
  refine es_seq (es_if_f (by array_mem_dec) es_next) ?_
  refine es_seq (ρ1 := [.dat (.int n), .dat (.tup [a, b, c]), .dat a, .dat b, .dat c]) (s1 := s) (es_asg (ev_var rfl) rfl) ?_
  exact es_seq_err (es_if_t (by array_mem_dec) (es_raise (ev_cons (ev_var rfl) (ev_cons ev_c ev_nil)) (by simp)))
theorem mark_bad {n : Nat} {a b c : Dt} {s : Hd} (h : m_is_whole [a, .int (-1), .int ((n : Int) - 1)] s = .ok (.bl true) s) (h2 : m_is_ratio [b] s = .ok (.bl false) s) : ∃ ρ, m__check_bar [.int (n : Nat), .tup [a, b, c]] s = .err "BadArms" (err2 n "mark") ρ s := by
  have e1 : m_is_row [.tup [a, b, c], .int 3, .int 3] s = .ok (.bl true) s := row_ok (ds := [a, b, c]) (i2_tup _) rfl (by simp) (by simp) s
  have tt : fTru (.bl true) = some true := rfl
  have tf : fTru (.bl false) = some false := rfl
  refine ⟨[.dat (.int n), .dat (.tup [a, b, c]), .dat a, .dat b, .dat c], es_def_err (ρ := [.dat (.int n), .dat (.tup [a, b, c]), .no, .no, .no]) rfl ?_⟩
  unfold b__check_bar
  refine es_seq (es_if_f (by array_mem_dec) es_next) ?_
  refine es_seq (ρ1 := [.dat (.int n), .dat (.tup [a, b, c]), .dat a, .dat b, .dat c]) (s1 := s) (es_asg (ev_var rfl) rfl) ?_
  refine es_seq (es_if_f (by array_mem_dec) es_next) ?_
  exact es_seq_err (es_if_t (by array_mem_dec) (es_raise (ev_cons (ev_var rfl) (ev_cons ev_c ev_nil)) (by simp)))
theorem letter_bad {n : Nat} {a b c : Dt} {s : Hd} (h : m_is_whole [a, .int (-1), .int ((n : Int) - 1)] s = .ok (.bl true) s) (h2 : m_is_ratio [b] s = .ok (.bl true) s) (h3 : m_is_whole [c, .int 0, .int 4] s = .ok (.bl false) s) : ∃ ρ, m__check_bar [.int (n : Nat), .tup [a, b, c]] s = .err "BadArms" (err2 n "letter") ρ s := by
  have e1 : m_is_row [.tup [a, b, c], .int 3, .int 3] s = .ok (.bl true) s := row_ok (ds := [a, b, c]) (i2_tup _) rfl (by simp) (by simp) s
  have tt : fTru (.bl true) = some true := rfl
  have tf : fTru (.bl false) = some false := rfl
  refine ⟨[.dat (.int n), .dat (.tup [a, b, c]), .dat a, .dat b, .dat c], es_def_err (ρ := [.dat (.int n), .dat (.tup [a, b, c]), .no, .no, .no]) rfl ?_⟩
  unfold b__check_bar
  refine es_seq (es_if_f (by array_mem_dec) es_next) ?_
  refine es_seq (ρ1 := [.dat (.int n), .dat (.tup [a, b, c]), .dat a, .dat b, .dat c]) (s1 := s) (es_asg (ev_var rfl) rfl) ?_
  refine es_seq (es_if_f (by array_mem_dec) es_next) ?_
  refine es_seq (es_if_f (by array_mem_dec) es_next) ?_
  exact es_if_t (by array_mem_dec) (es_raise (ev_cons (ev_var rfl) (ev_cons ev_c ev_nil)) (by simp))
theorem bar_good {n : Nat} {a b c : Dt} {s : Hd} (h : m_is_whole [a, .int (-1), .int ((n : Int) - 1)] s = .ok (.bl true) s) (h2 : m_is_ratio [b] s = .ok (.bl true) s) (h3 : m_is_whole [c, .int 0, .int 4] s = .ok (.bl true) s) : m__check_bar [.int (n : Nat), .tup [a, b, c]] s = .ok .non s := by
  have e1 : m_is_row [.tup [a, b, c], .int 3, .int 3] s = .ok (.bl true) s := row_ok (ds := [a, b, c]) (i2_tup _) rfl (by simp) (by simp) s
  have tt : fTru (.bl true) = some true := rfl
  refine es_def_nx (ρ := [.dat (.int n), .dat (.tup [a, b, c]), .no, .no, .no]) (ρ1 := [.dat (.int n), .dat (.tup [a, b, c]), .dat a, .dat b, .dat c]) rfl ?_
  unfold b__check_bar
  refine es_seq (es_if_f (by array_mem_dec) es_next) ?_
  refine es_seq (ρ1 := [.dat (.int n), .dat (.tup [a, b, c]), .dat a, .dat b, .dat c]) (s1 := s) (es_asg (ev_var rfl) rfl) ?_
  refine es_seq (es_if_f (by array_mem_dec) es_next) ?_
  refine es_seq (es_if_f (by array_mem_dec) es_next) ?_
  exact es_if_f (by array_mem_dec) es_next
/-- a letter is left out -/
theorem gap_bad {C : Bars} {M k : Nat} (n6 : C.n ≤ 6) (M4 : M ≤ 10) (hm : ∀ i, i < C.n → C.l i ≤ M) (hx : ∃ i, i < C.n ∧ C.l i = M) (k1 : 1 ≤ k) (k2 : k ≤ M) (hk : ∀ i, i < C.n → C.l i ≠ k) (s : Hd) : ∃ ρ, m__count_letters [.tup C.row] s = .err "BadArms" (err2 0 "gap") ρ s := by
  have z : mSeqI (mVar 0) [.dat (.tup C.row), .no, .no, .no, .no] s = .ok C.row s := ev_seqI (ev_var rfl) rfl
  obtain ⟨i, hi, ei⟩ := hx
  have lc : mLc (gmName 2) (mSeqI (mVar 0)) mYes (mOp fIx (mVar 2) (mC (.int 2))) [2] [.dat (.tup C.row), .no, .no, .no, .no] s = .ok (.lst ((List.range C.n).map fun i => Dt.int ((C.l i : Nat) : Int))) s :=
    ev_lc z (lc_map (ρ := [.dat (.tup C.row), .no, .no, .no, .no]) C.bar (fun i => .int (C.l i : Nat)) (List.range C.n) (by rw [List.length_range]; omega) fun j hj => ⟨[.dat (.tup C.row), .no, .dat (C.bar j), .no, .no], rfl, by
      have e6 : fIx (C.bar j) (.int 2) = some (.int (C.l j)) := rfl
      sizeOf_list_dec⟩)
  have mx : mCB fMax (mCons (mVar 1) mNil) [.dat (.tup C.row), .dat (.lst ((List.range C.n).map fun i => Dt.int ((C.l i : Nat) : Int))), .no, .no, .no] s = .ok (.int (M : Nat)) s := max_of (n := C.n) (f := fun i => (C.l i : Int)) (ev_var rfl) (fun i hi => by have := hm i hi; omega) ⟨i, hi, by omega⟩
  have f0 := feq_f (M : Int) 0 (by omega)
  have rg : mRng2 (mC (.int 1)) (mOp fAdd (mVar 3) (mC (.int 1))) [.dat (.tup C.row), .dat (.lst ((List.range C.n).map fun i => Dt.int ((C.l i : Nat) : Int))), .no, .dat (.int (M : Nat)), .no] s = .ok (rangeD 1 M) s := rng2_of (i := 1) (j := (M : Int) + 1) M ev_c (ev_op (ev_var rfl) ev_c rfl) (by omega) (by omega) (by omega) (by omega)
  have al := all_of (bs := (List.range M).map fun (j : Nat) => decide ((1 + (j : Int)) ∈ (List.range C.n).map fun i => ((C.l i : Nat) : Int))) (by
    rw [List.map_map]
    exact ev_lc rg (lc_range (g := gmName 4) (a := mOp fIn (mVar 4) (mVar 1)) (vs := [4]) (fun (j : Nat) => .bl (decide ((1 + (j : Int)) ∈ (List.range C.n).map fun i => ((C.l i : Nat) : Int)))) (by omega) fun j hj => ⟨_, rfl, by
      have r := in_any (1 + (j : Int)) ((List.range C.n).map fun i => ((C.l i : Nat) : Int))
      rw [List.map_map] at r
      exact ev_op (ev_var rfl) (ev_var rfl) r⟩))
  have tr : ((List.range M).map fun (j : Nat) => decide ((1 + (j : Int)) ∈ (List.range C.n).map fun i => ((C.l i : Nat) : Int))).all id = false := by
    rw [List.all_map, List.all_eq_false]
    refine ⟨k - 1, List.mem_range.2 (by omega), ?_⟩
    simp only [Function.comp, id]
    rw [decide_eq_true_eq]
    intro h
    obtain ⟨t, ht, e⟩ := List.mem_map.1 h
    exact hk t (List.mem_range.1 ht) (by omega)
  rw [tr] at al
  refine ⟨[.dat (.tup C.row), .dat (.lst ((List.range C.n).map fun i => Dt.int ((C.l i : Nat) : Int))), .no, .dat (.int (M : Nat)), .no], es_def_err (ρ := [.dat (.tup C.row), .no, .no, .no, .no]) rfl ?_⟩
  unfold b__count_letters
  refine es_seq (es_set lc) ?_
  refine es_seq (es_set mx) ?_
  exact es_seq_err (es_if_t (ev_or_f (ev_test (by sizeOf_list_dec)) (ev_not_t (ev_tru al rfl))) (es_raise (ev_cons ev_c (ev_cons ev_c ev_nil)) (by simp)))
theorem es_init_err {n : Nat} {cl c : Str} {ms : MS} {ds : List Dt} {ρ ρ1 : Env'} {s s1 : Hd} {fs : List (Str × Dt)} (hρ : startI n cl ds = ρ) (h : ms ρ s = .err c fs ρ1 s1) : mInit n cl ms ds s = .err c fs ρ1 s1 := by
  unfold mInit
  rw [hρ, h]
theorem init_bad1 {D : Dt} {s : Hd} {fs : List (Str × Dt)} (h : ∃ ρ, m__check_bars [D] s = .err "BadArms" fs ρ s) : ∃ ρ, m_Arms____init__ [D] s = .err "BadArms" fs ρ s := by
  obtain ⟨ρ, h⟩ := h
  refine ⟨[.slf "Arms" [], .dat D, .no], es_init_err (ρ := [.slf "Arms" [], .dat D, .no]) rfl ?_⟩
  unfold b_Arms____init__
  exact es_seq_err (es_drop_e (ev_call0_e (ev_cons (ev_var rfl) ev_nil) rfl h))
theorem es_fld_e {i : Nat} {cs : List Str} {f : Str} {a : ME} {ρ ρ1 : Env'} {s s1 : Hd} {c : Str} {fs : List (Str × Dt)} (h : a ρ s = .err c fs ρ1 s1) : mFld i cs f a ρ s = .err c fs ρ1 s1 := by
  unfold mFld
  rw [h]
  rfl
theorem init_bad2 {D : Dt} {s : Hd} {fs : List (Str × Dt)} (h0 : m__check_bars [D] s = .ok .non s) (h : ∃ ρ, m__count_letters [D] s = .err "BadArms" fs ρ s) : ∃ ρ, m_Arms____init__ [D] s = .err "BadArms" fs ρ s := by
  obtain ⟨ρ, h⟩ := h
  refine ⟨[.slf "Arms" [], .dat D, .no], es_init_err (ρ := [.slf "Arms" [], .dat D, .no]) rfl ?_⟩
  unfold b_Arms____init__
  refine es_seq (es_drop (by sizeOf_list_dec)) ?_
  exact es_seq_err (es_fld_e (ev_call0_e (ev_cons (ev_var rfl) ev_nil) rfl h))
end Law


set_option Elab.async false
set_option linter.all false
set_option maxRecDepth 100000
namespace Law
open PySem PySem.Spec PyProof.Rows L2 Mir
section
variable {B : Bars} (ok : B.Ok)
include ok
theorem add_bars (x : Dt) : fAdd B.d (.tup [x]) = some (.tup (B.row ++ [x])) := by
  have n1 := ok.n1
  have n6 := ok.n6
  have l := bars_len B
  show (if B.row ≠ [] ∧ Mir.sizeOk (B.row.length + [x].length) then _ else _) = _
  rw [if_pos ⟨fun e => by rw [e] at l; simp at l; omega, by show B.row.length + 1 ≤ 100000; omega⟩]
theorem lk_with (y d : Dt) : List.lookup ("with_bar" : Str) [(("letters" : Str), y), (("bars" : Str), d)] = none := lk_none (by decide +kernel) (by decide +kernel) y d
/-! each wrong bar -/
theorem whole_host {h : Int} (h0 : -1 ≤ h) (h1 : h < B.n) (s : Hd) : m_is_whole [.int h, .int (-1), .int ((B.n : Int) - 1)] s = .ok (.bl true) s := by
  rw [is_whole_both, decide_eq_true h0, decide_eq_true (show h ≤ (B.n : Int) - 1 by omega)]; rfl
end
/-! ### the law's own -/
/-- tuples throughout, whatever their depth -/
def tpL : Nat → Dt → Bool
  | _, .int _ => true
  | n + 1, .tup ds => decide (ds.length ≤ 1000) && ds.all (tpL n)
  | _, _ => false
theorem tup_recL : ∀ (t n : Nat) (d : Dt), tpL n d = true → n < t → ∀ s : Hd, rec__law_tuples t [d] s = .ok (.bl true) s
  | 0, n, d, _, ht, s => by omega
  | t + 1, n, d, h, ht, s => by
    cases d with
    | int i => exact int_step i s
    | tup ds =>
      cases n with
      | zero => simp [tpL] at h
      | succ n =>
        simp only [tpL, Bool.and_eq_true, List.all_eq_true] at h
        exact tup_step (fun e he s => tup_recL t n e (h.2 e he) (by omega) s) (of_decide_eq_true h.1) s
    | _ => cases n <;> simp [tpL] at h
theorem tuples_ok {n : Nat} {d : Dt} (h : tpL n d = true) (hn : n < 16) (s : Hd) : m__law_tuples [d] s = .ok (.bl true) s := tup_recL 16 n d h hn s
theorem tp_bar (B : Bars) (i : Nat) : tpL 2 (B.bar i) = true := by
  rfl
section
variable {B : Bars} (ok : B.Ok)
include ok
end
end Law


set_option Elab.async false
set_option linter.all false
set_option maxRecDepth 100000
namespace Law
open PySem PySem.Spec PyProof.Rows L2 Mir
theorem ep_none {ρ : Env'} {s : Hd} : mPartN ρ s = .ok none s := rfl
theorem ep_some {a : ME} {ρ : Env'} {s s1 : Hd} {i : Int} (h : a ρ s = .ok (.int i) s1) : mPart a ρ s = .ok (some i) s1 := by
  unfold mPart
  rw [h]
  rfl
theorem ev_sl {a : ME} {l u : MO} {ρ : Env'} {s s1 s2 s3 : Hd} {d r : Dt} {lo hi : Option Int} (h : a ρ s = .ok d s1) (hl : l ρ s1 = .ok lo s2) (hu : u ρ s2 = .ok hi s3) (hf : fSl d lo hi = some r) : mSl a l u ρ s = .ok r s3 := by
  unfold mSl
  rw [h]
  simp only [R.bind_ok]
  rw [hl]
  simp only [R.bind_ok]
  rw [hu]
  simp only [R.bind_ok]
  rw [hf]
  rfl
theorem sl_tail {xs : List Dt} (h : 1 ≤ xs.length) : fSl (.tup xs) (some 1) none = some (.tup (xs.drop 1)) := by
  have e1 : HT.sIx xs.length 0 (some 1) = 1 := by
    rw [show HT.sIx xs.length 0 (some 1) = min 1 xs.length from HT.sIx_nat _ 0 1]
    omega
  have e2 : HT.sIx xs.length xs.length none = xs.length := HT.sIx_none _ _
  show some (Dt.tup (Mir.cutD xs (some 1) none)) = _
  unfold Mir.cutD
  rw [e1, e2, List.take_of_length_le (by simp)]
theorem sl_init (xs : List Dt) : fSl (.tup xs) none (some (-1)) = some (.tup (xs.take (xs.length - 1))) := by
  have e1 : HT.sIx xs.length 0 none = 0 := rfl
  have e2 : HT.sIx xs.length xs.length (some (-1)) = xs.length - 1 := by
    show (if (-1 : Int) < 0 then ((-1 : Int) + (xs.length : Int)).toNat else min (-1 : Int).toNat xs.length) = _
    rw [if_pos (by decide)]
    omega
  show some (Dt.tup (Mir.cutD xs none (some (-1)))) = _
  unfold Mir.cutD
  rw [e1, e2, List.drop_zero]
  rfl
/-! orders drawn -/
def sig (i o t : Nat) : Nat := if t = o then i else if t = i then o else t
theorem swG_sig (g : Nat → Nat) (i o t : Nat) : swG g i o t = g (sig i o t) := by
  unfold swG sig
  split
  · rfl
  · split <;> rfl
theorem ord_sw {N i o : Nat} {g : Nat → Nat} (h : Ord N g) (hi : i < N) (ho : o < N) : Ord N (swG g i o) := by
  have lt : ∀ t, t < N → sig i o t < N := fun t ht => by
    unfold sig
    split
    · exact hi
    · split
      · exact ho
      · exact ht
  have inv : ∀ t, sig i o (sig i o t) = t := fun t => by
    unfold sig
    by_cases c : t = o
    · rw [if_pos c]
      by_cases c2 : i = o
      · rw [if_pos c2]; omega
      · rw [if_neg c2, if_pos rfl]; omega
    · rw [if_neg c]
      by_cases c2 : t = i
      · rw [if_pos c2, if_pos rfl]; omega
      · rw [if_neg c2, if_neg c, if_neg c2]
  refine ⟨fun k hk => ?_, fun k hk => ?_, fun a b ha hb e => ?_, fun k k1 k2 => ?_⟩
  · rw [swG_sig]
    exact h.a _ (lt k hk)
  · rw [swG_sig]
    exact h.b _ (lt k hk)
  · rw [swG_sig, swG_sig] at e
    have q := h.inj _ _ (lt a ha) (lt b hb) e
    rw [← inv a, ← inv b, q]
  · obtain ⟨t, ht, e⟩ := h.onto k k1 k2
    exact ⟨sig i o t, lt t ht, by rw [swG_sig, inv, e]⟩
def ordBody : MS := (mSeq (mSet 4 (mCall 2 [] m__law_take (mCons (mVar 0) (mCons (mOp fAdd (mVar 3) (mC (.int 1))) mNil))))
    (mSwp 2 (mVar 3) (mVar 4) (mIxO 2 (mVar 4)) (mIxO 2 (mVar 3))))
theorem ord_step {N : Nat} {g : Nat → Nat} (hg : Ord N g) {i : Nat} (hi : i < N) (hm : N ≤ 6) (x4 : Sl) (x : Int) (hx : x = i) (s : Hd) : ∃ (g' : Nat → Nat) (x4' : Sl) (s' : Hd), ordBody [.dat .hnd, .dat (.int N), .own (fD dn N g), .dat (.int x), x4] s = .ok (.nx [.dat .hnd, .dat (.int N), .own (fD dn N g'), .dat (.int x), x4']) s' ∧ Ord N g' := by
  subst hx
  have mk : manyOk ((i : Int) + 1) := ⟨by omega, by
    have : ((i : Int) + 1).natAbs < 2 ^ 3 := by omega
    have := PySem.Flt.log2_lt_of (Nat.succ_pos 2) this
    omega⟩
  have t := take_ok s mk
  have g0 := takeV_ge (s := s) (n := (i : Int) + 1) (by omega)
  have g1 := takeV_lt (s := s) (n := (i : Int) + 1) (by omega)
  generalize takeV s ((i : Int) + 1) = v at *
  generalize takeS s ((i : Int) + 1) = s1 at *
  obtain ⟨o, rfl⟩ : ∃ o : Nat, v = o := ⟨v.toNat, by omega⟩
  have ho : o < N := by omega
  have a1 : atI (fD dn N g) (o : Int) = some (dn (g o)) := fD_at (by omega) (by omega)
  have a2 : atI (fD dn N g) (i : Int) = some (dn (g i)) := fD_at (by omega) (by omega)
  have ix : ∀ j : Nat, j < N → ixN (fD dn N g).length (j : Int) = some j := fun j hj => by
    unfold ixN
    rw [if_pos (by omega), fD_len, if_pos (by omega)]
    rfl
  have e : ((fD dn N g).set i (dn (g o))).set o (dn (g i)) = fD dn N (swG g i o) := by
    rw [fD_set hi, fD_set ho]
    refine fD_congr fun t ht => ?_
    rfl
  refine ⟨swG g i o, .dat (.int o), s1, ?_, ord_sw hg hi ho⟩
  refine es_seq (es_set (by sizeOf_list_dec)) ?_
  refine (es_swp (ds := fD dn N g) (d1 := dn (g o)) (d2 := dn (g i)) (k1 := i) (k2 := o) (j1 := i) (j2 := o) rfl (ev_ixo_own (ds := fD dn N g) (k := o) rfl (ev_var rfl) a1) (ev_ixo_own (ds := fD dn N g) (k := i) rfl (ev_var rfl) a2) (ev_var rfl) (ix i hi) (ev_var rfl) (ix o ho)).trans ?_
  rw [e]
  rfl
section
variable {B : Bars} (ok : B.Ok)
include ok
end
/-! wrong orders -/
theorem fD_length {N : Nat} {g : Nat → Nat} : (fD dn N g).length = N := fD_len
def isI : Dt → Bool
  | .int _ => true
  | _ => false
theorem whole_isI {d : Dt} (h : (∃ i, d = .int i) ∨ (∃ b, d = .bl b) ∨ d = .non) (s : Hd) : m_is_whole [d, .non, .non] s = .ok (.bl (isI d)) s := by
  rcases h with ⟨i, rfl⟩ | ⟨b, rfl⟩ | rfl
  · exact is_whole_int i s
  · exact is_whole_bl b _ _ s
  · exact is_whole_non _ _ s
section
variable {N : Nat} {g : Nat → Nat} (h1 : 1 ≤ N) (hN : N ≤ 6) (hg : Ord N g)
include h1 hN hg
theorem take_ints (k : Nat) (x : Int) : (fD dn N g).take k ++ [.int x] = ((gInt N g).take k ++ [x]).map Dt.int := by
  rw [gInt_fD, ← List.map_take, List.map_append]
  rfl
end
end Law


set_option Elab.async false
set_option linter.all false
set_option maxRecDepth 100000
namespace Law
open PySem PySem.Spec PyProof.Rows L2 Mir
/-- a row of three, a tuple or a list -/
def Row3 (x a b c : Dt) : Prop := x = .tup [a, b, c] ∨ x = .lst [a, b, c]
theorem row_gf {d : Dt} {ds : List Dt} {lo hi : Int} (hd : fIsi2 "list" "tuple" d = some true) (hs : seqD d = some ds) (h : ¬ (lo ≤ ds.length ∧ (ds.length : Int) ≤ hi)) (s : Hd) : m_is_row [d, .int lo, .int hi] s = .ok (.bl false) s := by
  refine es_def (ρ := [.dat d, .dat (.int lo), .dat (.int hi)]) rfl ?_
  unfold b_is_row
  refine es_seq (es_if_f (ev_not_f (ev_tru (ev_isi2 (ev_var rfl) hd) rfl)) es_next) (es_ret ?_)
  have e1 : fLen [d] = some (.int ds.length) := by cases d <;> simp_all [seqD, fLen]
  by_cases c : lo ≤ ds.length
  · have e2 : fGe (.int ds.length) (.int lo) = some (.bl true) := by simp [fI]; omega
    have e3 : fLe (.int ds.length) (.int hi) = some (.bl false) := by simp [fI]; omega
    exact ev_andv_t (d := .bl true) (by sizeOf_list_dec) rfl (ev_orv_f (d := .bl false) (ev_op (ev_var rfl) ev_c rfl) rfl (by sizeOf_list_dec))
  · have e2 : fGe (.int ds.length) (.int lo) = some (.bl false) := by simp [fI]; omega
    exact ev_andv_f (by sizeOf_list_dec) rfl
theorem r3_row {x a b c : Dt} (h : Row3 x a b c) (s : Hd) : m_is_row [x, .int 3, .int 3] s = .ok (.bl true) s := by
  rcases h with rfl | rfl
  · exact row_ok (ds := [a, b, c]) (i2_tup _) rfl (by simp) (by simp) s
  · exact row_ok (ds := [a, b, c]) (i2_lst _) rfl (by simp) (by simp) s
theorem r3_asg {x a b c : Dt} {k : Dt} (h : Row3 x a b c) (s : Hd) : mAsg (gmSeq 3 (gmCons (gmName 2) (gmCons (gmName 3) (gmCons (gmName 4) gmNil)))) (mVar 1) [.dat k, .dat x, .no, .no, .no] s = .ok (.nx [.dat k, .dat x, .dat a, .dat b, .dat c]) s := by
  rcases h with rfl | rfl
  · exact es_asg (ev_var rfl) rfl
  · exact es_asg (ev_var rfl) rfl
section
variable {n : Nat} {a b c x : Dt} {s : Hd}
theorem cb_row (h : m_is_row [x, .int 3, .int 3] s = .ok (.bl false) s) : ∃ ρ, m__check_bar [.int (n : Nat), x] s = .err "BadArms" (err2 n "bar") ρ s := by
  have tf : fTru (.bl false) = some false := rfl
  refine ⟨[.dat (.int n), .dat x, .no, .no, .no], es_def_err (ρ := [.dat (.int n), .dat x, .no, .no, .no]) rfl ?_⟩
  unfold b__check_bar
  exact es_seq_err (es_if_t (by array_mem_dec) (es_raise (ev_cons (ev_var rfl) (ev_cons ev_c ev_nil)) (by simp)))
theorem cb_host (hx : Row3 x a b c) (h : m_is_whole [a, .int (-1), .int ((n : Int) - 1)] s = .ok (.bl false) s) : ∃ ρ, m__check_bar [.int (n : Nat), x] s = .err "BadArms" (err2 n "host") ρ s := by
  have e1 := r3_row hx s
  have tt : fTru (.bl true) = some true := rfl
  have tf : fTru (.bl false) = some false := rfl
  refine ⟨[.dat (.int n), .dat x, .dat a, .dat b, .dat c], es_def_err (ρ := [.dat (.int n), .dat x, .no, .no, .no]) rfl ?_⟩
  unfold b__check_bar
  refine es_seq (es_if_f (by array_mem_dec) es_next) ?_
  refine es_seq (r3_asg hx s) ?_
  exact es_seq_err (es_if_t (by array_mem_dec) (es_raise (ev_cons (ev_var rfl) (ev_cons ev_c ev_nil)) (by simp)))
theorem cb_mark (hx : Row3 x a b c) (h : m_is_whole [a, .int (-1), .int ((n : Int) - 1)] s = .ok (.bl true) s) (h2 : m_is_ratio [b] s = .ok (.bl false) s) : ∃ ρ, m__check_bar [.int (n : Nat), x] s = .err "BadArms" (err2 n "mark") ρ s := by
  have e1 := r3_row hx s
  have tt : fTru (.bl true) = some true := rfl
  have tf : fTru (.bl false) = some false := rfl
  refine ⟨[.dat (.int n), .dat x, .dat a, .dat b, .dat c], es_def_err (ρ := [.dat (.int n), .dat x, .no, .no, .no]) rfl ?_⟩
  unfold b__check_bar
  refine es_seq (es_if_f (by array_mem_dec) es_next) ?_
  refine es_seq (r3_asg hx s) ?_
  refine es_seq (es_if_f (by array_mem_dec) es_next) ?_
  exact es_seq_err (es_if_t (by array_mem_dec) (es_raise (ev_cons (ev_var rfl) (ev_cons ev_c ev_nil)) (by simp)))
theorem cb_letter (hx : Row3 x a b c) (h : m_is_whole [a, .int (-1), .int ((n : Int) - 1)] s = .ok (.bl true) s) (h2 : m_is_ratio [b] s = .ok (.bl true) s) (h3 : m_is_whole [c, .int 0, .int 4] s = .ok (.bl false) s) : ∃ ρ, m__check_bar [.int (n : Nat), x] s = .err "BadArms" (err2 n "letter") ρ s := by
  have e1 := r3_row hx s
  have tt : fTru (.bl true) = some true := rfl
  have tf : fTru (.bl false) = some false := rfl
  refine ⟨[.dat (.int n), .dat x, .dat a, .dat b, .dat c], es_def_err (ρ := [.dat (.int n), .dat x, .no, .no, .no]) rfl ?_⟩
  unfold b__check_bar
  refine es_seq (es_if_f (by array_mem_dec) es_next) ?_
  refine es_seq (r3_asg hx s) ?_
  refine es_seq (es_if_f (by array_mem_dec) es_next) ?_
  refine es_seq (es_if_f (by array_mem_dec) es_next) ?_
  exact es_if_t (by array_mem_dec) (es_raise (ev_cons (ev_var rfl) (ev_cons ev_c ev_nil)) (by simp))
theorem cb_good (hx : Row3 x a b c) (h : m_is_whole [a, .int (-1), .int ((n : Int) - 1)] s = .ok (.bl true) s) (h2 : m_is_ratio [b] s = .ok (.bl true) s) (h3 : m_is_whole [c, .int 0, .int 4] s = .ok (.bl true) s) : m__check_bar [.int (n : Nat), x] s = .ok .non s := by
  have e1 := r3_row hx s
  have tt : fTru (.bl true) = some true := rfl
  refine es_def_nx (ρ := [.dat (.int n), .dat x, .no, .no, .no]) (ρ1 := [.dat (.int n), .dat x, .dat a, .dat b, .dat c]) rfl ?_
  unfold b__check_bar
  refine es_seq (es_if_f (by array_mem_dec) es_next) ?_
  refine es_seq (r3_asg hx s) ?_
  refine es_seq (es_if_f (by array_mem_dec) es_next) ?_
  refine es_seq (es_if_f (by array_mem_dec) es_next) ?_
  exact es_if_f (by array_mem_dec) es_next
end
theorem wh_t {h n : Int} (h0 : -1 ≤ h) (h1 : h < n) (s : Hd) : m_is_whole [.int h, .int (-1), .int (n - 1)] s = .ok (.bl true) s := by
  rw [is_whole_both, decide_eq_true h0, decide_eq_true (show h ≤ n - 1 by omega)]; rfl
theorem wl_t {l : Nat} (h1 : l ≤ 4) (s : Hd) : m_is_whole [.int (l : Nat), .int 0, .int 4] s = .ok (.bl true) s := by
  rw [is_whole_both, decide_eq_true (show (0 : Int) ≤ (l : Nat) by omega), decide_eq_true (show ((l : Nat) : Int) ≤ 4 by omega)]; rfl
/-! ### rows of bars -/
theorem enum_app2 : ∀ (xs ys : List Dt) (k : Nat), enumD k (xs ++ ys) = enumD k xs ++ enumD (k + xs.length) ys
  | [], ys, k => rfl
  | x :: xs, ys, k => by
    show _ :: enumD (k + 1) (xs ++ ys) = _
    rw [enum_app2 xs ys (k + 1)]
    show _ = _ :: (enumD (k + 1) xs ++ _)
    rw [List.length_cons, show k + 1 + xs.length = k + (xs.length + 1) by omega]
theorem enum_mem : ∀ {xs : List Dt} {k : Nat} {d : Dt}, d ∈ enumD k xs → ∃ (i : Nat) (x : Dt), xs[i]? = some x ∧ d = .tup [.int ((k + i : Nat) : Int), x]
  | [], k, d, h => by cases h
  | x :: xs, k, d, h => by
    have h : d ∈ Dt.tup [.int (k : Nat), x] :: enumD (k + 1) xs := h
    rcases List.mem_cons.1 h with rfl | h
    · exact ⟨0, x, rfl, rfl⟩
    · obtain ⟨i, y, e1, e2⟩ := enum_mem h
      exact ⟨i + 1, y, e1, by rw [e2, show k + 1 + i = k + (i + 1) by omega]⟩
theorem for_fail2 {g : GM} {body : MS} (I : Env' → Prop) {s : Hd} {c : Str} {fs : List (Str × Dt)} {x : Dt} (hx : ∀ ρ, I ρ → ∃ ρ1 ρ2, g x ρ = some ρ1 ∧ body ρ1 s = .err c fs ρ2 s) (rest : List Dt) : ∀ (ds : List Dt) (ρ : Env'), I ρ → (∀ d ∈ ds, ∀ ρ, I ρ → ∃ ρ1 ρ2, g d ρ = some ρ1 ∧ body ρ1 s = .ok (.nx ρ2) s ∧ I ρ2) → ∃ ρ', loopF g body (ds ++ x :: rest) ρ s = .err c fs ρ' s
  | [], ρ, h, _ => by
    obtain ⟨ρ1, ρ2, a, b⟩ := hx ρ h
    exact ⟨ρ2, loop_err a b⟩
  | d :: ds, ρ, h, hs => by
    obtain ⟨ρ1, ρ2, a, b, e⟩ := hs d (List.mem_cons_self ..) ρ h
    obtain ⟨ρ', e2⟩ := for_fail2 I hx rest ds ρ2 e fun d hd => hs d (List.mem_cons_of_mem _ hd)
    exact ⟨ρ', loop_nx a b e2⟩
abbrev Good1 (xs : List Dt) : Prop := ∀ (i : Nat) (d : Dt), xs[i]? = some d → ∀ s, m__check_bar [.int (i : Nat), d] s = .ok .non s
theorem good_step {D : Dt} {xs : List Dt} (g : Good1 xs) {d : Dt} (h : d ∈ enumD 0 xs) {ρ : Env'} (hI : ∃ (x1 x2 : Sl), ρ = [.dat D, x1, x2]) (s : Hd) : ∃ ρ1 ρ2, cbG d ρ = some ρ1 ∧ cbBody ρ1 s = .ok (.nx ρ2) s ∧ ∃ (x1 x2 : Sl), ρ2 = [.dat D, x1, x2] := by
  obtain ⟨x1, x2, rfl⟩ := hI
  obtain ⟨i, x, hi, rfl⟩ := enum_mem h
  have e := g i x hi s
  rw [Nat.zero_add]
  exact ⟨[.dat D, .dat (.int (i : Nat)), .dat x], [.dat D, .dat (.int (i : Nat)), .dat x], rfl, es_drop (by sizeOf_list_dec), _, _, rfl⟩
theorem en_of {D : Dt} {xs : List Dt} (hs : seqD D = some xs) (s : Hd) : mEnum (mVar 0) [.dat D, .no, .no] s = .ok (enumD 0 xs) s := by
  unfold mEnum
  rw [ev_var (ρ := [.dat D, .no, .no]) (i := 0) (d := D) rfl]
  simp only [R.bind_ok, hs]
theorem bars_all {D : Dt} {xs : List Dt} (hD : fIsi2 "list" "tuple" D = some true) (hs : seqD D = some xs) (h1 : 1 ≤ xs.length) (h6 : xs.length ≤ 6) (g : Good1 xs) (s : Hd) : m__check_bars [D] s = .ok .non s := by
  have e1 : m_is_row [D, .int 1, .int 6] s = .ok (.bl true) s := row_ok hD hs (by omega) (by omega) s
  have en := en_of hs s
  obtain ⟨ρ', hl, x1, x2, rfl⟩ := for_same (g := cbG) (body := cbBody) (s := s) (fun ρ => ∃ (x1 x2 : Sl), ρ = [.dat D, x1, x2]) (enumD 0 xs) [.dat D, .no, .no] ⟨_, _, rfl⟩ (fun d hd ρ hI => good_step g hd hI s)
  have tt : fTru (.bl true) = some true := rfl
  refine es_def_nx (ρ := [.dat D, .no, .no]) (ρ1 := [.dat D, x1, x2]) rfl ?_
  unfold b__check_bars
  refine es_seq (es_if_f (by array_mem_dec) es_next) ?_
  exact es_for en hl
theorem bars_at {D x : Dt} {pre rest : List Dt} {fs : List (Str × Dt)} (hD : fIsi2 "list" "tuple" D = some true) (hs : seqD D = some (pre ++ x :: rest)) (h6 : pre.length + rest.length + 1 ≤ 6) (g : Good1 pre) (s : Hd)
    (hx : ∃ ρ, m__check_bar [.int (pre.length : Nat), x] s = .err "BadArms" fs ρ s) : ∃ ρ, m__check_bars [D] s = .err "BadArms" fs ρ s := by
  obtain ⟨ρx, hx⟩ := hx
  have hl : (pre ++ x :: rest).length = pre.length + rest.length + 1 := by simp; omega
  have e1 : m_is_row [D, .int 1, .int 6] s = .ok (.bl true) s := row_ok hD hs (by omega) (by omega) s
  have en := en_of hs s
  have ee : enumD 0 (pre ++ x :: rest) = enumD 0 pre ++ .tup [.int (pre.length : Nat), x] :: enumD (pre.length + 1) rest := by
    rw [enum_app2, Nat.zero_add]
    rfl
  rw [ee] at en
  obtain ⟨ρ', hl⟩ := for_fail2 (g := cbG) (body := cbBody) (s := s) (c := "BadArms") (fs := fs) (x := .tup [.int (pre.length : Nat), x]) (fun ρ => ∃ (x1 x2 : Sl), ρ = [.dat D, x1, x2]) (fun ρ hI => by
    obtain ⟨x1, x2, rfl⟩ := hI
    exact ⟨[.dat D, .dat (.int (pre.length : Nat)), .dat x], _, rfl, es_drop_e (ev_call0_e (by sizeOf_list_dec) rfl hx)⟩) (enumD (pre.length + 1) rest) (enumD 0 pre) [.dat D, .no, .no] ⟨_, _, rfl⟩ (fun d hd ρ hI => good_step g hd hI s)
  have tt : fTru (.bl true) = some true := rfl
  refine ⟨ρ', es_def_err (ρ := [.dat D, .no, .no]) rfl ?_⟩
  unfold b__check_bars
  refine es_seq (es_if_f (by array_mem_dec) es_next) ?_
  exact es_for en hl
theorem bars_many {D : Dt} (h : ∀ s, m_is_row [D, .int 1, .int 6] s = .ok (.bl false) s) (s : Hd) : ∃ ρ, m__check_bars [D] s = .err "BadArms" (err2 0 "many") ρ s := by
  have e1 := h s
  have tt : fTru (.bl false) = some false := rfl
  refine ⟨[.dat D, .no, .no], es_def_err (ρ := [.dat D, .no, .no]) rfl ?_⟩
  unfold b__check_bars
  exact es_seq_err (es_if_t (by array_mem_dec) (es_raise (ev_cons ev_c (ev_cons ev_c ev_nil)) (by simp)))
/-! ### what is made -/
theorem made_ok {D : Dt} {fs : List (Str × Dt)} {s : Hd} (h : m_Arms____init__ [D] s = .ok fs s) : m__law_made [D] s = .ok (.obj "Arms" fs) s := by
  refine es_def (ρ := [.dat D, .no]) rfl ?_
  unfold b__law_made
  exact es_tryas (es_ret (ev_make0 (ev_cons (ev_var rfl) ev_nil) rfl h))
theorem made_bad {D : Dt} {k : Int} {w : Str} {s : Hd} (h : ∃ ρ, m_Arms____init__ [D] s = .err "BadArms" (err2 k w) ρ s) : m__law_made [D] s = .ok (.tup [.int k, .str w]) s := by
  obtain ⟨ρ, e⟩ := h
  refine es_def (ρ := [.dat D, .no]) rfl ?_
  unfold b__law_made
  refine es_tryas_rt (es_ret_e (ev_make0_e (ev_cons (ev_var rfl) ev_nil) rfl e)) (by simp) ?_
  have ne : (("index" : Str) == ("what" : Str)) = false := by decide +kernel
  have l1 : List.lookup ("index" : Str) (err2 k w) = some (.int k) := by simp only [err2, List.lookup, ne, beq_self_eq_true]
  have l2 : List.lookup ("what" : Str) (err2 k w) = some (.str w) := by simp only [err2, List.lookup, beq_self_eq_true]
  simp [xRet, xTup, xCons, xFld, xNil, l1, l2]
end Law


set_option Elab.async false
set_option linter.all false
set_option maxRecDepth 100000
namespace Law
open PySem PySem.Spec PyProof.Rows L2 Mir
theorem r3_ix {x a b c : Dt} (h : Row3 x a b c) : fIx x (.int 2) = some c := by rcases h with rfl | rfl <;> rfl
section
variable {n : Nat} {x : Nat → Dt} {l : Nat → Nat} {D : Dt}
theorem used_lc (n6 : n ≤ 7) (hs : seqD D = some ((List.range n).map x)) (hx : ∀ i, i < n → fIx (x i) (.int 2) = some (.int (l i : Nat))) (s : Hd) : mLc (gmName 2) (mSeqI (mVar 0)) mYes (mOp fIx (mVar 2) (mC (.int 2))) [2] [.dat D, .no, .no, .no, .no] s = .ok (.lst ((List.range n).map fun i => Dt.int ((l i : Nat) : Int))) s :=
  ev_lc (ev_seqI (ev_var rfl) hs) (lc_map (ρ := [.dat D, .no, .no, .no, .no]) x (fun i => .int (l i : Nat)) (List.range n) (by rw [List.length_range]; omega) fun j hj => ⟨[.dat D, .no, .dat (x j), .no, .no], rfl, by
      have e6 := hx j (List.mem_range.1 hj)
      sizeOf_list_dec⟩)
theorem all_lc {N : Nat} (N4 : N ≤ 10) (s : Hd) : mCB fAll (mCons (mLc (gmName 4) (mRng2 (mC (.int 1)) (mOp fAdd (mVar 3) (mC (.int 1)))) mYes (mOp fIn (mVar 4) (mVar 1)) [4]) mNil) [.dat D, .dat (.lst ((List.range n).map fun i => Dt.int ((l i : Nat) : Int))), .no, .dat (.int (N : Nat)), .no] s = .ok (.bl ((List.range N).all fun (j : Nat) => decide ((1 + (j : Int)) ∈ (List.range n).map fun i => ((l i : Nat) : Int)))) s := by
  have rg : mRng2 (mC (.int 1)) (mOp fAdd (mVar 3) (mC (.int 1))) [.dat D, .dat (.lst ((List.range n).map fun i => Dt.int ((l i : Nat) : Int))), .no, .dat (.int (N : Nat)), .no] s = .ok (rangeD 1 N) s := rng2_of (i := 1) (j := (N : Int) + 1) N ev_c (ev_op (ev_var rfl) ev_c rfl) (by omega) (by omega) (by omega) (by omega)
  have al := all_of (bs := (List.range N).map fun (j : Nat) => decide ((1 + (j : Int)) ∈ (List.range n).map fun i => ((l i : Nat) : Int))) (by
    rw [List.map_map]
    exact ev_lc rg (lc_range (g := gmName 4) (a := mOp fIn (mVar 4) (mVar 1)) (vs := [4]) (fun (j : Nat) => .bl (decide ((1 + (j : Int)) ∈ (List.range n).map fun i => ((l i : Nat) : Int)))) (by omega) fun j hj => ⟨_, rfl, by
      have r := in_any (1 + (j : Int)) ((List.range n).map fun i => ((l i : Nat) : Int))
      rw [List.map_map] at r
      exact ev_op (ev_var rfl) (ev_var rfl) r⟩))
  rw [List.all_map] at al
  exact al
theorem max_lc {N : Nat} (hm : ∀ i, i < n → l i ≤ N) (he : ∃ i, i < n ∧ l i = N) (s : Hd) : mCB fMax (mCons (mVar 1) mNil) [.dat D, .dat (.lst ((List.range n).map fun i => Dt.int ((l i : Nat) : Int))), .no, .no, .no] s = .ok (.int (N : Nat)) s := by
  obtain ⟨i, hi, ei⟩ := he
  exact max_of (n := n) (f := fun i => (l i : Int)) (ev_var rfl) (fun i hi => by have := hm i hi; omega) ⟨i, hi, by omega⟩
theorem count_gen {N : Nat} (n6 : n ≤ 7) (hs : seqD D = some ((List.range n).map x)) (hx : ∀ i, i < n → fIx (x i) (.int 2) = some (.int (l i : Nat))) (N1 : 1 ≤ N) (N4 : N ≤ 10) (hm : ∀ i, i < n → l i ≤ N) (ha : ∀ k, 1 ≤ k → k ≤ N → ∃ i, i < n ∧ l i = k) (s : Hd) : m__count_letters [D] s = .ok (.int (N : Nat)) s := by
  have lc := used_lc n6 hs hx s
  have mx := max_lc (D := D) hm (ha N N1 (Nat.le_refl _)) s
  have al := all_lc (D := D) (n := n) (l := l) N4 s
  have f0 := feq_f (N : Int) 0 (by omega)
  have tr : ((List.range N).all fun (j : Nat) => decide ((1 + (j : Int)) ∈ (List.range n).map fun i => ((l i : Nat) : Int))) = true := by
    rw [List.all_eq_true]
    intro j hj
    obtain ⟨i, hi, e⟩ := ha (j + 1) (by omega) (by have := List.mem_range.1 hj; omega)
    exact decide_eq_true (List.mem_map.2 ⟨i, List.mem_range.2 hi, by omega⟩)
  rw [tr] at al
  refine es_def (ρ := [.dat D, .no, .no, .no, .no]) rfl ?_
  unfold b__count_letters
  refine es_seq (es_set lc) ?_
  refine es_seq (es_set mx) ?_
  refine es_seq (es_if_f (ev_or_f (ev_test (by sizeOf_list_dec)) (ev_not_f (ev_tru al rfl))) es_next) ?_
  exact es_ret (ev_var rfl)
theorem gap_gen {M : Nat} (n6 : n ≤ 7) (hs : seqD D = some ((List.range n).map x)) (hx : ∀ i, i < n → fIx (x i) (.int 2) = some (.int (l i : Nat))) (M4 : M ≤ 10) (hm : ∀ i, i < n → l i ≤ M) (he : ∃ i, i < n ∧ l i = M) (hg : M = 0 ∨ ∃ k, 1 ≤ k ∧ k ≤ M ∧ ∀ i, i < n → l i ≠ k) (s : Hd) : ∃ ρ, m__count_letters [D] s = .err "BadArms" (err2 0 "gap") ρ s := by
  have lc := used_lc n6 hs hx s
  have mx := max_lc (D := D) hm he s
  refine ⟨[.dat D, .dat (.lst ((List.range n).map fun i => Dt.int ((l i : Nat) : Int))), .no, .dat (.int (M : Nat)), .no], es_def_err (ρ := [.dat D, .no, .no, .no, .no]) rfl ?_⟩
  unfold b__count_letters
  refine es_seq (es_set lc) ?_
  refine es_seq (es_set mx) ?_
  by_cases c : M = 0
  · have f0 := feq_t (M : Int) 0 (by omega)
    exact es_seq_err (es_if_t (ev_or_t (ev_test (by sizeOf_list_dec))) (es_raise (ev_cons ev_c (ev_cons ev_c ev_nil)) (by simp)))
  · obtain ⟨k, k1, k2, hk⟩ := hg.resolve_left c
    have al := all_lc (D := D) (n := n) (l := l) M4 s
    have f0 := feq_f (M : Int) 0 (by omega)
    have tr : ((List.range M).all fun (j : Nat) => decide ((1 + (j : Int)) ∈ (List.range n).map fun i => ((l i : Nat) : Int))) = false := by
      rw [List.all_eq_false]
      refine ⟨k - 1, List.mem_range.2 (by omega), ?_⟩
      rw [decide_eq_true_eq]
      intro h
      obtain ⟨t, ht, e⟩ := List.mem_map.1 h
      exact hk t (List.mem_range.1 ht) (by omega)
    rw [tr] at al
    exact es_seq_err (es_if_t (ev_or_f (ev_test (by sizeOf_list_dec)) (ev_not_t (ev_tru al rfl))) (es_raise (ev_cons ev_c (ev_cons ev_c ev_nil)) (by simp)))
end
/-! ### bars as rows of tuples and lists -/
def barT (C : Bars) (t : Nat → Bool) (i : Nat) : Dt := if t i then .lst [.int (C.h i), dq (C.m i), .int (C.l i : Nat)] else C.bar i
def rowT (C : Bars) (t : Nat → Bool) : List Dt := (List.range C.n).map (barT C t)
theorem barT_3 (C : Bars) (t : Nat → Bool) (i : Nat) : Row3 (barT C t i) (.int (C.h i)) (dq (C.m i)) (.int (C.l i : Nat)) := by
  unfold barT
  by_cases c : t i = true
  · rw [if_pos c]
    exact .inr rfl
  · rw [if_neg c]
    exact .inl rfl
theorem rowT_len (C : Bars) (t : Nat → Bool) : (rowT C t).length = C.n := by simp [rowT]
theorem rowT_get {C : Bars} {t : Nat → Bool} {i : Nat} {d : Dt} (h : (rowT C t)[i]? = some d) : i < C.n ∧ d = barT C t i := by
  have hi : i < C.n := by
    have := (List.getElem?_eq_some_iff.mp h).1
    rw [rowT_len] at this
    exact this
  refine ⟨hi, ?_⟩
  unfold rowT at h
  rw [List.getElem?_map, List.getElem?_range hi] at h
  cases h
  rfl
theorem rowT_f (C : Bars) : rowT C (fun _ => false) = C.row := rfl
/-- bars of which nothing is asked of the letters as a whole -/
structure Bars.Ok1 (C : Bars) : Prop where
  h0 : ∀ i, i < C.n → -1 ≤ C.h i
  h1 : ∀ i, i < C.n → C.h i < i
  l4 : ∀ i, i < C.n → C.l i ≤ 4
theorem Bars.Ok.ok1 {C : Bars} (ok : C.Ok) : C.Ok1 := ⟨ok.h0, ok.h1, fun i hi => Nat.le_trans (ok.l i hi) ok.N4⟩
theorem good_T {C : Bars} (ok : C.Ok1) (t : Nat → Bool) : Good1 (rowT C t) := fun i d h s => by
  obtain ⟨hi, rfl⟩ := rowT_get h
  exact cb_good (barT_3 C t i) (wh_t (ok.h0 i hi) (ok.h1 i hi) s) (isr_q s) (wl_t (ok.l4 i hi) s)
theorem make_gen {C : Bars} (ok : C.Ok) {t : Nat → Bool} {D : Dt} (hi2 : fIsi2 "list" "tuple" D = some true) (hs : seqD D = some (rowT C t)) (s : Hd) : m_Arms____init__ [D] s = .ok [(("letters" : Str), .int (C.N : Nat)), (("bars" : Str), C.d)] s := by
  have n1 := ok.n1
  have n6 := ok.n6
  have e1 := bars_all hi2 hs (by rw [rowT_len]; omega) (by rw [rowT_len]; omega) (good_T ok.ok1 t) s
  have e2 := count_gen (D := D) (n := C.n) (x := barT C t) (l := C.l) (N := C.N) (by omega) hs (fun i hi => r3_ix (barT_3 C t i)) ok.N1 (by have := ok.N4; omega) ok.l ok.all s
  have z : mSeqI (mVar 1) [.slf "Arms" [("letters", .int (C.N : Nat))], .dat D, .no] s = .ok ((List.range C.n).map (barT C t)) s := ev_seqI (ev_var rfl) hs
  have lc := tup_of (ev_lc z (lc_map (g := gmName 2) (a := mCB fTupC (mCons (mVar 2) mNil)) (vs := [2]) (ρ := [.slf "Arms" [("letters", .int (C.N : Nat))], .dat D, .no]) (barT C t) C.bar (List.range C.n) (by rw [List.length_range]; omega) fun j hj => ⟨[.slf "Arms" [("letters", .int (C.N : Nat))], .dat D, .dat (barT C t j)], rfl, ev_cb (ev_cons (ev_var rfl) ev_nil) (by
    rcases barT_3 C t j with h | h <;> rw [h] <;> rfl)⟩))
  refine es_init (ρ := [.slf "Arms" [], .dat D, .no]) rfl (ρ1 := [.slf "Arms" [(("letters" : Str), .int (C.N : Nat)), (("bars" : Str), C.d)], .dat D, .no]) ?_ rfl
  unfold b_Arms____init__
  refine es_seq (es_drop (by sizeOf_list_dec)) ?_
  refine es_seq (ρ1 := [.slf "Arms" [("letters", .int (C.N : Nat))], .dat D, .no]) (s1 := s) (es_fld (fs := []) (cl := "Arms") (by sizeOf_list_dec) rfl (by simp) (by simp)) ?_
  refine (es_fld (fs := [("letters", .int (C.N : Nat))]) (cl := "Arms") lc rfl (by simp) (by simp)).trans ?_
  have e : putFD "bars" C.d [(("letters" : Str), Dt.int (C.N : Nat))] = [(("letters" : Str), Dt.int (C.N : Nat)), (("bars" : Str), C.d)] := by
    have c : ¬ (("letters" : Str) = ("bars" : Str)) := by decide +kernel
    simp only [putFD, if_neg c]
  have e3 : (Dt.tup ((List.range C.n).map C.bar)) = C.d := rfl
  rw [e3, e]
  rfl
/-- the letters alone are wrong -/
theorem gap_T {C : Bars} (ok : C.Ok1) (n1 : 1 ≤ C.n) (n6 : C.n ≤ 6) {t : Nat → Bool} {D : Dt} (hi2 : fIsi2 "list" "tuple" D = some true) (hs : seqD D = some (rowT C t)) {M : Nat} (M4 : M ≤ 10) (hm : ∀ i, i < C.n → C.l i ≤ M) (he : ∃ i, i < C.n ∧ C.l i = M) (hg : M = 0 ∨ ∃ k, 1 ≤ k ∧ k ≤ M ∧ ∀ i, i < C.n → C.l i ≠ k) (s : Hd) :
    m__law_made [D] s = .ok (.tup [.int 0, .str "gap"]) s :=
  made_bad (init_bad2 (bars_all hi2 hs (by rw [rowT_len]; omega) (by rw [rowT_len]; omega) (good_T ok t) s) (gap_gen (by omega) hs (fun i hi => r3_ix (barT_3 C t i)) M4 hm he hg s))
theorem many_T {D : Dt} (h : ∀ s, m_is_row [D, .int 1, .int 6] s = .ok (.bl false) s) (s : Hd) : m__law_made [D] s = .ok (.tup [.int 0, .str "many"]) s := made_bad (init_bad1 (bars_many h s))
theorem at_T {D x : Dt} {pre rest : List Dt} {w : Str} (hD : fIsi2 "list" "tuple" D = some true) (hs : seqD D = some (pre ++ x :: rest)) (h6 : pre.length + rest.length + 1 ≤ 6) (g : Good1 pre) (s : Hd)
    (hx : ∃ ρ, m__check_bar [.int (pre.length : Nat), x] s = .err "BadArms" (err2 (pre.length : Nat) w) ρ s) : m__law_made [D] s = .ok (.tup [.int (pre.length : Nat), .str w]) s := made_bad (init_bad1 (bars_at hD hs h6 g s hx))
end Law


set_option Elab.async false
set_option linter.all false
set_option maxRecDepth 100000
namespace Law
open PySem PySem.Spec PyProof.Rows L2 Mir
theorem many2 : manyOk 2 := by decide +kernel
/-! ### the same rows as lists or tuples -/
def lsBody : MS := (mApp 2 (mIf (mTru (mCall 2 [] m__law_take (mCons (mVar 0) (mCons (mC (.int 2)) mNil)))) (mLc (gmName 4) (mSeqI (mVar 3)) mYes (mVar 4) [4]) (mCB fTupC (mCons (mVar 3) mNil))))
theorem tru_int (v : Int) : fTru (.int v) = some (v != 0) := rfl
theorem row_drawn (B : Bars) (i : Nat) (ds : List Dt) (s : Hd) : ∃ (b : Bool) (s' : Hd), mIf (mTru (mCall 2 [] m__law_take (mCons (mVar 0) (mCons (mC (.int 2)) mNil)))) (mLc (gmName 4) (mSeqI (mVar 3)) mYes (mVar 4) [4]) (mCB fTupC (mCons (mVar 3) mNil)) [.dat .hnd, .dat B.d, .own ds, .dat (B.bar i), .no] s = .ok (barT B (fun _ => b) i) s' := by
  have tk := take_ok s many2
  generalize takeV s 2 = v at *
  generalize takeS s 2 = s1 at *
  have tv := tru_int v
  by_cases c : v = 0
  · refine ⟨false, s1, ev_if_f (ev_tru (by sizeOf_list_dec) (by rw [tv, c]; rfl)) (ev_cb (ev_cons (ev_var rfl) ev_nil) rfl)⟩
  · refine ⟨true, s1, ev_if_t (ev_tru (by sizeOf_list_dec) (by rw [tv]; simpa using c)) ?_⟩
    have lc := lc_map (g := gmName 4) (a := mVar 4) (vs := [4]) (ρ := [.dat .hnd, .dat B.d, .own ds, .dat (B.bar i), .no]) (s := s1) (fun d => d) (fun d => d) [.int (B.h i), dq (B.m i), .int (B.l i : Nat)] (by simp) fun d hd => ⟨[.dat .hnd, .dat B.d, .own ds, .dat (B.bar i), .dat d], rfl, ev_var rfl⟩
    rw [List.map_id'] at lc
    exact ev_lc (ev_seqI (ev_var rfl) rfl) lc
theorem lists_ok {B : Bars} (n6 : B.n ≤ 6) (s : Hd) : ∃ (t : Nat → Bool) (D : Dt) (s' : Hd), m__law_lists [.hnd, B.d] s = .ok D s' ∧ (D = .tup (rowT B t) ∨ D = .lst (rowT B t)) := by
  have z : mSeqI (mVar 1) [.dat .hnd, .dat B.d, .own [], .no, .no] s = .ok B.row s := ev_seqI (ev_var rfl) rfl
  obtain ⟨ρ', s1, hl, t, x3, rfl⟩ := for_range (g := gmName 3) (body := lsBody) (ρ := [.dat .hnd, .dat B.d, .own [], .no, .no]) (s := s) B.bar (fun i ρ s => ∃ (t : Nat → Bool) (x3 : Sl), ρ = [.dat .hnd, .dat B.d, .own ((List.range i).map (barT B t)), x3, .no]) B.n ⟨fun _ => false, .no, rfl⟩ (fun i ρ s hi hI => by
    obtain ⟨t, x3, rfl⟩ := hI
    obtain ⟨b, s2, e⟩ := row_drawn B i ((List.range i).map (barT B t)) s
    refine ⟨_, _, s2, rfl, es_app (ds := (List.range i).map (barT B t)) rfl e (by simp; omega), fun j => if j = i then b else t j, .dat (B.bar i), ?_⟩
    have q : (List.range i).map (barT B t) ++ [barT B (fun _ => b) i] = (List.range (i + 1)).map (barT B fun j => if j = i then b else t j) := by
      rw [List.range_succ, List.map_append, List.map_singleton]
      congr 1
      · refine List.map_congr_left fun j hj => ?_
        have : j ≠ i := by have := List.mem_range.1 hj; omega
        unfold barT
        simp only [if_neg this]
      · unfold barT
        simp only [if_pos]
    rw [q]
    rfl)
  have tk := take_ok s1 many2
  generalize takeV s1 2 = v at *
  generalize takeS s1 2 = s2 at *
  have tv := tru_int v
  have fin : ∀ D, mIf (mTru (mCall 2 [] m__law_take (mCons (mVar 0) (mCons (mC (.int 2)) mNil)))) (mVar 2) (mCB fTupC (mCons (mVar 2) mNil)) [.dat .hnd, .dat B.d, .dat (.lst (rowT B t)), x3, .no] s1 = .ok D s2 → m__law_lists [.hnd, B.d] s = .ok D s2 := fun D e => by
    refine es_def (ρ := [.dat .hnd, .dat B.d, .no, .no, .no]) rfl ?_
    unfold b__law_lists
    refine es_seq (es_setO (ev_lstO ev_nil (by simp))) ?_
    refine es_seq (es_for (b1 := lsBody) z hl) ?_
    exact es_frz rfl (es_ret e)
  by_cases c : v = 0
  · exact ⟨t, _, s2, fin _ (ev_if_f (ev_tru (by sizeOf_list_dec) (by rw [tv, c]; rfl)) (ev_cb (ev_cons (ev_var rfl) ev_nil) rfl)), .inl rfl⟩
  · exact ⟨t, _, s2, fin _ (ev_if_t (ev_tru (by sizeOf_list_dec) (by rw [tv]; simpa using c)) (ev_var rfl)), .inr rfl⟩
/-! ### faults -/
abbrev NotH (n : Nat) (d : Dt) : Prop := ∀ s, m_is_whole [d, .int (-1), .int ((n : Int) - 1)] s = .ok (.bl false) s
abbrev NotL (d : Dt) : Prop := ∀ s, m_is_whole [d, .int 0, .int 4] s = .ok (.bl false) s
abbrev Not3 (d : Dt) : Prop := ∀ s, m_is_row [d, .int 3, .int 3] s = .ok (.bl false) s
theorem nh_int {n : Nat} {i : Int} (h : ¬ (-1 ≤ i ∧ i ≤ (n : Int) - 1)) : NotH n (.int i) := fun s => by
  rw [is_whole_both]
  congr 2
  rw [← Bool.decide_and]
  exact decide_eq_false h
theorem nl_int {i : Int} (h : ¬ (0 ≤ i ∧ i ≤ 4)) : NotL (.int i) := fun s => by
  rw [is_whole_both]
  congr 2
  rw [← Bool.decide_and]
  exact decide_eq_false h
theorem isi2_int (i : Int) : fIsi2 "list" "tuple" (.int i) = some false := by simp [fIsi2, tyN]; decide
theorem isi2_dct : fIsi2 "list" "tuple" .dct = some false := by decide +kernel
theorem n3_kind {d : Dt} (h : fIsi2 "list" "tuple" d = some false) : Not3 d := fun s => row_kf h s
theorem n3_len {ds : List Dt} (h : ds.length ≠ 3) : Not3 (.tup ds) := fun s => row_gf (i2_tup _) rfl (by omega) s
abbrev Fault (n : Nat) (x : Dt) (w : Str) : Prop := ∀ s, ∃ ρ, m__check_bar [.int (n : Nat), x] s = .err "BadArms" (err2 n w) ρ s
theorem seven {u : Int} (h0 : 0 ≤ u) (h1 : u < 7) : u = 0 ∨ u = 1 ∨ u = 2 ∨ u = 3 ∨ u = 4 ∨ u = 5 ∨ u = 6 := by omega
theorem pow9' : fPow (.int 10) (.int 9) = some (.int 1000000000) := rfl
theorem faults_ok {B : Bars} (ok : B.Ok) {n : Nat} (hn : n < B.n) (s : Hd) : ∃ (x0 x1 x2 x3 : Dt) (s' : Hd), m__law_faults [.hnd, B.d, .int (n : Nat)] s = .ok (.lst [.tup [x0, .str "bar"], .tup [x1, .str "host"], .tup [x2, .str "mark"], .tup [x3, .str "letter"]]) s' ∧ Fault n x0 "bar" ∧ Fault n x1 "host" ∧ Fault n x2 "mark" ∧ Fault n x3 "letter" := by
  have n6 := ok.n6
  have a0 : fIx B.d (.int (n : Nat)) = some (B.bar n) := by
    show atI B.row _ = _
    rw [atI_row B (by omega) (by omega)]
    rfl
  have t1 := take_ok s (n := 7) (by decide)
  have g0 := takeV_ge (s := s) (n := 7) (by decide)
  have g1 := takeV_lt (s := s) (n := 7) (by decide)
  generalize takeV s 7 = u1 at *
  generalize takeS s 7 = s1 at *
  have m9 : manyOk 1000000000 := by decide
  have t2 := take_ok s1 m9
  have g2 := takeV_ge (s := s1) (n := 1000000000) (by decide)
  generalize takeV s1 1000000000 = w at *
  generalize takeS s1 1000000000 = s2 at *
  have t3 := take_ok s2 (n := 7) (by decide)
  have g4 := takeV_ge (s := s2) (n := 7) (by decide)
  have g5 := takeV_lt (s := s2) (n := 7) (by decide)
  generalize takeV s2 7 = u2 at *
  generalize takeS s2 7 = s3 at *
  have t4 := take_ok s3 (n := 7) (by decide)
  have g6 := takeV_ge (s := s3) (n := 7) (by decide)
  have g7 := takeV_lt (s := s3) (n := 7) (by decide)
  generalize takeV s3 7 = u3 at *
  generalize takeS s3 7 = s4 at *
  obtain ⟨od, s5, eo, no⟩ := odd_ok s4
  have h0 := ok.h0 n hn
  have h1 := ok.h1 n hn
  have hh : ∃ d, fIx (.lst [.int (n : Nat), .int (-2), .int ((n : Int) + 7), .bl true, .non, .tup [.int 0, .int 1], .str "mast"]) (.int u1) = some d ∧ NotH n d := by
    rcases seven g0 g1 with rfl | rfl | rfl | rfl | rfl | rfl | rfl
    · exact ⟨_, rfl, nh_int (by omega)⟩
    · exact ⟨_, rfl, nh_int (by omega)⟩
    · exact ⟨_, rfl, nh_int (by omega)⟩
    · exact ⟨_, rfl, fun s => is_whole_bl _ _ _ s⟩
    · exact ⟨_, rfl, fun s => is_whole_non _ _ s⟩
    · exact ⟨_, rfl, fun s => is_whole_tup _ _ _ s⟩
    · exact ⟨_, rfl, fun s => is_whole_str _ _ _ s⟩
  have hL : ∃ d, fIx (.lst [.int (-1), .int 5, .bl true, .non, .tup [.int 1, .int 1], .int (5 + w), .str "1"]) (.int u2) = some d ∧ NotL d := by
    rcases seven g4 g5 with rfl | rfl | rfl | rfl | rfl | rfl | rfl
    · exact ⟨_, rfl, nl_int (by omega)⟩
    · exact ⟨_, rfl, nl_int (by omega)⟩
    · exact ⟨_, rfl, fun s => is_whole_bl _ _ _ s⟩
    · exact ⟨_, rfl, fun s => is_whole_non _ _ s⟩
    · exact ⟨_, rfl, fun s => is_whole_tup _ _ _ s⟩
    · exact ⟨_, rfl, nl_int (by omega)⟩
    · exact ⟨_, rfl, fun s => is_whole_str _ _ _ s⟩
  have hR : ∃ d, fIx (.lst [.non, .int 7, .tup [.int (B.h n), dq (B.m n)], .tup [.int (B.h n), dq (B.m n), .int (B.l n : Nat), .int (B.l n : Nat)], .str "bar", .lst [], .dct]) (.int u3) = some d ∧ Not3 d := by
    rcases seven g6 g7 with rfl | rfl | rfl | rfl | rfl | rfl | rfl
    · exact ⟨_, rfl, n3_kind isi2_non⟩
    · exact ⟨_, rfl, n3_kind (isi2_int _)⟩
    · exact ⟨_, rfl, n3_len (by simp)⟩
    · exact ⟨_, rfl, n3_len (by simp)⟩
    · exact ⟨_, rfl, n3_kind (isi2_str _)⟩
    · exact ⟨_, rfl, fun s => row_gf (i2_lst _) rfl (by simp) s⟩
    · exact ⟨_, rfl, n3_kind isi2_dct⟩
  obtain ⟨dh, eh, ph⟩ := hh
  obtain ⟨dl, el, pl⟩ := hL
  obtain ⟨dr, er, pr⟩ := hR
  refine ⟨dr, .tup [dh, od, dl], .lst [.int (B.h n), od, dl], .tup [.int (B.h n), dq (B.m n), dl], s5, ?_, fun s => cb_row (pr s), fun s => cb_host (.inl rfl) (ph s), fun s => cb_mark (.inr rfl) (wh_t h0 h1 s) (no s), fun s => cb_letter (.inl rfl) (wh_t h0 h1 s) (isr_q s) (pl s)⟩
  have ng2 : fNeg (.int 2) = some (.int (-2)) := rfl
  have ng1 : fNeg (.int 1) = some (.int (-1)) := rfl
  have p9 := pow9'
  have ad1 : fAdd (.int (n : Nat)) (.int 7) = some (.int ((n : Int) + 7)) := rfl
  have ad2 : fAdd (.int 5) (.int w) = some (.int (5 + w)) := rfl
  have dc : ∀ (ρ : Env') (s : Hd), ρ[3]? = some (.dat (.int (B.h n))) → ρ[4]? = some (.dat (dq (B.m n))) → mDctG (mVar 3) (mVar 4) ρ s = .ok .dct s := fun ρ s h1 h2 => by
    unfold mDctG
    rw [ev_var h1]
    simp only [R.bind_ok]
    rw [ev_var h2]
    rfl
  have dc1 := dc [.dat .hnd, .dat B.d, .dat (.int (n : Nat)), .dat (.int (B.h n)), .dat (dq (B.m n)), .dat (.int (B.l n : Nat)), .dat dh, .dat dl, .no, .no] s3 rfl rfl
  refine es_def (ρ := [.dat .hnd, .dat B.d, .dat (.int (n : Nat)), .no, .no, .no, .no, .no, .no, .no]) rfl ?_
  unfold b__law_faults
  refine es_seq (ρ1 := [.dat .hnd, .dat B.d, .dat (.int (n : Nat)), .dat (.int (B.h n)), .dat (dq (B.m n)), .dat (.int (B.l n : Nat)), .no, .no, .no, .no]) (s1 := s) (es_asg (by sizeOf_list_dec) rfl) ?_
  refine es_seq (es_set (d := dh) (s1 := s1) (by sizeOf_list_dec)) ?_
  refine es_seq (ρ1 := [.dat .hnd, .dat B.d, .dat (.int (n : Nat)), .dat (.int (B.h n)), .dat (dq (B.m n)), .dat (.int (B.l n : Nat)), .dat dh, .dat dl, .no, .no]) (s1 := s3) (es_set (d := dl) (by sizeOf_list_dec)) ?_
  refine es_seq (es_set (d := dr) (s1 := s4) (by sizeOf_list_dec)) ?_
  refine es_seq (es_set (d := od) (s1 := s5) (by sizeOf_list_dec)) ?_
  exact es_ret (by sizeOf_list_dec)
end Law


set_option Elab.async false
set_option linter.all false
set_option maxRecDepth 100000
namespace Law
open PySem PySem.Spec PyProof.Rows L2 Mir
theorem sl_to {xs : List Dt} {n : Nat} (h : n ≤ xs.length) : fSl (.tup xs) none (some (n : Int)) = some (.tup (xs.take n)) := by
  have e1 : HT.sIx xs.length 0 none = 0 := rfl
  have e2 : HT.sIx xs.length xs.length (some (n : Int)) = n := by
    rw [show HT.sIx xs.length xs.length (some (n : Int)) = min n xs.length from HT.sIx_nat _ _ n]
    omega
  show some (Dt.tup (Mir.cutD xs none (some (n : Int)))) = _
  unfold Mir.cutD
  rw [e1, e2, List.drop_zero]
  rfl
theorem sl_fr {xs : List Dt} {n : Nat} (h : n ≤ xs.length) : fSl (.tup xs) (some (n : Int)) none = some (.tup (xs.drop n)) := by
  have e1 : HT.sIx xs.length 0 (some (n : Int)) = n := by
    rw [show HT.sIx xs.length 0 (some (n : Int)) = min n xs.length from HT.sIx_nat _ 0 n]
    omega
  have e2 : HT.sIx xs.length xs.length none = xs.length := HT.sIx_none _ _
  show some (Dt.tup (Mir.cutD xs (some (n : Int)) none)) = _
  unfold Mir.cutD
  rw [e1, e2, List.take_of_length_le (by simp)]
theorem many_n {n : Nat} (h1 : 1 ≤ n) (h : n ≤ 6) : manyOk (n : Int) := ⟨by omega, by
  have : (n : Int).natAbs < 2 ^ 3 := by omega
  have := PySem.Flt.log2_lt_of (Nat.succ_pos 2) this
  omega⟩
abbrev Wd (w : Str) : Prop := PyData.canLay0 (.str w) = true
theorem eq_told {k : Int} {w : Str} (h : Wd w) : fEq (.tup [.int k, .str w]) (.tup [.int k, .str w]) = some (.bl true) ∧ fNe (.tup [.int k, .str w]) (.tup [.int k, .str w]) = some (.bl false) := by
  have p : plD 4 (.tup [.int k, .str w]) = true := by
    have h : PyData.canLay0 (.str w) = true := h
    simp [plD, h]
  exact ⟨eq_self 4 (by decide) p, ne_self 4 (by decide) p⟩
theorem row_take {B : Bars} {n : Nat} (h : n ≤ B.n) : B.row.take n = (List.range n).map B.bar := by
  unfold Bars.row
  rw [← List.map_take, List.take_range, Nat.min_eq_left h]
theorem take_good {B : Bars} (ok : B.Ok) {n : Nat} (h : n ≤ B.n) : Good1 (B.row.take n) := fun i d e s => by
  rw [List.getElem?_take] at e
  split at e
  · rw [← rowT_f] at e
    exact good_T ok.ok1 _ i d e s
  · cases e
theorem cat_l {a b : List Dt} (h : a.length + b.length ≤ 100000) : fAdd (.lst a) (.lst b) = some (.lst (a ++ b)) := by
  show (if Mir.sizeOk (a.length + b.length) then _ else _) = _
  rw [if_pos (show Mir.sizeOk (a.length + b.length) from h)]
theorem ev_catO {a b : ME} {ρ : Env'} {s s1 s2 : Hd} {x y : List Dt} (h : a ρ s = .ok (.lst x) s1) (h2 : b ρ s1 = .ok (.lst y) s2) (hl : x.length + y.length ≤ 100000) : mCatO a b ρ s = .ok (x ++ y) s2 := by
  unfold mCatO
  rw [h]
  simp only [R.bind_ok]
  rw [h2]
  simp only [R.bind_ok]
  rw [if_pos (show Mir.sizeOk (x.length + y.length) from hl)]
abbrev spE : MA := (mCatO (mOp fAdd (mCB fListC (mCons (mSl (mVar 1) mPartN (mPart (mVar 2))) mNil)) (mLst (mCons (mVar 4) mNil))) (mCB fListC (mCons (mSl (mVar 1) (mPart (mOp fAdd (mVar 2) (mC (.int 1)))) mPartN) mNil)))
def spD (B : Bars) (n : Nat) (x : Dt) : List Dt := B.row.take n ++ x :: B.row.drop (n + 1)
theorem sp_ok {B : Bars} (n6 : B.n ≤ 6) {n : Nat} (hn : n < B.n) {x : Dt} {F x5 x6 x7 x8 x9 : Sl} (s : Hd) : spE [.dat .hnd, .dat B.d, .dat (.int (n : Nat)), F, .dat x, x5, x6, x7, x8, x9] s = .ok (spD B n x) s := by
  have l := bars_len B
  have c1 := sl_to (xs := B.row) (n := n) (by omega)
  have c2 := sl_fr (xs := B.row) (n := n + 1) (by omega)
  have e : spD B n x = (B.row.take n ++ [x]) ++ B.row.drop (n + 1) := by simp [spD]
  rw [e]
  have lt : (B.row.take n).length = n := by rw [List.length_take]; omega
  have ld : (B.row.drop (n + 1)).length = B.n - (n + 1) := by rw [List.length_drop, l]
  refine ev_catO (s1 := s) ?_ ?_ (by rw [List.length_append, lt, ld]; simp; omega)
  · exact ev_op (ev_cb (ev_cons (ev_sl (ev_var (d := B.d) rfl) ep_none (ep_some (ev_var rfl)) c1) ev_nil) rfl) (ev_lst (ev_cons (ev_var rfl) ev_nil) (by simp)) (cat_l (by rw [lt]; simp; omega))
  · have ad : fAdd (.int (n : Nat)) (.int 1) = some (.int ((n + 1 : Nat) : Int)) := rfl
    exact ev_cb (ev_cons (ev_sl (ev_var (d := B.d) rfl) (ep_some (ev_op (ev_var rfl) ev_c ad)) ep_none c2) ev_nil) rfl
theorem pre_len {B : Bars} {n : Nat} (hn : n < B.n) : (B.row.take n).length = n := by
  rw [List.length_take, bars_len]
  omega
theorem sp_told {B : Bars} (ok : B.Ok) {n : Nat} (hn : n < B.n) {x : Dt} {w : Str} (hf : Fault n x w) {rest : List Dt} (hr : n + rest.length + 1 ≤ 6) (s : Hd) : m__law_made [.lst (B.row.take n ++ x :: rest)] s = .ok (.tup [.int (n : Nat), .str w]) s := by
  have lt := pre_len hn
  have h := at_T (D := .lst (B.row.take n ++ x :: rest)) (w := w) (i2_lst _) rfl (by rw [lt]; omega) (take_good ok (by omega)) s (by rw [lt]; exact hf s)
  rw [lt] at h
  exact h
def wrBody : MS := (mSeq (mSetO 6 spE)
    (mIfS (mTest (mOp fNe (mBor 6 (mCall 1 [] m__law_made (mCons (mVar 6) mNil))) (mTup (mCons (mVar 2) (mCons (mVar 5) mNil))))) (mRet (mC (.bl false))) mNext))
section
variable {B : Bars} (ok : B.Ok) {n : Nat} (hn : n < B.n)
include ok hn
theorem wr_step {F : Dt} {d : Dt} {w : Str} (hf : Fault n d w) (hw : Wd w) (x6 : Sl) (s : Hd) : ∃ y6, wrBody [.dat .hnd, .dat B.d, .dat (.int (n : Nat)), .dat F, .dat d, .dat (.str w), x6, .no, .no, .no] s = .ok (.nx [.dat .hnd, .dat B.d, .dat (.int (n : Nat)), .dat F, .dat d, .dat (.str w), y6, .no, .no, .no]) s := by
  have n6 := ok.n6
  have l := bars_len B
  have e1 := sp_ok n6 hn (x := d) (F := .dat F) (x5 := .dat (.str w)) (x6 := x6) (x7 := .no) (x8 := .no) (x9 := .no) s
  have e2 := sp_told ok hn hf (rest := B.row.drop (n + 1)) (by rw [List.length_drop, l]; omega) s
  have ne := (eq_told (k := (n : Nat)) hw).2
  refine ⟨.own (spD B n d), ?_⟩
  unfold wrBody
  refine es_seq (es_setO e1) ?_
  exact es_if_f (ev_test (ev_op (ev_bor rfl (ev_call0 (ev_cons (ev_var rfl) ev_nil) rfl e2) rfl) (ev_tup (ev_cons (ev_var rfl) (ev_cons (ev_var rfl) ev_nil)) (by simp)) ne)) es_next
end
theorem wrong_ok {B : Bars} (ok : B.Ok) (s : Hd) : ∃ s', m__law_wrong [.hnd, B.d] s = .ok (.bl true) s' := by
  have n1 := ok.n1
  have n6 := ok.n6
  have l := bars_len B
  have len : fLen [B.d] = some (.int B.n) := by simp [Bars.d, fLen, bars_len]
  have t1 := take_ok s (many_n n1 n6)
  have g0 := takeV_ge (s := s) (n := (B.n : Int)) (by omega)
  have g1 := takeV_lt (s := s) (n := (B.n : Int)) (by omega)
  generalize takeV s (B.n : Int) = v at *
  generalize takeS s (B.n : Int) = s1 at *
  obtain ⟨n, rfl⟩ : ∃ n : Nat, v = n := ⟨v.toNat, by omega⟩
  have hn : n < B.n := by omega
  obtain ⟨x0, x1, x2, x3, s2, ef, f0, f1, f2, f3⟩ := faults_ok ok hn s1
  have w0 : Wd "bar" := by decide +kernel
  have w1 : Wd "host" := by decide +kernel
  have w2 : Wd "mark" := by decide +kernel
  have w3 : Wd "letter" := by decide +kernel
  generalize hF : [Dt.tup [x0, .str "bar"], .tup [x1, .str "host"], .tup [x2, .str "mark"], .tup [x3, .str "letter"]] = Fs at *
  have mem : ∀ d ∈ Fs, ∃ x w, d = .tup [x, .str w] ∧ Fault n x w ∧ Wd w := fun d hd => by
    rw [← hF] at hd
    simp only [List.mem_cons, List.not_mem_nil, or_false] at hd
    rcases hd with rfl | rfl | rfl | rfl
    · exact ⟨_, _, rfl, f0, w0⟩
    · exact ⟨_, _, rfl, f1, w1⟩
    · exact ⟨_, _, rfl, f2, w2⟩
    · exact ⟨_, _, rfl, f3, w3⟩
  obtain ⟨ρ', hl, x4, x5, x6, rfl⟩ := for_same (g := gmSeq 2 (gmCons (gmName 4) (gmCons (gmName 5) gmNil))) (body := wrBody) (s := s2) (fun ρ => ∃ (x4 x5 x6 : Sl), ρ = [.dat .hnd, .dat B.d, .dat (.int (n : Nat)), .dat (.lst Fs), x4, x5, x6, .no, .no, .no]) Fs [.dat .hnd, .dat B.d, .dat (.int (n : Nat)), .dat (.lst Fs), .no, .no, .no, .no, .no, .no] ⟨_, _, _, rfl⟩ (fun d hd ρ hI => by
    obtain ⟨x4, x5, x6, rfl⟩ := hI
    obtain ⟨x, w, rfl, hf, hw⟩ := mem d hd
    obtain ⟨y6, e⟩ := wr_step ok hn (F := .lst Fs) hf hw x6 s2
    exact ⟨_, _, rfl, e, _, _, _, rfl⟩)
  have t2 := take_ok s2 (n := 4) (by decide)
  have g2 := takeV_ge (s := s2) (n := 4) (by decide)
  have g3 := takeV_lt (s := s2) (n := 4) (by decide)
  generalize takeV s2 4 = u at *
  generalize takeS s2 4 = s3 at *
  obtain ⟨x, w, ix, hf, hw⟩ : ∃ x w, fIx (.lst Fs) (.int u) = some (.tup [x, .str w]) ∧ Fault n x w ∧ Wd w := by
    rw [← hF]
    have hu : u = 0 ∨ u = 1 ∨ u = 2 ∨ u = 3 := by omega
    rcases hu with rfl | rfl | rfl | rfl
    · exact ⟨_, _, rfl, f0, w0⟩
    · exact ⟨_, _, rfl, f1, w1⟩
    · exact ⟨_, _, rfl, f2, w2⟩
    · exact ⟨_, _, rfl, f3, w3⟩
  have e1 := sp_ok n6 hn (x := x) (F := .dat (.lst Fs)) (x5 := .dat (.str w)) (x6 := x6) (x7 := .no) (x8 := .no) (x9 := .no) s3
  have z : mSeqI (mVar 3) [.dat .hnd, .dat B.d, .dat (.int (n : Nat)), .dat (.lst Fs), .no, .no, .no, .no, .no, .no] s2 = .ok Fs s2 := ev_seqI (ev_var rfl) rfl
  have eq := (eq_told (k := (n : Nat)) hw).1
  have lS : (spD B n x).length = B.n := by
    unfold spD
    rw [List.length_append, pre_len hn, List.length_cons, List.length_drop, l]
    omega
  have fin : ∀ (L : List Dt) (y7 y8 y9 : Sl), m__law_made [.lst L] s3 = .ok (.tup [.int (n : Nat), .str w]) s3 →
      (mIfS (mTest (mOp fLt (mVar 2) (mOp fSub (mCB fLen (mCons (mVar 1) mNil)) (mC (.int 1))))) (mSetI 6 (mUn fNeg (mC (.int 1))) (mC .non)) (mSetO 6 (mCatO (mLc (gmSeq 3 (gmCons (gmName 7) (gmCons (gmName 8) (gmCons (gmName 9) gmNil)))) (mSeqI (mSl (mVar 1) mPartN (mPart (mVar 2)))) mYes (mTup (mCons (mVar 7) (mCons (mVar 8) (mCons (mC (.int 0)) mNil)))) [7, 8, 9]) (mLst (mCons (mVar 4) mNil)))))
        [.dat .hnd, .dat B.d, .dat (.int (n : Nat)), .dat (.lst Fs), .dat x, .dat (.str w), .own (spD B n x), .no, .no, .no] s3 = .ok (.nx [.dat .hnd, .dat B.d, .dat (.int (n : Nat)), .dat (.lst Fs), .dat x, .dat (.str w), .own L, y7, y8, y9]) s3 →
      m__law_wrong [.hnd, B.d] s = .ok (.bl true) s3 := fun L y7 y8 y9 em ei => by
    refine es_def (ρ := [.dat .hnd, .dat B.d, .no, .no, .no, .no, .no, .no, .no, .no]) rfl ?_
    unfold b__law_wrong
    refine es_seq (es_set (d := .int (n : Nat)) (by sizeOf_list_dec)) ?_
    refine es_seq (es_set (d := .lst Fs) (by sizeOf_list_dec)) ?_
    refine es_seq (es_for (b1 := wrBody) z hl) ?_
    refine es_seq (ρ1 := [.dat .hnd, .dat B.d, .dat (.int (n : Nat)), .dat (.lst Fs), .dat x, .dat (.str w), x6, .no, .no, .no]) (s1 := s3) (es_asg (by sizeOf_list_dec) rfl) ?_
    refine es_seq (es_setO e1) ?_
    refine es_seq ei ?_
    exact es_frz rfl (es_ret (ev_op (ev_call0 (ev_cons (ev_var rfl) ev_nil) rfl em) (ev_tup (ev_cons (ev_var rfl) (ev_cons (ev_var rfl) ev_nil)) (by simp)) eq))
  have sb : fSub (.int (B.n : Nat)) (.int 1) = some (.int ((B.n : Int) - 1)) := rfl
  by_cases c : (n : Int) < (B.n : Int) - 1
  · have lt := flt_t c
    have ng : fNeg (.int 1) = some (.int (-1)) := rfl
    have ij : ixN (spD B n x).length (-1) = some (B.n - 1) := by
      rw [lS]
      unfold ixN
      rw [if_neg (by omega), if_pos (by omega)]
      congr 1
      omega
    have es : (spD B n x).set (B.n - 1) .non = B.row.take n ++ x :: (B.row.drop (n + 1)).set (B.n - 1 - n - 1) .non := by
      unfold spD
      rw [List.set_append_right _ _ (by rw [pre_len hn]; omega), pre_len hn]
      obtain ⟨k, hk⟩ : ∃ k, B.n - 1 - n = k + 1 := ⟨B.n - 1 - n - 1, by omega⟩
      rw [hk]
      rfl
    have em := sp_told ok hn hf (rest := (B.row.drop (n + 1)).set (B.n - 1 - n - 1) .non) (by rw [List.length_set, List.length_drop, l]; omega) s3
    rw [← es] at em
    exact ⟨s3, fin _ .no .no .no em (es_if_t (ev_test (by sizeOf_list_dec)) (es_setI ev_c rfl (ev_un ev_c ng) ij))⟩
  · have lt := flt_f c
    have c1 := sl_to (xs := B.row) (n := n) (by omega)
    rw [row_take (by omega)] at c1
    let C : Bars := ⟨n, 0, B.h, B.m, fun _ => 0⟩
    have oC : C.Ok1 := ⟨fun i hi => ok.h0 i (Nat.lt_trans hi hn), fun i hi => ok.h1 i (Nat.lt_trans hi hn), fun i hi => by show 0 ≤ 4; omega⟩
    have lC : C.row.length = n := bars_len C
    have lc := ev_lc (it := mSeqI (mSl (mVar 1) mPartN (mPart (mVar 2)))) (ev_seqI (ev_sl (ev_var (d := B.d) (ρ := [.dat .hnd, .dat B.d, .dat (.int (n : Nat)), .dat (.lst Fs), .dat x, .dat (.str w), .own (spD B n x), .no, .no, .no]) (s := s3) rfl) ep_none (ep_some (ev_var rfl)) c1) rfl)
      (lc_map (g := gmSeq 3 (gmCons (gmName 7) (gmCons (gmName 8) (gmCons (gmName 9) gmNil)))) (a := mTup (mCons (mVar 7) (mCons (mVar 8) (mCons (mC (.int 0)) mNil)))) (vs := [7, 8, 9]) B.bar C.bar (List.range n) (by rw [List.length_range]; omega) fun i hi => ⟨[.dat .hnd, .dat B.d, .dat (.int (n : Nat)), .dat (.lst Fs), .dat x, .dat (.str w), .own (spD B n x), .dat (.int (B.h i)), .dat (dq (B.m i)), .dat (.int (B.l i : Nat))], rfl, ev_tup (ev_cons (ev_var rfl) (ev_cons (ev_var rfl) (ev_cons ev_c ev_nil))) (by simp)⟩)
    have em := at_T (D := .lst (C.row ++ x :: [])) (w := w) (i2_lst _) rfl (by rw [lC]; simp; omega) (good_T oC fun _ => false) s3 (by rw [lC]; exact hf s3)
    rw [lC] at em
    exact ⟨s3, fin _ .no .no .no em (es_if_f (ev_test (by sizeOf_list_dec)) (es_setO (ev_catO lc (ev_lst (ev_cons (ev_var rfl) ev_nil) (by simp)) (by rw [lC]; simp; omega))))⟩
end Law


set_option Elab.async false
set_option linter.all false
set_option maxRecDepth 100000
namespace Law
open PySem PySem.Spec PyProof.Rows L2 Mir
theorem sll_to {xs : List Dt} {n : Nat} (h : n ≤ xs.length) : fSl (.lst xs) none (some (n : Int)) = some (.lst (xs.take n)) := by
  have e1 : HT.sIx xs.length 0 none = 0 := rfl
  have e2 : HT.sIx xs.length xs.length (some (n : Int)) = n := by
    rw [show HT.sIx xs.length xs.length (some (n : Int)) = min n xs.length from HT.sIx_nat _ _ n]
    omega
  show some (Dt.lst (Mir.cutD xs none (some (n : Int)))) = _
  unfold Mir.cutD
  rw [e1, e2, List.drop_zero]
  rfl
theorem mul6 (x : Dt) : fMul (.lst [x]) (.int 6) = some (.lst (List.replicate 6 x)) := by
  show (if (6 : Int) ≤ 1000 ∧ (-1000 : Int) ≤ 6 ∧ Mir.sizeOk ([x].length * (6 : Int).toNat) then some (Dt.lst (List.replicate (6 : Int).toNat [x]).flatten) else none) = _
  rw [if_pos ⟨by decide, by decide, by show 1 * 6 ≤ 100000; omega⟩]
  rfl
/-- the bars with six more, cut -/
def Bars.six (B : Bars) : Bars := ⟨6, B.N, fun i => if i < B.n then B.h i else -1, fun i => if i < B.n then B.m i else 0, fun i => if i < B.n then B.l i else 1⟩
theorem six_ok {B : Bars} (ok : B.Ok) : B.six.Ok := by
  have N1 := ok.N1
  have n6 := ok.n6
  refine ⟨by show 1 ≤ 6; omega, by show 6 ≤ 6; omega, N1, ok.N4, fun i hi => ?_, fun i hi => ?_, fun i hi => ?_, fun i hi => ?_, fun k k1 k2 => ?_⟩
  · show -1 ≤ if i < B.n then B.h i else -1
    split
    · rename_i c; exact ok.h0 i c
    · omega
  · show (if i < B.n then B.h i else -1) < i
    split
    · rename_i c; exact ok.h1 i c
    · omega
  · show Bd 210 (if i < B.n then B.m i else 0)
    split
    · rename_i c; exact ok.m i c
    · exact bd0.mono (by omega)
  · show (if i < B.n then B.l i else 1) ≤ B.N
    split
    · rename_i c; exact ok.l i c
    · exact N1
  · obtain ⟨i, hi, e⟩ := ok.all k k1 k2
    refine ⟨i, by show i < 6; omega, ?_⟩
    show (if i < B.n then B.l i else 1) = k
    rw [if_pos hi, e]
theorem six_row {B : Bars} (n6 : B.n ≤ 6) : (B.row ++ List.replicate 6 (Dt.lst [.int (-1), .tup [.int 0, .int 1], .int 1])).take 6 = rowT B.six (fun i => decide (B.n ≤ i)) := by
  apply List.ext_getElem?
  intro j
  rw [List.getElem?_take]
  by_cases c : j < 6
  · rw [if_pos c]
    unfold rowT
    rw [List.getElem?_map, List.getElem?_range (show j < B.six.n from c)]
    by_cases d : j < B.n
    · rw [List.getElem?_append_left (by rw [bars_len]; exact d)]
      unfold Bars.row
      rw [List.getElem?_map, List.getElem?_range d]
      show some (B.bar j) = some (barT B.six _ j)
      unfold barT
      rw [if_neg (by rw [decide_eq_true_eq]; omega)]
      unfold Bars.bar Bars.six
      simp only [if_pos d]
    · rw [List.getElem?_append_right (by rw [bars_len]; omega), bars_len, List.getElem?_replicate, if_pos (by omega)]
      show some _ = some (barT B.six _ j)
      unfold barT
      rw [if_pos (by rw [decide_eq_true_eq]; omega)]
      unfold Bars.six
      simp only [if_neg d]
      rfl
  · rw [if_neg c, List.getElem?_eq_none (by rw [rowT_len]; show 6 ≤ j; omega)]
def Bars.flat (B : Bars) : Bars := ⟨B.n, 0, B.h, B.m, fun _ => 0⟩
def Bars.high (B : Bars) : Bars := ⟨B.n, B.N + 1, B.h, B.m, fun i => if B.l i = 0 then 0 else B.l i + 1⟩
section
variable {B : Bars} (ok : B.Ok)
include ok
theorem flat_told (s : Hd) : m__law_made [.lst B.flat.row] s = .ok (.tup [.int 0, .str "gap"]) s :=
  gap_T (C := B.flat) (t := fun _ => false) ⟨ok.h0, ok.h1, fun i hi => by show 0 ≤ 4; omega⟩ ok.n1 ok.n6 (i2_lst _) rfl (M := 0) (by omega) (fun i hi => Nat.le_refl 0) ⟨0, ok.n1, rfl⟩ (.inl rfl) s
theorem high_told (h : B.N < 4) (s : Hd) : m__law_made [.lst B.high.row] s = .ok (.tup [.int 0, .str "gap"]) s := by
  have N1 := ok.N1
  have hl : ∀ i, i < B.n → B.high.l i ≤ B.N + 1 := fun i hi => by
    show (if B.l i = 0 then 0 else B.l i + 1) ≤ _
    have := ok.l i hi
    split <;> omega
  refine gap_T (C := B.high) (t := fun _ => false) ⟨ok.h0, ok.h1, fun i hi => by have := hl i hi; omega⟩ ok.n1 ok.n6 (i2_lst _) rfl (M := B.N + 1) (by omega) hl ?_ (.inr ⟨1, Nat.le_refl 1, by omega, fun i hi => ?_⟩) s
  · obtain ⟨i, hi, e⟩ := ok.all B.N N1 (Nat.le_refl _)
    refine ⟨i, hi, ?_⟩
    show (if B.l i = 0 then 0 else B.l i + 1) = _
    rw [if_neg (by omega), e]
  · show (if B.l i = 0 then 0 else B.l i + 1) ≠ 1
    split <;> omega
theorem seven_told (s : Hd) : m__law_made [.lst ((B.row ++ List.replicate 6 (Dt.tup [.int (-1), .tup [.int 0, .int 1], .int 1])).take 7)] s = .ok (.tup [.int 0, .str "many"]) s := by
  have n1 := ok.n1
  refine many_T (fun s => row_gf (i2_lst _) rfl ?_ s) s
  rw [List.length_take, List.length_append, bars_len, List.length_replicate]
  omega
theorem six_told (s : Hd) : m__law_made [.lst ((B.row ++ List.replicate 6 (Dt.lst [.int (-1), .tup [.int 0, .int 1], .int 1])).take 6)] s = .ok B.six.arms s := by
  rw [six_row ok.n6]
  exact made_ok (make_gen (six_ok ok) (i2_lst _) rfl s)
end
theorem gaps_ok {B : Bars} (ok : B.Ok) (s : Hd) : ∃ s', m__law_gaps [.hnd, B.d] s = .ok (.bl true) s' := by
  have n1 := ok.n1
  have n6 := ok.n6
  have N4 := ok.N4
  have l := bars_len B
  have e1 := flat_told ok s
  have e3 := seven_told ok s
  have e4 := six_told ok s
  have wg : Wd "gap" := by decide +kernel
  have wm : Wd "many" := by decide +kernel
  have q1 := (eq_told (k := 0) wg).2
  obtain ⟨q3, q2⟩ := eq_told (k := 0) wm
  have mo := most_ok ok s
  have ng1 : fNeg (.int 1) = some (.int (-1)) := rfl
  have z : ∀ (x2 x6 : Sl), mSeqI (mVar 1) [.dat .hnd, .dat B.d, x2, .no, .no, .no, x6, .no, .no] s = .ok B.row s := fun _ _ => ev_seqI (ev_var rfl) rfl
  have lc1 : mLc (gmSeq 3 (gmCons (gmName 3) (gmCons (gmName 4) (gmCons (gmName 5) gmNil)))) (mSeqI (mVar 1)) mYes (mTup (mCons (mVar 3) (mCons (mVar 4) (mCons (mC (.int 0)) mNil)))) [3, 4, 5] [.dat .hnd, .dat B.d, .no, .no, .no, .no, .no, .no, .no] s = .ok (.lst B.flat.row) s :=
    ev_lc (z .no .no) (lc_map B.bar B.flat.bar (List.range B.n) (by rw [List.length_range]; omega) fun i hi => ⟨[.dat .hnd, .dat B.d, .no, .dat (.int (B.h i)), .dat (dq (B.m i)), .dat (.int (B.l i : Nat)), .no, .no, .no], rfl, ev_tup (ev_cons (ev_var rfl) (ev_cons (ev_var rfl) (ev_cons ev_c ev_nil))) (by simp)⟩)
  have lc2 : mLc (gmSeq 3 (gmCons (gmName 3) (gmCons (gmName 4) (gmCons (gmName 5) gmNil)))) (mSeqI (mVar 1)) mYes (mTup (mCons (mVar 3) (mCons (mVar 4) (mCons (mIf (mTru (mVar 5)) (mOp fAdd (mVar 5) (mC (.int 1))) (mC (.int 0))) mNil)))) [3, 4, 5] [.dat .hnd, .dat B.d, .dat (.lst B.flat.row), .no, .no, .no, .no, .no, .no] s = .ok (.lst B.high.row) s :=
    ev_lc (z _ .no) (lc_map B.bar B.high.bar (List.range B.n) (by rw [List.length_range]; omega) fun i hi => ⟨[.dat .hnd, .dat B.d, .dat (.lst B.flat.row), .dat (.int (B.h i)), .dat (dq (B.m i)), .dat (.int (B.l i : Nat)), .no, .no, .no], rfl, by
      have tv := tru_int (B.l i : Nat)
      show _ = R.ok (Dt.tup [.int (B.h i), dq (B.m i), .int ((if B.l i = 0 then 0 else B.l i + 1 : Nat) : Int)]) s
      refine ev_tup (ev_cons (ev_var rfl) (ev_cons (ev_var rfl) (ev_cons ?_ ev_nil))) (by simp)
      by_cases c : B.l i = 0
      · rw [if_pos c]
        exact ev_if_f (ev_tru (ev_var rfl) (by rw [tv, c]; rfl)) ev_c
      · rw [if_neg c]
        exact ev_if_t (ev_tru (ev_var rfl) (by rw [tv]; simpa using c)) (ev_op (ev_var rfl) ev_c rfl)⟩)
  have two : ∃ x6 : Sl, (mIfS (mTest (mOp fLt (mCall 1 [] m__law_most (mCons (mVar 1) mNil)) (mC (.int 4)))) (mSeq (mSet 6 (mLc (gmSeq 3 (gmCons (gmName 3) (gmCons (gmName 4) (gmCons (gmName 5) gmNil)))) (mSeqI (mVar 1)) mYes (mTup (mCons (mVar 3) (mCons (mVar 4) (mCons (mIf (mTru (mVar 5)) (mOp fAdd (mVar 5) (mC (.int 1))) (mC (.int 0))) mNil)))) [3, 4, 5]))
    (mIfS (mTest (mOp fNe (mCall 1 [] m__law_made (mCons (mVar 6) mNil)) (mTup (mCons (mC (.int 0)) (mCons (mC (.str "gap")) mNil))))) (mRet (mC (.bl false))) mNext)) mNext) [.dat .hnd, .dat B.d, .dat (.lst B.flat.row), .no, .no, .no, .no, .no, .no] s = .ok (.nx [.dat .hnd, .dat B.d, .dat (.lst B.flat.row), .no, .no, .no, x6, .no, .no]) s := by
    by_cases c : B.N < 4
    · have f := flt_t (i := (B.N : Nat)) (j := 4) (by omega)
      have e2 := high_told ok c s
      exact ⟨_, es_if_t (ev_test (by sizeOf_list_dec)) (es_seq (es_set lc2) (es_if_f (ev_test (ev_op (ev_call0 (ev_cons (ev_var rfl) ev_nil) rfl e2) (by sizeOf_list_dec) q1)) es_next))⟩
    · have f := flt_f (i := (B.N : Nat)) (j := 4) (by omega)
      exact ⟨_, es_if_f (ev_test (by sizeOf_list_dec)) es_next⟩
  obtain ⟨x6, two⟩ := two
  have lr : ∀ x : Dt, (B.row ++ List.replicate 6 x).length = B.n + 6 := fun x => by rw [List.length_append, l, List.length_replicate]
  have more : ∀ (x : Dt), fAdd (.lst B.row) (.lst (List.replicate 6 x)) = some (.lst (B.row ++ List.replicate 6 x)) := fun x => cat_l (by rw [l, List.length_replicate]; omega)
  have s7 := sll_to (xs := B.row ++ List.replicate 6 (Dt.tup [.int (-1), .tup [.int 0, .int 1], .int 1])) (n := 7) (by rw [lr]; omega)
  have s6 := sll_to (xs := B.row ++ List.replicate 6 (Dt.lst [.int (-1), .tup [.int 0, .int 1], .int 1])) (n := 6) (by rw [lr]; omega)
  have m7 := mul6 (Dt.tup [.int (-1), .tup [.int 0, .int 1], .int 1])
  have m6 := mul6 (Dt.lst [.int (-1), .tup [.int 0, .int 1], .int 1])
  have a7 := more (Dt.tup [.int (-1), .tup [.int 0, .int 1], .int 1])
  have a6 := more (Dt.lst [.int (-1), .tup [.int 0, .int 1], .int 1])
  have t1 := take_ok s (n := 6) (by decide)
  have g0 := takeV_ge (s := s) (n := 6) (by decide)
  have g1 := takeV_lt (s := s) (n := 6) (by decide)
  generalize takeV s 6 = u at *
  generalize takeS s 6 = s1 at *
  obtain ⟨d, ix, nd⟩ : ∃ d, fIx (.lst [.tup [], .lst [], .non, .str "bars", .int 3, .dct]) (.int u) = some d ∧ ∀ s, m_is_row [d, .int 1, .int 6] s = .ok (.bl false) s := by
    have hu : u = 0 ∨ u = 1 ∨ u = 2 ∨ u = 3 ∨ u = 4 ∨ u = 5 := by omega
    rcases hu with rfl | rfl | rfl | rfl | rfl | rfl
    · exact ⟨_, rfl, fun s => row_gf (i2_tup _) rfl (by simp) s⟩
    · exact ⟨_, rfl, fun s => row_gf (i2_lst _) rfl (by simp) s⟩
    · exact ⟨_, rfl, fun s => row_kf isi2_non s⟩
    · exact ⟨_, rfl, fun s => row_kf (isi2_str _) s⟩
    · exact ⟨_, rfl, fun s => row_kf (isi2_int _) s⟩
    · exact ⟨_, rfl, fun s => row_kf isi2_dct s⟩
  have e5 := many_T nd s1
  have b0 : fIx B.d (.int 0) = some (B.bar 0) := by
    show atI B.row _ = _
    rw [atI_row B (by omega) (by omega)]
    rfl
  have dc : ∀ (x2 x7 : Sl), mDctG (mC (.int 0)) (mOp fIx (mVar 1) (mC (.int 0))) [.dat .hnd, .dat B.d, x2, .no, .no, .no, x6, x7, .no] s = .ok .dct s := fun x2 x7 => by
    unfold mDctG
    rw [ev_c]
    simp only [R.bind_ok]
    rw [ev_op (ev_var rfl) ev_c b0]
    rfl
  have iso : ∀ s : Hd, mIsiO "Arms" (mCall 1 [] m__law_made (mCons (mSl (mOp fAdd (mCB fListC (mCons (mVar 1) mNil)) (mOp fMul (mLst (mCons (mLst (mCons (mUn fNeg (mC (.int 1))) (mCons (mTup (mCons (mC (.int 0)) (mCons (mC (.int 1)) mNil))) (mCons (mC (.int 1)) mNil)))) mNil)) (mC (.int 6)))) mPartN (mPart (mC (.int 6)))) mNil)) [.dat .hnd, .dat B.d, .dat (.lst B.flat.row), .no, .no, .no, x6, .dat (.lst ((B.row ++ List.replicate 6 (Dt.tup [.int (-1), .tup [.int 0, .int 1], .int 1])).take 7)), .no] s = .ok (.bl true) s := fun s => by
    have e4 := six_told ok s
    have q : mCall 1 [] m__law_made (mCons (mSl (mOp fAdd (mCB fListC (mCons (mVar 1) mNil)) (mOp fMul (mLst (mCons (mLst (mCons (mUn fNeg (mC (.int 1))) (mCons (mTup (mCons (mC (.int 0)) (mCons (mC (.int 1)) mNil))) (mCons (mC (.int 1)) mNil)))) mNil)) (mC (.int 6)))) mPartN (mPart (mC (.int 6)))) mNil) [.dat .hnd, .dat B.d, .dat (.lst B.flat.row), .no, .no, .no, x6, .dat (.lst ((B.row ++ List.replicate 6 (Dt.tup [.int (-1), .tup [.int 0, .int 1], .int 1])).take 7)), .no] s = .ok B.six.arms s :=
      ev_call0 (ev_cons (ev_sl (ev_op (ev_cb (ev_cons (ev_var (d := B.d) rfl) ev_nil) rfl) (ev_op (by sizeOf_list_dec) ev_c m6) a6) ep_none (ep_some ev_c) s6) ev_nil) rfl e4
    unfold mIsiO
    rw [q]
    rfl
  refine ⟨s1, ?_⟩
  refine es_def (ρ := [.dat .hnd, .dat B.d, .no, .no, .no, .no, .no, .no, .no]) rfl ?_
  unfold b__law_gaps
  refine es_seq (ρ1 := [.dat .hnd, .dat B.d, .dat (.lst B.flat.row), .no, .no, .no, .no, .no, .no]) (s1 := s) (es_set lc1) ?_
  refine es_seq (es_if_f (ev_test (ev_op (ev_call0 (ev_cons (ev_var rfl) ev_nil) rfl e1) (by sizeOf_list_dec) q1)) es_next) ?_
  refine es_seq two ?_
  refine es_seq (ρ1 := [.dat .hnd, .dat B.d, .dat (.lst B.flat.row), .no, .no, .no, x6, .dat (.lst ((B.row ++ List.replicate 6 (Dt.tup [.int (-1), .tup [.int 0, .int 1], .int 1])).take 7)), .no]) (s1 := s) (es_set (ev_sl (ev_op (ev_cb (ev_cons (ev_var (d := B.d) rfl) ev_nil) rfl) (ev_op (by sizeOf_list_dec) ev_c m7) a7) ep_none (ep_some ev_c) s7)) ?_
  refine es_seq (es_if_f (ev_or_f (ev_test (ev_op (ev_call0 (ev_cons (ev_var rfl) ev_nil) rfl e3) (by sizeOf_list_dec) q2)) (ev_not_f (ev_tru (iso s) rfl))) es_next) ?_
  have dc1 := dc (.dat (.lst B.flat.row)) (.dat (.lst ((B.row ++ List.replicate 6 (Dt.tup [.int (-1), .tup [.int 0, .int 1], .int 1])).take 7)))
  refine es_seq (es_set (d := d) (s1 := s1) (by sizeOf_list_dec)) ?_
  exact es_ret (ev_op (ev_call0 (ev_cons (ev_var rfl) ev_nil) rfl e5) (by sizeOf_list_dec) q3)
end Law


set_option Elab.async false
set_option linter.all false
set_option maxRecDepth 100000
namespace Law
open PySem PySem.Spec PyProof.Rows L2 Mir
/-! ### unlike bars -/
def pyBar (C : Bars) (i : Nat) : PyData := .tuple [.int (C.h i), .tuple [.int (C.m i).num, .int ((C.m i).den : Int)], .int (C.l i : Nat)]
theorem toPyA_map {α : Type} (f : α → Dt) (g : α → PyData) (h : ∀ x, toPy (f x) = some (g x)) : ∀ l : List α, toPyA (l.map f) = some (l.map g)
  | [] => rfl
  | x :: l => by
    rw [List.map_cons]
    unfold toPyA
    rw [h x, toPyA_map f g h l]
    rfl
theorem py_bars {C : Bars} (ok : C.Ok) : pyOk C.d = some (.tuple ((List.range C.n).map (pyBar C))) := by
  obtain ⟨p, e, _⟩ := pl_ok (n := 4) (by decide) (pl_bars ok)
  have t := (pyOk_some e).1
  have u : toPy C.d = some (.tuple ((List.range C.n).map (pyBar C))) := by
    show (toPyA C.row).map PyData.tuple = _
    rw [show toPyA C.row = some ((List.range C.n).map (pyBar C)) from toPyA_map C.bar (pyBar C) (fun i => rfl) _]
    rfl
  rw [t] at u
  cases u
  exact e
theorem eqvAll_len : ∀ {a b : List PyData}, PyData.eqvAll a b = true → a.length = b.length
  | [], [], _ => rfl
  | [], _ :: _, h => by simp [PyData.eqvAll] at h
  | _ :: _, [], h => by simp [PyData.eqvAll] at h
  | x :: a, y :: b, h => by
    simp only [PyData.eqvAll, Bool.and_eq_true] at h
    simp [eqvAll_len h.2]
theorem eq_unlike {C B : Bars} (okC : C.Ok) (ok : B.Ok) (h : C.n ≠ B.n ∨ C.m 0 ≠ B.m 0) : fEq C.d B.d = some (.bl false) := by
  have e : fEqB C.d B.d = some false := by
    unfold fEqB
    rw [py_bars okC, py_bars ok]
    simp only [Option.bind_some, PyData.eqv]
    congr 1
    cases c : PyData.eqvAll ((List.range C.n).map (pyBar C)) ((List.range B.n).map (pyBar B)) with
    | false => rfl
    | true =>
      have l := eqvAll_len c
      simp only [List.length_map, List.length_range] at l
      rcases h with h | h
      · exact absurd l h
      · obtain ⟨k, hk⟩ : ∃ k, B.n = k + 1 := ⟨B.n - 1, by have := ok.n1; omega⟩
        rw [l, hk, List.range_succ_eq_map, List.map_cons, List.map_cons] at c
        simp only [PyData.eqvAll, Bool.and_eq_true] at c
        have q := c.1
        simp only [pyBar, PyData.eqv, PyData.eqvAll, Bool.and_eq_true, Bool.and_true, beq_iff_eq] at q
        exact absurd (Rat.ext (by omega) (by omega)) h
  unfold fEq
  rw [e]
  rfl
theorem at_bars1 (B : Bars) {ρ : Env'} {i : Nat} {s : Hd} (h : ρ[i]? = some (.dat B.arms)) : mAttr ["Arms"] "bars" (mVar i) ρ s = .ok B.d s := ev_attr (cl := "Arms") (fs := [("letters", .int (B.N : Nat)), ("bars", B.d)]) (ev_var h) (by simp) (lk_bars _ _)
theorem arms_eq_f {C B : Bars} (okC : C.Ok) (ok : B.Ok) (h : C.n ≠ B.n ∨ C.m 0 ≠ B.m 0) (s : Hd) : m_Arms____eq__ [C.arms, B.arms] s = .ok (.bl false) s := by
  have e := eq_unlike okC ok h
  have i : mIsiO "Arms" (mVar 1) [.dat C.arms, .dat B.arms] s = .ok (.bl true) s := rfl
  refine es_def (ρ := [.dat C.arms, .dat B.arms]) rfl ?_
  unfold b_Arms____eq__
  exact es_ret (ev_andv_t i rfl (ev_op (at_bars1 C rfl) (at_bars1 B rfl) e))
theorem arms_eq_d (B : Bars) (s : Hd) : m_Arms____eq__ [B.arms, B.d] s = .ok (.bl false) s := by
  have i : mIsiO "Arms" (mVar 1) [.dat B.arms, .dat B.d] s = .ok (.bl false) s := rfl
  refine es_def (ρ := [.dat B.arms, .dat B.d]) rfl ?_
  unfold b_Arms____eq__
  exact es_ret (ev_andv_f i rfl)
theorem arms_len (B : Bars) (s : Hd) : m_Arms____len__ [B.arms] s = .ok (.int (B.n : Nat)) s := by
  have len : fLen [B.d] = some (.int B.n) := by simp [Bars.d, fLen, bars_len]
  refine es_def (ρ := [.dat B.arms]) rfl ?_
  unfold b_Arms____len__
  exact es_ret (ev_cb (ev_cons (at_bars1 B rfl) ev_nil) len)
/-! ### other bars -/
def Bars.bump (B : Bars) : Bars := ⟨B.n, B.N, B.h, fun i => if i = 0 then B.m 0 + 1 else B.m i, B.l⟩
def Bars.last (B : Bars) (q : Rat) : Bars := ⟨B.n, B.N, B.h, fun i => if i = B.n - 1 then q else B.m i, B.l⟩
theorem bump_row {B : Bars} (h : 1 ≤ B.n) : B.bump.row = [Dt.tup [.int (B.h 0), dq (B.m 0 + 1), .int (B.l 0 : Nat)]] ++ B.row.drop 1 := by
  apply List.ext_getElem?
  intro j
  unfold Bars.row
  rw [List.getElem?_map]
  cases j with
  | zero =>
    rw [List.getElem?_range (show 0 < B.bump.n from h), List.getElem?_append_left (by simp)]
    rfl
  | succ j =>
    rw [List.getElem?_append_right (by simp), List.length_singleton, List.getElem?_drop, Nat.add_sub_cancel, Nat.add_comm 1 j, List.getElem?_map]
    show ((List.range B.n)[j + 1]?).map _ = _
    cases e : (List.range B.n)[j + 1]? with
    | none => rfl
    | some k =>
      have hk : k = j + 1 := by
        have := List.getElem?_eq_some_iff.mp e
        obtain ⟨a, b⟩ := this
        simpa using b.symm
      subst hk
      show some (B.bump.bar (j + 1)) = some (B.bar (j + 1))
      unfold Bars.bar Bars.bump
      simp
theorem last_row {B : Bars} (h : 1 ≤ B.n) (q : Rat) : (B.last q).row = B.row.take (B.row.length - 1) ++ [Dt.tup [.int (B.h (B.n - 1)), dq q, .int (B.l (B.n - 1) : Nat)]] := by
  obtain ⟨k, hk⟩ : ∃ k, B.n = k + 1 := ⟨B.n - 1, by omega⟩
  rw [bars_len, row_take (by omega)]
  show (List.range B.n).map (B.last q).bar = _
  rw [hk, List.range_succ, List.map_append, List.map_singleton, Nat.add_sub_cancel]
  congr 1
  · refine List.map_congr_left fun i hi => ?_
    have := List.mem_range.1 hi
    unfold Bars.bar Bars.last
    simp only [if_neg (show ¬ i = B.n - 1 by omega)]
  · unfold Bars.bar Bars.last
    simp only [if_pos (show k = B.n - 1 by omega)]
theorem marks_ok {B : Bars} (ok : B.Ok) {f : Nat → Rat} (hf : ∀ i, i < B.n → Bd 210 (f i)) : (⟨B.n, B.N, B.h, f, B.l⟩ : Bars).Ok := ⟨ok.n1, ok.n6, ok.N1, ok.N4, ok.h0, ok.h1, hf, ok.l, ok.all⟩
theorem lfree_bars (B : Bars) : lfree B.d = true := by
  show lfreeA B.row = true
  rw [lfreeA_all, List.all_eq_true]
  intro d hd
  obtain ⟨i, _, e⟩ := List.mem_map.1 hd
  rw [← e]
  rfl
theorem lfree_arms (B : Bars) : lfree B.arms = true := by
  show (true && (lfree B.d && true)) = true
  rw [lfree_bars]
  rfl
theorem lfSl_t {d : Dt} (h : lfree d = true) : lfSl (.dat d) = .dat d := if_pos h
theorem es_blk_t {i j : Nat} {m12 : MS} {mt : MT} {b a : ME} {ρ ρ0 ρ1 : Env'} {s s1 s2 s3 s4 : Hd} {d : Dt} {ds : List Dt} {k : Int} (h0 : ρ.map lfSl = ρ0) (h12 : m12 ρ0 s = .ok (.nx ρ1) s1) (ht : mt ρ1 s1 = .ok true s2) (ha : a ρ1 s2 = .ok d s3) (hi : ρ1[i]? = some (.dat (.lst ds))) (hb : b ρ1 s3 = .ok (.int k) s4) (hj : ixN ds.length k = some j) : mBlk i m12 mt b a ρ s = .ok (.nx (ρ1.map lfSl)) s4 := by
  unfold mBlk
  rw [h0, h12]
  simp only [ht, ha, hi, hb, hj]
theorem es_blk_f {i : Nat} {m12 : MS} {mt : MT} {b a : ME} {ρ ρ0 ρ1 : Env'} {s s1 s2 : Hd} (h0 : ρ.map lfSl = ρ0) (h12 : m12 ρ0 s = .ok (.nx ρ1) s1) (ht : mt ρ1 s1 = .ok false s2) : mBlk i m12 mt b a ρ s = .ok (.nx (ρ1.map lfSl)) s2 := by
  unfold mBlk
  rw [h0, h12]
  simp only [ht]
end Law


set_option Elab.async false
set_option linter.all false
set_option maxRecDepth 100000
namespace Law
open PySem PySem.Spec PyProof.Rows L2 Mir
abbrev wideS : MS := (mIfS (mTest (mOp fEq (mCall 2 [] m__law_take (mCons (mVar 1) (mCons (mC (.int 4)) mNil))) (mC (.int 0)))) (mSeq (mAsg (gmSeq 3 (gmCons (gmName 3) (gmCons (gmName 4) (gmCons (gmName 5) gmNil)))) (mOp fIx (mVar 2) (mUn fNeg (mC (.int 1)))))
    (mSet 2 (mOp fAddE (mSl (mVar 2) mPartN (mPart (mUn fNeg (mC (.int 1))))) (mTup (mCons (mTup (mCons (mVar 3) (mCons (mCall 1 [] m__law_wide_ratio (mCons (mVar 1) mNil)) (mCons (mVar 5) mNil)))) mNil))))) mNext)
theorem wide_step {B : Bars} (ok : B.Ok) (m8 : ∀ i, i < B.n → Bd 8 (B.m i)) (s : Hd) : ∃ (C : Bars) (x3 x4 x5 : Sl) (s' : Hd), C.Ok ∧ (∀ i, i < C.n → Bd 200 (C.m i)) ∧ wideS [.no, .dat .hnd, .dat B.d, .no, .no, .no, .no, .no, .no, .no, .no] s = .ok (.nx [.no, .dat .hnd, .dat C.d, x3, x4, x5, .no, .no, .no, .no, .no]) s' := by
  have n1 := ok.n1
  have n6 := ok.n6
  have t1 := take_ok s (n := 4) (by decide)
  generalize takeV s 4 = v at *
  generalize takeS s 4 = s1 at *
  by_cases c : v = 0
  · have f := feq_t v 0 c
    obtain ⟨q, s2, eq, bq⟩ := wratio_ok s1
    have b2 : ∀ i, i < B.n → Bd 200 ((B.last q).m i) := fun i hi => by
      show Bd 200 (if i = B.n - 1 then q else B.m i)
      split
      · exact bq
      · exact (m8 i hi).mono (by omega)
    have oC : (B.last q).Ok := marks_ok ok fun i hi => (b2 i hi).mono (by omega)
    have ng : fNeg (.int 1) = some (.int (-1)) := rfl
    have l := bars_len B
    have ix : fIx B.d (.int (-1)) = some (B.bar (B.n - 1)) := by
      show atI B.row _ = _
      unfold atI
      have : ixN B.row.length (-1) = some (B.n - 1) := by
        rw [l]
        unfold ixN
        rw [if_neg (by omega), if_pos (by omega)]
        congr 1
        omega
      rw [this]
      unfold Bars.row
      show ((List.range B.n).map B.bar)[B.n - 1]? = _
      rw [List.getElem?_map, List.getElem?_range (by omega)]
      rfl
    have sl := sl_init B.row
    have ad := add_e (a := B.row.take (B.row.length - 1)) (b := [Dt.tup [.int (B.h (B.n - 1)), dq q, .int (B.l (B.n - 1) : Nat)]]) (by rw [List.length_take]; simp; omega)
    rw [← last_row n1 q] at ad
    refine ⟨B.last q, .dat (.int (B.h (B.n - 1))), .dat (dq (B.m (B.n - 1))), .dat (.int (B.l (B.n - 1) : Nat)), s2, oC, b2, ?_⟩
    refine es_if_t (ev_test (by sizeOf_list_dec)) ?_
    refine es_seq (ρ1 := [.no, .dat .hnd, .dat B.d, .dat (.int (B.h (B.n - 1))), .dat (dq (B.m (B.n - 1))), .dat (.int (B.l (B.n - 1) : Nat)), .no, .no, .no, .no, .no]) (s1 := s1) (es_asg (by sizeOf_list_dec) rfl) ?_
    refine es_set (d := (B.last q).d) ?_
    exact ev_op (ev_sl (ev_var (d := B.d) rfl) ep_none (ep_some (ev_un ev_c ng)) sl) (by sizeOf_list_dec) ad
  · have f := feq_f v 0 c
    exact ⟨B, .no, .no, .no, s1, ok, fun i hi => (m8 i hi).mono (by omega), es_if_f (ev_test (by sizeOf_list_dec)) es_next⟩
abbrev blkS : MS := (mBlk 6 (mSeq (mSet 6 (mCall 2 [] m__law_lists (mCons (mVar 1) (mCons (mVar 2) mNil)))) (mSet 7 (mMake "Arms" 1 [] m_Arms____init__ (mCons (mVar 6) mNil)))) (mTru (mIsi "list" (mVar 6))) (mC (.int 0)) (mTup (mCons (mUn fNeg (mC (.int 1))) (mCons (mTup (mCons (mC (.int 7)) (mCons (mC (.int 3)) mNil))) (mCons (mC (.int 4)) mNil)))))
theorem blk_step {B : Bars} (ok : B.Ok) (x3 x4 x5 : Sl) (s : Hd) : ∃ (y3 y4 y5 y6 : Sl) (s' : Hd), blkS [.no, .dat .hnd, .dat B.d, x3, x4, x5, .no, .no, .no, .no, .no] s = .ok (.nx [.no, .dat .hnd, .dat B.d, y3, y4, y5, y6, .dat B.arms, .no, .no, .no]) s' := by
  have n1 := ok.n1
  obtain ⟨t, D, s1, el, hD⟩ := lists_ok (B := B) ok.n6 s
  have hi2 : fIsi2 "list" "tuple" D = some true := by
    rcases hD with rfl | rfl
    · exact i2_tup _
    · exact i2_lst _
  have hs : seqD D = some (rowT B t) := by rcases hD with rfl | rfl <;> rfl
  have mk := make_gen ok hi2 hs s1
  have h0 : ([.no, .dat .hnd, .dat B.d, x3, x4, x5, .no, .no, .no, .no, .no] : Env').map lfSl = [.no, .dat .hnd, .dat B.d, lfSl x3, lfSl x4, lfSl x5, .no, .no, .no, .no, .no] := by
    simp only [List.map_cons, List.map_nil, lfSl_t (lfree_bars B)]
    rfl
  have h12 : mSeq (mSet 6 (mCall 2 [] m__law_lists (mCons (mVar 1) (mCons (mVar 2) mNil)))) (mSet 7 (mMake "Arms" 1 [] m_Arms____init__ (mCons (mVar 6) mNil))) [.no, .dat .hnd, .dat B.d, lfSl x3, lfSl x4, lfSl x5, .no, .no, .no, .no, .no] s = .ok (.nx [.no, .dat .hnd, .dat B.d, lfSl x3, lfSl x4, lfSl x5, .dat D, .dat B.arms, .no, .no, .no]) s1 := by
    refine es_seq (ρ1 := [.no, .dat .hnd, .dat B.d, lfSl x3, lfSl x4, lfSl x5, .dat D, .no, .no, .no, .no]) (s1 := s1) (es_set (by sizeOf_list_dec)) ?_
    exact es_set (d := B.arms) (ev_make0 (ev_cons (ev_var rfl) ev_nil) rfl mk)
  have aft : ∀ x : Sl, ([.no, .dat .hnd, .dat B.d, lfSl x3, lfSl x4, lfSl x5, x, .dat B.arms, .no, .no, .no] : Env').map lfSl = [.no, .dat .hnd, .dat B.d, lfSl (lfSl x3), lfSl (lfSl x4), lfSl (lfSl x5), lfSl x, .dat B.arms, .no, .no, .no] := fun x => by
    simp only [List.map_cons, List.map_nil, lfSl_t (lfree_bars B), lfSl_t (lfree_arms B)]
    rfl
  rcases hD with rfl | rfl
  · have it : fIsi "list" (.tup (rowT B t)) = some false := by simp [fIsi, tyN]; decide
    have q := es_blk_f (i := 6) (b := mC (.int 0)) (a := mTup (mCons (mUn fNeg (mC (.int 1))) (mCons (mTup (mCons (mC (.int 7)) (mCons (mC (.int 3)) mNil))) (mCons (mC (.int 4)) mNil)))) h0 h12 (ev_tru (ev_isi (a := mVar 6) (ev_var rfl) it) rfl)
    rw [aft] at q
    exact ⟨_, _, _, _, s1, q⟩
  · have it : fIsi "list" (.lst (rowT B t)) = some true := by simp [fIsi, tyN]; decide
    have ng : fNeg (.int 1) = some (.int (-1)) := rfl
    have ij : ixN (rowT B t).length 0 = some 0 := by
      rw [rowT_len]
      unfold ixN
      rw [if_pos (by omega), if_pos (by omega)]
      rfl
    have tl : ∀ ρ : Env', mTup (mCons (mUn fNeg (mC (.int 1))) (mCons (mTup (mCons (mC (.int 7)) (mCons (mC (.int 3)) mNil))) (mCons (mC (.int 4)) mNil))) ρ s1 = .ok (.tup [.int (-1), .tup [.int 7, .int 3], .int 4]) s1 := fun ρ => by sizeOf_list_dec
    have q := es_blk_t (i := 6) (b := mC (.int 0)) h0 h12 (ev_tru (ev_isi (a := mVar 6) (ev_var rfl) it) rfl) (tl _) rfl ev_c ij
    rw [aft] at q
    exact ⟨_, _, _, _, s1, q⟩
theorem math (s : Hd) : ∃ s' : Hd, b_law (lawE 9) s = .ok (.rt (.bl true)) s' := by
  obtain ⟨B0, s1, ok0, m8, e1⟩ := bars_ok s
  obtain ⟨B, x3, x4, x5, s2, ok, m2, e2⟩ := wide_step ok0 m8 s1
  clear ok0 m8
  obtain ⟨y3, y4, y5, y6, s3, e3⟩ := blk_step ok x3 x4 x5 s2
  have n1 := ok.n1
  have n6 := ok.n6
  have l := bars_len B
  have nB := ne_bars ok
  have tp : m__law_tuples [B.d] s3 = .ok (.bl true) s3 := by
    refine tuples_ok (n := 3) ?_ (by omega) s3
    show (decide (_ ≤ 1000) && List.all _ _) = true
    rw [Bool.and_eq_true, List.all_eq_true]
    refine ⟨decide_eq_true (by omega), fun d hd => ?_⟩
    obtain ⟨i, _, e⟩ := List.mem_map.1 hd
    rw [← e]
    exact tp_bar B i
  have mo := most_ok ok s3
  have nN : fNe (.int (B.N : Nat)) (.int (B.N : Nat)) = some (.bl false) := ne_self 1 (by decide) rfl
  have nn : fNe (.int (B.n : Nat)) (.int (B.n : Nat)) = some (.bl false) := ne_self 1 (by decide) rfl
  have len : fLen [B.d] = some (.int B.n) := by simp [Bars.d, fLen, bars_len]
  have leo : fLenO "Arms" m_Arms____len__ [B.arms] = some (.int (B.n : Nat)) := lenO_of (arms_len B) (by omega)
  have mkB := make_ok ok (D := B.d) (i2_tup _) rfl s3
  have i0 : fIx B.d (.int 0) = some (B.bar 0) := by
    show atI B.row _ = _
    rw [atI_row B (by omega) (by omega)]
    rfl
  have b0 := m2 0 (by omega)
  have bp : ∀ i, i < B.n → Bd 210 (B.bump.m i) := fun i hi => by
    show Bd 210 (if i = 0 then B.m 0 + 1 else B.m i)
    split
    · exact (b0.add (bd1.mono (n := 1) (by omega))).mono (by omega)
    · exact ok.m i hi
  have okC : B.bump.Ok := marks_ok ok bp
  have mkC := make_ok okC (D := B.bump.d) (i2_tup _) rfl s3
  have pl := lplus_q (p := B.m 0) (q := 1) (n := 200) (by omega) b0 (bd1.mono (by omega)) s3
  have sl1 := sl_fr (xs := B.row) (n := 1) (by omega)
  have ad1 := add_e (a := [Dt.tup [.int (B.h 0), dq (B.m 0 + 1), .int (B.l 0 : Nat)]]) (b := B.row.drop 1) (by rw [List.length_drop]; simp; omega)
  rw [← bump_row n1] at ad1
  have un : B.bump.n ≠ B.n ∨ B.bump.m 0 ≠ B.m 0 := .inr (by
    show (if 0 = 0 then B.m 0 + 1 else B.m 0) ≠ B.m 0
    rw [if_pos rfl]
    grind)
  have q1 := eqO_arms ok
  have q2 : fEqO "Arms" m_Arms____eq__ B.bump.arms B.arms = some (.bl false) := eqO_of (arms_eq_f okC ok un)
  have q3 : fEqX "Arms" m_Arms____eq__ B.arms B.d = some (.bl false) := (eqX_of (arms_eq_d B)).1
  have q4 : fNeX "Arms" m_Arms____eq__ B.bump.arms B.arms = some (.bl true) := (eqX_of (arms_eq_f okC ok un) (show othD "Arms" B.arms = true from decide_eq_true (p := ("Arms" : Str) = "Arms") rfl)).2
  have sb : fSub (.int (B.n : Nat)) (.int 1) = some (.int ((B.n : Int) - 1)) := rfl
  have ad2 : fAddE B.d (.tup [.tup [.int ((B.n : Int) - 1), .tup [.int 1, .int 1], .int 0]]) = some (.tup (B.row ++ [.tup [.int ((B.n : Int) - 1), .tup [.int 1, .int 1], .int 0]])) := add_e (by simp; omega)
  have lenL : fLen [.tup (B.row ++ [Dt.tup [.int ((B.n : Int) - 1), .tup [.int 1, .int 1], .int 0]])] = some (.int ((B.n : Int) + 1)) := by simp [fLen, bars_len]
  obtain ⟨s4, ew⟩ := wrong_ok ok s3
  obtain ⟨s5, eg⟩ := gaps_ok ok s4
  have more : ∀ (x3 x4 x5 x6 x8 x9 : Sl), mAnd (mTest (mOp fLe (mCB fLen (mCons (mVar 10) mNil)) (mC (.int 6)))) (mTest (mOp (fEqO "Arms" m_Arms____eq__) (mMake "Arms" 1 [] m_Arms____init__ (mCons (mVar 10) mNil)) (mVar 7)))
      [.no, .dat .hnd, .dat B.d, x3, x4, x5, x6, .dat B.arms, x8, x9, .dat (.tup (B.row ++ [.tup [.int ((B.n : Int) - 1), .tup [.int 1, .int 1], .int 0]]))] s3 = .ok false s3 := fun x3 x4 x5 x6 x8 x9 => by
    by_cases c : (B.n : Int) + 1 ≤ 6
    · have f : fLe (.int ((B.n : Int) + 1)) (.int 6) = some (.bl true) := by simp [fI, c]
      have oA := add_ok ok (by omega) (h := (B.n : Int) - 1) (q := 1) (l := 0) (by omega) (by omega) (bd1.mono (by omega)) (by omega) (by omega)
      have mk := make_ok oA (D := .tup (B.add ((B.n : Int) - 1) 1 0).row) (i2_tup _) rfl s3
      rw [add_row] at mk
      have q5 : fEqO "Arms" m_Arms____eq__ (B.add ((B.n : Int) - 1) 1 0).arms B.arms = some (.bl false) := eqO_of (arms_eq_f oA ok (.inl (by show B.n + 1 ≠ B.n; omega)))
      exact ev_and_t (ev_test (ev_op (ev_cb (ev_cons (ev_var rfl) ev_nil) lenL) ev_c f)) (ev_test (ev_op (ev_make0 (ev_cons (ev_var rfl) ev_nil) rfl mk) (ev_var rfl) q5))
    · have f : fLe (.int ((B.n : Int) + 1)) (.int 6) = some (.bl false) := by simp [fI, c]
      exact ev_and_f (ev_test (ev_op (ev_cb (ev_cons (ev_var rfl) ev_nil) lenL) ev_c f))
  have t11 : ∀ ρ : Env', mTup (mCons (mC (.int 1)) (mCons (mC (.int 1)) mNil)) ρ s3 = .ok (dq 1) s3 := fun ρ => ev_tup (ev_cons ev_c (ev_cons ev_c ev_nil)) (by simp)
  refine ⟨s5, ?_⟩
  have st : lawE 9 = [.no, .dat .hnd, .no, .no, .no, .no, .no, .no, .no, .no, .no] := rfl
  rw [st]
  unfold b_law
  refine es_seq (ρ1 := [.no, .dat .hnd, .dat B0.d, .no, .no, .no, .no, .no, .no, .no, .no]) (s1 := s1) (es_set (by sizeOf_list_dec)) ?_
  refine es_seq e2 ?_
  refine es_seq e3 ?_
  refine es_seq (es_if_f (ev_or_f (ev_test (ev_op (at_bars1 B rfl) (ev_var rfl) nB)) (ev_or_f (ev_not_f (ev_tru (ev_call0 (ev_cons (at_bars1 B rfl) ev_nil) rfl tp) rfl)) (ev_or_f (ev_test (ev_op (at_letters ok rfl) (ev_call0 (ev_cons (ev_var rfl) ev_nil) rfl mo) nN)) (ev_test (ev_op (ev_cb (ev_cons (ev_var rfl) ev_nil) leo) (ev_cb (ev_cons (ev_var rfl) ev_nil) len) nn))))) es_next) ?_
  refine es_seq (ρ1 := [.no, .dat .hnd, .dat B.d, y3, y4, y5, y6, .dat B.arms, .dat B.arms, .no, .no]) (s1 := s3) (es_set (d := B.arms) (ev_make0 (ev_cons (ev_var rfl) ev_nil) rfl mkB)) ?_
  refine es_seq (ρ1 := [.no, .dat .hnd, .dat B.d, .dat (.int (B.h 0)), .dat (dq (B.m 0)), .dat (.int (B.l 0 : Nat)), y6, .dat B.arms, .dat B.arms, .no, .no]) (s1 := s3) (es_asg (by sizeOf_list_dec) rfl) ?_
  refine es_seq (ρ1 := [.no, .dat .hnd, .dat B.d, .dat (.int (B.h 0)), .dat (dq (B.m 0)), .dat (.int (B.l 0 : Nat)), y6, .dat B.arms, .dat B.arms, .dat B.bump.arms, .no]) (s1 := s3) (es_set (d := B.bump.arms) (ev_make0 (ev_cons (ev_op (ev_tup (ev_cons (ev_tup (ev_cons (ev_var rfl) (ev_cons (ev_call0 (ev_cons (ev_var rfl) (ev_cons (t11 _) ev_nil)) rfl pl) (ev_cons (ev_var rfl) ev_nil))) (by simp)) ev_nil) (by simp)) (ev_sl (ev_var (d := B.d) rfl) (ep_some ev_c) ep_none sl1) ad1) ev_nil) rfl mkC)) ?_
  refine es_seq (es_if_f (ev_or_f (ev_not_f (ev_test (ev_op (ev_var rfl) (ev_var rfl) q1))) (ev_or_f (ev_test (ev_op (ev_var rfl) (ev_var rfl) q2)) (ev_or_f (ev_test (ev_op (ev_var rfl) (ev_var rfl) q3)) (ev_not_f (ev_test (ev_op (ev_var rfl) (ev_var rfl) q4)))))) es_next) ?_
  refine es_seq (ρ1 := [.no, .dat .hnd, .dat B.d, .dat (.int (B.h 0)), .dat (dq (B.m 0)), .dat (.int (B.l 0 : Nat)), y6, .dat B.arms, .dat B.arms, .dat B.bump.arms, .dat (.tup (B.row ++ [.tup [.int ((B.n : Int) - 1), .tup [.int 1, .int 1], .int 0]]))]) (s1 := s3) (es_set (ev_op (ev_var rfl) (by sizeOf_list_dec) ad2)) ?_
  refine es_seq (es_if_f (more _ _ _ _ _ _) es_next) ?_
  exact es_ret (ev_andv_t (ev_call0 (ev_cons (ev_var rfl) (ev_cons (ev_var rfl) ev_nil)) rfl ew) rfl (ev_call0 (ev_cons (ev_var rfl) (ev_cons (ev_var rfl) ev_nil)) rfl eg))
end Law


set_option Elab.async false
set_option linter.all false
set_option maxRecDepth 100000
namespace Law
open PySem PySem.Spec PyProof.Rows L2 Mir
open PySem.W (Frag)
open Hk in
theorem txt_of {K : Frag} {h : Heap} {mg : Str → Option Value} (X : K.In h) (G : h.Ns mainGlobals mg) (c : Hk.Says hdF hdT K) : Txt K mg where
  F__law_hand := gF X G (f := 212) (c.t 0) (c.f 0) (c.f 1)
  F__law_take := gF X G (f := 219) (c.t 1) (c.f 2) (c.f 3)
  G_Arms____eq__ := gM X G (C := 201) (f := 149) (c.t 2) (c.f 4) (c.f 5) (c.f 6) (c.f 7)
  F_is_whole := gD X G (f := 89) (c.t 3) (c.f 8) (c.f 9)
  F_is_ratio := gF X G (f := 96) (c.t 4) (c.f 10) (c.f 11)
  F_is_row := gD X G (f := 104) (c.t 5) (c.f 12) (c.f 13)
  F__check_bar := gF X G (f := 118) (c.t 6) (c.f 14) (c.f 15)
  F__check_bars := gF X G (f := 111) (c.t 7) (c.f 16) (c.f 17)
  F__count_letters := gF X G (f := 123) (c.t 8) (c.f 18) (c.f 19)
  G_Arms____init__ := gI X G (C := 201) (f := 135) (c.t 9) (c.f 20) (c.f 5) (c.f 21)
  G_Arms____len__ := gM X G (C := 201) (f := 142) (c.t 10) (c.f 22) (c.f 5) (c.f 6) (c.f 23)
  F__law_letters := gF X G (f := 252) (c.t 11) (c.f 24) (c.f 25)
  F__law_gcd := gF X G (f := 226) (c.t 12) (c.f 26) (c.f 27)
  F__law_ratio := gF X G (f := 233) (c.t 13) (c.f 28) (c.f 29)
  F__law_mark := gF X G (f := 247) (c.t 14) (c.f 30) (c.f 31)
  F__law_bars := gD X G (f := 260) (c.t 15) (c.f 32) (c.f 33)
  F__law_made := gF X G (f := 303) (c.t 16) (c.f 34) (c.f 35)
  F__law_most := gF X G (f := 265) (c.t 17) (c.f 36) (c.f 37)
  F__law_gaps := gF X G (f := 320) (c.t 18) (c.f 38) (c.f 39)
  F__law_lists := gF X G (f := 289) (c.t 19) (c.f 40) (c.f 41)
  F__law_plus := gF X G (f := 240) (c.t 20) (c.f 42) (c.f 43)
  F__law_tuples := gF X G (f := 284) (c.t 21) (c.f 44) (c.f 45)
  F__law_wide := gF X G (f := 272) (c.t 22) (c.f 46) (c.f 47)
  F__law_wide_ratio := gF X G (f := 279) (c.t 23) (c.f 48) (c.f 49)
  F__law_odd := gF X G (f := 296) (c.t 24) (c.f 50) (c.f 51)
  F__law_faults := gF X G (f := 310) (c.t 25) (c.f 52) (c.f 53)
  F__law_wrong := gF X G (f := 315) (c.t 26) (c.f 54) (c.f 55)
  F_law := gF X G (f := 327) (c.t 27) (c.f 56) (c.f 57)
  X_BadArms := gX X G (C := 79) (f := 76) (c.t 28) (c.f 58) (c.f 61) (c.f 62) (c.f 63) (fun f hf => by simp only [List.mem_cons, List.not_mem_nil, or_false] at hf; rcases hf with rfl | rfl; exact no_eq (c.f 59); exact no_eq (c.f 60)) (c.f 64) (c.f 65) (c.f 66) (c.f 67)
  g_MAST := num X G (c.f 68)
  g_MOST_BARS := num X G (c.f 69)
  g_MOST_LETTERS := num X G (c.f 70)
  A_bars := by
    intro c' hc
    simp only [List.mem_cons, List.not_mem_nil, or_false] at hc
    rcases hc with rfl
    · intro C e
      cases (ref X G (a := 201) (c.f 5)).symm.trans e
      exact ⟨cls_ (c.f 6), no_eq (c.f 71)⟩
  A_letters := by
    intro c' hc
    simp only [List.mem_cons, List.not_mem_nil, or_false] at hc
    rcases hc with rfl
    · intro C e
      cases (ref X G (a := 201) (c.f 5)).symm.trans e
      exact ⟨cls_ (c.f 6), no_eq (c.f 72)⟩
  i_gcd := bi X G (c.f 73)
  O_Arms := by
    refine ⟨201, ref X G (a := 201) (c.f 5), cls_ (c.f 6), (bi_eq (c.f 74)), (bi_eq (c.f 75)), b_eq (c.f 76), b_eq (c.f 77), fun T hT => ?_⟩
    simp only [List.mem_cons, List.not_mem_nil, or_false] at hT
    rcases hT with rfl | rfl | rfl | rfl | rfl | rfl | rfl
    · exact b_eq (c.f 78)
    · exact b_eq (c.f 79)
    · exact b_eq (c.f 80)
    · exact b_eq (c.f 81)
    · exact b_eq (c.f 82)
    · exact b_eq (c.f 83)
    · exact b_eq (c.f 84)
  N_Arms := by
    refine ⟨fun C e => ?_⟩
    cases (ref X G (a := 201) (c.f 5)).symm.trans e
    exact ⟨bi_eq (c.f 85), b_eq (c.f 77)⟩
  z_abs := free X G (c.f 86)
  z_all := free X G (c.f 87)
  z_bool := free X G (c.f 88)
  z_enumerate := free X G (c.f 89)
  z_int := free X G (c.f 90)
  z_isinstance := free X G (c.f 91)
  z_len := free X G (c.f 92)
  z_list := free X G (c.f 93)
  z_max := free X G (c.f 94)
  z_min := free X G (c.f 95)
  z_range := free X G (c.f 96)
  z_str := free X G (c.f 97)
  z_tuple := free X G (c.f 98)
theorem law_mk {l : PySem.W.OpenLaw} {w : World} {K : Frag} {mg : Str → Option Value} {fa : Addr} (T : Txt K mg) (hfa : mg "law" = some (.ref fa)) (M : ∀ s : Hd, ∃ s' : Hd, b_law (lawE 9) s = .ok (.rt (.bl true)) s') :
    ∃ fd : FuncData, (∀ (s : Shared) (v : Value), BindsTo s fd ⟨[v], []⟩ [("_law_script", v)]) ∧ ∀ base : Heap, K.In base → base.Ns mainGlobals mg → FnOk l.prog w K mg base (L2.CX l.prog w) 17 fa fd ["_law_script"] (spLaw K) := by
  obtain ⟨f, fd, F, hm⟩ := T.F_law
  have e := hfa.symm.trans hm
  cases e
  refine ⟨fd, fun s v => ?_, fun base _ _ => ?_⟩
  · obtain ⟨oc, od, kV, doc, pm, an, cdv, ct, osl, rfl, _, _⟩ := F.ex
    exact .of_eq rfl
  · have C__law_take := c__law_take (P := l.prog) (w := w) (base := base) T
    have C_Arms____eq__ := c_Arms____eq__ (P := l.prog) (w := w) (base := base) T 
    have C_is_whole_1 := c_is_whole_1 (P := l.prog) (w := w) (base := base) T 
    have C_is_whole_2 := c_is_whole_2 (P := l.prog) (w := w) (base := base) T 
    have C_is_whole := c_is_whole (P := l.prog) (w := w) (base := base) T 
    have C_is_ratio := c_is_ratio (P := l.prog) (w := w) (base := base) T C_is_whole_1 C_is_whole_2
    have C_is_row := c_is_row (P := l.prog) (w := w) (base := base) T 
    have C__check_bar := c__check_bar (P := l.prog) (w := w) (base := base) T C_is_ratio C_is_row C_is_whole
    have C__check_bars := c__check_bars (P := l.prog) (w := w) (base := base) T C__check_bar C_is_row
    have C__count_letters := c__count_letters (P := l.prog) (w := w) (base := base) T 
    have C_Arms____init__ := c_Arms____init__ (P := l.prog) (w := w) (base := base) T C__check_bars C__count_letters
    have C_Arms____len__ := c_Arms____len__ (P := l.prog) (w := w) (base := base) T 
    have C__law_letters := c__law_letters (P := l.prog) (w := w) (base := base) T C__law_take
    have C__law_gcd := c__law_gcd (P := l.prog) (w := w) (base := base) T 
    have C__law_ratio := c__law_ratio (P := l.prog) (w := w) (base := base) T C__law_gcd
    have C__law_mark := c__law_mark (P := l.prog) (w := w) (base := base) T C__law_ratio C__law_take
    have C__law_bars := c__law_bars (P := l.prog) (w := w) (base := base) T C__law_letters C__law_mark C__law_take
    have C__law_made := c__law_made (P := l.prog) (w := w) (base := base) T C_Arms____init__
    have C__law_most := c__law_most (P := l.prog) (w := w) (base := base) T 
    have C__law_gaps := c__law_gaps (P := l.prog) (w := w) (base := base) T C__law_made C__law_most C__law_take
    have C__law_lists := c__law_lists (P := l.prog) (w := w) (base := base) T C__law_take
    have C__law_plus := c__law_plus (P := l.prog) (w := w) (base := base) T C__law_ratio
    have C__law_tuples := c__law_tuples (P := l.prog) (w := w) (base := base) T 
    have C__law_wide := c__law_wide (P := l.prog) (w := w) (base := base) T C__law_take
    have C__law_wide_ratio := c__law_wide_ratio (P := l.prog) (w := w) (base := base) T C__law_ratio C__law_wide
    have C__law_odd := c__law_odd (P := l.prog) (w := w) (base := base) T C__law_take
    have C__law_faults := c__law_faults (P := l.prog) (w := w) (base := base) T C__law_odd C__law_take
    have C__law_wrong := c__law_wrong (P := l.prog) (w := w) (base := base) T C__law_faults C__law_made C__law_take
    exact f_law T C__law_bars C__law_gaps C__law_lists C__law_most C__law_plus C__law_take C__law_tuples C__law_wide_ratio C__law_wrong C_Arms____eq__ C_Arms____len__ C_Arms____init__ M F
end Law
open PySem PySem.W PyProof.Rows
set_option maxRecDepth 100000 in
set_option maxHeartbeats 0 in
theorem PySem.Challenge.cw_stillarms_k03_whole_arms_made_and_refuse_holds : PySem.Challenge.rw_stillarms_k03_whole_arms_made_and_refuse.Holds := by
  w_on; o_law
  refine HandSHeadRun.head_imp (r := Law.hdR) (q := Law.hdV) (H := Law.hdK) (ob := Law.hdO) (M := 30000) (loose := Law.hdN) (d := HandSHeadRun.topDef Law.hdR.prog 37) (kwd := []) (fun s => Hk.obs_eq s) Law.hd_run
    (by kernel_rfl) (by kernel_rfl) (by kernel_rfl) (by rfl) (by first | assumption | decide +kernel) (by decide +kernel) ⟨rfl, rfl, rfl, rfl, rfl, by decide +kernel⟩ ?hw ?hc
  case hw => w_witness2
  case hc =>
    refine Hk.walk (l := PySem.Challenge.rw_stillarms_k03_whole_arms_made_and_refuse) (k := 17) (x := "_law_script") rfl (by kernel_rfl) ⟨rfl, by decide, by decide⟩ ?F
    intro w mg fa h Y G hm
    obtain ⟨K, X, c⟩ := Y
    have e : (HandSHeadRun.topDef Law.hdR.prog 37).name = ("law" : PySem.Str) := by kernel_rfl
    rw [e] at hm
    exact ⟨K, X, Law.law_mk (Law.txt_of X G c) hm Law.math⟩


