import PyProof.Rows.All
import Wide.All
import OpenK.AllK
import Wide.FinOn
import HandS.ForMost
import HandS.Deep
import HandS.TupAny
import HandS.TupMul
import HandS.Wide
import HandS.ForExc
import HandS.Defaults
import HandS.HeadEnd
import HandS.ExcInit
import HandS.ExcIs
import HandS.ExcField
import HandS.ExcValue
import HandS.ExcBuiltin
import HandS.MakeKwOnly
import HandS.IsInst
import KE.KExcIs
import PyProof.ReprRoads
import HandS.HeadHook1
import HandS.Head0
import HandS.Head1
import HandS.Head2
import HandS.HeadHook2
import HandS.HeadHook3
import HandS.HeadHook4
import HandS.WordsExc
import PySem.Challenge.RW_runledger_k73_errors_and_fields
set_option Elab.async false
set_option linter.all false
set_option maxRecDepth 100000
set_option maxHeartbeats 4000000
namespace Ru
open PySem L2

/-! ### data in a region -/
mutual
inductive Da (R : Hp) : V → PyData → Prop
  | non : Da R .non .none
  | bl (b : Bool) : Da R (.bl b) (.bool b)
  | int (i : Int) : Da R (.int i) (.int i)
  | str (x : Str) : Da R (.str x) (.str x)
  | lst {a : Addr} {xs : List V} {ds : List PyData} : R a = some (.lst xs) → DaL R xs ds → Da R (.ref a) (.list ds)
  | tup {a : Addr} {xs : List V} {ds : List PyData} : R a = some (.tup xs) → DaL R xs ds → Da R (.ref a) (.tuple ds)
inductive DaL (R : Hp) : List V → List PyData → Prop
  | nil : DaL R [] []
  | cons {v : V} {vs : List V} {d : PyData} {ds : List PyData} : Da R v d → DaL R vs ds → DaL R (v :: vs) (d :: ds)
end
mutual
theorem Da.mono {R R' : Hp} (e : Same R R') : ∀ {v : V} {d : PyData}, Da R v d → Da R' v d
  | _, _, .non => .non
  | _, _, .bl b => .bl b
  | _, _, .int i => .int i
  | _, _, .str x => .str x
  | _, _, .lst h t => .lst (e _ _ h) (DaL.mono e t)
  | _, _, .tup h t => .tup (e _ _ h) (DaL.mono e t)
theorem DaL.mono {R R' : Hp} (e : Same R R') : ∀ {vs : List V} {ds : List PyData}, DaL R vs ds → DaL R' vs ds
  | _, _, .nil => .nil
  | _, _, .cons h t => .cons (Da.mono e h) (DaL.mono e t)
end
mutual
theorem Da.dp {K : PySem.W.Frag} {R H : Hp} (e : Same R H) : ∀ {v : V} {d : PyData}, Da R v d → Dp K H v d
  | _, _, .non => .non
  | _, _, .bl b => .bl b
  | _, _, .int i => .int i
  | _, _, .str x => .str x
  | _, _, .lst h t => .lst (SqL.of (e _ _ h)) (DaL.dp e t)
  | _, _, .tup h t => .tup (SqT.of (e _ _ h)) (DaL.dp e t)
theorem DaL.dp {K : PySem.W.Frag} {R H : Hp} (e : Same R H) : ∀ {vs : List V} {ds : List PyData}, DaL R vs ds → DpAll K H vs ds
  | _, _, .nil => .nil
  | _, _, .cons h t => .cons (Da.dp e h) (DaL.dp e t)
end

/-! ### predicates of values -/
abbrev Pd := Hp → V → Prop
class Mn (P : Pd) : Prop where
  mono : ∀ R R' v, Same R R' → P R v → P R' v
/-- a datum -/
def Is (d : PyData) : Pd := fun R v => Da R v d
instance {d : PyData} : Mn (Is d) := ⟨fun _ _ _ e h => Da.mono e h⟩
def IsI (i : Int) : Pd := fun _ v => v = .int i
instance {i : Int} : Mn (IsI i) := ⟨fun _ _ _ _ h => h⟩
def IsB (b : Bool) : Pd := fun _ v => v = .bl b
instance {b : Bool} : Mn (IsB b) := ⟨fun _ _ _ _ h => h⟩
/-- the very reference -/
def IsV (x : V) : Pd := fun _ v => v = x
instance {x : V} : Mn (IsV x) := ⟨fun _ _ _ _ h => h⟩
inductive All2 {α : Type} (rep : α → Pd) (R : Hp) : List V → List α → Prop
  | nil : All2 rep R [] []
  | cons {v : V} {vs : List V} {a : α} {as : List α} : rep a R v → All2 rep R vs as → All2 rep R (v :: vs) (a :: as)
theorem All2.mono {α : Type} {rep : α → Pd} [m : ∀ a, Mn (rep a)] {R R' : Hp} (e : Same R R') : ∀ {vs : List V} {as : List α}, All2 rep R vs as → All2 rep R' vs as
  | _, _, .nil => .nil
  | _, _, .cons h t => .cons ((m _).mono _ _ _ e h) (All2.mono e t)
theorem All2.length {α : Type} {rep : α → Pd} {R : Hp} : ∀ {vs : List V} {as : List α}, All2 rep R vs as → vs.length = as.length
  | _, _, .nil => rfl
  | _, _, .cons _ t => congrArg Nat.succ (All2.length t)
theorem All2.get {α : Type} {rep : α → Pd} {R : Hp} : ∀ {vs : List V} {as : List α} {i : Nat} {a : α}, All2 rep R vs as → as[i]? = some a → ∃ v, vs[i]? = some v ∧ rep a R v
  | _, _, 0, _, .cons h _, e => ⟨_, rfl, by simp at e; rw [← e]; exact h⟩
  | _, _, i + 1, _, .cons _ t, e => by
    obtain ⟨v, h1, h2⟩ := All2.get (i := i) t (by simpa using e)
    exact ⟨v, by simpa using h1, h2⟩
theorem All2.getV {α : Type} {rep : α → Pd} {R : Hp} : ∀ {vs : List V} {as : List α} {i : Nat} {v : V}, All2 rep R vs as → vs[i]? = some v → ∃ a, as[i]? = some a ∧ rep a R v
  | _, _, 0, _, .cons h _, e => ⟨_, rfl, by simp at e; rw [← e]; exact h⟩
  | _, _, i + 1, _, .cons _ t, e => by
    obtain ⟨v, h1, h2⟩ := All2.getV (i := i) t (by simpa using e)
    exact ⟨v, by simpa using h1, h2⟩
theorem All2.append {α : Type} {rep : α → Pd} {R : Hp} : ∀ {vs ws : List V} {as bs : List α}, All2 rep R vs as → All2 rep R ws bs → All2 rep R (vs ++ ws) (as ++ bs)
  | _, _, _, _, .nil, s => s
  | _, _, _, _, .cons h t, s => .cons h (All2.append t s)
theorem All2.daL {R : Hp} : ∀ {vs : List V} {ds : List PyData}, All2 Is R vs ds → DaL R vs ds
  | _, _, .nil => .nil
  | _, _, .cons h t => .cons h (All2.daL t)
theorem DaL.all2 {R : Hp} : ∀ {vs : List V} {ds : List PyData}, DaL R vs ds → All2 Is R vs ds
  | _, _, .nil => .nil
  | _, _, .cons h t => .cons h (DaL.all2 t)
theorem All2.map {α β : Type} {rep : α → Pd} {rep' : β → Pd} {R : Hp} {f : α → β} (h : ∀ a v, rep a R v → rep' (f a) R v) : ∀ {vs : List V} {as : List α}, All2 rep R vs as → All2 rep' R vs (as.map f)
  | _, _, .nil => .nil
  | _, _, .cons a t => .cons (h _ _ a) (All2.map h t)
theorem All2.unmap {α β : Type} {rep' : β → Pd} {R : Hp} {f : α → β} : ∀ {vs : List V} {as : List α}, All2 rep' R vs (as.map f) → All2 (fun a => rep' (f a)) R vs as
  | [], [], _ => .nil
  | v :: vs, a :: as, h => by
    cases h with
    | cons h t => exact .cons h (All2.unmap t)

/-! ### the region, the feeds, what may change -/
def FeedAt (H : Hp) (f : Addr) : Prop := ∃ d s : Int, H f = some (.lst [.int d, .int s]) ∧ 0 ≤ d ∧ 0 ≤ s
structure Ok (S : Addr → Prop) (R H : Hp) : Prop where
  sub : Same R H
  off : ∀ f, S f → R f = none ∧ FeedAt H f
structure Ext (S : Addr → Prop) (R H R' H' : Hp) : Prop where
  keep : ∀ b o, ¬ S b → H b = some o → H' b = some o
  grow : Same R R'
  sub : Same R' H'
  old : ∀ b o, H b = some o → R b = none → R' b = none
  feed : ∀ f, S f → FeedAt H' f
theorem FeedAt.some {H : Hp} {f : Addr} (h : FeedAt H f) : ∃ o, H f = some o := let ⟨_, _, e, _⟩ := h; ⟨_, e⟩
theorem Ok.ext {S : Addr → Prop} {R H R' H' : Hp} (o : Ok S R H) (e : Ext S R H R' H') : Ok S R' H' :=
  ⟨e.sub, fun f hf => ⟨let ⟨_, q⟩ := (o.off f hf).2.some; e.old f _ q (o.off f hf).1, e.feed f hf⟩⟩
theorem Ext.refl {S : Addr → Prop} {R H : Hp} (o : Ok S R H) : Ext S R H R H :=
  ⟨fun _ _ _ h => h, Same.refl R, o.sub, fun _ _ _ h => h, fun f hf => (o.off f hf).2⟩
theorem Ext.trans {S : Addr → Prop} {R H R1 H1 R2 H2 : Hp} (o : Ok S R H) (a : Ext S R H R1 H1) (b : Ext S R1 H1 R2 H2) : Ext S R H R2 H2 where
  keep := fun c u n h => b.keep c u n (a.keep c u n h)
  grow := a.grow.trans b.grow
  sub := b.sub
  old := fun c u h n => by
    by_cases hs : S c
    · obtain ⟨u', e⟩ := (a.feed c hs).some
      exact b.old c u' e (a.old c u h n)
    · exact b.old c u (a.keep c u hs h) (a.old c u h n)
  feed := b.feed
/-- a new object, taken into the region -/
theorem Ext.new {S : Addr → Prop} {R H : Hp} (o : Ok S R H) {p : Addr} {u : HO} (hp : H p = none) : Ext S R H (upd R p u) (upd H p u) where
  keep := fun b v _ h => by rw [upd_ne (ne_of_none h hp)]; exact h
  grow := fun b v h => by rw [upd_ne (ne_of_none (o.sub _ _ h) hp)]; exact h
  sub := fun b v h => by
    by_cases e : b = p
    · rw [e, upd_same] at h; rw [e, upd_same]; exact h
    · rw [upd_ne e] at h; rw [upd_ne e]; exact o.sub _ _ h
  old := fun b v h n => by rw [upd_ne (ne_of_none h hp)]; exact n
  feed := fun f hf => by
    obtain ⟨d, s, e, q⟩ := (o.off f hf).2
    exact ⟨d, s, by rw [upd_ne (ne_of_none e hp)]; exact e, q⟩
/-- a new object, not taken into the region -/
theorem Ext.out {S : Addr → Prop} {R H : Hp} (o : Ok S R H) {p : Addr} {u : HO} (hp : H p = none) : Ext S R H R (upd H p u) where
  keep := fun b v _ h => by rw [upd_ne (ne_of_none h hp)]; exact h
  grow := Same.refl R
  sub := fun b v h => by rw [upd_ne (ne_of_none (o.sub _ _ h) hp)]; exact o.sub _ _ h
  old := fun b v h n => n
  feed := fun f hf => by
    obtain ⟨d, s, e, q⟩ := (o.off f hf).2
    exact ⟨d, s, by rw [upd_ne (ne_of_none e hp)]; exact e, q⟩
theorem Ok.notS {S : Addr → Prop} {R H : Hp} (o : Ok S R H) {p : Addr} (hp : H p = none) : ¬ S p := fun h => by
  obtain ⟨u, e⟩ := (o.off p h).2.some
  rw [hp] at e
  cases e
theorem Ok.none {S : Addr → Prop} {R H : Hp} (o : Ok S R H) {p : Addr} (hp : H p = Option.none) : R p = Option.none := by
  cases e : R p with
  | none => rfl
  | some u =>
    rw [o.sub p u e] at hp
    cases hp
end Ru
namespace Ru
open PySem L2

/-! ### slots -/
inductive Sl where
  | no
  | is (P : Pd)
  /-- a list of its own, not in the region: it may still change -/
  | own (ps : List Pd)
  /-- a caller's list that is read -/
  | bor (ps : List Pd)
abbrev Slots := List Sl
def AllP (R : Hp) : List V → List Pd → Prop := All2 (fun P => P) R
def SlOk (S : Addr → Prop) (H0 R H : Hp) (v : Option V) : Sl → Prop
  | .no => True
  | .is P => ∃ x, v = some x ∧ P R x ∧ Mn P
  | .own ps => ∃ l xs, v = some (.ref l) ∧ H l = some (.lst xs) ∧ R l = none ∧ (¬ S l ∧ H0 l = none) ∧ AllP R xs ps ∧ ∀ P ∈ ps, Mn P
  | .bor ps => ∃ l xs, v = some (.ref l) ∧ H l = some (.lst xs) ∧ (¬ S l ∧ ∃ u, H0 l = some u) ∧ AllP R xs ps ∧ ∀ P ∈ ps, Mn P
structure Stt (S : Addr → Prop) (H0 R H : Hp) (σ : L2.St) (env : Slots) : Prop where
  len : env.length = σ.length
  ok : ∀ (i : Nat) (s : Sl) (v : Option V), env[i]? = some s → σ[i]? = some v → SlOk S H0 R H v s
  dis : ∀ (i j : Nat) (ps qs : List Pd) (l : Addr), env[i]? = some (.own ps) → env[j]? = some (.own qs) → σ[i]? = some (some (.ref l)) → σ[j]? = some (some (.ref l)) → i = j
theorem Stt.val {S : Addr → Prop} {H0 R H : Hp} {σ : L2.St} {env : Slots} (t : Stt S H0 R H σ env) {i : Nat} {s : Sl} (h : env[i]? = some s) : ∃ v, σ[i]? = some v ∧ SlOk S H0 R H v s := by
  have hi : i < env.length := (List.getElem?_eq_some_iff.mp h).1
  have hj : i < σ.length := by rw [← t.len]; exact hi
  exact ⟨σ[i], List.getElem?_eq_getElem hj, t.ok i s _ h (List.getElem?_eq_getElem hj)⟩
theorem Stt.is {S : Addr → Prop} {H0 R H : Hp} {σ : L2.St} {env : Slots} (t : Stt S H0 R H σ env) {i : Nat} {P : Pd} (h : env[i]? = some (.is P)) : ∃ x, σ[i]? = some (some x) ∧ P R x := by
  obtain ⟨v, e, x, rfl, hp, _⟩ := t.val h
  exact ⟨x, e, hp⟩
theorem AllP.mono {R R' : Hp} (e : Same R R') : ∀ {xs : List V} {ps : List Pd}, (∀ P ∈ ps, Mn P) → AllP R xs ps → AllP R' xs ps
  | _, _, _, .nil => .nil
  | _, _, m, .cons h t => .cons ((m _ (List.mem_cons_self ..)).mono _ _ _ e h) (AllP.mono e (fun P hP => m P (List.mem_cons_of_mem _ hP)) t)
theorem SlOk.ext {S : Addr → Prop} {H0 R H R' H' : Hp} (e : Ext S R H R' H') {v : Option V} : ∀ {s : Sl}, SlOk S H0 R H v s → SlOk S H0 R' H' v s
  | .no, _ => True.intro
  | .is P, ⟨x, q, h, m⟩ => ⟨x, q, m.mono _ _ _ e.grow h, m⟩
  | .own ps, ⟨l, xs, q, h, n, hs, a, m⟩ => ⟨l, xs, q, e.keep l _ hs.1 h, e.old l _ h n, hs, AllP.mono e.grow m a, m⟩
  | .bor ps, ⟨l, xs, q, h, hs, a, m⟩ => ⟨l, xs, q, e.keep l _ hs.1 h, hs, AllP.mono e.grow m a, m⟩
theorem Stt.ext {S : Addr → Prop} {H0 R H R' H' : Hp} {σ : L2.St} {env : Slots} (e : Ext S R H R' H') (t : Stt S H0 R H σ env) : Stt S H0 R' H' σ env :=
  ⟨t.len, fun i s v h1 h2 => (t.ok i s v h1 h2).ext e, t.dis⟩
theorem get_set {α : Type} {l : List α} {i j : Nat} {x y : α} (h : (l.set i x)[j]? = some y) : (j = i ∧ y = x ∧ i < l.length) ∨ (j ≠ i ∧ l[j]? = some y) := by
  by_cases e : i = j
  · subst e
    rw [List.getElem?_set_self'] at h
    cases q : l[i]? with
    | none => rw [q] at h; cases h
    | some z =>
      rw [q] at h
      cases h
      exact .inl ⟨rfl, rfl, (List.getElem?_eq_some_iff.mp q).1⟩
  · rw [List.getElem?_set_ne e] at h
    exact .inr ⟨fun z => e z.symm, h⟩
/-- a slot stored -/
theorem Stt.set {S : Addr → Prop} {H0 R H : Hp} {σ : L2.St} {env : Slots} (t : Stt S H0 R H σ env) {i : Nat} {P : Pd} {x : V} [m : Mn P] (h : P R x) : Stt S H0 R H (σ.set i (some x)) (env.set i (.is P)) where
  len := by rw [List.length_set, List.length_set]; exact t.len
  ok := fun j s v h1 h2 => by
    rcases get_set h1 with ⟨e, e2, _⟩ | ⟨e, q⟩
    · subst e e2
      rcases get_set h2 with ⟨_, e3, _⟩ | ⟨e, _⟩
      · subst e3; exact ⟨x, rfl, h, m⟩
      · exact absurd rfl e
    · rcases get_set h2 with ⟨e2, _, _⟩ | ⟨_, q2⟩
      · exact absurd e2 e
      · exact t.ok j s v q q2
  dis := fun a b ps qs l h1 h2 h3 h4 => by
    rcases get_set h1 with ⟨_, e2, _⟩ | ⟨e1, q1⟩
    · cases e2
    rcases get_set h2 with ⟨_, e2, _⟩ | ⟨e2, q2⟩
    · cases e2
    rcases get_set h3 with ⟨z, _⟩ | ⟨_, q3⟩
    · exact absurd z e1
    rcases get_set h4 with ⟨z, _⟩ | ⟨_, q4⟩
    · exact absurd z e2
    exact t.dis a b ps qs l q1 q2 q3 q4
/-- a slot takes a new list of its own -/
theorem Stt.setOwn {S : Addr → Prop} {H0 R H : Hp} {σ : L2.St} {env : Slots} (t : Stt S H0 R H σ env) {i : Nat} {ps : List Pd} {p : Addr} {xs : List V} (hp : H p = none) (hS : ¬ S p ∧ H0 p = none) (m : ∀ P ∈ ps, Mn P) {H' R' : Hp}
    (e : Ext S R H R' H') (h : H' p = some (.lst xs)) (hR' : R' p = none) (a : AllP R' xs ps) : Stt S H0 R' H' (σ.set i (some (.ref p))) (env.set i (.own ps)) where
  len := by rw [List.length_set, List.length_set]; exact t.len
  ok := fun j s v h1 h2 => by
    rcases get_set h1 with ⟨e1, e2, _⟩ | ⟨e1, q⟩
    · subst e1 e2
      rcases get_set h2 with ⟨_, e3, _⟩ | ⟨e, _⟩
      · subst e3; exact ⟨p, xs, rfl, h, hR', hS, a, m⟩
      · exact absurd rfl e
    · rcases get_set h2 with ⟨e2, _, _⟩ | ⟨_, q2⟩
      · exact absurd e2 e1
      · exact (t.ok j s v q q2).ext e
  dis := fun a b ps' qs l h1 h2 h3 h4 => by
    have nw : ∀ (k : Nat) (rs : List Pd), env[k]? = some (.own rs) → σ[k]? ≠ some (some (.ref p)) := fun k rs hk hσ => by
      obtain ⟨l', ys, e1, e2, _⟩ := t.ok k _ _ hk hσ
      cases e1
      rw [hp] at e2
      cases e2
    rcases get_set h1 with ⟨e1, e2, _⟩ | ⟨e1, q1⟩ <;> rcases get_set h2 with ⟨f1, f2, _⟩ | ⟨f1, q2⟩
    · rw [e1, f1]
    · rcases get_set h3 with ⟨_, z, _⟩ | ⟨z, _⟩
      · cases z
        rcases get_set h4 with ⟨y, _⟩ | ⟨_, q4⟩
        · exact absurd y f1
        · exact absurd q4 (nw b qs q2)
      · exact absurd e1 z
    · rcases get_set h4 with ⟨_, z, _⟩ | ⟨z, _⟩
      · cases z
        rcases get_set h3 with ⟨y, _⟩ | ⟨_, q3⟩
        · exact absurd y e1
        · exact absurd q3 (nw a ps' q1)
      · exact absurd f1 z
    · rcases get_set h3 with ⟨z, _⟩ | ⟨_, q3⟩
      · exact absurd z e1
      rcases get_set h4 with ⟨z, _⟩ | ⟨_, q4⟩
      · exact absurd z f1
      exact t.dis a b ps' qs l q1 q2 q3 q4
theorem set_same {α : Type} {l : List α} {i : Nat} {x : α} (h : l[i]? = some x) : l.set i x = l := by
  apply List.ext_getElem?
  intro j
  by_cases e : i = j
  · subst e
    rw [List.getElem?_set_self', h]
    rfl
  · rw [List.getElem?_set_ne e]

theorem Ext.none0 {S : Addr → Prop} {R0 H0 R H : Hp} (o : Ok S R0 H0) (e : Ext S R0 H0 R H) {p : Addr} (hp : H p = none) : ¬ S p ∧ H0 p = none := by
  have ns : ¬ S p := fun h => by
    obtain ⟨u, q⟩ := (e.feed p h).some
    rw [hp] at q
    cases q
  refine ⟨ns, ?_⟩
  cases q : H0 p with
  | none => rfl
  | some u =>
    rw [e.keep p u ns q] at hp
    cases hp
/-- a list of its own is taken into the region (it does not change any more) -/
theorem Stt.freeze {S : Addr → Prop} {R0 H0 R H : Hp} {σ : L2.St} {env : Slots} (e0 : Ext S R0 H0 R H) (t : Stt S H0 R H σ env) {i : Nat} {ps : List Pd} (h : env[i]? = some (.own ps)) {P : Pd} [m : Mn P]
    (hP : ∀ (R' : Hp) (l : Addr) (xs : List V), R' l = some (.lst xs) → AllP R' xs ps → P R' (.ref l)) :
    ∃ R', Same R R' ∧ Ext S R0 H0 R' H ∧ Stt S H0 R' H σ (env.set i (.is P)) := by
  obtain ⟨v, e, l, xs, rfl, hl, n, hs, a, mm⟩ := t.val h
  have g : Same R (upd R l (.lst xs)) := fun b u hb => by rw [upd_ne (ne_of_none hb n)]; exact hb
  refine ⟨upd R l (.lst xs), g, ⟨e0.keep, e0.grow.trans g, fun b u hb => ?_, fun b u h0 n0 => ?_, e0.feed⟩, ⟨?_, fun j s v h1 h2 => ?_, fun a b ps qs l' h1 h2 h3 h4 => ?_⟩⟩
  · by_cases q : b = l
    · rw [q, upd_same] at hb
      cases hb
      rw [q]
      exact hl
    · rw [upd_ne q] at hb
      exact e0.sub _ _ hb
  · rw [upd_ne (ne_of_none h0 hs.2)]
    exact e0.old b u h0 n0
  · rw [List.length_set]
    exact t.len
  · rcases get_set h1 with ⟨e1, e2, _⟩ | ⟨e1, q⟩
    · subst e1 e2
      rw [e] at h2
      cases h2
      exact ⟨_, rfl, hP _ _ _ upd_same (AllP.mono g mm a), m⟩
    · have old := t.ok j s v q h2
      cases s with
      | no => exact True.intro
      | is P' =>
        obtain ⟨x, q1, q2, q3⟩ := old
        exact ⟨x, q1, q3.mono _ _ _ g q2, q3⟩
      | own qs =>
        obtain ⟨l', ys, q1, q2, q3, q4, q5, q6⟩ := old
        have ne : l' ≠ l := fun z => by
          subst z q1
          exact e1 (t.dis j i qs ps l' q h h2 e)
        exact ⟨l', ys, q1, q2, by rw [upd_ne ne]; exact q3, q4, AllP.mono g q6 q5, q6⟩
      | bor qs =>
        obtain ⟨l', ys, q1, q2, q4, q5, q6⟩ := old
        exact ⟨l', ys, q1, q2, q4, AllP.mono g q6 q5, q6⟩
  · rcases get_set h1 with ⟨_, e2, _⟩ | ⟨e1, q1⟩
    · cases e2
    rcases get_set h2 with ⟨_, e2, _⟩ | ⟨e2, q2⟩
    · cases e2
    exact t.dis a b ps qs l' q1 q2 h3 h4
/-- a list of its own is changed -/
theorem Stt.change {S : Addr → Prop} {R0 H0 R H : Hp} {σ : L2.St} {env : Slots} (e0 : Ext S R0 H0 R H) (t : Stt S H0 R H σ env) {i : Nat} {ps ps' : List Pd} (h : env[i]? = some (.own ps)) {l : Addr} {xs xs' : List V} (hi : σ[i]? = some (some (.ref l)))
    (a : AllP R xs' ps') (m : ∀ P ∈ ps', Mn P) : Ext S R0 H0 R (upd H l (.lst xs')) ∧ Stt S H0 R (upd H l (.lst xs')) σ (env.set i (.own ps')) := by
  obtain ⟨v, e, l1, ys, rfl, hl, n, hs, _, _⟩ := t.val h
  rw [hi] at e
  cases e
  refine ⟨⟨fun b u nb hb => ?_, e0.grow, fun b u hb => ?_, e0.old, fun f hf => ?_⟩, ⟨?_, fun j s v h1 h2 => ?_, fun a b qs rs l' h1 h2 h3 h4 => ?_⟩⟩
  · rw [upd_ne (ne_of_none hb hs.2)]
    exact e0.keep b u nb hb
  · rw [upd_ne (ne_of_none hb n)]
    exact e0.sub b u hb
  · obtain ⟨d, s, q, z⟩ := e0.feed f hf
    have ne : f ≠ l := fun z => hs.1 (z ▸ hf)
    exact ⟨d, s, by rw [upd_ne ne]; exact q, z⟩
  · rw [List.length_set]
    exact t.len
  · rcases get_set h1 with ⟨e1, e2, _⟩ | ⟨e1, q⟩
    · subst e1 e2
      rw [hi] at h2
      cases h2
      exact ⟨l, xs', rfl, upd_same, n, hs, a, m⟩
    · have old := t.ok j s v q h2
      cases s with
      | no => exact True.intro
      | is P' => exact old
      | own qs =>
        obtain ⟨l', zs, q1, q2, q3, q4, q5, q6⟩ := old
        have ne : l' ≠ l := fun z => by
          subst z q1
          exact e1 (t.dis j i qs ps l' q h h2 hi)
        exact ⟨l', zs, q1, by rw [upd_ne ne]; exact q2, q3, q4, q5, q6⟩
      | bor qs =>
        obtain ⟨l', zs, q1, q2, q4, q5, q6⟩ := old
        obtain ⟨u, q7⟩ := q4.2
        exact ⟨l', zs, q1, by rw [upd_ne (ne_of_none q7 hs.2)]; exact q2, q4, q5, q6⟩
  · rcases get_set h1 with ⟨e1, e2, _⟩ | ⟨e1, q1⟩ <;> rcases get_set h2 with ⟨f1, f2, _⟩ | ⟨f1, q2⟩
    · rw [e1, f1]
    · exact e1 ▸ t.dis i b ps rs l' h q2 (e1 ▸ h3) h4
    · exact f1 ▸ t.dis a i qs ps l' q1 h h3 (f1 ▸ h4)
    · exact t.dis a b qs rs l' q1 q2 h3 h4
end Ru
namespace Ru
open PySem L2

def EvN (S : Addr → Prop) (H0 : Hp) (te : TE) (env : Slots) (Θ : Pd → Prop) : Prop :=
  ∀ σ R H, Stt S H0 R H σ env → Ok S R H → ∀ Q : VK, (∀ P v R' H', Θ P → Mn P → Ext S R H R' H' → P R' v → Q v H') → te σ H Q
def EvT (S : Addr → Prop) (H0 : Hp) (tt : TT) (env : Slots) (Θ : Bool → Prop) : Prop :=
  ∀ σ R H, Stt S H0 R H σ env → Ok S R H → ∀ Q : Bool → Hp → Prop, (∀ b R' H', Θ b → Ext S R H R' H' → Q b H') → tt σ H Q
def ArgOk (S : Addr → Prop) (R H : Hp) (v : V) : Sl → Prop
  | .is P => P R v ∧ Mn P
  | .bor ps => ∃ l xs, v = .ref l ∧ H l = some (.lst xs) ∧ ¬ S l ∧ AllP R xs ps ∧ ∀ P ∈ ps, Mn P
  | _ => False
theorem ArgOk.ext {S : Addr → Prop} {R H R' H' : Hp} {v : V} (e : Ext S R H R' H') : ∀ {s : Sl}, ArgOk S R H v s → ArgOk S R' H' v s
  | .is P, ⟨h, m⟩ => ⟨m.mono _ _ _ e.grow h, m⟩
  | .bor ps, ⟨l, xs, a, b, c, d, m⟩ => ⟨l, xs, a, e.keep l _ c b, c, AllP.mono e.grow m d, m⟩
inductive ArgsOk (S : Addr → Prop) (R H : Hp) : List V → List Sl → Prop
  | nil : ArgsOk S R H [] []
  | cons {v : V} {vs : List V} {s : Sl} {ss : List Sl} : ArgOk S R H v s → ArgsOk S R H vs ss → ArgsOk S R H (v :: vs) (s :: ss)
theorem ArgsOk.length {S : Addr → Prop} {R H : Hp} : ∀ {vs : List V} {ss : List Sl}, ArgsOk S R H vs ss → vs.length = ss.length
  | _, _, .nil => rfl
  | _, _, .cons _ t => congrArg Nat.succ (ArgsOk.length t)
theorem ArgsOk.ext {S : Addr → Prop} {R H R' H' : Hp} (e : Ext S R H R' H') : ∀ {vs : List V} {ss : List Sl}, ArgsOk S R H vs ss → ArgsOk S R' H' vs ss
  | _, _, .nil => .nil
  | _, _, .cons h t => .cons (h.ext e) (t.ext e)
theorem ArgsOk.all {S : Addr → Prop} {R H : Hp} : ∀ {vs : List V} {ps : List Pd}, ArgsOk S R H vs (ps.map Sl.is) → AllP R vs ps ∧ ∀ P ∈ ps, Mn P
  | [], [], _ => ⟨.nil, fun _ h => nomatch h⟩
  | _, p :: ps, .cons h t => ⟨.cons h.1 (ArgsOk.all t).1, fun P hP => by
      rcases List.mem_cons.mp hP with rfl | hP
      · exact h.2
      · exact (ArgsOk.all t).2 P hP⟩
def EvA (S : Addr → Prop) (H0 : Hp) (ta : TA) (env : Slots) (Θ : List Sl → Prop) : Prop :=
  ∀ σ R H, Stt S H0 R H σ env → Ok S R H → ∀ Q : List V → Hp → Prop, (∀ ss vs R' H', Θ ss → Ext S R H R' H' → ArgsOk S R' H' vs ss → Q vs H') → ta σ H Q

/-- a new list, not in the region -/
def EvL (S : Addr → Prop) (H0 : Hp) (te : TE) (env : Slots) (Θ : List Pd → Prop) : Prop :=
  ∀ σ R H, Stt S H0 R H σ env → Ok S R H → ∀ Q : VK, (∀ p xs ps R' H', Θ ps → (∀ P ∈ ps, Mn P) → Ext S R H R' H' → H p = none → H' p = some (.lst xs) → R' p = none → AllP R' xs ps → Q (.ref p) H') → te σ H Q
/-- an operation on two values -/
def OpOk (S : Addr → Prop) (r : R2) (P P' : Pd) (Θ : Pd → Prop) : Prop :=
  ∀ R H x y, Ok S R H → P R x → P' R y → ∀ Q : VK, (∀ P v R' H', Θ P → Mn P → Ext S R H R' H' → P R' v → Q v H') → r x y H Q
def OpL (S : Addr → Prop) (r : R2) (P P' : Pd) (Θ : List Pd → Prop) : Prop :=
  ∀ R H x y, Ok S R H → P R x → P' R y → ∀ Q : VK, (∀ p xs ps R' H', Θ ps → (∀ P ∈ ps, Mn P) → Ext S R H R' H' → H p = none → H' p = some (.lst xs) → R' p = none → AllP R' xs ps → Q (.ref p) H') → r x y H Q
/-- a call on values -/
def CalOk (S : Addr → Prop) (r : List V → Hp → VK → Prop) (ss : List Sl) (Θ : Pd → Prop) : Prop :=
  ∀ R H vs, Ok S R H → ArgsOk S R H vs ss → ∀ Q : VK, (∀ P v R' H', Θ P → Mn P → Ext S R H R' H' → P R' v → Q v H') → r vs H Q
def CalL (S : Addr → Prop) (r : List V → Hp → VK → Prop) (ss : List Sl) (Θ : List Pd → Prop) : Prop :=
  ∀ R H vs, Ok S R H → ArgsOk S R H vs ss → ∀ Q : VK, (∀ p xs ps R' H', Θ ps → (∀ P ∈ ps, Mn P) → Ext S R H R' H' → H p = none → H' p = some (.lst xs) → R' p = none → AllP R' xs ps → Q (.ref p) H') → r vs H Q

section
variable {S : Addr → Prop} {H0 : Hp} {env : Slots} {K : PySem.W.Frag} {Θ : Pd → Prop} {ΘT : Bool → Prop} {ΘA : List Sl → Prop} {ΘL : List Pd → Prop} {ta tb te : TE} {tt tu : TT}
theorem ev_var {i : Nat} {P : Pd} (h : env[i]? = some (.is P)) (k : Θ P) : EvN S H0 (tVar i) env Θ := fun σ R H t o Q q => by
  obtain ⟨v, e, x, rfl, hp, m⟩ := t.val h
  exact ⟨x, e, q P x R H k m (Ext.refl o) hp⟩
theorem ev_c {v : V} (k : Θ (IsV v)) : EvN S H0 (tC v) env Θ := fun σ R H t o Q q => q _ v R H k inferInstance (Ext.refl o) rfl
theorem ev_int {i : Int} (k : Θ (IsI i)) : EvN S H0 (tC (.int i)) env Θ := fun σ R H t o Q q => q _ _ R H k inferInstance (Ext.refl o) rfl
theorem ev_bl {b : Bool} (k : Θ (IsB b)) : EvN S H0 (tC (.bl b)) env Θ := fun σ R H t o Q q => q _ _ R H k inferInstance (Ext.refl o) rfl
theorem ev_non (k : Θ (Is .none)) : EvN S H0 (tC .non) env Θ := fun σ R H t o Q q => q _ _ R H k inferInstance (Ext.refl o) .non
theorem ev_str {x : Str} (k : Θ (Is (.str x))) : EvN S H0 (tC (.str x)) env Θ := fun σ R H t o Q q => q _ _ R H k inferInstance (Ext.refl o) (.str x)
theorem ev_op {r : R2} (h : EvN S H0 ta env fun P => EvN S H0 tb env fun P' => OpOk S r P P' Θ) : EvN S H0 (tOp r ta tb) env Θ := fun σ R H t o Q q =>
  h σ R H t o _ fun P x R1 H1 h1 m1 e1 p1 => h1 σ R1 H1 (t.ext e1) (o.ext e1) _ fun P' y R2 H2 h2 m2 e2 p2 =>
    h2 R2 H2 x y ((o.ext e1).ext e2) (m1.mono _ _ _ e2.grow p1) p2 Q fun P3 v R3 H3 h3 m3 e3 p3 => q P3 v R3 H3 h3 m3 ((e1.trans o e2).trans o e3) p3
theorem el_op {r : R2} (h : EvN S H0 ta env fun P => EvN S H0 tb env fun P' => OpL S r P P' ΘL) : EvL S H0 (tOp r ta tb) env ΘL := fun σ R H t o Q q =>
  h σ R H t o _ fun P x R1 H1 h1 m1 e1 p1 => h1 σ R1 H1 (t.ext e1) (o.ext e1) _ fun P' y R2 H2 h2 m2 e2 p2 =>
    h2 R2 H2 x y ((o.ext e1).ext e2) (m1.mono _ _ _ e2.grow p1) p2 Q fun p xs ps R3 H3 h3 m3 e3 hp hl hr ha => by
      have e12 := e1.trans o e2
      have hp0 : H p = none := by
        cases c : H p with
        | none => rfl
        | some u =>
          by_cases hs : S p
          · obtain ⟨u', z⟩ := (e12.feed p hs).some
            rw [hp] at z
            cases z
          · rw [e12.keep p u hs c] at hp
            cases hp
      exact q p xs ps R3 H3 h3 m3 (e12.trans o e3) hp0 hl hr ha
theorem Ext.noneB {S : Addr → Prop} {R H R' H' : Hp} (e : Ext S R H R' H') {p : Addr} (hp : H' p = none) : H p = none := by
  cases c : H p with
  | none => rfl
  | some u =>
    by_cases hs : S p
    · obtain ⟨u', z⟩ := (e.feed p hs).some
      rw [hp] at z
      cases z
    · rw [e.keep p u hs c] at hp
      cases hp
/-- tests -/
theorem et_test (h : EvN S H0 te env fun P => ∃ b, (∀ R v, P R v → v = .bl b) ∧ ΘT b) : EvT S H0 (tTest te) env ΘT := fun σ R H t o Q q =>
  h σ R H t o _ fun P x R1 H1 ⟨b, hb, h1⟩ m1 e1 p1 => ⟨b, hb _ _ p1, q b R1 H1 h1 e1⟩
theorem et_B (h : EvN S H0 te env fun P => ∃ b, (∀ R v, P R v → v = .bl b) ∧ ΘT b) : EvT S H0 (tB te) env ΘT := fun σ R H t o Q q =>
  h σ R H t o _ fun P x R1 H1 ⟨b, hb, h1⟩ m1 e1 p1 => ⟨b, hb _ _ p1, q b R1 H1 h1 e1⟩
theorem et_not (h : EvT S H0 tt env fun b => ΘT (!b)) : EvT S H0 (tNot tt) env ΘT := fun σ R H t o Q q =>
  h σ R H t o _ fun b R1 H1 h1 e1 => q _ R1 H1 h1 e1
theorem et_and (h : EvT S H0 tt env fun b => if b = true then EvT S H0 tu env ΘT else ΘT false) : EvT S H0 (tAnd tt tu) env ΘT := fun σ R H t o Q q =>
  h σ R H t o _ fun b R1 H1 h1 e1 => by
    cases b with
    | true => exact (show EvT S H0 tu env ΘT from h1) σ R1 H1 (t.ext e1) (o.ext e1) Q fun b2 R2 H2 h2 e2 => q b2 R2 H2 h2 (e1.trans o e2)
    | false => exact q false R1 H1 h1 e1
theorem et_or (h : EvT S H0 tt env fun b => if b = true then ΘT true else EvT S H0 tu env ΘT) : EvT S H0 (tOr tt tu) env ΘT := fun σ R H t o Q q =>
  h σ R H t o _ fun b R1 H1 h1 e1 => by
    cases b with
    | false => exact (show EvT S H0 tu env ΘT from h1) σ R1 H1 (t.ext e1) (o.ext e1) Q fun b2 R2 H2 h2 e2 => q b2 R2 H2 h2 (e1.trans o e2)
    | true => exact q true R1 H1 h1 e1
theorem et_yes (h : ΘT true) : EvT S H0 tYes env ΘT := fun σ R H t o Q q => q true R H h (Ext.refl o)
theorem ev_andV (h : EvN S H0 ta env fun P => ∃ b, (∀ R v, P R v → v = .bl b) ∧ if b = true then EvN S H0 tb env Θ else Θ (IsB false)) : EvN S H0 (tAndV ta tb) env Θ := fun σ R H t o Q q =>
  h σ R H t o _ fun P x R1 H1 ⟨b, hb, h1⟩ m1 e1 p1 => ⟨b, hb _ _ p1, by
    cases b with
    | true => exact (show EvN S H0 tb env Θ from h1) σ R1 H1 (t.ext e1) (o.ext e1) Q fun P2 v R2 H2 h2 m2 e2 p2 => q P2 v R2 H2 h2 m2 (e1.trans o e2) p2
    | false => exact q _ _ R1 H1 h1 inferInstance e1 rfl⟩
theorem ev_orV (h : EvN S H0 ta env fun P => ∃ b, (∀ R v, P R v → v = .bl b) ∧ if b = true then Θ (IsB true) else EvN S H0 tb env Θ) : EvN S H0 (tOrV ta tb) env Θ := fun σ R H t o Q q =>
  h σ R H t o _ fun P x R1 H1 ⟨b, hb, h1⟩ m1 e1 p1 => ⟨b, hb _ _ p1, by
    cases b with
    | false => exact (show EvN S H0 tb env Θ from h1) σ R1 H1 (t.ext e1) (o.ext e1) Q fun P2 v R2 H2 h2 m2 e2 p2 => q P2 v R2 H2 h2 m2 (e1.trans o e2) p2
    | true => exact q _ _ R1 H1 h1 inferInstance e1 rfl⟩
theorem ev_notV (h : EvN S H0 ta env fun P => ∃ b, (∀ R v, P R v → v = .bl b) ∧ Θ (IsB (!b))) : EvN S H0 (tNotV ta) env Θ := fun σ R H t o Q q =>
  h σ R H t o _ fun P x R1 H1 ⟨b, hb, h1⟩ m1 e1 p1 => ⟨b, hb _ _ p1, q _ _ R1 H1 h1 inferInstance e1 rfl⟩
theorem ev_if (h : EvT S H0 tt env fun b => if b = true then EvN S H0 ta env Θ else EvN S H0 tb env Θ) : EvN S H0 (tIf tt ta tb) env Θ := fun σ R H t o Q q =>
  h σ R H t o _ fun b R1 H1 h1 e1 => by
    cases b with
    | true => exact (show EvN S H0 ta env Θ from h1) σ R1 H1 (t.ext e1) (o.ext e1) Q fun P2 v R2 H2 h2 m2 e2 p2 => q P2 v R2 H2 h2 m2 (e1.trans o e2) p2
    | false => exact (show EvN S H0 tb env Θ from h1) σ R1 H1 (t.ext e1) (o.ext e1) Q fun P2 v R2 H2 h2 m2 e2 p2 => q P2 v R2 H2 h2 m2 (e1.trans o e2) p2
/-- arguments -/
theorem ea_nil (h : ΘA []) : EvA S H0 tNil env ΘA := fun σ R H t o Q q => q [] [] R H h (Ext.refl o) .nil
theorem ea_cons {tr : TA} (h : EvN S H0 te env fun P => EvA S H0 tr env fun ss => ΘA (.is P :: ss)) : EvA S H0 (tCons te tr) env ΘA := fun σ R H t o Q q =>
  h σ R H t o _ fun P x R1 H1 h1 m1 e1 p1 => h1 σ R1 H1 (t.ext e1) (o.ext e1) _ fun ss vs R2 H2 h2 e2 a => q _ _ R2 H2 h2 (e1.trans o e2) (.cons ⟨m1.mono _ _ _ e2.grow p1, m1⟩ a)
/-- a list of its own (or a caller's) handed on, to be read -/
theorem ea_own {tr : TA} {i : Nat} {ps : List Pd} (hi : env[i]? = some (.own ps)) (h : EvA S H0 tr env fun ss => ΘA (.bor ps :: ss)) : EvA S H0 (tCons (tVar i) tr) env ΘA := fun σ R H t o Q q => by
  obtain ⟨v, e, l, xs, rfl, hl, n, hs, a, m⟩ := t.val hi
  exact ⟨_, e, h σ R H t o _ fun ss vs R2 H2 h2 e2 a2 => q _ _ R2 H2 h2 e2 (.cons ⟨l, xs, rfl, e2.keep l _ hs.1 hl, hs.1, AllP.mono e2.grow m a, m⟩ a2)⟩
theorem ea_bor {tr : TA} {i : Nat} {ps : List Pd} (hi : env[i]? = some (.bor ps)) (h : EvA S H0 tr env fun ss => ΘA (.bor ps :: ss)) : EvA S H0 (tCons (tVar i) tr) env ΘA := fun σ R H t o Q q => by
  obtain ⟨v, e, l, xs, rfl, hl, hs, a, m⟩ := t.val hi
  exact ⟨_, e, h σ R H t o _ fun ss vs R2 H2 h2 e2 a2 => q _ _ R2 H2 h2 e2 (.cons ⟨l, xs, rfl, e2.keep l _ hs.1 hl, hs.1, AllP.mono e2.grow m a, m⟩ a2)⟩
/-- a built-in's call -/
theorem ev_cb {r : List V → Hp → VK → Prop} {t' : TA} (h : EvA S H0 t' env fun ss => CalOk S r ss Θ) : EvN S H0 (tCB r t') env Θ := fun σ R H t o Q q =>
  h σ R H t o _ fun ss vs R1 H1 h1 e1 a => h1 R1 H1 vs (o.ext e1) a Q fun P v R2 H2 h2 m2 e2 p2 => q P v R2 H2 h2 m2 (e1.trans o e2) p2
theorem el_cb {r : List V → Hp → VK → Prop} {t' : TA} (h : EvA S H0 t' env fun ss => CalL S r ss ΘL) : EvL S H0 (tCB r t') env ΘL := fun σ R H t o Q q =>
  h σ R H t o _ fun ss vs R1 H1 h1 e1 a => h1 R1 H1 vs (o.ext e1) a Q fun p xs ps R2 H2 h2 m2 e2 hp hl hr ha => q p xs ps R2 H2 h2 m2 (e1.trans o e2) (e1.noneB hp) hl hr ha
/-- a def's promise -/
def pr (Spec : (Addr → Prop) → List Sl → (Pd → Prop) → Prop) : Sp := fun vs H Q _ => ∃ (S : Addr → Prop) (R : Hp) (ss : List Sl) (Θ : Pd → Prop), Ok S R H ∧ ArgsOk S R H vs ss ∧ Spec S ss Θ ∧
  ∀ P v R' H', Θ P → Mn P → Ext S R H R' H' → P R' v → Q v H'
theorem ev_call {Spec : (Addr → Prop) → List Sl → (Pd → Prop) → Prop} {t' : TA} {E : XK} (h : EvA S H0 t' env fun ss => Spec S ss Θ) : EvN S H0 (tCall (pr Spec) [] E t') env Θ := fun σ R H t o Q q =>
  h σ R H t o _ fun ss vs R1 H1 h1 e1 a => by
    rw [List.append_nil]
    exact ⟨S, R1, ss, Θ, o.ext e1, a, h1, fun P v R2 H2 h2 m2 e2 p2 => q P v R2 H2 h2 m2 (e1.trans o e2) p2⟩
end

/-! ### statements -/
def Blk (S : Addr → Prop) (R0 H0 : Hp) (ts : TS) (env : Slots) (ret : Pd → Prop) (nx bk ct : Slots → Prop) : Prop :=
  ∀ σ R H, Ok S R0 H0 → Ext S R0 H0 R H → Stt S H0 R H σ env → ∀ E : Ends,
    (∀ P v R' H', ret P → Mn P → Ext S R0 H0 R' H' → P R' v → E.rt v H') →
    (∀ env' σ' R' H', nx env' → Same R R' → Ext S R0 H0 R' H' → Stt S H0 R' H' σ' env' → E.nx σ' H') →
    (∀ env' σ' R' H', bk env' → Same R R' → Ext S R0 H0 R' H' → Stt S H0 R' H' σ' env' → E.bk σ' H') →
    (∀ env' σ' R' H', ct env' → Same R R' → Ext S R0 H0 R' H' → Stt S H0 R' H' σ' env' → E.ct σ' H') → ts E σ H
theorem Ext.ok {S : Addr → Prop} {R0 H0 R H : Hp} (o : Ok S R0 H0) (e : Ext S R0 H0 R H) : Ok S R H := o.ext e
section
variable {S : Addr → Prop} {R0 H0 : Hp} {env : Slots} {ret : Pd → Prop} {nx bk ct : Slots → Prop} {t u : TS} {te : TE} {tt : TT} {K : PySem.W.Frag}
/-- the ways on from a larger region -/
theorem up {R R1 : Hp} {nx : Slots → Prop} {E : L2.St → Hp → Prop} (g : Same R R1) (q : ∀ env' σ' R' H', nx env' → Same R R' → Ext S R0 H0 R' H' → Stt S H0 R' H' σ' env' → E σ' H') :
    ∀ env' σ' R' H', nx env' → Same R1 R' → Ext S R0 H0 R' H' → Stt S H0 R' H' σ' env' → E σ' H' := fun env' σ' R' H' a b c d => q env' σ' R' H' a (g.trans b) c d
theorem b_seq (h : Blk S R0 H0 t env ret (fun env' => Blk S R0 H0 u env' ret nx bk ct) bk ct) : Blk S R0 H0 (tSeq t u) env ret nx bk ct := fun σ R H o e s E qr qn qb qc =>
  h σ R H o e s { E with nx := u E } qr (fun env' σ' R' H' h' g e' s' => h' σ' R' H' o e' s' E qr (up g qn) (up g qb) (up g qc)) qb qc
theorem b_next (h : nx env) : Blk S R0 H0 tNext env ret nx bk ct := fun σ R H o e s E qr qn qb qc => qn env σ R H h (Same.refl R) e s
theorem b_break (h : bk env) : Blk S R0 H0 tBreak env ret nx bk ct := fun σ R H o e s E qr qn qb qc => qb env σ R H h (Same.refl R) e s
theorem b_cont (h : ct env) : Blk S R0 H0 tCont env ret nx bk ct := fun σ R H o e s E qr qn qb qc => qc env σ R H h (Same.refl R) e s
theorem b_asg {i : Nat} (h : EvN S H0 te env fun P => nx (env.set i (.is P))) : Blk S R0 H0 (tAsg te (gName i)) env ret nx bk ct := fun σ R H o e s E qr qn qb qc =>
  h σ R H s (o.ext e) _ fun P v R1 H1 h1 m1 e1 p1 => qn _ _ R1 H1 h1 e1.grow (e.trans o e1) ((s.ext e1).set (m := m1) p1)
/-- the slot takes a new list that may change -/
theorem b_asgL {i : Nat} (h : EvL S H0 te env fun ps => nx (env.set i (.own ps))) : Blk S R0 H0 (tAsg te (gName i)) env ret nx bk ct := fun σ R H o e s E qr qn qb qc =>
  h σ R H s (o.ext e) _ fun p xs ps R1 H1 h1 m1 e1 hp hl hr ha => qn _ _ R1 H1 h1 e1.grow (e.trans o e1) (s.setOwn hp (e.none0 o hp) m1 e1 hl hr ha)
theorem b_ret (h : EvN S H0 te env ret) : Blk S R0 H0 (tRet te) env ret nx bk ct := fun σ R H o e s E qr qn qb qc =>
  h σ R H s (o.ext e) _ fun P v R1 H1 h1 m1 e1 p1 => qr P v R1 H1 h1 m1 (e.trans o e1) p1
theorem b_if (h : EvT S H0 tt env fun b => if b = true then Blk S R0 H0 t env ret nx bk ct else Blk S R0 H0 u env ret nx bk ct) : Blk S R0 H0 (tIfS tt t u) env ret nx bk ct := fun σ R H o e s E qr qn qb qc =>
  h σ R H s (o.ext e) _ fun b R1 H1 h1 e1 => by
    cases b with
    | true => exact (show Blk S R0 H0 t env ret nx bk ct from h1) σ R1 H1 o (e.trans o e1) (s.ext e1) E qr (up e1.grow qn) (up e1.grow qb) (up e1.grow qc)
    | false => exact (show Blk S R0 H0 u env ret nx bk ct from h1) σ R1 H1 o (e.trans o e1) (s.ext e1) E qr (up e1.grow qn) (up e1.grow qb) (up e1.grow qc)
theorem b_drop (h : EvN S H0 te env fun _ => nx env) : Blk S R0 H0 (tDrop te) env ret nx bk ct := fun σ R H o e s E qr qn qb qc =>
  h σ R H s (o.ext e) _ fun P v R1 H1 h1 m1 e1 p1 => qn env σ R1 H1 h1 e1.grow (e.trans o e1) (s.ext e1)
def ListP (ps : List Pd) : Pd := fun R v => ∃ l xs, v = .ref l ∧ R l = some (.lst xs) ∧ AllP R xs ps
theorem mn_listP {ps : List Pd} (m : ∀ P ∈ ps, Mn P) : Mn (ListP ps) := ⟨fun R R' v e ⟨l, xs, a, b, c⟩ => ⟨l, xs, a, e _ _ b, AllP.mono e m c⟩⟩
/-- a list of its own no more changes -/
theorem b_freeze {i : Nat} {ps : List Pd} (hi : env[i]? = some (.own ps)) {P : Pd} [m : Mn P] (hP : ∀ R v, ListP ps R v → P R v) (h : Blk S R0 H0 t (env.set i (.is P)) ret nx bk ct) : Blk S R0 H0 t env ret nx bk ct := fun σ R H o e s E qr qn qb qc => by
  obtain ⟨R', g, e', s'⟩ := s.freeze e hi (P := P) fun R' l xs h1 h2 => hP R' _ ⟨l, xs, rfl, h1, h2⟩
  exact h σ R' H o e' s' E qr (up g qn) (up g qb) (up g qc)
end
end Ru
namespace Ru
open PySem L2

/-! ### a def from its body -/
theorem start_stt {S : Addr → Prop} {R H : Hp} {N : List Str} : ∀ {vs : List V} {ss : List Sl}, ArgsOk S R H vs ss → Ok S R H → vs.length ≤ N.length → Stt S H R H (L2.start N vs) (ss ++ List.replicate (N.length - ss.length) .no) := by
  intro vs ss a o hl
  have e := a.length
  have get : ∀ (i : Nat) (s : Sl), ss[i]? = some s → ∃ v, vs[i]? = some v ∧ ArgOk S R H v s := by
    clear hl e
    induction a with
    | nil => intro i s h; simp at h
    | cons h t ih =>
      intro i s hs
      cases i with
      | zero => simp at hs; subst hs; exact ⟨_, rfl, h⟩
      | succ i =>
        obtain ⟨v, h1, h2⟩ := ih i s (by simpa using hs)
        exact ⟨v, by simpa using h1, h2⟩
  have noown : ∀ (i : Nat) (ps : List Pd), (ss ++ List.replicate (N.length - ss.length) Sl.no)[i]? ≠ some (.own ps) := fun i ps h => by
    by_cases hi : i < ss.length
    · rw [List.getElem?_append_left hi] at h
      obtain ⟨v, _, z⟩ := get i _ h
      exact z
    · rw [List.getElem?_append_right (by omega)] at h
      have z := List.mem_of_getElem? h
      rw [List.mem_replicate] at z
      cases z.2
  refine ⟨?_, fun i s v h1 h2 => ?_, fun i j ps qs l h1 _ _ _ => absurd h1 (noown i ps)⟩
  · unfold L2.start
    simp only [List.length_append, List.length_replicate, List.length_map]
    omega
  · by_cases hi : i < ss.length
    · rw [List.getElem?_append_left hi] at h1
      obtain ⟨x, hx, ax⟩ := get i s h1
      unfold L2.start at h2
      rw [List.getElem?_append_left (by rw [List.length_map]; omega), List.getElem?_map, hx] at h2
      cases h2
      cases s with
      | no => exact True.intro
      | is P => exact ⟨x, rfl, ax.1, ax.2⟩
      | own ps => exact False.elim ax
      | bor ps =>
        obtain ⟨l, xs, z1, z2, z3, z4, z5⟩ := ax
        exact ⟨l, xs, by rw [z1], z2, ⟨z3, _, z2⟩, z4, z5⟩
    · rw [List.getElem?_append_right (by omega)] at h1
      have z := List.mem_of_getElem? h1
      rw [List.mem_replicate] at z
      rw [z.2]
      exact True.intro
/-- the reading of a def's body, by Blk -/
theorem fn_blk {Spec : (Addr → Prop) → List Sl → (Pd → Prop) → Prop} {N : List Str} {t : TS} {vs : List V} {H : Hp} {Q : VK} {E : XK} (h : pr Spec vs H Q E) (hl : ∀ S ss Θ, Spec S ss Θ → ss.length ≤ N.length)
    (b : ∀ S R ss Θ, Ok S R H → Spec S ss Θ → Blk S R H t (ss ++ List.replicate (N.length - ss.length) .no) Θ (fun _ => Θ (Is .none)) (fun _ => False) (fun _ => False)) :
    t { nx := fun _ H' => Q .non H', rt := Q } (L2.start N vs) H := by
  obtain ⟨S, R, ss, Θ, o, a, sp, k⟩ := h
  refine b S R ss Θ o sp (L2.start N vs) R H o (Ext.refl o) (start_stt a o (by rw [a.length]; exact hl S ss Θ sp)) _ k (fun env' σ' R' H' h' g' e' s' => k _ _ R' H' h' inferInstance e' .non) (fun _ _ _ _ h' => h'.elim) fun _ _ _ _ h' => h'.elim
theorem pr_len {Spec : (Addr → Prop) → List Sl → (Pd → Prop) → Prop} {n : Nat} (hl : ∀ S ss Θ, Spec S ss Θ → ss.length = n) : ∀ vs H Q E, pr Spec vs H Q E → vs.length = n := fun vs H Q E ⟨S, R, ss, Θ, o, a, sp, k⟩ => by
  rw [a.length]
  exact hl S ss Θ sp

/-! ### loops -/
section
variable {S : Addr → Prop} {R0 H0 : Hp} {env : Slots} {ret : Pd → Prop} {nx bk ct : Slots → Prop} {t u tb : TS} {te : TE} {ta : TA} {tt : TT} {K : PySem.W.Frag}
theorem b_for_r1 {j : Nat} (h : EvA S H0 ta env fun ss => ∃ n : Int, ss = [.is (IsI n)] ∧ n < 2 ^ 62 ∧ -(2 ^ 62) ≤ n ∧ ∃ W : Nat → Slots → Prop, W 0 env ∧
      (∀ (i : Nat) (env' : Slots), (i : Int) < n → W i env' → Blk S R0 H0 tb (env'.set j (.is (IsI i))) ret (W (i + 1)) nx (W (i + 1))) ∧ ∀ env', W n.toNat env' → nx env') : Blk S R0 H0 (tFor (iRng1 ta) (gName j) tb) env ret nx bk ct := by
  intro σ R H o e s E qr qn qb qc
  refine h σ R H s (o.ext e) _ fun ss vs R1 H1 ⟨n, es, hn1, hn2, W, h0, hs, hd⟩ e1 a => ?_
  subst es
  cases a with
  | cons a1 a2 =>
    cases a2
    obtain ⟨rfl, _⟩ := a1
    refine ⟨n, rfl, hn2, hn1, for_range (lo := 0) (n := n.toNat) (fun i σ' H' => ∃ env' R', Same R R' ∧ W i env' ∧ Ext S R0 H0 R' H' ∧ Stt S H0 R' H' σ' env') ⟨env, R1, e1.grow, h0, e.trans o e1, s.ext e1⟩ (fun i σ' H' hi ⟨env', R', g, q1, q2, q3⟩ => ?_) fun σ' H' ⟨env', R', g, q1, q2, q3⟩ => qn env' σ' R' H' (hd env' q1) g q2 q3⟩
    have e0 : (0 : Int) + (i : Int) = (i : Int) := Int.zero_add _
    show tb _ (σ'.set j (some (.int ((0 : Int) + (i : Int))))) H'
    rw [e0]
    refine hs i env' (by omega) q1 _ R' H' o q2 (q3.set (P := IsI i) rfl) _ qr ?_ (up g qn) ?_
    · exact fun env2 σ2 R2 H2 a g2 b c => ⟨env2, R2, g.trans g2, a, b, c⟩
    · exact fun env2 σ2 R2 H2 a g2 b c => ⟨env2, R2, g.trans g2, a, b, c⟩
theorem b_for_r2 {j : Nat} (h : EvA S H0 ta env fun ss => ∃ lo n : Int, ss = [.is (IsI lo), .is (IsI n)] ∧ (-(2 ^ 62) ≤ lo ∧ lo < 2 ^ 62 ∧ -(2 ^ 62) ≤ n ∧ n < 2 ^ 62) ∧ ∃ W : Nat → Slots → Prop, W 0 env ∧
      (∀ (i : Nat) (env' : Slots), lo + (i : Int) < n → W i env' → Blk S R0 H0 tb (env'.set j (.is (IsI (lo + i)))) ret (W (i + 1)) nx (W (i + 1))) ∧ ∀ env', W (n - lo).toNat env' → nx env') : Blk S R0 H0 (tFor (iRng2 ta) (gName j) tb) env ret nx bk ct := by
  intro σ R H o e s E qr qn qb qc
  refine h σ R H s (o.ext e) _ fun ss vs R1 H1 ⟨lo, n, es, hn, W, h0, hs, hd⟩ e1 a => ?_
  subst es
  cases a with
  | cons a1 a2 =>
    cases a2 with
    | cons a2 a3 =>
      cases a3
      obtain ⟨rfl, _⟩ := a1
      obtain ⟨rfl, _⟩ := a2
      refine ⟨lo, n, rfl, hn, for_range (lo := lo) (n := (n - lo).toNat) (fun i σ' H' => ∃ env' R', Same R R' ∧ W i env' ∧ Ext S R0 H0 R' H' ∧ Stt S H0 R' H' σ' env') ⟨env, R1, e1.grow, h0, e.trans o e1, s.ext e1⟩ (fun i σ' H' hi ⟨env', R', g, q1, q2, q3⟩ => ?_) fun σ' H' ⟨env', R', g, q1, q2, q3⟩ => qn env' σ' R' H' (hd env' q1) g q2 q3⟩
      show tb _ (σ'.set j (some (.int (lo + (i : Int))))) H'
      refine hs i env' (by omega) q1 _ R' H' o q2 (q3.set (P := IsI (lo + i)) rfl) _ qr ?_ (up g qn) ?_
      · exact fun env2 σ2 R2 H2 a g2 b c => ⟨env2, R2, g.trans g2, a, b, c⟩
      · exact fun env2 σ2 R2 H2 a g2 b c => ⟨env2, R2, g.trans g2, a, b, c⟩
/-- over a list that stands in the region -/
theorem b_for_l {j : Nat} (h : EvN S H0 te env fun P => ∃ ps, (∀ R v, P R v → ListP ps R v) ∧ (∀ P ∈ ps, Mn P) ∧ ∃ W : Nat → Slots → Prop, W 0 env ∧
      (∀ (i : Nat) (p : Pd) (env' : Slots), ps[i]? = some p → W i env' → Blk S R0 H0 tb (env'.set j (.is p)) ret (W (i + 1)) nx (W (i + 1))) ∧ ∀ env', W ps.length env' → nx env') : Blk S R0 H0 (tFor (iList K te) (gName j) tb) env ret nx bk ct := by
  intro σ R H o e s E qr qn qb qc
  refine h σ R H s (o.ext e) _ fun P v R1 H1 ⟨ps, hp, mn, W, h0, hs, hd⟩ m1 e1 p1 => ?_
  obtain ⟨l, xs, rfl, hl, ha⟩ := hp _ _ p1
  have e2 := e.trans o e1
  have hle := All2.length ha
  refine ⟨l, rfl, ⟨xs, SqL.of (e1.sub _ _ hl)⟩, for_list (xs := xs) (fun i σ' H' => ∃ env' R', Same R1 R' ∧ W i env' ∧ Ext S R0 H0 R' H' ∧ Stt S H0 R' H' σ' env') ⟨env, R1, Same.refl _, h0, e2, s.ext e1⟩ (fun i σ' H' hi ⟨env', R', g, q1, q2, q3⟩ => SqL.of (q2.sub _ _ (g _ _ hl))) (fun i x σ' H' hi ⟨env', R', g, q1, q2, q3⟩ => ?_) fun σ' H' ⟨env', R', g, q1, q2, q3⟩ => qn env' σ' R' H' (hd env' (by rw [← hle]; exact q1)) (e1.grow.trans g) q2 q3⟩
  obtain ⟨p, hpi, hpx⟩ := All2.getV ha hi
  have mp := mn p (List.mem_of_getElem? hpi)
  show tb _ (σ'.set j (some x)) H'
  refine hs i p env' hpi q1 _ R' H' o q2 (q3.set (m := mp) (mp.mono _ _ _ g hpx)) _ qr ?_ (up (e1.grow.trans g) qn) ?_
  · exact fun env2 σ2 R2 H2 a g2 b c => ⟨env2, R2, g.trans g2, a, b, c⟩
  · exact fun env2 σ2 R2 H2 a g2 b c => ⟨env2, R2, g.trans g2, a, b, c⟩
end
end Ru
namespace Ru
open PySem L2

/-! ### predicates as data -/
class ToD (P : Pd) (d : outParam PyData) : Prop where
  to : ∀ R v, P R v → Da R v d
instance {d : PyData} : ToD (Is d) d := ⟨fun _ _ h => h⟩
instance {i : Int} : ToD (IsI i) (.int i) := ⟨fun _ v h => by rw [show v = V.int i from h]; exact .int i⟩
instance {b : Bool} : ToD (IsB b) (.bool b) := ⟨fun _ v h => by rw [show v = V.bl b from h]; exact .bl b⟩
inductive ToDs : List Pd → List PyData → Prop
  | nil : ToDs [] []
  | cons {P : Pd} {d : PyData} {ps : List Pd} {ds : List PyData} : (∀ R v, P R v → Da R v d) → ToDs ps ds → ToDs (P :: ps) (d :: ds)
theorem ToDs.all {R : Hp} : ∀ {ps : List Pd} {ds : List PyData} {xs : List V}, ToDs ps ds → AllP R xs ps → DaL R xs ds
  | _, _, _, .nil, .nil => .nil
  | _, _, _, .cons h t, .cons a b => .cons (h _ _ a) (ToDs.all t b)
theorem ToDs.map {α : Type} {f : α → Pd} {g : α → PyData} (h : ∀ a R v, f a R v → Da R v (g a)) : ∀ as : List α, ToDs (as.map f) (as.map g)
  | [] => .nil
  | a :: as => .cons (h a) (ToDs.map h as)
theorem ToDs.is (ds : List PyData) : ToDs (ds.map Is) ds := by
  have h := ToDs.map (f := Is) (g := id) (fun _ _ _ h => h) ds
  rwa [List.map_id] at h
theorem listP_is {ps : List Pd} {ds : List PyData} (h : ToDs ps ds) (R : Hp) (v : V) : ListP ps R v → Is (.list ds) R v := fun ⟨l, xs, e, a, b⟩ => by
  rw [e]
  exact .lst a (h.all b)
theorem is_listP {ds : List PyData} (R : Hp) (v : V) (h : Is (.list ds) R v) : ListP (ds.map Is) R v := by
  cases h with
  | lst a b =>
    refine ⟨_, _, rfl, a, ?_⟩
    have := (DaL.all2 b)
    exact All2.map (f := Is) (rep' := fun P => P) (fun _ _ h => h) this
theorem mn_map_is (ds : List PyData) : ∀ P ∈ ds.map Is, Mn P := fun P hP => by
  obtain ⟨d, _, rfl⟩ := List.mem_map.mp hP
  infer_instance

section
variable {S : Addr → Prop} {H0 : Hp} {env : Slots} {K : PySem.W.Frag} {Θ : Pd → Prop} {ΘT : Bool → Prop} {ΘA : List Sl → Prop} {ΘL : List Pd → Prop} {ta tb te : TE} {tt tu : TT} {r r' : R2} {P P' : Pd}
/-! ### operations -/
theorem ok_or1 (h : OpOk S r P P' Θ) : OpOk S (fun x y H Q => r x y H Q ∨ r' x y H Q) P P' Θ := fun R H x y o a b Q q => .inl (h R H x y o a b Q q)
theorem ok_or2 (h : OpOk S r' P P' Θ) : OpOk S (fun x y H Q => r x y H Q ∨ r' x y H Q) P P' Θ := fun R H x y o a b Q q => .inr (h R H x y o a b Q q)
theorem ol_or1 (h : OpL S r P P' ΘL) : OpL S (fun x y H Q => r x y H Q ∨ r' x y H Q) P P' ΘL := fun R H x y o a b Q q => .inl (h R H x y o a b Q q)
theorem ol_or2 (h : OpL S r' P P' ΘL) : OpL S (fun x y H Q => r x y H Q ∨ r' x y H Q) P P' ΘL := fun R H x y o a b Q q => .inr (h R H x y o a b Q q)
theorem ok_I0 {g : Int → Int → Int} {i j : Int} (h : Θ (IsI (g i j))) : OpOk S (rI0 fun i j => .int (g i j)) (IsI i) (IsI j) Θ := fun R H x y o a b Q q => ⟨i, j, a, b, q _ _ R H h inferInstance (Ext.refl o) rfl⟩
theorem ok_I0b {g : Int → Int → Bool} {i j : Int} (h : Θ (IsB (g i j))) : OpOk S (rI0 fun i j => .bl (g i j)) (IsI i) (IsI j) Θ := fun R H x y o a b Q q => ⟨i, j, a, b, q _ _ R H h inferInstance (Ext.refl o) rfl⟩
theorem ok_I {C : Int → Int → Prop} {g : Int → Int → Int} {i j : Int} (c : C i j) (h : Θ (IsI (g i j))) : OpOk S (rI C fun i j => .int (g i j)) (IsI i) (IsI j) Θ := fun R H x y o a b Q q => ⟨i, j, a, b, c, q _ _ R H h inferInstance (Ext.refl o) rfl⟩
/-- == of data -/
theorem ok_eqD {d e : PyData} (h1 : ∀ R v, P R v → Da R v d) (h2 : ∀ R v, P' R v → Da R v e) (s1 : SeqAt.shaped d = true) (s2 : SeqAt.shaped e = true) (h : Θ (IsB (PyData.eqv d e))) : OpOk S (rEqD K) P P' Θ := fun R H x y o a b Q q =>
  ⟨d, e, (h1 _ _ a).dp o.sub, (h2 _ _ b).dp o.sub, s1, s2, q _ _ R H h inferInstance (Ext.refl o) rfl⟩
theorem ok_neD {d e : PyData} (h1 : ∀ R v, P R v → Da R v d) (h2 : ∀ R v, P' R v → Da R v e) (s1 : SeqAt.shaped d = true) (s2 : SeqAt.shaped e = true) (h : Θ (IsB (!PyData.eqv d e))) : OpOk S (rNeD K) P P' Θ := fun R H x y o a b Q q =>
  ⟨d, e, (h1 _ _ a).dp o.sub, (h2 _ _ b).dp o.sub, s1, s2, q _ _ R H h inferInstance (Ext.refl o) rfl⟩
theorem ok_inD {d : PyData} {ds : List PyData} (h1 : ∀ R v, P R v → Da R v d) (h2 : ∀ R v, P' R v → Da R v (.list ds)) (s1 : SeqAt.shaped d = true) (s2 : SeqAt.shaped (.list ds) = true) (h : Θ (IsB (ds.any fun z => PyData.eqv z d))) : OpOk S (rInD K) P P' Θ := fun R H x y o a b Q q =>
  ⟨d, ds, (h1 _ _ a).dp o.sub, (h2 _ _ b).dp o.sub, s1, s2, q _ _ R H h inferInstance (Ext.refl o) rfl⟩
theorem ok_notInD {d : PyData} {ds : List PyData} (h1 : ∀ R v, P R v → Da R v d) (h2 : ∀ R v, P' R v → Da R v (.list ds)) (s1 : SeqAt.shaped d = true) (s2 : SeqAt.shaped (.list ds) = true) (h : Θ (IsB (!ds.any fun z => PyData.eqv z d))) : OpOk S (rNotInD K) P P' Θ := fun R H x y o a b Q q =>
  ⟨d, ds, (h1 _ _ a).dp o.sub, (h2 _ _ b).dp o.sub, s1, s2, q _ _ R H h inferInstance (Ext.refl o) rfl⟩
/-- list + list -/
theorem ol_cat {ps qs : List Pd} (h1 : ∀ R v, P R v → ListP ps R v) (h2 : ∀ R v, P' R v → ListP qs R v) (m1 : ∀ P ∈ ps, Mn P) (m2 : ∀ P ∈ qs, Mn P) (z : ps.length + qs.length ≤ sizeLine) (h : ΘL (ps ++ qs)) : OpL S rCat P P' ΘL := fun R H x y o a b Q q => by
  obtain ⟨l, xs, e1, a1, b1⟩ := h1 _ _ a
  obtain ⟨m, ys, e2, a2, b2⟩ := h2 _ _ b
  refine ⟨l, m, xs, ys, e1, e2, o.sub _ _ a1, o.sub _ _ a2, by rw [b1.length, b2.length]; exact z, fun p hp => ?_⟩
  refine q p (xs ++ ys) _ R _ h (fun P hP => ?_) (Ext.out o hp) hp upd_same (o.none hp) (All2.append b1 b2)
  rcases List.mem_append.mp hP with z | z
  · exact m1 P z
  · exact m2 P z
end
end Ru
namespace Ru
open PySem L2

/-! ### operations of several kinds -/
theorem OpR.or2 {X : Cx} {f : Value → Value → Sem Value} {r r' : R2} (h : OpR X f r) (h' : OpR X f r') : OpR X f (fun x y H Q => r x y H Q ∨ r' x y H Q) := fun pins s σ H x y v u Q I rx ry q => q.elim (h pins s σ H x y v u Q I rx ry) (h' pins s σ H x y v u Q I rx ry)
abbrev qAdd (K : PySem.W.Frag) : R2 := fun x y H Q => rI0 (fun i j => .int (i + j)) x y H Q ∨ (rCat x y H Q ∨ rCatT K x y H Q)
theorem op_addU {X : Cx} : OpR X (binaryOp .Add) (qAdd X.K) := OpR.or2 op_add (OpR.or2 op_cat op_catT)
abbrev qMul : R2 := fun x y H Q => rI CMul (fun i j => .int (i * j)) x y H Q ∨ rRep x y H Q
theorem op_mulU {X : Cx} : OpR X (binaryOp .Mult) qMul := OpR.or2 op_mul op_rep
abbrev qEq (K : PySem.W.Frag) : R2 := fun x y H Q => rEq x y H Q ∨ rEqD K x y H Q
theorem op_eqU {X : Cx} (hu : X.A.units + 64 < cLine) : OpR X (compareOp .Eq) (qEq X.K) := OpR.or2 op_eq (op_eqD hu)
abbrev qNe (K : PySem.W.Frag) : R2 := fun x y H Q => rNe x y H Q ∨ rNeD K x y H Q
theorem op_neU {X : Cx} (hu : X.A.units + 64 < cLine) : OpR X (compareOp .NotEq) (qNe X.K) := OpR.or2 op_ne (op_neD hu)
abbrev qSub : R2 := rI0 fun i j => .int (i - j)
abbrev qDiv : R2 := rI CDiv fun i j => .int (i / j)
abbrev qMod : R2 := rI (fun _ j => 0 < j) fun i j => .int (i % j)
abbrev qPow : R2 := rI CPow fun i j => .int (i ^ j.toNat)
abbrev qNeg : V → Hp → VK → Prop := rU fun i => .int (-i)
abbrev qLt : R2 := rI0 fun i j => .bl (decide (i < j))
abbrev qLe : R2 := rI0 fun i j => .bl (decide (i ≤ j))
abbrev qGt : R2 := rI0 fun i j => .bl (decide (j < i))
abbrev qGe : R2 := rI0 fun i j => .bl (decide (j ≤ i))
abbrev qLen (K : PySem.W.Frag) : List V → Hp → VK → Prop := fun xs H Q => ∃ x n, xs = [x] ∧ LenV K x H n ∧ Q (.int n) H
abbrev qAbs : List V → Hp → VK → Prop := fun xs H Q => ∃ i, xs = [.int i] ∧ Q (.int (if i < 0 then -i else i)) H
abbrev qMax2 : List V → Hp → VK → Prop := fun xs H Q => ∃ i j, xs = [.int i, .int j] ∧ Q (.int (if j > i then j else i)) H
abbrev qMin2 : List V → Hp → VK → Prop := fun xs H Q => ∃ i j, xs = [.int i, .int j] ∧ Q (.int (if j < i then j else i)) H
abbrev qInt1 : List V → Hp → VK → Prop := fun xs H Q => (∃ i, xs = [.int i] ∧ Q (.int i) H) ∨ ∃ k, xs = [.bl k] ∧ Q (.int (if k then 1 else 0)) H
abbrev qList (K : PySem.W.Frag) : List V → Hp → VK → Prop := fun xs H Q => ∃ p ys, xs = [.ref p] ∧ (SqL K H p ys ∨ SqT K H p ys) ∧ ∀ l, H l = none → Q (.ref l) (upd H l (.lst ys))

/-- the script -/
def Scr (K : PySem.W.Frag) (ns : List Int) : Pd := fun R v => ∃ a, v = .ref a ∧ SqL K R a (ns.map V.int)
instance {K : PySem.W.Frag} {ns : List Int} : Mn (Scr K ns) := ⟨fun _ _ _ e ⟨a, h, q⟩ => ⟨a, h, e.seq q⟩⟩

section
variable {S : Addr → Prop} {H0 : Hp} {env : Slots} {K : PySem.W.Frag} {Θ : Pd → Prop} {ΘT : Bool → Prop} {ΘA : List Sl → Prop} {ΘL : List Pd → Prop} {ta tb te : TE} {tt tu : TT} {P P' : Pd}
theorem isB {b : Bool} : ∀ (R : Hp) (v : V), IsB b R v → v = .bl b := fun _ _ h => h
theorem o_eqD {d e : PyData} (h1 : ∀ R v, P R v → Da R v d) (h2 : ∀ R v, P' R v → Da R v e) (s1 : SeqAt.shaped d = true) (s2 : SeqAt.shaped e = true) (h : Θ (IsB (PyData.eqv d e))) : OpOk S (qEq K) P P' Θ := ok_or2 (ok_eqD h1 h2 s1 s2 h)
theorem o_neD {d e : PyData} (h1 : ∀ R v, P R v → Da R v d) (h2 : ∀ R v, P' R v → Da R v e) (s1 : SeqAt.shaped d = true) (s2 : SeqAt.shaped e = true) (h : Θ (IsB (!PyData.eqv d e))) : OpOk S (qNe K) P P' Θ := ok_or2 (ok_neD h1 h2 s1 s2 h)
theorem o_eqS {x y : Str} (h : Θ (IsB (decide (x = y)))) : OpOk S (qEq K) (Is (.str x)) (Is (.str y)) Θ := fun R H a b o p p' Q q => by
  cases p
  cases p'
  have e : decide (V.str x = V.str y) = decide (x = y) := decide_eq_decide.mpr ⟨fun z => V.str.inj z, fun z => by rw [z]⟩
  exact .inl ⟨rfl, by rw [e]; exact q _ _ R H h inferInstance (Ext.refl o) rfl⟩
theorem o_eqI {i j : Int} (h : Θ (IsB (decide (i = j)))) : OpOk S (qEq K) (IsI i) (IsI j) Θ := fun R H a b o p p' Q q => by
  subst p p'
  have e : decide (V.int i = V.int j) = decide (i = j) := decide_eq_decide.mpr ⟨fun z => V.int.inj z, fun z => by rw [z]⟩
  exact .inl ⟨rfl, by rw [e]; exact q _ _ R H h inferInstance (Ext.refl o) rfl⟩
theorem o_add {i j : Int} (h : Θ (IsI (i + j))) : OpOk S (qAdd K) (IsI i) (IsI j) Θ := ok_or1 (ok_I0 h)
theorem o_sub {i j : Int} (h : Θ (IsI (i - j))) : OpOk S qSub (IsI i) (IsI j) Θ := ok_I0 h
theorem o_mul {i j : Int} (c : CMul i j) (h : Θ (IsI (i * j))) : OpOk S qMul (IsI i) (IsI j) Θ := ok_or1 (ok_I c h)
theorem o_div {i j : Int} (c : CDiv i j) (h : Θ (IsI (i / j))) : OpOk S qDiv (IsI i) (IsI j) Θ := ok_I c h
theorem o_mod {i j : Int} (c : 0 < j) (h : Θ (IsI (i % j))) : OpOk S qMod (IsI i) (IsI j) Θ := ok_I c h
theorem o_pow {i j : Int} (c : CPow i j) (h : Θ (IsI (i ^ j.toNat))) : OpOk S qPow (IsI i) (IsI j) Θ := ok_I c h
theorem o_lt {i j : Int} (h : Θ (IsB (decide (i < j)))) : OpOk S qLt (IsI i) (IsI j) Θ := ok_I0b h
theorem o_le {i j : Int} (h : Θ (IsB (decide (i ≤ j)))) : OpOk S qLe (IsI i) (IsI j) Θ := ok_I0b h
theorem o_gt {i j : Int} (h : Θ (IsB (decide (j < i)))) : OpOk S qGt (IsI i) (IsI j) Θ := ok_I0b h
theorem o_ge {i j : Int} (h : Θ (IsB (decide (j ≤ i)))) : OpOk S qGe (IsI i) (IsI j) Θ := ok_I0b h
theorem ev_neg {i : Int} (h : EvN S H0 ta env fun P => P = IsI i ∧ Θ (IsI (-i))) : EvN S H0 (tUn qNeg ta) env Θ := fun σ R H t o Q q =>
  h σ R H t o _ fun P x R1 H1 ⟨e, h1⟩ m1 e1 p1 => by
    subst e
    exact ⟨i, p1, q _ _ R1 H1 h1 inferInstance e1 rfl⟩
theorem c_abs {i : Int} (h : Θ (IsI (if i < 0 then -i else i))) : CalOk S qAbs [.is (IsI i)] Θ := fun R H vs o a Q q => by
  cases a with
  | cons a1 a2 =>
    cases a2
    exact ⟨i, by rw [a1.1], q _ _ R H h inferInstance (Ext.refl o) rfl⟩
theorem c_max {i j : Int} (h : Θ (IsI (if j > i then j else i))) : CalOk S qMax2 [.is (IsI i), .is (IsI j)] Θ := fun R H vs o a Q q => by
  cases a with
  | cons a1 a2 =>
    cases a2 with
    | cons a2 a3 =>
      cases a3
      exact ⟨i, j, by rw [a1.1, a2.1], q _ _ R H h inferInstance (Ext.refl o) rfl⟩
theorem c_min {i j : Int} (h : Θ (IsI (if j < i then j else i))) : CalOk S qMin2 [.is (IsI i), .is (IsI j)] Θ := fun R H vs o a Q q => by
  cases a with
  | cons a1 a2 =>
    cases a2 with
    | cons a2 a3 =>
      cases a3
      exact ⟨i, j, by rw [a1.1, a2.1], q _ _ R H h inferInstance (Ext.refl o) rfl⟩
theorem c_int {i : Int} (h : Θ (IsI i)) : CalOk S qInt1 [.is (IsI i)] Θ := fun R H vs o a Q q => by
  cases a with
  | cons a1 a2 =>
    cases a2
    exact .inl ⟨i, by rw [a1.1], q _ _ R H h inferInstance (Ext.refl o) rfl⟩
theorem c_len_scr {ns : List Int} (h : Θ (IsI ns.length)) : CalOk S (qLen K) [.is (Scr K ns)] Θ := fun R H vs o a Q q => by
  cases a with
  | cons a1 a2 =>
    cases a2
    obtain ⟨⟨a, rfl, l⟩, _⟩ := a1
    exact ⟨_, ns.length, rfl, .inl ⟨_, o.sub.seq l, by rw [List.length_map]⟩, q _ _ R H h inferInstance (Ext.refl o) rfl⟩
theorem c_len_l {P : Pd} {ps : List Pd} (hp : ∀ R v, P R v → ListP ps R v) (h : Θ (IsI ps.length)) : CalOk S (qLen K) [.is P] Θ := fun R H vs o a Q q => by
  cases a with
  | cons a1 a2 =>
    cases a2
    obtain ⟨l, xs, rfl, e, al⟩ := hp _ _ a1.1
    exact ⟨_, ps.length, rfl, .inl ⟨_, SqL.of (o.sub _ _ e), al.length.symm⟩, q _ _ R H h inferInstance (Ext.refl o) rfl⟩
theorem c_len_b {ps : List Pd} (h : Θ (IsI ps.length)) : CalOk S (qLen K) [.bor ps] Θ := fun R H vs o a Q q => by
  cases a with
  | cons a1 a2 =>
    cases a2
    obtain ⟨l, xs, rfl, e, _, al, _⟩ := a1
    exact ⟨_, ps.length, rfl, .inl ⟨_, SqL.of e, al.length.symm⟩, q _ _ R H h inferInstance (Ext.refl o) rfl⟩
theorem atI_of {α : Type} {xs : List α} {i : Int} {x : α} (h0 : 0 ≤ i) (h : xs[i.toNat]? = some x) : atI xs i = some x := by
  have hl := (List.getElem?_eq_some_iff.mp h).1
  unfold atI ixN
  rw [if_pos h0, if_pos (by omega)]
  exact h
theorem o_ix_scr {ns : List Int} {i n : Int} (h0 : 0 ≤ i) (hn : ns[i.toNat]? = some n) (h : Θ (IsI n)) : OpOk S (rIx K) (Scr K ns) (IsI i) Θ := fun R H x y o ⟨a, ex, l⟩ b Q q =>
  .inl ⟨a, ns.map V.int, i, .int n, ex, b, o.sub.seq l, atI_of h0 (by rw [List.getElem?_map, hn]; rfl), q _ _ R H h inferInstance (Ext.refl o) rfl⟩
/-- an item of a list in the region -/
theorem o_ix_l {ps : List Pd} {i : Int} {p : Pd} (hp : ∀ R v, P R v → ListP ps R v) (mn : ∀ P ∈ ps, Mn P) (h0 : 0 ≤ i) (hn : ps[i.toNat]? = some p) (h : Θ p) : OpOk S (rIx K) P (IsI i) Θ := fun R H x y o a b Q q => by
  obtain ⟨l, xs, e, hl, al⟩ := hp _ _ a
  obtain ⟨v, hv, pv⟩ := All2.get al hn
  exact .inl ⟨l, xs, i, v, e, b, SqL.of (o.sub _ _ hl), atI_of h0 hv, q _ _ R H h (mn p (List.mem_of_getElem? hn)) (Ext.refl o) pv⟩
/-- displays -/
theorem el_lst {ta : TA} (h : EvA S H0 ta env fun ss => ∃ ps : List Pd, ss = ps.map Sl.is ∧ ps.length ≤ sizeLine ∧ ΘL ps) : EvL S H0 (tLst ta) env ΘL := fun σ R H t o Q q =>
  h σ R H t o _ fun ss vs R1 H1 ⟨ps, es, hz, h1⟩ e1 a => by
    subst es
    have l := a.length
    rw [List.length_map] at l
    obtain ⟨al, m⟩ := a.all
    exact ⟨by rw [l]; exact hz, fun p hp => q p vs ps R1 _ h1 m (e1.trans o (Ext.out (o.ext e1) hp)) (e1.noneB hp) upd_same ((o.ext e1).none hp) al⟩
theorem ev_tup {ta : TA} (h : EvA S H0 ta env fun ss => ∃ (ps : List Pd) (ds : List PyData), ss = ps.map Sl.is ∧ ps.length ≤ sizeLine ∧ ToDs ps ds ∧ Θ (Is (.tuple ds))) : EvN S H0 (tTup ta) env Θ := fun σ R H t o Q q =>
  h σ R H t o _ fun ss vs R1 H1 ⟨ps, ds, es, hz, td, h1⟩ e1 a => by
    subst es
    have l := a.length
    rw [List.length_map] at l
    obtain ⟨al, m⟩ := a.all
    refine ⟨by rw [l]; exact hz, fun p hp => ?_⟩
    have ex := Ext.new (o.ext e1) (u := .tup vs) hp
    exact q _ _ _ _ h1 inferInstance (e1.trans o ex) (.tup upd_same (DaL.mono ex.grow (td.all al)))
/-- a new list taken into the region at once -/
theorem ev_l (h : EvL S H0 te env fun ps => ∃ P, Mn P ∧ (∀ R v, ListP ps R v → P R v) ∧ Θ P) : EvN S H0 te env Θ := fun σ R H t o Q q =>
  h σ R H t o _ fun p xs ps R1 H1 ⟨P, mp, hP, h1⟩ m e1 hp hl hr ha => by
    have g : Same R1 (upd R1 p (.lst xs)) := fun b u hb => by rw [upd_ne (ne_of_none hb hr)]; exact hb
    have e2 : Ext S R H (upd R1 p (.lst xs)) H1 := ⟨e1.keep, e1.grow.trans g, fun b u hb => by
      by_cases z : b = p
      · rw [z, upd_same] at hb
        cases hb
        rw [z]
        exact hl
      · rw [upd_ne z] at hb
        exact e1.sub _ _ hb, fun b u h0 n0 => by rw [upd_ne (ne_of_none h0 hp)]; exact e1.old b u h0 n0, e1.feed⟩
    exact q P _ _ H1 h1 mp e2 (hP _ _ ⟨p, xs, rfl, upd_same, AllP.mono g m ha⟩)
theorem ev_lD (h : EvL S H0 te env fun ps => ∃ ds, ToDs ps ds ∧ Θ (Is (.list ds))) : EvN S H0 te env Θ := ev_l fun σ R H t o Q q => h σ R H t o Q fun p xs ps R' H' ⟨ds, td, h1⟩ => q p xs ps R' H' ⟨_, inferInstance, listP_is td, h1⟩
end
end Ru
namespace Ru
open PySem L2

/-! ### the feed of draws -/
/-- any number below m -/
def S_take : (Addr → Prop) → List Sl → (Pd → Prop) → Prop := fun S ss Θ => ∃ (f : Addr) (m : Int), ss = [.is (IsV (.ref f)), .is (IsI m)] ∧ S f ∧ 0 < m ∧ m < 1073741824 ∧ ∀ r : Int, 0 ≤ r → r < m → Θ (IsI r)
theorem Ext.feedSet {S : Addr → Prop} {R H : Hp} (o : Ok S R H) {f : Addr} (hf : S f) {d s : Int} (hd : 0 ≤ d) (hs : 0 ≤ s) : Ext S R H R (upd H f (.lst [.int d, .int s])) where
  keep := fun b u ns h => by rw [upd_ne (fun z : b = f => ns (by rw [z]; exact hf))]; exact h
  grow := Same.refl R
  sub := fun b u h => by
    have ne : b ≠ f := fun z => by
      rw [z, (o.off f hf).1] at h
      cases h
    rw [upd_ne ne]
    exact o.sub _ _ h
  old := fun b u _ n => n
  feed := fun g hg => by
    by_cases e : g = f
    · rw [e]
      exact ⟨d, s, upd_same, hd, hs⟩
    · obtain ⟨d', s', q, z⟩ := (o.off g hg).2
      exact ⟨d', s', by rw [upd_ne e]; exact q, z⟩
def t_take (K : PySem.W.Frag) : TS :=
(tSeq (tIfS (tTest (tOp (qGt) (tOp (rIx K) (tVar 0) (tC (.int 0))) (tC (.int 0)))) (tSeq (tAsg (tOp (qMod) (tCB (qInt1) (tCons (tOp (rIx K) (tVar 0) (tC (.int 0))) tNil)) (tVar 1)) (gName 2))
  (tSeq (tAsg (tOp (qDiv) (tOp (rIx K) (tVar 0) (tC (.int 0))) (tVar 1)) (gSub (tVar 0) (tC (.int 0)) rSetL))
  (tRet (tVar 2)))) tNext)
  (tSeq (tAsg (tOp (qMod) (tCB (qInt1) (tCons (tOp (qAdd K) (tOp (qMul) (tOp (rIx K) (tVar 0) (tC (.int 1))) (tC (.int 6364136223846793005))) (tC (.int 1442695040888963407))) tNil)) (tC (.int 2305843009213693951))) (gSub (tVar 0) (tC (.int 1)) rSetL))
  (tRet (tOp (qMod) (tCB (qInt1) (tCons (tOp (qDiv) (tOp (rIx K) (tVar 0) (tC (.int 1))) (tC (.int 65536))) tNil)) (tVar 1)))))
theorem rd_take {K : PySem.W.Frag} {vs : List V} {H : Hp} {Q : VK} {E : XK} {x y z : Str} (h : pr S_take vs H Q E) : t_take K { nx := fun _ H' => Q .non H', rt := Q } (L2.start [x, y, z] vs) H := by
  obtain ⟨S, R, ss, Θ, o, a, ⟨f, m, es, hf, hm, hm2, hr⟩, k⟩ := h
  subst es
  cases a with
  | cons a1 a2 =>
    cases a2 with
    | cons a2 a3 =>
      cases a3
      obtain ⟨rfl, _⟩ := a1
      obtain ⟨rfl, _⟩ := a2
      obtain ⟨d, s, hH, hd, hs⟩ := (o.off f hf).2
      refine ⟨_, rfl, .inl ⟨f, _, 0, _, rfl, rfl, SqL.of hH, rfl, d, 0, rfl, rfl, _, rfl, ?_⟩⟩
      show (if decide (0 < d) = true then _ else _)
      by_cases hp : 0 < d
      · rw [if_pos (decide_eq_true hp)]
        refine ⟨_, rfl, .inl ⟨f, _, 0, _, rfl, rfl, SqL.of hH, rfl, .inl ⟨d, rfl, ?_⟩⟩⟩
        refine ⟨.int m, rfl, d, m, rfl, rfl, hm, ?_⟩
        refine ⟨_, rfl, .inl ⟨f, _, 0, _, rfl, rfl, SqL.of hH, rfl, ?_⟩⟩
        refine ⟨.int m, rfl, d, m, rfl, rfl, ⟨hm, hm2⟩, ?_⟩
        refine ⟨_, rfl, f, _, 0, 0, rfl, rfl, hH, rfl, ?_⟩
        refine ⟨_, rfl, ?_⟩
        exact k (IsI (d % m)) _ R _ (hr _ (Int.emod_nonneg _ (by omega)) (Int.emod_lt_of_pos _ hm)) inferInstance (Ext.feedSet o hf (Int.ediv_nonneg hd (by omega)) hs) rfl
      · rw [if_neg (by rw [decide_eq_false hp]; exact Bool.false_ne_true)]
        refine ⟨_, rfl, .inl ⟨f, _, 1, _, rfl, rfl, SqL.of hH, rfl, ?_⟩⟩
        refine .inl ⟨s, _, rfl, rfl, .inr ⟨by omega, by omega⟩, .inl ⟨_, _, rfl, rfl, .inl ⟨_, rfl, _, _, rfl, rfl, by omega, ?_⟩⟩⟩
        refine ⟨_, rfl, f, _, 1, 1, rfl, rfl, hH, rfl, ?_⟩
        have nn : 0 ≤ (s * 6364136223846793005 + 1442695040888963407) % 2305843009213693951 := Int.emod_nonneg _ (by omega)
        refine ⟨_, rfl, .inl ⟨f, _, 1, _, rfl, rfl, SqL.of upd_same, rfl, ?_⟩⟩
        refine ⟨_, _, rfl, rfl, ⟨by omega, by omega⟩, .inl ⟨_, rfl, .int m, rfl, _, m, rfl, rfl, hm, ?_⟩⟩
        exact k (IsI _) _ R _ (hr _ (Int.emod_nonneg _ (by omega)) (Int.emod_lt_of_pos _ hm)) inferInstance (Ext.feedSet o hf hd nn) rfl
/-- an item of a list, drawn -/
def S_pick : (Addr → Prop) → List Sl → (Pd → Prop) → Prop := fun S ss Θ => ∃ (f : Addr) (P : Pd) (ps : List Pd), ss = [.is (IsV (.ref f)), .is P] ∧ S f ∧ (∀ R v, P R v → ListP ps R v) ∧ (∀ P ∈ ps, Mn P) ∧ ps ≠ [] ∧ ps.length < 1073741824 ∧ ∀ p ∈ ps, Θ p
def t_pick (K : PySem.W.Frag) : TS := (tRet (tOp (rIx K) (tVar 1) (tCall (pr S_take) [] E0 (tCons (tVar 0) (tCons (tCB (qLen K) (tCons (tVar 1) tNil)) tNil)))))
theorem rd_pick {K : PySem.W.Frag} {S : Addr → Prop} {R H : Hp} {ss : List Sl} {Θ : Pd → Prop} (h : S_pick S ss Θ) : Blk S R H (t_pick K) ss Θ (fun _ => Θ (Is .none)) (fun _ => False) (fun _ => False) := by
  obtain ⟨f, P, ps, rfl, hf, hp, mn, ne, hl, k⟩ := h
  refine b_ret (ev_op (ev_var rfl (ev_call (ea_cons (ev_var rfl (ea_cons (ev_cb (ea_cons (ev_var rfl (ea_nil (c_len_l hp (ea_nil ?_))))))))))))
  have hz : 0 < ps.length := List.length_pos_iff.mpr ne
  refine ⟨f, _, rfl, hf, by omega, by omega, fun r h0 h1 => ?_⟩
  have hi : r.toNat < ps.length := by omega
  exact o_ix_l hp mn h0 (List.getElem?_eq_getElem hi) (k _ (List.getElem_mem hi))

/-! ### a new feed -/
/-- a new list of two numbers -/
def spFeed (K : PySem.W.Frag) : Sp := fun vs H Q _ => ∃ (ns : List Int) (k : Int) (R : Hp), ∃ a, vs = [.ref a, .int k] ∧ SqL K H a (ns.map V.int) ∧ 0 ≤ k ∧ k < 1000000 ∧ ∀ (f : Addr) (d s : Int), H f = none → 0 ≤ d → 0 ≤ s → Q (.ref f) (upd H f (.lst [.int d, .int s]))
def t_feed (K : PySem.W.Frag) : TS :=
(tSeq (tAsg (tIf (tTest (tOp (qLt) (tVar 1) (tCB (qLen K) (tCons (tVar 0) tNil)))) (tOp (rIx K) (tVar 0) (tVar 1)) (tOp (qAdd K) (tOp (qMul) (tC (.int 61)) (tVar 1)) (tC (.int 17)))) (gName 2))
  (tSeq (tAsg (tCB (qMax2) (tCons (tC (.int 0)) (tCons (tOp (qSub) (tCB (qAbs) (tCons (tVar 2) tNil)) (tOp (qPow) (tC (.int 10)) (tC (.int 18)))) tNil))) (gName 3))
  (tSeq (tAsg (tOp (qMod) (tCB (qInt1) (tCons (tOp (qAdd K) (tOp (qAdd K) (tOp (qMul) (tVar 2) (tC (.int 6364136223846793005))) (tOp (qMul) (tC (.int 7919)) (tVar 1))) (tC (.int 1442695040888963407))) tNil)) (tC (.int 2305843009213693951))) (gName 4))
  (tRet (tLst (tCons (tVar 3) (tCons (tVar 4) tNil)))))))
theorem rd_feed {K : PySem.W.Frag} {vs : List V} {H : Hp} {Q : VK} {E : XK} {x1 x2 x3 x4 x5 : Str} (h : spFeed K vs H Q E) : t_feed K { nx := fun _ H' => Q .non H', rt := Q } (L2.start [x1, x2, x3, x4, x5] vs) H := by
  obtain ⟨ns, k, R, a, rfl, hs, h0, h1, q⟩ := h
  have rest : ∀ c : Int, (tSeq (tAsg (tCB (qMax2) (tCons (tC (.int 0)) (tCons (tOp (qSub) (tCB (qAbs) (tCons (tVar 2) tNil)) (tOp (qPow) (tC (.int 10)) (tC (.int 18)))) tNil))) (gName 3))
  (tSeq (tAsg (tOp (qMod) (tCB (qInt1) (tCons (tOp (qAdd K) (tOp (qAdd K) (tOp (qMul) (tVar 2) (tC (.int 6364136223846793005))) (tOp (qMul) (tC (.int 7919)) (tVar 1))) (tC (.int 1442695040888963407))) tNil)) (tC (.int 2305843009213693951))) (gName 4))
  (tRet (tLst (tCons (tVar 3) (tCons (tVar 4) tNil)))))) { nx := fun _ H' => Q .non H', rt := Q } [some (.ref a), some (.int k), some (.int c), none, none] H := fun c => by
    refine ⟨_, rfl, c, rfl, _, _, rfl, rfl, ⟨by omega, by omega, by decide⟩, _, _, rfl, rfl, 0, _, rfl, ?_⟩
    refine ⟨_, rfl, .inl ⟨c, _, rfl, rfl, .inr ⟨by omega, by omega⟩, _, rfl, .inl ⟨_, k, rfl, rfl, .inr ⟨by omega, by omega⟩, .inl ⟨_, _, rfl, rfl, .inl ⟨_, _, rfl, rfl, .inl ⟨_, rfl, _, _, rfl, rfl, by omega, ?_⟩⟩⟩⟩⟩⟩
    refine ⟨_, rfl, _, rfl, (by show 2 ≤ sizeLine; decide), fun p hp => q p _ _ hp ?_ (Int.emod_nonneg _ (by omega))⟩
    split <;> omega
  refine ⟨_, rfl, _, rfl, _, (ns.map V.int).length, rfl, .inl ⟨_, hs, rfl⟩, k, _, rfl, rfl, _, rfl, ?_⟩
  rw [List.length_map]
  show (if decide (k < (ns.length : Int)) = true then _ else _)
  by_cases hk : k < (ns.length : Int)
  · rw [if_pos (decide_eq_true hk)]
    have hi : k.toNat < ns.length := by omega
    exact ⟨_, rfl, _, rfl, .inl ⟨a, _, k, .int ns[k.toNat], rfl, rfl, hs, atI_of h0 (by rw [List.getElem?_map, List.getElem?_eq_getElem hi]; rfl), rest _⟩⟩
  · rw [if_neg (by rw [decide_eq_false hk]; exact Bool.false_ne_true)]
    exact ⟨_, rfl, .inl ⟨_, k, rfl, rfl, .inl ⟨by omega, by omega⟩, .inl ⟨_, _, rfl, rfl, rest _⟩⟩⟩
end Ru
namespace Ru
open PySem L2 PyProof.Rows
/-- a def's promise where nothing's text is being made: what repr asks -/
structure FnG (P : Program) (w : World) (K : PySem.W.Frag) (mg : Str → Option Value) (base : Heap) (CX : CXT)
    (k : Nat) (f : Addr) (fd : FuncData) (ps : List Str) (sp : Sp) : Prop where
  len : ∀ vs H Q E, sp vs H Q E → vs.length = ps.length
  run : ∀ (A : Around) (o : List PySem.Env) (s : Shared) (H : Hp) (ar : Args) (us : List Value) (vs : List V) (Q : VK) (E : XK),
    A.guards = some [] → Room k A → Env0 P w K mg base A o s H → BindsTo s fd ar (ps.zip us) → Vals vs us → sp vs H Q E →
    codeAny (model P w) A (.call (.ref f) ar) (CR CX o P w H s Q E) s
section
variable {P : Program} {w : World} {K : PySem.W.Frag} {mg : Str → Option Value} {base : Heap} {CX : CXT}
  {k : Nat} {f : Addr} {fd : FuncData} {N ps : List Str} {sp : Sp}
theorem FnG.of {x q : Str} {pa : Arguments} {bd : List Stmt} {sc : Scope} {kw : List (Str × V)}
    (F : FunD K x q pa bd sc [] kw f fd) (S : FnScope N ps sc) (ln : ∀ vs H Q E, sp vs H Q E → vs.length = ps.length)
    (B : ∀ (cd : Value) (A : Around) (o : List PySem.Env) (s : Shared) (H : Hp) (vs : List V) (Q : VK) (E : XK), A.guards = some [] →
      Room k (A.deeper (envOfC q sc s.heap.objs.size f cd)) → sp vs H Q E →
      ∃ t, PSs (cxOf CX P w K mg base N q sc f cd A o s H E) bd t ∧ t { nx := fun _ H' => Q .non H', rt := Q } (L2.start N vs) H) :
    FnG P w K mg base CX (k + 1) f fd ps sp := by
  obtain ⟨oc, od, dV, kV, doc, pm, an, cd, ct, sl, rfl, lk, hc, -, -⟩ := F.ex
  constructor
  · exact ln
  intro A o s H ar us vs Q E hg rm en bi va pr
  have vl := ln vs H Q E pr
  have up : ∀ b u, base.get? b = some u → s.heap.get? b = some u := fun b u z => (en.bs b u z).1
  have KX := en.mod.kin.keeps up
  have nl := en.mod.nolimit.keeps up
  have pk : ∀ y ∈ ps.zip us, sc.names.lookup y.1 = some .local ∨
      (sc.names.lookup y.1 = some .cell ∧ ((cellsFrom (s.heap.objs.size + 1) sc.names []).lookup y.1).isSome = true) := by
    rintro ⟨n, v⟩ hy
    cases S.par n (List.of_mem_zip hy).1 with
    | inl z => exact Or.inl z
    | inr z => exact Or.inr ⟨z, PySem.W.cellsFrom_some _ _ _ (Or.inl z)⟩
  apply codeAny_call_function rm.depth (KX _ _ lk) rfl S.co S.gen rfl (PySem.W.codeRec_of KX hc)
  apply bi
  apply wpAny_newFunctionEnv_cells S.kind pk
  rintro env rfl s1 ic
  refine ⟨nl.keeps ic.toInCall.keep, codeAny_func ?_⟩
  obtain ⟨t, ht, hq⟩ := B cd A o s H vs Q E hg (rm.deeper _) pr
  have I := inv_start (CX := CX) (P := P) (w := w) (K := K) (mg := mg) (base := base) (N := N) (qual := q) (E := E) S rm.hd en vl va ic
  refine wpAny_mono (ht.run [] s1 (L2.start N vs) H _ I hq) ?_ (fun _ _ z => z)
  intro fl s' hs
  match fl, hs with
  | .ret u, ⟨v, σ', H', J, rv, qv⟩ => exact ⟨v, H', J.os, J.bare, J.base, J.hok, rv, qv⟩
  | .next, ⟨σ', H', J, qv⟩ => exact ⟨.non, H', J.os, J.bare, J.base, J.hok, rfl, qv⟩
  | .brk, ⟨_, _, _, z⟩ => exact z.elim
  | .cont, ⟨_, _, _, z⟩ => exact z.elim
/-- the call of such a def -/
theorem pe_callG {X : Cx} {x : Str} {p pos : Pos} {e : Expr} {es : List Expr} {t : TA} (gd : X.A.guards = some [])
    (F : FnG X.prog X.w X.K X.mg X.base CX k f fd ps sp) (hr : Room k X.A) (hg : Gl X x) (hm : X.mg x = some (.ref f))
    (hk : PySem.W.keepIn X.K (.ref f) = true) (hb : Binds X.K fd ps []) (hx : Passes CX X E0) (ha : PA X (e :: es) t)
    (h1 : (x == ("__debug__" : Str)) = false := by decide) (h2 : starEach (e :: es) X.env = (false, eval e X.env) :: starEach es X.env := by rfl)
    (h3 : (backTo pos (starEach es X.env)).any (·.1) = false := by rfl) : PE X (.Call (.Name x p) (e :: es) [] pos) (tCall sp [] E0 t) := by
  constructor
  intro pins s σ H Q I h
  apply wpAny_Call_Name_kw (ld_glob I hg hm ?_ h1)
  apply PySem.W.callWith_K (h₀ := X.base) I.ok.mod.kin hk (thn (ha.run pos pins s σ H _ I h) ?_) h2 h3
  rintro us s1 ⟨vs, H1, I1, r, q⟩
  refine ⟨I1.kIn, ?_⟩
  rw [List.append_nil] at q
  have hl : us.length = ps.length := by rw [← r.length]; exact F.len _ _ _ _ q
  have bt := hb s1 us I1.kIn (by rw [List.append_nil]; exact hl)
  rw [List.append_nil] at bt
  refine wpAny_call (codeAny_mono (F.run X.A X.stack s1 H1 ⟨us, []⟩ us vs Q E0 gd hr I1.env0 bt r q) ?_)
  intro r' s' hq
  match r', hq with
  | .error er, z => exact hx pins σ H1 s1 er s' I1 z
  | .ok (.ret u), z => exact I1.after z
  | .ok .next, z => exact z.elim
  | .ok .brk, z => exact z.elim
  | .ok .cont, z => exact z.elim
end
/-- nothing but the script, locked, is tracked -/
def scrH (a : Addr) (o : Obj) (ns : List Int) : Hp := fun b => if b = a then some (.frz o (.lst (ns.map V.int))) else none
/-- a law's run from its promise -/
theorem law_runG {P : Program} {w : World} {K : PySem.W.Frag} {mg mb : Str → Option Value} {k : Nat} {fa a : Addr} {fd : FuncData}
    {x : Str} {sp : Sp} {s : Shared} {vs : List Value} {ns : List Int} (KX : K.In s.heap) (n1 : s.heap.Ns mainGlobals mg) (n2 : s.heap.Ns builtinsNs mb)
    (n3 : ∀ x : Str, x ≠ "__name__" → mb x = bootBuiltins x) (n4 : s.heap.NoLimit) (n5 : s.gens = #[])
    (ha : s.heap.get? a = some { cls := .type "list", data := .seq vs.toArray }) (hi : IntsAre vs ns) (hl : ns.length ≤ sizeLine) (hr : Room k callerA)
    (F : ∀ base : Heap, K.In base → base.Ns mainGlobals mg → FnG P w K mg base CX0 k fa fd [x] sp)
    (hbind : ∀ (s : Shared) (u : Value), BindsTo s fd ⟨[u], []⟩ [(x, u)])
    (hsp : ∀ H : Hp, SqL K H a (ns.map V.int) → sp [.ref a] H (fun v _ => v = .bl true) fun _ _ _ => False) :
    codeAny (model P w) callerA (.call (.ref fa) ⟨[.ref a], []⟩) (fun r s' => r = .ok (.ret (.bool true)) ∧ OldK s.heap s'.heap ∧ s'.os = s.os ∧ AllBare s'.gens) s := by
  have rv := vals_ints hi
  have lv := hi.length
  have go : ∀ H : Hp, (∀ b, b ≠ a → H b = none) → (∀ u, H a = some u → ∃ o, u = .frz o (.lst (ns.map V.int)) ∧ K.lookup a = none) → SqL K H a (ns.map V.int) → HOk P w H s.heap →
      codeAny (model P w) callerA (.call (.ref fa) ⟨[.ref a], []⟩) (fun r s' => r = .ok (.ret (.bool true)) ∧ OldK s.heap s'.heap ∧ s'.os = s.os ∧ AllBare s'.gens) s := by
    intro H hO hA hS ok
    have keepNs : ∀ {b : Addr} {m : Str → Option Value}, s.heap.Ns b m → (hidT s.heap H).Ns b m := by
      rintro b m ⟨o, es, ep, z, d, r⟩
      refine ⟨o, es, ep, hidT_get z (hO b ?_), d, r⟩
      rintro rfl
      rw [ha] at z
      cases z
      exact Data.noConfusion d
    have inK : K.In (hidT s.heap H) := by
      intro b o z
      apply hidT_get (KX b o z)
      by_cases e : b = a
      · subst e
        cases y : H b with
        | none => rfl
        | some u =>
          obtain ⟨_, _, n⟩ := hA u y
          rw [n] at z
          cases z
      · exact hO b e
    have md : Mod K mg (hidT s.heap H) := ⟨inK, keepNs n1, ⟨mb, keepNs n2, n3⟩, by obtain ⟨c, y1, y2⟩ := n4; exact ⟨c, keepNs y1, y2⟩⟩
    have en : Env0 P w K mg (hidT s.heap H) callerA [] s H :=
      ⟨rfl, md, fun b o z => of_hidT z, Nat.le_of_eq (hidT_size _ _), trivial, fun b z => (List.not_mem_nil (a := b) z).elim, ok, .of_eq n5⟩
    refine codeAny_mono ((F _ inK (keepNs n1)).run callerA [] s H ⟨[.ref a], []⟩ [.ref a] [.ref a] _ _ rfl hr en (hbind s (.ref a)) (.cons rfl .nil) (hsp H hS)) ?_
    intro r s' z
    match r, z with
    | .error e, z => exact z.elim
    | .ok .next, z => exact z.elim
    | .ok .brk, z => exact z.elim
    | .ok .cont, z => exact z.elim
    | .ok (.ret u), ⟨v, H', os, ba, un, ok', r', q⟩ =>
      have q' : v = .bl true := q
      subst q'
      have eu : u = Value.bool true := r'
      subst eu
      refine ⟨rfl, OldK.of_keep ?_, os, ba⟩
      intro b o e
      cases y : H b with
      | none => exact un.keep b o e y (fun z => List.not_mem_nil (a := b) z) (fun z => List.not_mem_nil (a := b) z)
      | some u =>
        by_cases eb : b = a
        · subst eb
          obtain ⟨ob, rfl, _⟩ := hA u y
          have y2 := un.frzs b ob _ y
          have g1 := (ok b _ y).1
          have g2 := (ok' b _ y2).1
          rw [e] at g1
          cases g1
          exact g2
        · rw [hO b eb] at y
          cases y
  cases hk : K.lookup a with
  | some o =>
    have e := KX a o hk
    rw [ha] at e
    cases e
    exact go (fun _ => none) (fun _ _ => rfl) (fun u z => (nomatch (show (none : Option HO) = some u from z))) (Or.inr ⟨_, vs.toArray, _, hk, rfl, rfl, rfl, by rw [List.size_toArray, lv]; exact hl, by simpa using rv⟩) (fun b u z => (nomatch (show (none : Option HO) = some u from z)))
  | none =>
    have at_ : scrH a { cls := .type "list", data := .seq vs.toArray } ns a = some (.frz { cls := .type "list", data := .seq vs.toArray } (.lst (ns.map V.int))) := if_pos rfl
    refine go (scrH a { cls := .type "list", data := .seq vs.toArray } ns) (fun b e => if_neg e) (fun u z => ?_) (Or.inl (Or.inr ⟨_, at_⟩)) (fun b u z => ?_)
    · rw [at_] at z
      cases z
      exact ⟨_, rfl, hk⟩
    · by_cases e : b = a
      · subst e
        rw [at_] at z
        cases z
        exact ⟨ha, by rw [List.length_map]; exact hl, vs, _, rv, ha⟩
      · have y : scrH a { cls := .type "list", data := .seq vs.toArray } ns b = none := if_neg e
        rw [y] at z
        cases z
theorem walk_G {l : PySem.W.OpenLaw} {n k : Nat} {q : Program} {loose : List Str} {XP : (Str → Option Value) → Heap → Prop} {YP : World → Heap → Prop} {d : DefRec} {x : Str}
    (hn : l.most = some n) (hn2 : n ≤ sizeLine) (hdf : d.params.defaults = []) (hr : Room k callerA)
    (F : ∀ (w : World) (mg : Str → Option Value) (fa : Addr) (h : Heap), YP w h → h.Ns mainGlobals mg → mg d.name = some (.ref fa) →
      ∃ (K : PySem.W.Frag) (fd : FuncData) (sp : Sp), K.In h ∧ (∀ (s : Shared) (u : Value), BindsTo s fd ⟨[u], []⟩ [(x, u)]) ∧
        (∀ (H : Hp) (a : Addr) (ns : List Int), ns.length ≤ n → SqL K H a (ns.map V.int) → sp [.ref a] H (fun v _ => v = .bl true) fun _ _ _ => False) ∧
        ∀ base : Heap, K.In base → base.Ns mainGlobals mg → FnG l.prog w K mg base CX0 k fa fd [x] sp) :
    PySem.W.WalkO q loose XP YP l.row.toRowW d [] (fun f vs => PySem.call f vs) := by
  apply Att.attach_call hn hdf
  intro w s₀ s mg mb fa o pm cd doc a vs ns G Y ho hd hcd hmg hobj hints hlen hg
  obtain ⟨K, fd, sp, KX, hb, hs, hF⟩ := F w mg fa _ Y G.T.g hmg
  exact law_runG KX G.T.g G.T.b G.T.builtins G.T.nolimit hg hobj hints (Nat.le_trans hlen hn2) hr hF hb fun H hS => hs H a ns hlen hS
end Ru
/-! an own exception class called with keywords as well: its making is told for any keywords -/
namespace PySem.OEX
open PySem.W PySem.Calls PyProof.Rows PySem.HandSPX
section
variable {M : Model} {prog : Program} {w : World} {A : Around} {E : Value → Shared → Prop} {R : Result → Shared → Prop}
  {hp : Heap} {gs : Array GenState} {dr : Drawn} {tk : Nat} {os : OsState} {n1 n2 : Str} {C N : Addr} {b1 b2 b3 : List Value}
  {hd : Bool} {sn : List Str} {su : List Value} {ab : Bool} {co : Option Bool} {dd : Option Addr} {k0 k1 k2 k3 k5 : Option Value}
  {B nw ini : String} {us : List Value} {kw : List (Str × Value)}
abbrev ClsAt (hp : Heap) (n1 n2 : Str) (C N : Addr) (b1 b2 : List Value) (hd : Bool) (sn : List Str) (su : List Value) (ab : Bool) (co : Option Bool)
    (dd : Option Addr) (k0 k1 k2 k3 k5 : Option Value) (nw : String) : Prop :=
  hp.get? C = some (excClassObj n1 n2 C N b1 b2 hd sn su ab co dd k0 k1 k2 k3 k5 nw)
abbrev Alike (b2 b3 : List Value) : Prop := ∀ T : String, b2.contains (.type T) = b3.contains (.type T)
theorem kw_check (F : ExcBaseFacts B nw ini b3) (al : Alike b2 b3) (hC : ClsAt hp n1 n2 C N b1 b2 hd sn su ab co dd k0 k1 k2 k3 k5 nw)
    {Q : Unit → Shared → Prop} (q : Q () ⟨hp, gs, dr, tk, os⟩) :
    wpAny M A (checkBuiltinCall nw ⟨.ref C :: us, kw⟩) Q E ⟨hp, gs, dr, tk, os⟩ := by
  have inB : (Value.ref C :: b2).contains (.type B) = true := by
    rw [List.contains_cons, al, F.hasB, Bool.or_true]
  have _ns := F.noStar
  simp only [checkBuiltinCall, F.newKind, F.newSplit, F.newRow]
  repeat (first
    | refine wpAny_loadPart_at hC ?_
    | (refine wpAny_isSubtype_exc hC ?_; rw [inB])
    | refine wpAny_staticBase_exc hC ?_
    | refine wpAny_madeBy_exc hC ?_
    | simp only [bne_self_eq_false, Bool.false_eq_true, if_false]
    | wp_step)
  exact q
theorem kw_new (F : ExcBaseFacts B nw ini b3) (al : Alike b2 b3) (hC : ClsAt hp n1 n2 C N b1 b2 hd sn su ab co dd k0 k1 k2 k3 k5 nw)
    (len : us.length ≤ sizeLine)
    (q : R (.ok (.ret (.ref (hp.objs.size + 1)))) ⟨(hp.push (kdv_tup us)).push (excO C hp.objs.size), gs, dr, tk, os⟩) :
    codeAny (model prog w) A (.builtin nw ⟨.ref C :: us, kw⟩) R ⟨hp, gs, dr, tk, os⟩ := by
  have _en := F.ends
  have cB : (Value.ref C :: b2).contains (.type B) = true := by
    rw [List.contains_cons, al, F.hasB, Bool.or_true]
  have cA : (Value.ref C :: b2).contains (.type "AttributeError") = false := by
    rw [List.contains_cons, al, F.noAttr]; rfl
  have cN : (Value.ref C :: b2).contains (.type "NameError") = false := by
    rw [List.contains_cons, al, F.noName]; rfl
  refine codeAny_builtinAt F.entry ?_
  unfold Builtin.«BaseException.__new__»
  apply wpAt_bind
  show wpAt _ _ _ (stack >>= _) _ _ _
  refine wpAt_bind (wpAt_stack fun _ _ => wpAt_of_wpAny ?_)
  wp_walk
  apply wpAt_of_wpAny
  rw [F.owner]
  repeat (first
    | with_reducible refine wpAny_madeHere_exc F.canon hC ?_
    | with_reducible refine wpAny_loadPart_at hC ?_
    | (with_reducible refine wpAny_isSubtype_exc hC ?_; first | rw [cB] | rw [cA] | rw [cN])
    | wp_step)
  show R _ _
  rw [Heap.size_push]
  exact q
theorem kw_type (F : ExcBaseFacts B nw ini b3) (al : Alike b2 b3) (hC : ClsAt hp n1 n2 C N b1 b2 hd sn su ab co dd k0 k1 k2 k3 k5 nw)
    (len : us.length ≤ sizeLine) {fI : Addr} {Q : Fin → Shared → Prop} (li : W.Looks (model prog w) hp (typeLookup (.ref C) "__init__") (some (.ref fI)))
    (lb : ∀ x, W.Looks (model prog w) hp (bindSpecial (.ref fI) x) (.ref fI, [x]))
    (q : codeAny (model prog w) A (.call (.ref fI) ⟨.ref (hp.objs.size + 1) :: us, kw⟩)
      (fun r s' => match r with
        | .ok (.ret v) => v = .none ∧ Q (.done (.ret (.ref (hp.objs.size + 1)))) s'
        | .ok _ => False
        | .error e => E e s') ⟨(hp.push (kdv_tup us)).push (excO C hp.objs.size), gs, dr, tk, os⟩) :
    wpAny (model prog w) A (Builtin.«type.__call__» ⟨.ref C :: us, kw⟩) Q E ⟨hp, gs, dr, tk, os⟩ := by
  repeat (first
    | with_reducible refine wpAny_loadPart_at hC ?_
    | with_reducible refine wpAny_madeBy_exc hC ?_
    | wp_step)
  refine codeAny_call_builtin_code (Code.quiet_builtin _ F.quiet) (kw_check F al hC (kw_new F al hC len ?_))
  show wpAny _ _ _ _ _ _
  have up : ∀ b u, hp.get? b = some u → ((hp.push (kdv_tup us)).push (excO C hp.objs.size)).get? b = some u :=
    fun _ _ z => Heap.get?_push_of_some _ (Heap.get?_push_of_some _ z)
  have hC2 := up _ _ hC
  have hx : ((hp.push (kdv_tup us)).push (excO C hp.objs.size)).get? (hp.objs.size + 1) = some (excO C hp.objs.size) := by heap_get
  have cC : (Value.ref C :: b2).contains (.ref C) = true := by simp
  have l1 := li.keeps up
  have l2 := (lb (.ref (hp.objs.size + 1))).keeps up
  unfold isInstance
  repeat (first
    | with_reducible refine wpAny_loadPart_at hx ?_
    | (with_reducible refine wpAny_isSubtype_exc hC2 ?_; rw [cC])
    | wp_step)
  show wpAny _ _ (typeLookup (.ref C) _) _ _ _
  apply l1.at
  apply wpAny_holding
  apply wpAny_bind
  apply l2.at
  apply wpAny_bind
  apply wpAny_call
  refine codeAny_mono q ?_
  rintro (e | (v | _ | _ | _)) s' z
  · exact z
  · exact z.elim
  · exact z.elim
  · exact z.elim
  · obtain ⟨rfl, z⟩ := z
    first
      | exact wpAny_pure (wpAny_pure z)
      | (wp_walk; exact z)
theorem call_kw (F : ExcBaseFacts B nw ini b3) (al : Alike b2 b3) (hC : ClsAt hp n1 n2 C N b1 b2 hd sn su ab co dd k0 k1 k2 k3 k5 nw)
    (len : us.length ≤ sizeLine) {fI : Addr} (li : W.Looks (model prog w) hp (typeLookup (.ref C) "__init__") (some (.ref fI)))
    (lb : ∀ x, W.Looks (model prog w) hp (bindSpecial (.ref fI) x) (.ref fI, [x]))
    (q : codeAny (model prog w) (A.under (.builtin "type.__call__" ⟨.ref C :: us, kw⟩)) (.call (.ref fI) ⟨.ref (hp.objs.size + 1) :: us, kw⟩)
      (W.InitBack (hp.objs.size + 1) R) ⟨(hp.push (kdv_tup us)).push (excO C hp.objs.size), gs, dr, tk, os⟩) :
    codeAny (model prog w) A (.call (.ref C) ⟨us, kw⟩) R ⟨hp, gs, dr, tk, os⟩ := by
  have _f1 := tc_lookup
  have _f2 := tc_bind (.ref C)
  have _ty : (⟨hp, gs, dr, tk, os⟩ : Shared).TypeIs (.ref C) "type" := ⟨_, hC, rfl⟩
  apply codeAny_of_tree
  show wpAny _ _ (callAny (.ref C) _) _ _ _
  repeat (any_goals (first
    | assumption
    | with_reducible refine wpAny_loadPart_at hC ?_
    | wp_step))
  refine ⟨rfl, codeAny_call_builtin_at (Code.quiet_builtin _ (by decide +kernel)) entry_typeCall (wpAny_check_type_call_sub hC (kw_type F al hC len li lb ?_))⟩
  refine codeAny_mono q ?_
  rintro (e | (v | _ | _ | _)) s' z <;> exact z
end
end PySem.OEX
namespace L2
open PySem PySem.Spec PyProof.Rows
/-- C(e, .., k = v, ..) as a value, C an own exception class with its own __init__ -/
def tXn (C : Addr) (n m : Nat) (gV : List V → List V → List V) (sp : Sp) (ta tk : TA) : TE := fun σ H Q => ta σ H fun vs H1 => tk σ H1 fun zs H2 => vs.length = n ∧ zs.length = m ∧ vs.length ≤ 1000 ∧ ∀ a, H2 a = none → sp (gV (.ref a :: vs) zs) (upd H2 a (exo a C none))
  (fun v H3 => v = .non ∧ Q (.ref a) H3) (fun _ _ _ => False)
section
variable {X : Cx} {o e : Expr} {es : List Expr} {kws : List Keyword} {to te : TE} {ta tk : TA} {p pos : Pos} {CX : CXT} {x : Str} {C fI : Addr} {k n : Nat}
  {fd : FuncData} {ps ks : List Str} {sp : Sp} {g : List Value → List Value → List Value} {gV : List V → List V → List V}
theorem run_xn (T : OexC X.K C) (iC : PySem.W.findIn X.K (.ref C) "__init__" = some (some (.ref fI)))
    (tI : PySem.W.typeIn X.K (.ref fI) = some (.type "function")) (FI : FnOk X.prog X.w X.K X.mg X.base CX k fI fd ps sp)
    (rm : Room (k + 1) X.A) (kb : KBn X.K fd ps (n + 1) ks g gV) (px : Passes CX X (fun _ _ _ => False))
    {pins : List (Addr × Obj)} {σ : St} {H : Hp} {s : Shared} {Q : VK} {us ws : List Value} {vs zs : List V} (I : Inv X pins σ H s)
    (rv : Vals vs us) (rz : Vals zs ws) (nv : vs.length = n) (nz : zs.length = ks.length) (few : vs.length ≤ 1000)
    (want : ∀ a, H a = none → sp (gV (.ref a :: vs) zs) (upd H a (exo a C none)) (fun v H3 => v = .non ∧ Q (.ref a) H3) (fun _ _ _ => False)) :
    wpAny (model X.prog X.w) X.A (call (.ref C) us (ks.zip ws)) (EP X pins σ Q) X.xe s := by
  obtain ⟨_, _, _, _, bm, _, _, _, _, _, _, _, _, _, _, at_, rb⟩ := T.cls
  obtain ⟨hp, gs, dr, tk', os⟩ := s
  -- where the error and its arguments will lie
  let e : Addr := hp.objs.size + 1
  have free : H e = none := I.hok.fresh (Nat.le_succ _)
  have w := want e free
  let h2 : Heap := (hp.push (PySem.W.kdv_tup us)).push (PySem.HandSPX.excO C hp.objs.size)
  have up : ∀ b u, hp.get? b = some u → h2.get? b = some u :=
    fun _ _ z => Heap.get?_push_of_some _ (Heap.get?_push_of_some _ z)
  have there : h2.get? e = some (PySem.HandSPX.excO C hp.objs.size) := by
    show ((hp.push (PySem.W.kdv_tup us)).push (PySem.HandSPX.excO C hp.objs.size)).get? (hp.objs.size + 1) = _
    heap_get
  have J : Inv X pins σ (upd H e (exo e C none)) ⟨h2, gs, dr, tk', os⟩ :=
    I.laid (t' := tk') (a := e) (o := exo e C none) (h' := h2) up (Nat.le_succ _) (exo_ok there)
  have self : Vals (V.ref e :: vs) (Value.ref e :: us) := .cons rfl rv
  have le : (Value.ref e :: us).length = n + 1 := by
    rw [List.length_cons, ← rv.length, nv]
  have small : us.length ≤ sizeLine := by
    rw [← Paired.length rv, sizeLine_eq]
    omega
  refine wpAny_call (PySem.OEX.call_kw F.excBase_ValueError (fun Y => PySem.HandSPX.refsVE_contains Y bm rb)
    (I.kIn _ _ at_) small (PySem.W.looks_findIn I.kIn iC) (fun z => PySem.W.bind_fn I.kIn z tI) ?_)
  refine codeAny_mono (FI.run _ X.stack _ _ ⟨Value.ref e :: us, ks.zip ws⟩ (g (Value.ref e :: us) ws) _ _ (fun _ _ _ => False)
    (rm.make C us (ks.zip ws)) (J.env0.make C us (ks.zip ws)) (kb.to _ (Value.ref e :: us) ws J.kIn le (rz.length.symm.trans nz))
    (kb.rel self rz) w) ?_
  intro r s' z
  match r, z with
  | .error er, z => exact px pins σ _ _ er s' J z
  | .ok .next, z => exact z.elim
  | .ok .brk, z => exact z.elim
  | .ok .cont, z => exact z.elim
  | .ok (.ret u), z =>
    obtain ⟨v, H', L, ru, rfl, q⟩ := J.after z
    exact ⟨ru, ⟨V.ref e, H', L, rfl, q⟩⟩
/-- C(e, ..) -/
theorem pe_xn (T : OexC X.K C) (iC : PySem.W.findIn X.K (.ref C) "__init__" = some (some (.ref fI)))
    (tI : PySem.W.typeIn X.K (.ref fI) = some (.type "function")) (FI : FnOk X.prog X.w X.K X.mg X.base CX k fI fd ps sp)
    (rm : Room (k + 1) X.A) (kb : KBn X.K fd ps (n + 1) [] g gV) (px : Passes CX X (fun _ _ _ => False)) (gl : Gl X x) (gm : X.mg x = some (.ref C))
    (pa : PA X (e :: es) ta) (h1 : (x == ("__debug__" : Str)) = false := by decide)
    (h2 : starEach (e :: es) X.env = (false, eval e X.env) :: starEach es X.env := by rfl)
    (h3 : (backTo pos (starEach es X.env)).any (·.1) = false := by rfl) :
    PE X (.Call (.Name x p) (e :: es) [] pos) (tXn C n 0 gV sp ta tNil) := by
  constructor
  intro pins s σ H Q I h
  apply wpAny_Call_Name_kw (ld_glob I gl gm ?_ h1)
  apply PySem.W.callWith_K (h₀ := X.base) I.ok.mod.kin T.kC (thn (pa.run pos pins s σ H _ I h) ?_) h2 h3
  rintro us s1 ⟨vs, H1, J, rv, nv, _, few, q⟩
  exact ⟨J.kIn, run_xn T iC tI FI rm kb px J rv .nil nv rfl few q⟩
/-- C(k = v, ..) -/
theorem pe_xnK (T : OexC X.K C) (iC : PySem.W.findIn X.K (.ref C) "__init__" = some (some (.ref fI)))
    (tI : PySem.W.typeIn X.K (.ref fI) = some (.type "function")) (FI : FnOk X.prog X.w X.K X.mg X.base CX k fI fd ps sp)
    (rm : Room (k + 1) X.A) (kb : KBn X.K fd ps 1 ks g gV) (px : Passes CX X (fun _ _ _ => False)) (gl : Gl X x) (gm : X.mg x = some (.ref C))
    (pk : PK X kws tk) (h1 : (backToKw pos (keywordEach kws X.env)).all (·.1.isSome) = true := by rfl)
    (h2 : (backToKw pos (keywordEach kws X.env)).filterMap (·.1) = ks := by rfl) (h3 : (x == ("__debug__" : Str)) = false := by decide)
    (h4 : ((backTo pos (starEach [] X.env)).any (·.1) || (backToKw pos (keywordEach kws X.env)).any (·.1.isNone)) = false := by rfl) :
    PE X (.Call (.Name x p) [] kws pos) (tXn C 0 ks.length gV sp tNil tk) := by
  constructor
  intro pins s σ H Q I h
  apply wpAny_Call_Name_kw (ld_glob I gl gm ?_ h3)
  apply PySem.W.callWith_KW0 (h₀ := X.base) I.ok.mod.kin T.kC h1 ?_ h4
  refine thn (pk.run pos pins s σ H _ I h) ?_
  rintro ws s2 ⟨zs, H2, J, rz, nv, nz, few, q⟩
  refine ⟨J.kIn, ?_⟩
  rw [h2]
  exact run_xn (us := []) (vs := []) T iC tI FI rm kb px J .nil rz rfl nz few q
/-- C(), an own exception class without own __init__, as a value -/
def tX0 (C : Addr) : TE := fun _ H Q => ∀ a, H a = none → Q (.ref a) (upd H a (ExO (.ref C) a))
theorem pe_x0 {bmB : List Value} {B newId initId : String} (F : ExcBaseFacts B newId initId bmB) (q : PySem.W.excIn X.K C bmB newId = true) (gC : X.mg x = some (.ref C)) (kC : PySem.W.keepIn X.K (.ref C) = true) (hg : Gl X x)
    (hdb : (x == ("__debug__" : Str)) = false := by decide) : PE X (.Call (.Name x p) [] [] pos) (tX0 C) := by
  refine ⟨fun pins s σ H Q I h => ?_⟩
  refine wpAny_Call_Name_kw (ld_glob I hg gC ?_ hdb)
  refine PySem.W.callWith_K0 I.kIn kC ?_
  obtain ⟨bm, N, nm, qn, bs, hdct, sn, sub, ab, col, dd, k0, k1, k2, k3, k5, mN, hC, hN, hni, T⟩ := exc_obj I.kIn q
  refine wpAny_call_exc_subT F T hC hN hni (fun h' a hm => ?_) (by show 0 ≤ sizeLine; omega)
  have hn : H a = none := I.hok.gone hm.new
  obtain ⟨t, ht, _, _⟩ := hm.there
  exact ⟨.ref a, upd H a (ExO (.ref C) a), I.laidN hm.keeps hm.new hn (exO_ok ht ⟨rfl, rfl⟩ rfl rfl rfl (show 4 < 6 by decide)), rfl, h a hn⟩
/-- ValueError(), as a value -/
def tXb (T : String) : TE := fun _ H Q => ∀ a, H a = none → Q (.ref a) (upd H a (ExO (.type T) a))
theorem pe_xb0 {T N I' : String} (F : ExcB T N I') (hg : Gl X x) (hm : X.mg x = none) (hv : bootBuiltins x = some (.type T)) (hn : x ≠ "__name__" := by decide) (hdb : (x == ("__debug__" : Str)) = false := by decide) :
    PE X (.Call (.Name x p) [] [] pos) (tXb T) := by
  refine ⟨fun pins s σ H Q J h => ?_⟩
  refine wpAny_Call_Name_kw (ld_blt J hg hm hv ?_ hn hdb)
  obtain ⟨hp1, g1, d1, tk1, os1⟩ := s
  refine PyProof.Rows.callWith_type0 (wpAny_call_exc F.call (fun h' a mk => ?_) (Nat.zero_le _))
  have m2 := PySem.Heap.MadeExc.of mk
  have hn : H a = none := J.hok.gone mk.new
  obtain ⟨t, ht, _, _⟩ := m2.there
  exact ⟨.ref a, upd H a (ExO (.type T) a), J.laidN mk.keeps mk.new hn (exO_ok ht ⟨rfl, rfl⟩ rfl rfl rfl (show 4 < 6 by decide)), rfl, h a hn⟩
/-- e.f of such an exception -/
def tXfl (K : PySem.W.Frag) (te : TE) (n : Str) : TE := fun σ H Q => te σ H fun x H1 => ∃ (a C dd : Addr) (fs : List (Str × V)) (v : V), x = .ref a ∧ H1 a = some (exo a C (some dd)) ∧ H1 dd = some (exd dd fs) ∧ XfC K C ∧ PySem.W.findIn K (.ref C) n = some none ∧ fs.lookup n = some v ∧ Q v H1
theorem pe_xfl {n : Str} (he : PE X e te) (hb : attributeBase e n X.env (eval e X.env) = eval e X.env := by rfl) : PE X (.Attribute e n pos) (tXfl X.K te n) := by
  refine ⟨fun pins s σ H Q I h => ?_⟩
  refine attr_of hb (thn (he.run pins s σ H _ I h) fun u s1 hh => ?_)
  obtain ⟨x, H1, I1, rx, a, C, dd, fs, v, ex, ea, ed, T, hno, l, q⟩ := hh
  subst ex
  obtain rfl : u = Value.ref a := rx
  obtain ⟨t1, ha⟩ := exo_at I1.hok ea
  obtain ⟨mA, hns, hr⟩ := exd_at I1.hok ed
  obtain ⟨od, ho, hl⟩ := lookIn_ns hns
  obtain ⟨u, hu, ru⟩ := RelO.some_of (v := v) (o := mA n) (by rw [← l]; exact hr n)
  have J : PySem.W.InstAt s1.heap a ({ cls := .ref C, dict := some dd, data := .fields #[.ref t1, .none, .none, .none, .bool false, .none] } : Obj) C (some od) := ⟨ha, rfl, by unfold PySem.W.notCls; rfl, ho⟩
  exact HandSPX.exc_get I1.kIn J T.ga T.gg T.exC (PySem.W.findObj_own T.hdC hno rfl (by rw [hl, hu])) (handed_of ru) ⟨v, H1, I1.tok _, ru, q⟩
end
end L2
namespace L2
open PySem PySem.Spec PyProof.Rows
/-- what isinstance asks of an own exception class -/
structure XiC (K : PySem.W.Frag) (C : Addr) : Prop where
  cl : (PySem.W.clsIn K C).isSome = true
  ga : PySem.W.findIn K (.ref C) "__getattribute__" = some (some (.builtin "BaseException.__getattribute__"))
  gt : PySem.W.findIn K (.ref C) "__getattr__" = some none
  sub : PySem.W.subIn K (.ref C) (.type "BaseException") = some true
  ha : PySem.W.findIn K (.ref C) "__class__" = some (some (.builtin "object.__class__"))
  hn : PySem.W.specialIn K (.builtin "object.__class__") "__get__" = some (some (.builtin "getset_descriptor.__get__"))
  ht : PySem.W.takesIn K (.builtin "object.__class__") = some true
  hm : PySem.W.mroIn K C (.type "object") = some true
/-- an exception object of the class t (own or built-in), as it stands in H -/
def XAt (H : Hp) (a : Addr) (t : Value) : Prop := H a = some (ExO t a) ∨ ∃ C dd fs, t = .ref C ∧ H a = some (exo a C (some dd)) ∧ H dd = some (exd dd fs)
/-- isinstance(x, c), x an exception object -/
def rIsX (K : PySem.W.Frag) : List V → Hp → VK → Prop := fun xs H Q => ∃ (a : Addr) (c : V) (t u : Value) (b : Bool), xs = [.ref a, c] ∧ ClsV c u ∧ XAt H a t ∧ ((∃ C, t = .ref C ∧ XiC K C) ∨ t = .type "ValueError") ∧ PySem.W.kitOne K t u = some b ∧ Q (.bl b) H
theorem call_isX {X : Cx} : CallR X (.builtin "isinstance") (rIsX X.K) := by
  intro pins s σ H xs us Q I r h
  obtain ⟨a, c, t, u, b, rfl, k, xa, tc, e, q⟩ := h
  obtain ⟨u1, u2, rfl, r1, r2⟩ := vals2 r
  have e2 := k.eq r2
  subst e2
  cases (show u1 = Value.ref a from r1)
  rcases tc with ⟨C, rfl, T⟩ | rfl
  · obtain ⟨ox, od, J⟩ : ∃ ox od, PySem.W.InstAt s.heap a ox C od := by
      rcases xa with xa | ⟨C', dd, fs, et, xa, xd⟩
      · obtain ⟨⟨oe, vs, h1, h2, h3, _⟩, _⟩ := I.hok a _ xa
        obtain ⟨oc, od, odt, osl⟩ := oe
        obtain ⟨z1, z2⟩ := h2
        dsimp only at z1 z2 h3
        subst z1 z2 h3
        exact ⟨_, none, h1, rfl, rfl, trivial⟩
      · cases et
        obtain ⟨t1, ha⟩ := exo_at I.hok xa
        obtain ⟨mA, hns, hr⟩ := exd_at I.hok xd
        obtain ⟨od, ho, hl⟩ := lookIn_ns hns
        exact ⟨_, some od, ha, rfl, by unfold PySem.W.notCls; rfl, ho⟩
    exact PySem.W.kia_one (PySem.W.kitx_exc T.cl T.ga T.gt T.sub T.ha T.hn T.ht T.hm) I.kIn J e (fun z => nomatch z) fun tk => ⟨.bl b, H, I.tok tk, rfl, q⟩
  · rcases xa with xa | ⟨C', dd, fs, et, _⟩
    · obtain ⟨⟨oe, vs, h1, h2, h3, _⟩, _⟩ := I.hok a _ xa
      exact PySem.W.kia_one (PySem.W.kitx_bexc PySem.F.excAttr_ValueError PySem.F.lkClass_ValueError PySem.F.soClass_ValueError (by decide +kernel)) I.kIn ⟨oe, h1, h2.1⟩ e (fun z => nomatch z) fun tk => ⟨.bl b, H, I.tok tk, rfl, q⟩
    · cases et
end L2
namespace Ru
open PySem L2 PyProof.Rows
/-- repr of a list or a tuple of data -/
def qRepr (K : PySem.W.Frag) : List V → Hp → VK → Prop := fun xs H Q => ∃ (a : Addr) (d : PyData), xs = [.ref a] ∧ Dp K H (.ref a) d ∧ d.showable = true ∧ d.hasDict = false ∧ d.depth ≤ 60 ∧ d.shown.length ≤ sizeLine ∧ Q (.str d.shown) H
theorem call_repr {X : Cx} (gd : X.A.guards = some []) (hu : X.A.units + 64 < cLine) : CallR X (.builtin "repr") (qRepr X.K) := by
  intro pins s σ H xs us Q I r h
  obtain ⟨a, d, rfl, hd, hs, nd, hz, hl, q⟩ := h
  cases r with
  | cons r1 r2 =>
    cases r2
    cases r1
    obtain ⟨as, rd⟩ := Dp.reads I d _ _ hd rfl
    refine repr_of_reads' rd hs (fun z => by rw [nd] at z; cases z) gd (by omega) (fun _ _ e => e) (fun h' u tk hk => ?_) hl
    exact ⟨.str d.shown, H, I.kept (t' := tk) hk, ⟨_, rfl⟩, q⟩
end Ru
namespace Ru
open PySem L2 PyProof.Rows


theorem todsFlat {ds : List PyData} : ∀ n : Nat, ToDs (List.replicate n (ds.map Is)).flatten (List.replicate n ds).flatten
  | 0 => .nil
  | n + 1 => by
    rw [List.replicate_succ, List.replicate_succ, List.flatten_cons, List.flatten_cons]
    have h := todsFlat (ds := ds) n
    have key : ∀ es : List PyData, ToDs (es.map Is ++ (List.replicate n (ds.map Is)).flatten) (es ++ (List.replicate n ds).flatten) := fun es => by
      induction es with
      | nil => exact h
      | cons e es ih => exact .cons (fun _ _ z => z) ih
    exact key ds
theorem allFlat {R : Hp} {xs : List V} {ps : List Pd} (h : AllP R xs ps) : ∀ n : Nat, AllP R (List.replicate n xs).flatten (List.replicate n ps).flatten
  | 0 => .nil
  | n + 1 => by
    rw [List.replicate_succ, List.replicate_succ, List.flatten_cons, List.flatten_cons]
    exact All2.append h (allFlat h n)
/-- what a comprehension makes of its items: T the tests, F the elements -/
inductive CompRel {α : Type} (T : α → Bool → Prop) (F : α → Pd → Prop) : List α → List Pd → Prop
  | nil : CompRel T F [] []
  | skip {as : List α} {ps : List Pd} {a : α} : CompRel T F as ps → T a false → CompRel T F (as ++ [a]) ps
  | take {as : List α} {ps : List Pd} {a : α} {P : Pd} : CompRel T F as ps → T a true → F a P → CompRel T F (as ++ [a]) (ps ++ [P])
theorem CompRel.length {α : Type} {T : α → Bool → Prop} {F : α → Pd → Prop} : ∀ {as : List α} {ps : List Pd}, CompRel T F as ps → ps.length ≤ as.length
  | _, _, .nil => Nat.le_refl _
  | _, _, .skip h _ => by rw [List.length_append]; exact Nat.le_trans h.length (Nat.le_add_right _ _)
  | _, _, .take h _ _ => by rw [List.length_append, List.length_append]; exact Nat.add_le_add_right h.length _
theorem CompRel.det {α : Type} {T : α → Bool → Prop} {F : α → Pd → Prop} (t : α → Bool) (e : α → Pd) (hT : ∀ a b, T a b → b = t a) (hF : ∀ a P, F a P → P = e a) : ∀ {as : List α} {ps : List Pd}, CompRel T F as ps → ps = (as.filter t).map e
  | _, _, .nil => rfl
  | _, _, .skip (a := a) h q => by
    rw [List.filter_append, h.det t e hT hF, List.filter_cons_of_neg (by rw [← hT _ _ q]; exact Bool.false_ne_true), List.filter_nil, List.append_nil]
  | _, _, .take (a := a) h q f => by
    rw [List.filter_append, h.det t e hT hF, List.filter_cons_of_pos (by rw [← hT _ _ q]), List.filter_nil, List.map_append, hF _ _ f]
    rfl
def wipeE (env : Slots) : List Nat → Slots
  | [] => env
  | v :: vs => (wipeE env vs).set v .no
theorem Stt.setNo {S : Addr → Prop} {H0 R H : Hp} {σ : L2.St} {env : Slots} (t : Stt S H0 R H σ env) (i : Nat) : Stt S H0 R H (σ.set i none) (env.set i .no) where
  len := by rw [List.length_set, List.length_set]; exact t.len
  ok := fun j s v h1 h2 => by
    rcases get_set h1 with ⟨e, e2, _⟩ | ⟨e, q⟩
    · subst e2
      exact True.intro
    · rcases get_set h2 with ⟨e2, _, _⟩ | ⟨_, q2⟩
      · exact absurd e2 e
      · exact t.ok j s v q q2
  dis := fun a b ps qs l h1 h2 h3 h4 => by
    rcases get_set h1 with ⟨_, e2, _⟩ | ⟨e1, q1⟩
    · cases e2
    rcases get_set h2 with ⟨_, e2, _⟩ | ⟨e2, q2⟩
    · cases e2
    rcases get_set h3 with ⟨z, _⟩ | ⟨_, q3⟩
    · exact absurd z e1
    rcases get_set h4 with ⟨z, _⟩ | ⟨_, q4⟩
    · exact absurd z e2
    exact t.dis a b ps qs l q1 q2 q3 q4
theorem Stt.wipe {S : Addr → Prop} {H0 R H : Hp} {σ : L2.St} {env : Slots} (t : Stt S H0 R H σ env) : ∀ vs : List Nat, Stt S H0 R H (L2.wipe σ vs) (wipeE env vs)
  | [] => t
  | v :: vs => (Stt.wipe t vs).setNo v
theorem wipe_set (σ : L2.St) (i : Nat) (x : Option V) : L2.wipe ((L2.wipe σ [i]).set i x) [i] = L2.wipe σ [i] := by
  show ((σ.set i none).set i x).set i none = σ.set i none
  rw [List.set_set, List.set_set]

/-! ### more rules -/
section
variable {S : Addr → Prop} {R0 H0 : Hp} {env : Slots} {K : PySem.W.Frag} {Θ : Pd → Prop} {ΘT : Bool → Prop} {ΘL : List Pd → Prop} {ta tb te : TE} {tt : TT} {tA : TA} {P P' : Pd} {ret : Pd → Prop} {nx bk ct : Slots → Prop}
/-- a list of data, made by + -/
theorem ev_catD (h : EvN S H0 ta env fun P => ∃ ds, (∀ R v, P R v → Is (.list ds) R v) ∧ EvN S H0 tb env fun P' => ∃ es, (∀ R v, P' R v → Is (.list es) R v) ∧ ds.length + es.length ≤ 100000 ∧ Θ (Is (.list (ds ++ es)))) : EvN S H0 (tOp (qAdd K) ta tb) env Θ :=
  ev_lD (el_op fun σ R H t o Q q => h σ R H t o Q fun P v R' H' ⟨ds, h1, h2⟩ m e p => q P v R' H' (fun σ2 R2 H2 t2 o2 Q2 q2 => h2 σ2 R2 H2 t2 o2 Q2 fun P' v' R'' H'' ⟨es, h3, z, h4⟩ m' e' p' =>
    q2 P' v' R'' H'' (ol_or2 (ol_or1 (ol_cat (fun R v a => is_listP R v (h1 R v a)) (fun R v a => is_listP R v (h3 R v a)) (mn_map_is ds) (mn_map_is es)
      (by rw [List.length_map, List.length_map]; exact Nat.le_trans z (by decide)) ⟨ds ++ es, by rw [← List.map_append]; exact ToDs.is _, h4⟩))) m' e' p') m e p)
/-- lists of things, made by + -/
theorem el_cat (h : EvN S H0 ta env fun P => ∃ ps, (∀ R v, P R v → ListP ps R v) ∧ (∀ P ∈ ps, Mn P) ∧ EvN S H0 tb env fun P' => ∃ qs, (∀ R v, P' R v → ListP qs R v) ∧ (∀ P ∈ qs, Mn P) ∧ ps.length + qs.length ≤ 100000 ∧ ΘL (ps ++ qs)) : EvL S H0 (tOp (qAdd K) ta tb) env ΘL :=
  el_op fun σ R H t o Q q => h σ R H t o Q fun P v R' H' ⟨ps, h1, m1, h2⟩ m e p => q P v R' H' (fun σ2 R2 H2 t2 o2 Q2 q2 => h2 σ2 R2 H2 t2 o2 Q2 fun P' v' R'' H'' ⟨qs, h3, m3, z, h4⟩ m' e' p' =>
    q2 P' v' R'' H'' (ol_or2 (ol_or1 (ol_cat h1 h3 m1 m3 (Nat.le_trans z (by decide)) h4))) m' e' p') m e p
/-- a display of data -/
theorem ev_lstD {ta : TA} (h : EvA S H0 ta env fun ss => ∃ (ps : List Pd) (ds : List PyData), ss = ps.map Sl.is ∧ ps.length ≤ 100000 ∧ ToDs ps ds ∧ Θ (Is (.list ds))) : EvN S H0 (tLst ta) env Θ :=
  ev_lD (el_lst fun σ R H t o Q q => h σ R H t o Q fun ss vs R' H' ⟨ps, ds, e, z, td, k⟩ => q ss vs R' H' ⟨ps, e, Nat.le_trans z (by decide), ds, td, k⟩)
/-- [x] * n -/
theorem ev_repD {k : Int} (h0 : 0 ≤ k) (h : EvN S H0 ta env fun P => ∃ ds, (∀ R v, P R v → Is (.list ds) R v) ∧ EvN S H0 tb env fun P' => P' = IsI k ∧ ds.length * k.toNat ≤ 100000 ∧ k < 100000 ∧ Θ (Is (.list ((List.replicate k.toNat ds).flatten)))) : EvN S H0 (tOp qMul ta tb) env Θ :=
  ev_lD (el_op fun σ R H t o Q q => h σ R H t o Q fun P v R' H' ⟨ds, h1, h2⟩ m e p => q P v R' H' (fun σ2 R2 H2 t2 o2 Q2 q2 => h2 σ2 R2 H2 t2 o2 Q2 fun P' v' R'' H'' ⟨e3, z, z2, h4⟩ m' e' p' =>
    q2 P' v' R'' H'' (by
      subst e3
      refine ol_or2 fun R3 H3 x y o3 a b Q3 q3 => ?_
      obtain ⟨l, xs, ex, hl, al⟩ := is_listP _ _ (h1 _ _ a)
      have hxl : xs.length = ds.length := by rw [al.length, List.length_map]
      refine ⟨l, k, xs, ex, b, o3.sub _ _ hl, by omega, by omega, by rw [hxl]; exact Nat.le_trans z (by decide), fun p hp => ?_⟩
      refine q3 p _ ((List.replicate k.toNat (ds.map Is)).flatten) R3 _ ⟨_, todsFlat _, h4⟩ (fun P hP => ?_) (Ext.out o3 hp) hp upd_same (o3.none hp) (allFlat al _)
      obtain ⟨l1, hl1, hl2⟩ := List.mem_flatten.mp hP
      rw [(List.mem_replicate.mp hl1).2] at hl2
      exact mn_map_is ds P hl2) m' e' p') m e p)
/-- a comprehension over range(n) -/
theorem el_comp_r1 {i : Nat} (h : EvA S H0 tA env fun ss => ∃ n : Int, ss = [.is (IsI n)] ∧ n ≤ 100000 ∧ -100000 ≤ n ∧ ∃ (T : Nat → Bool → Prop) (F : Nat → Pd → Prop),
      (∀ k : Nat, (k : Int) < n → EvT S H0 tt ((wipeE env [i]).set i (.is (IsI k))) fun b => T k b ∧ (b = true → EvN S H0 te ((wipeE env [i]).set i (.is (IsI k))) (F k))) ∧ ∀ ps, CompRel T F (List.range n.toNat) ps → ΘL ps) :
    EvL S H0 (tLc (iRng1 tA) (gName i) tt te [i]) env ΘL := by
  intro σ R H t o Q q
  refine h σ R H t o _ fun ss vs R1 H1 ⟨n, es, hn1, hn2, T, F, ht, hd⟩ e1 a => ?_
  subst es
  cases a with
  | cons a1 a2 =>
    cases a2
    obtain ⟨rfl, _⟩ := a1
    refine ⟨n, rfl, by omega, by omega, fun D hD => ?_⟩
    have o1 := o.ext e1
    have t1 := t.ext e1
    have nS : ¬ S D := o1.notS hD
    refine lc_range (lo := 0) (n := n.toNat) (fun k H' => ∃ R' acc ps, Ext S R1 H1 R' H' ∧ H' D = some (.lst acc) ∧ R' D = none ∧ AllP R' acc ps ∧ (∀ P ∈ ps, Mn P) ∧ CompRel T F (List.range k) ps ∧ k ≤ n.toNat)
      ⟨R1, [], [], Ext.out o1 hD, upd_same, o1.none hD, .nil, (fun P hP => nomatch hP), .nil, Nat.zero_le _⟩ (fun k H' hk ⟨R', acc, ps, x1, x2, x3, x4, x5, x6, x7⟩ => ?_) fun H' ⟨R', acc, ps, x1, x2, x3, x4, x5, x6, x7⟩ => ?_
    · have e0 : (0 : Int) + (k : Int) = (k : Int) := Int.zero_add _
      show L2.wipe ((L2.wipe σ [i]).set i (some (.int ((0 : Int) + (k : Int))))) [i] = L2.wipe σ [i] ∧ tt ((L2.wipe σ [i]).set i (some (.int ((0 : Int) + (k : Int))))) H' _
      rw [e0]
      refine ⟨wipe_set _ _ _, ?_⟩
      have tk : Stt S H0 R' H' ((L2.wipe σ [i]).set i (some (.int (k : Int)))) ((wipeE env [i]).set i (.is (IsI k))) := ((t1.ext x1).wipe [i]).set (P := IsI k) rfl
      have ok' := o1.ext x1
      refine ht k (by omega) _ R' H' tk ok' _ fun b R2 H2 ⟨hb, hb2⟩ e2 => ?_
      cases b with
      | false => exact ⟨R2, acc, ps, x1.trans o1 e2, e2.keep _ _ nS x2, e2.old _ _ x2 x3, AllP.mono e2.grow x5 x4, x5, by rw [List.range_succ]; exact .skip x6 hb, hk⟩
      | true =>
        refine hb2 rfl _ R2 H2 (tk.ext e2) (ok'.ext e2) _ fun P v R3 H3 hP mP e3 pv => ?_
        have y2 := e3.keep _ _ nS (e2.keep _ _ nS x2)
        have y3 := e3.old _ _ (e2.keep _ _ nS x2) (e2.old _ _ x2 x3)
        have l1 := x4.length
        have l2 := x6.length
        rw [List.length_range] at l2
        refine ⟨acc, y2, by rw [l1]; have : sizeLine = 16777216 := sizeLine_eq; omega, R3, acc ++ [v], ps ++ [P], ?_, upd_same, y3, ?_, ?_, by rw [List.range_succ]; exact .take x6 hb hP, hk⟩
        · have e13 := (x1.trans o1 e2).trans o1 e3
          refine ⟨fun b u nb hb' => ?_, e13.grow, fun b u hb' => ?_, e13.old, fun f hf => ?_⟩
          · rw [upd_ne (ne_of_none hb' hD)]
            exact e13.keep b u nb hb'
          · rw [upd_ne (ne_of_none hb' y3)]
            exact e13.sub b u hb'
          · obtain ⟨d, s, z, w⟩ := e13.feed f hf
            exact ⟨d, s, by rw [upd_ne (fun y : f = D => nS (y ▸ hf))]; exact z, w⟩
        · exact All2.append (AllP.mono (e2.grow.trans e3.grow) x5 x4) (.cons pv .nil)
        · intro P' hP'
          rcases List.mem_append.mp hP' with z | z
          · exact x5 P' z
          · rw [List.mem_singleton.mp z]
            exact mP
    · exact q D acc ps R' H' (hd ps x6) x5 (e1.trans o x1) (e1.noneB hD) x2 x3 x4
end
end Ru
namespace Ru
open PySem L2 PyProof.Rows

/-! ### exceptions as values -/
/-- an exception object of the class t -/
def XK (t : Value) : Pd := fun R v => ∃ a, v = .ref a ∧ XAt R a t
theorem xat_mono {R R' : Hp} {a : Addr} {t : Value} (e : Same R R') (h : XAt R a t) : XAt R' a t := by
  rcases h with h | ⟨C, dd, fs, et, h1, h2⟩
  · exact .inl (e _ _ h)
  · exact .inr ⟨C, dd, fs, et, e _ _ h1, e _ _ h2⟩
instance {t : Value} : Mn (XK t) := ⟨fun _ _ _ e ⟨a, h, x⟩ => ⟨a, h, xat_mono e x⟩⟩
/-- one with fields -/
def XF (C : Addr) (fs : List (Str × Pd)) : Pd := fun R v => ∃ a dd gs, v = .ref a ∧ R a = some (exo a C (some dd)) ∧ R dd = some (exd dd gs) ∧ ∀ f P, fs.lookup f = some P → ∃ y, gs.lookup f = some y ∧ P R y
theorem mn_XF {C : Addr} {fs : List (Str × Pd)} (m : ∀ p ∈ fs, Mn p.2) : Mn (XF C fs) := ⟨fun R R' v e ⟨a, dd, gs, h1, h2, h3, h4⟩ => ⟨a, dd, gs, h1, e _ _ h2, e _ _ h3, fun f P hP => by
  obtain ⟨y, h5, h6⟩ := h4 f P hP
  obtain ⟨l1, l2, e1, _⟩ := List.lookup_eq_some_iff.mp hP
  exact ⟨y, h5, (m (f, P) (by rw [e1]; exact List.mem_append_right _ (List.mem_cons_self ..))).mono _ _ _ e h6⟩⟩⟩
def gPos : List V → List V → List V := fun vs _ => vs
def gKw : List V → List V → List V := fun vs zs => vs ++ zs
def gKw2 : List V → List V → List V := fun vs zs => vs ++ zs.reverse
/-- __init__(self, f): self.f = f -/
def spX1 (C : Addr) (f : Str) : Sp := fun vs H Q _ => ∃ (a : Addr) (y : V), vs = [.ref a, y] ∧ H a = some (exo a C none) ∧ ∀ dx, H dx = none → dx ≠ a → Q .non (upd (upd H dx (exd dx [(f, y)])) a (exo a C (some dx)))
/-- __init__(self, f, g): self.f = f; self.g = g -/
def spX2 (C : Addr) (f g : Str) : Sp := fun vs H Q _ => ∃ (a : Addr) (y z : V), vs = [.ref a, y, z] ∧ H a = some (exo a C none) ∧ ∀ dx, H dx = none → dx ≠ a → Q .non (upd (upd (upd H dx (exd dx [(f, y)])) a (exo a C (some dx))) dx (exd dx [(g, z), (f, y)]))
section
variable {S : Addr → Prop} {R0 H0 : Hp} {env : Slots} {K : PySem.W.Frag} {Θ : Pd → Prop} {ΘT : Bool → Prop} {ΘL : List Pd → Prop} {ta tb te : TE} {tt : TT} {tA tK : TA} {P P' : Pd} {ret : Pd → Prop} {nx bk ct : Slots → Prop} {C : Addr} {f g : Str}
theorem ev_x0 (h : Θ (XK (.ref C))) : EvN S H0 (tX0 C) env Θ := fun σ R H t o Q q a ha =>
  q _ _ _ _ h inferInstance (Ext.new o (u := ExO (.ref C) a) ha) ⟨a, rfl, .inl upd_same⟩
theorem ev_xb {T : String} (h : Θ (XK (.type T))) : EvN S H0 (tXb T) env Θ := fun σ R H t o Q q a ha =>
  q _ _ _ _ h inferInstance (Ext.new o (u := ExO (.type T) a) ha) ⟨a, rfl, .inl upd_same⟩
/-- two new objects, one behind the other -/
theorem ext_two {R H : Hp} (o : Ok S R H) {a d : Addr} {u w : HO} (ha : H a = none) (hd : H d = none) (ne : d ≠ a) : Ext S R H (upd (upd R d w) a u) (upd (upd H d w) a u) := by
  have e1 := Ext.new o (u := w) hd
  have e2 := Ext.new (o.ext e1) (u := u) (p := a) (by rw [upd_ne ne.symm]; exact ha)
  exact e1.trans o e2
theorem upd_old {H : Hp} {a d : Addr} {u w z : HO} (ne : d ≠ a) : upd (upd (upd H a z) d w) a u = upd (upd H d w) a u := by
  funext b
  unfold upd
  by_cases h1 : b = a
  · rw [if_pos h1, if_pos h1]
  · rw [if_neg h1, if_neg h1, if_neg h1]
theorem fin_x1 {R H : Hp} (o : Ok S R H) {a : Addr} {y : V} {P : Pd} (py : P R y) (mp : Mn P) (ha : H a = none) (h : ∀ P', P' = XF C [(f, P)] ∨ P' = XK (.ref C) → Θ P' ∨ True) {Q : VK}
    (q : ∀ v R' H', Ext S R H R' H' → XF C [(f, P)] R' v → Q v H') : spX1 C f [.ref a, y] (upd H a (exo a C none)) (fun v H3 => v = .non ∧ Q (.ref a) H3) (fun _ _ _ => False) := by
  refine ⟨a, y, rfl, upd_same, fun dx n ne => ⟨rfl, ?_⟩⟩
  rw [upd_ne ne] at n
  rw [upd_old ne]
  have e := ext_two o (u := exo a C (some dx)) (w := exd dx [(f, y)]) ha n ne
  refine q _ _ _ e ⟨a, dx, [(f, y)], rfl, upd_same, by rw [upd_ne ne, upd_same], fun k P' hk => ?_⟩
  have hk' : (match k == f with | true => some P | false => none) = some P' := hk
  cases c : (k == f) with
  | true =>
    rw [c] at hk'
    have ep : P = P' := Option.some.inj hk'
    refine ⟨y, ?_, ep ▸ mp.mono _ _ _ e.grow py⟩
    show (match k == f with | true => some y | false => none) = some y
    rw [c]
  | false =>
    rw [c] at hk'
    cases hk'
theorem ev_xn1 (h : EvN S H0 te env fun P => Mn P → Θ (XF C [(f, P)])) : EvN S H0 (tXn C 1 0 gPos (spX1 C f) (tCons te tNil) tNil) env Θ := fun σ R H t o Q q =>
  h σ R H t o _ fun P y R1 H1 h1 m1 e1 p1 => ⟨rfl, rfl, by show 1 ≤ 1000; omega, fun a ha =>
    fin_x1 (Θ := Θ) (o.ext e1) p1 m1 ha (fun _ _ => .inr trivial) fun v R' H' e x => q _ v R' H' (h1 m1) (mn_XF fun p hp => by rw [List.mem_singleton.mp hp]; exact m1) (e1.trans o e) x⟩
theorem ev_xn1k (h : EvN S H0 te env fun P => Mn P → Θ (XF C [(f, P)])) : EvN S H0 (tXn C 0 1 gKw (spX1 C f) tNil (tCons te tNil)) env Θ := fun σ R H t o Q q =>
  h σ R H t o _ fun P y R1 H1 h1 m1 e1 p1 => ⟨rfl, rfl, by show 0 ≤ 1000; omega, fun a ha =>
    fin_x1 (Θ := Θ) (o.ext e1) p1 m1 ha (fun _ _ => .inr trivial) fun v R' H' e x => q _ v R' H' (h1 m1) (mn_XF fun p hp => by rw [List.mem_singleton.mp hp]; exact m1) (e1.trans o e) x⟩
theorem fin_x2 {R H : Hp} (o : Ok S R H) {a : Addr} {y z : V} {P P2 : Pd} (py : P R y) (pz : P2 R z) (mp : Mn P) (mz : Mn P2) (ha : H a = none) {Q : VK}
    (q : ∀ v R' H', Ext S R H R' H' → XF C [(g, P2), (f, P)] R' v → Q v H') : spX2 C f g [.ref a, y, z] (upd H a (exo a C none)) (fun v H3 => v = .non ∧ Q (.ref a) H3) (fun _ _ _ => False) := by
  refine ⟨a, y, z, rfl, upd_same, fun dx n ne => ⟨rfl, ?_⟩⟩
  rw [upd_ne ne] at n
  rw [upd_old ne]
  have eh : upd (upd (upd H dx (exd dx [(f, y)])) a (exo a C (some dx))) dx (exd dx [(g, z), (f, y)]) = upd (upd H dx (exd dx [(g, z), (f, y)])) a (exo a C (some dx)) := by
    funext b
    unfold upd
    by_cases h1 : b = dx
    · rw [if_pos h1, if_neg (by rw [h1]; exact ne), if_pos h1]
    · rw [if_neg h1]
      by_cases h2 : b = a
      · rw [if_pos h2, if_pos h2]
      · rw [if_neg h2, if_neg h2, if_neg h1, if_neg h1]
  rw [eh]
  have e := ext_two o (u := exo a C (some dx)) (w := exd dx [(g, z), (f, y)]) ha n ne
  refine q _ _ _ e ⟨a, dx, _, rfl, upd_same, by rw [upd_ne ne, upd_same], fun k P' hk => ?_⟩
  have hk' : (match k == g with | true => some P2 | false => (match k == f with | true => some P | false => none)) = some P' := hk
  cases c : (k == g) with
  | true =>
    rw [c] at hk'
    have ep : P2 = P' := Option.some.inj hk'
    refine ⟨z, ?_, ep ▸ mz.mono _ _ _ e.grow pz⟩
    show (match k == g with | true => some z | false => (match k == f with | true => some y | false => none)) = some z
    rw [c]
  | false =>
    rw [c] at hk'
    cases c2 : (k == f) with
    | true =>
      rw [c2] at hk'
      have ep : P = P' := Option.some.inj hk'
      refine ⟨y, ?_, ep ▸ mp.mono _ _ _ e.grow py⟩
      show (match k == g with | true => some z | false => (match k == f with | true => some y | false => none)) = some y
      rw [c, c2]
    | false =>
      rw [c2] at hk'
      cases hk'
theorem mn_two {C : Addr} {f g : Str} {P P2 : Pd} (m1 : Mn P) (m2 : Mn P2) : Mn (XF C [(g, P2), (f, P)]) := mn_XF fun p hp => by
  rcases List.mem_cons.mp hp with rfl | hp
  · exact m2
  · rw [List.mem_singleton.mp hp]
    exact m1
theorem ev_xn2 (h : EvN S H0 ta env fun P => EvN S H0 tb env fun P2 => Mn P → Mn P2 → Θ (XF C [(g, P2), (f, P)])) : EvN S H0 (tXn C 2 0 gPos (spX2 C f g) (tCons ta (tCons tb tNil)) tNil) env Θ := fun σ R H t o Q q =>
  h σ R H t o _ fun P y R1 H1 h1 m1 e1 p1 => h1 σ R1 H1 (t.ext e1) (o.ext e1) _ fun P2 z R2 H2 h2 m2 e2 p2 => ⟨rfl, rfl, by show 2 ≤ 1000; omega, fun a ha =>
    fin_x2 ((o.ext e1).ext e2) (m1.mono _ _ _ e2.grow p1) p2 m1 m2 ha fun v R' H' e x => q _ v R' H' (h2 m1 m2) (mn_two m1 m2) ((e1.trans o e2).trans o e) x⟩
/-- the keywords in the other order -/
theorem ev_xn2k (h : EvN S H0 ta env fun P2 => EvN S H0 tb env fun P => Mn P → Mn P2 → Θ (XF C [(g, P2), (f, P)])) : EvN S H0 (tXn C 0 2 gKw2 (spX2 C f g) tNil (tCons ta (tCons tb tNil))) env Θ := fun σ R H t o Q q =>
  h σ R H t o _ fun P2 z R1 H1 h1 m1 e1 p1 => h1 σ R1 H1 (t.ext e1) (o.ext e1) _ fun P y R2 H2 h2 m2 e2 p2 => ⟨rfl, rfl, by show 0 ≤ 1000; omega, fun a ha =>
    fin_x2 ((o.ext e1).ext e2) p2 (m1.mono _ _ _ e2.grow p1) m2 m1 ha fun v R' H' e x => q _ v R' H' (h2 m2 m1) (mn_two m2 m1) ((e1.trans o e2).trans o e) x⟩
/-- such an object as one of its class -/
theorem ev_asK {fs : List (Str × Pd)} (h : EvN S H0 te env fun P => (∃ fs, P = XF C fs) ∧ Θ (XK (.ref C))) : EvN S H0 te env Θ := fun σ R H t o Q q => h σ R H t o Q fun P v R' H' ⟨⟨fs, e⟩, k⟩ m ex p => by
  subst e
  obtain ⟨a, dd, gs, h1, h2, h3, _⟩ := p
  exact q _ v R' H' k inferInstance ex ⟨a, h1, .inr ⟨C, dd, gs, rfl, h2, h3⟩⟩
/-- a field read -/
theorem ev_xfl {n : Str} (T : XfC K C) (hn : PySem.W.findIn K (.ref C) n = some none) (h : EvN S H0 te env fun P' => ∃ fs P, P' = XF C fs ∧ fs.lookup n = some P ∧ Mn P ∧ Θ P) : EvN S H0 (tXfl K te n) env Θ := fun σ R H t o Q q =>
  h σ R H t o _ fun P' x R1 H1 ⟨fs, P, e, l, mp, k⟩ m1 e1 p1 => by
    subst e
    obtain ⟨a, dd, gs, h1, h2, h3, h4⟩ := p1
    obtain ⟨y, h5, h6⟩ := h4 n P l
    exact ⟨a, C, dd, gs, y, h1, e1.sub _ _ h2, e1.sub _ _ h3, T, hn, h5, q P y R1 H1 k mp e1 h6⟩
/-- isinstance -/
theorem c_isX {t u : Value} {c : V} {b : Bool} (hc : ClsV c u) (ht : (∃ C, t = .ref C ∧ XiC K C) ∨ t = .type "ValueError") (hk : PySem.W.kitOne K t u = some b) (h : Θ (IsB b)) : CalOk S (rIsX K) [.is (XK t), .is (IsV c)] Θ := fun R H vs o a Q q => by
  cases a with
  | cons a1 a2 =>
    cases a2 with
    | cons a2 a3 =>
      cases a3
      obtain ⟨⟨a, rfl, x⟩, _⟩ := a1
      obtain ⟨rfl, _⟩ := a2
      exact ⟨a, _, t, u, b, rfl, hc, xat_mono o.sub x, ht, hk, q _ _ R H h inferInstance (Ext.refl o) rfl⟩
/-- repr of data -/
theorem c_repr {d : PyData} (hp : ∀ R v, P R v → Is d R v) (hd : ∃ ds, d = .list ds ∨ d = .tuple ds) (h1 : d.showable = true) (h2 : d.hasDict = false) (h3 : d.depth ≤ 60) (h4 : d.shown.length ≤ sizeLine) (h : Θ (Is (.str d.shown))) : CalOk S (qRepr K) [.is P] Θ := fun R H vs o a Q q => by
  cases a with
  | cons a1 a2 =>
    cases a2
    have x := hp _ _ a1.1
    obtain ⟨ds, hd | hd⟩ := hd
    · subst hd
      cases x with
      | lst e1 e2 => exact ⟨_, _, rfl, Da.dp o.sub (.lst e1 e2), h1, h2, h3, h4, q _ _ R H h inferInstance (Ext.refl o) (.str _)⟩
    · subst hd
      cases x with
      | tup e1 e2 => exact ⟨_, _, rfl, Da.dp o.sub (.tup e1 e2), h1, h2, h3, h4, q _ _ R H h inferInstance (Ext.refl o) (.str _)⟩
/-- for i, x in enumerate(l) over a list in the region -/
theorem b_for_en {i j : Nat} {tb : TS} (h : EvA S H0 tA env fun ss => ∃ P ps, ss = [.is P] ∧ (∀ R v, P R v → ListP ps R v) ∧ (∀ P ∈ ps, Mn P) ∧ ∃ W : Nat → Slots → Prop, W 0 env ∧
      (∀ (k : Nat) (p : Pd) (env' : Slots), ps[k]? = some p → W k env' → Blk S R0 H0 tb ((env'.set i (.is (IsI k))).set j (.is p)) ret (W (k + 1)) nx (W (k + 1))) ∧ ∀ env', W ps.length env' → nx env') :
    Blk S R0 H0 (tFor (iEnum K tA) (gTup K 2 (gCons (gName i) (gCons (gName j) gNil))) tb) env ret nx bk ct := by
  intro σ R H o e s E qr qn qb qc
  refine h σ R H s (o.ext e) _ fun ss vs R1 H1 ⟨P, ps, es, hp, mn, W, h0, hs, hd⟩ e1 a => ?_
  subst es
  cases a with
  | cons a1 a2 =>
    cases a2
    obtain ⟨l, xs, rfl, hl, ha⟩ := hp _ _ a1.1
    have hle := All2.length ha
    refine ⟨l, xs, rfl, SqL.of (e1.sub _ _ hl), fun k m σ' H' => m = xs.length - k ∧ k ≤ xs.length ∧ ∃ env' R', Same R1 R' ∧ W k env' ∧ Ext S R0 H0 R' H' ∧ Stt S H0 R' H' σ' env', ⟨xs.length, by omega, Nat.zero_le _, env, R1, Same.refl _, h0, e.trans o e1, s.ext e1⟩, ?_⟩
    rintro k m σ' H' ⟨rfl, hk, env', R', g, q1, q2, q3⟩
    have hl' : SqL K H' l xs := SqL.of (q2.sub _ _ (g _ _ hl))
    by_cases hlt : k < xs.length
    · refine .inr ⟨⟨xs, xs[k], hl', by simp [hlt]⟩, fun σ2 H2 => k + 1 ≤ xs.length ∧ ∃ env2 R2, Same R1 R2 ∧ W (k + 1) env2 ∧ Ext S R0 H0 R2 H2 ∧ Stt S H0 R2 H2 σ2 env2, fun σ2 H2 ⟨y1, y2⟩ => ⟨xs.length - (k + 1), by omega, rfl, y1, y2⟩, fun v H2 y => ?_⟩
      obtain ⟨T, x, rfl, hT, rfl, hx⟩ := y
      have hx' := hx xs hl'
      obtain ⟨p, hpi, hpx⟩ := All2.getV ha hx'
      have mp := mn p (List.mem_of_getElem? hpi)
      have ok' := o.ext q2
      have eT := Ext.new ok' (u := .tup [.int (k : Nat), x]) hT
      refine ⟨T, _, rfl, SqT.of upd_same, rfl, .int (k : Nat), [x], rfl, x, [], rfl, rfl, ?_⟩
      have st := (q3.ext eT).set (i := i) (P := IsI k) (x := .int (k : Nat)) rfl
      have st2 := st.set (i := j) (m := mp) (mp.mono _ _ _ (g.trans eT.grow) hpx)
      refine hs k p env' hpi q1 _ _ _ o (q2.trans o eT) st2 _ qr ?_ (up (e1.grow.trans (g.trans eT.grow)) qn) ?_
      · exact fun env2 σ2 R2 H2 a g2 b c => ⟨by omega, env2, R2, (g.trans eT.grow).trans g2, a, b, c⟩
      · exact fun env2 σ2 R2 H2 a g2 b c => ⟨by omega, env2, R2, (g.trans eT.grow).trans g2, a, b, c⟩
    · have ek : k = xs.length := by omega
      subst ek
      exact .inl ⟨⟨xs, hl', Nat.le_refl _⟩, qn env' σ' R' H' (hd env' (by rw [← hle]; exact q1)) (e1.grow.trans g) q2 q3⟩
end
end Ru
namespace Ru
open PySem L2 PyProof.Rows
class MnL (ps : List Pd) : Prop where
  all : ∀ P ∈ ps, Mn P
instance : MnL [] := ⟨fun _ h => nomatch h⟩
instance {P : Pd} {ps : List Pd} [m : Mn P] [n : MnL ps] : MnL (P :: ps) := ⟨fun Q h => by
  rcases List.mem_cons.mp h with rfl | h
  · exact m
  · exact n.all Q h⟩
instance {ps qs : List Pd} [m : MnL ps] [n : MnL qs] : MnL (ps ++ qs) := ⟨fun Q h => by
  rcases List.mem_append.mp h with h | h
  · exact m.all Q h
  · exact n.all Q h⟩
instance {ps : List Pd} [m : MnL ps] : Mn (ListP ps) := mn_listP m.all
/-- own lists forgotten -/
def weakS : Sl → Sl
  | .is P => .is P
  | _ => .no
/-- the state without what another frame of things that change knew -/
theorem Stt.weak {S S0 : Addr → Prop} {H1 H0 R H : Hp} {σ : L2.St} {env : Slots} (t : Stt S H1 R H σ env) : Stt S0 H0 R H σ (env.map weakS) where
  len := by rw [List.length_map]; exact t.len
  ok := fun i s v h1 h2 => by
    rw [List.getElem?_map] at h1
    cases e : env[i]? with
    | none => rw [e] at h1; cases h1
    | some s' =>
      rw [e] at h1
      cases h1
      have z := t.ok i s' v e h2
      cases s' with
      | is P => exact z
      | _ => exact True.intro
  dis := fun i j ps qs l h1 _ _ _ => by
    rw [List.getElem?_map] at h1
    cases e : env[i]? with
    | none => rw [e] at h1; cases h1
    | some s' =>
      rw [e] at h1
      cases s' <;> cases h1
section
variable {R0 H0 : Hp} {env : Slots} {K : PySem.W.Frag} {ret : Pd → Prop} {nx bk ct : Slots → Prop}
abbrev S0 : Addr → Prop := fun _ => False
abbrev SF (f : Addr) : Addr → Prop := fun a => a = f
/-- x = _feed(script, k): from here on the feed may change -/
theorem b_feed {i a b : Nat} {rest : TS} {ns : List Int} {k : Int} (ha : env[a]? = some (.is (Scr K ns))) (hb : env[b]? = some (.is (IsI k))) (h0 : 0 ≤ k) (h1 : k < 1000000)
    (h : ∀ (f : Addr) (R1 H1 : Hp), Blk (SF f) R1 H1 rest (env.map weakS |>.set i (.is (IsV (.ref f)))) ret (fun e => nx (e.map weakS)) (fun e => bk (e.map weakS)) (fun e => ct (e.map weakS))) :
    Blk S0 R0 H0 (tSeq (tAsg (tCall (spFeed K) [] E0 (tCons (tVar a) (tCons (tVar b) tNil))) (gName i)) rest) env ret nx bk ct := by
  intro σ R H o e s E qr qn qb qc
  obtain ⟨x, hx, l, rfl, hl⟩ := s.is ha
  obtain ⟨y, hy, hy2⟩ := s.is hb
  have hy3 : y = .int k := hy2
  subst hy3
  refine ⟨_, hx, _, hy, ns, k, R, l, rfl, e.sub.seq hl, h0, h1, fun f d w hf hd hw => ?_⟩
  have okR : Ok S0 R H := o.ext e
  have nf : R f = none := okR.none hf
  have o1 : Ok (SF f) R (upd H f (.lst [.int d, .int w])) := ⟨fun c u hc => by rw [upd_ne (ne_of_none (e.sub _ _ hc) hf)]; exact e.sub _ _ hc, fun g hg => by
    have eg : g = f := hg
    subst eg
    exact ⟨nf, d, w, upd_same, hd, hw⟩⟩
  have st : Stt (SF f) (upd H f (.lst [.int d, .int w])) R (upd H f (.lst [.int d, .int w])) σ (env.map weakS) := (s.ext (Ext.out okR (u := .lst [.int d, .int w]) hf)).weak
  have st2 := st.set (i := i) (P := IsV (.ref f)) (x := .ref f) rfl
  have back : ∀ {R' H' : Hp}, Ext (SF f) R (upd H f (.lst [.int d, .int w])) R' H' → Ext S0 R0 H0 R' H' := fun {R' H'} x => {
    keep := fun c u _ hc => by
      have hH := e.keep c u (fun z => z) hc
      have ne : c ≠ f := ne_of_none hH hf
      exact x.keep c u ne (by rw [upd_ne ne]; exact hH)
    grow := e.grow.trans x.grow
    sub := x.sub
    old := fun c u hc n => by
      have hH := e.keep c u (fun z => z) hc
      have ne : c ≠ f := ne_of_none hH hf
      exact x.old c u (by rw [upd_ne ne]; exact hH) (e.old c u hc n)
    feed := fun _ z => z.elim }
  exact h f R _ _ R _ o1 (Ext.refl o1) st2 E (fun P v R' H' a m b c => qr P v R' H' a m (back b) c)
    (fun env' σ' R' H' a g b c => qn _ σ' R' H' a g (back b) c.weak) (fun env' σ' R' H' a g b c => qb _ σ' R' H' a g (back b) c.weak) (fun env' σ' R' H' a g b c => qc _ σ' R' H' a g (back b) c.weak)
end
end Ru
namespace Ru
open PySem L2 PyProof.Rows
theorem td_I {i : Int} : ∀ (R : Hp) (v : V), IsI i R v → Da R v (.int i) := fun _ v h => by rw [show v = V.int i from h]; exact .int i
theorem td_B {b : Bool} : ∀ (R : Hp) (v : V), IsB b R v → Da R v (.bool b) := fun _ v h => by rw [show v = V.bl b from h]; exact .bl b
theorem td_D {d : PyData} : ∀ (R : Hp) (v : V), Is d R v → Da R v d := fun _ _ h => h
theorem td_L {d : PyData} : ∀ (R : Hp) (v : V), Is d R v → Is d R v := fun _ _ h => h
theorem eqv_sh {d : PyData} (h : SeqAt.shaped d = true) : PyData.eqv d d = true := SeqAt.eqv_refl d (SeqAt.canLay_of_shaped h)
theorem layE {d : PyData} (h : SeqAt.shaped d = true) : ∀ n : Nat, PyData.canLayAll0 (List.replicate n d) = true ∧ PyData.depthAll (List.replicate n d) ≤ d.depth
  | 0 => ⟨by simp [PyData.canLayAll0], by simp [PyData.depthAll]⟩
  | n + 1 => by
    obtain ⟨h1, h2⟩ := layE h n
    rw [List.replicate_succ]
    simp only [PyData.canLayAll0, PyData.depthAll]
    exact ⟨by rw [SeqAt.canLay_of_shaped h, h1]; rfl, by omega⟩
theorem shE' {d : PyData} (h : SeqAt.shaped d = true) (hd : d.depth ≤ 63) (n : Nat) : SeqAt.shaped (.list (List.replicate n d)) = true := by
  obtain ⟨h1, h2⟩ := layE h n
  refine Bool.and_eq_true_iff.mpr ⟨by simp only [PyData.canLay0]; exact h1, decide_eq_true ?_⟩
  simp only [PyData.depth]
  omega
theorem shI (i : Int) (n : Nat) : SeqAt.shaped (.list (List.replicate n (.int i))) = true := shE' (d := .int i) (by simp [SeqAt.shaped, PyData.canLay0, PyData.depth]) (by simp [PyData.depth]) n
def cn (i : Nat) : Str := (["BadBlocks", "BadCount", "BadCover", "BadEntry", "BadIns", "BadJump", "BadNumber", "BadProgram", "BadText", "NoBlock", "NoCeiling", "NoFloor", "NoItem", "NoJump", "NoMark", "NoRun", "NotEnough", "NotInner", "NotPassed", "NotPossible", "NotSeen", "NotTwins", "OtherCounts", "OtherRoutine", "TooLarge", "Uneven"] : List Str).getD i ""
def flds : List (Str × Str) := [("BadCount", "at"), ("BadEntry", "at"), ("BadJump", "at"), ("BadProgram", "at"), ("BadText", "line"), ("NoBlock", "block"), ("NoItem", "item"), ("NoJump", "jump"), ("NoMark", "number"), ("NoRun", "run"), ("NotEnough", "run"), ("NotInner", "block"), ("NotPassed", "block"), ("NotPossible", "greatest"), ("NotPossible", "least"), ("NotSeen", "jump"), ("OtherCounts", "jump"), ("TooLarge", "bound"), ("Uneven", "block")]
def odds : List PyData := [.int 7, .none, .str "x", .tuple [.int 0, .int 1], .tuple [], .list [.int 0, .int 1], .bool true, .int (10 ^ (30 : Int).toNat)]
def odd14 (d : PyData) : PyData := .list [d, d, d, d, d, d, d, d, d, d, d, d, d, d]
theorem odds_ok : (odds.all fun d => (odd14 d).showable && !(odd14 d).hasDict && decide ((odd14 d).depth ≤ 60) && decide ((odd14 d).shown.length ≤ sizeLine)) = true := by decide +kernel
structure KF (K : PySem.W.Frag) : Prop where
  kit : ∀ i j : Nat, i < 26 → j < 26 → PySem.W.kitOne K (.ref (He.ga K (cn i))) (.ref (He.ga K (cn j))) = some (decide (i = j))
  kitR : ∀ i : Nat, i < 26 → PySem.W.kitOne K (.ref (He.ga K (cn i))) (.ref (He.ga K "RunError")) = some true
  kitV : ∀ i : Nat, i < 26 → PySem.W.kitOne K (.ref (He.ga K (cn i))) (.type "ValueError") = some true
  kitVR : PySem.W.kitOne K (.type "ValueError") (.ref (He.ga K "RunError")) = some false
  xi : ∀ i : Nat, i < 26 → XiC K (He.ga K (cn i))
  xf : ∀ i : Nat, i < 26 → XfC K (He.ga K (cn i))
  fl : ∀ c f : Str, (c, f) ∈ flds → PySem.W.findIn K (.ref (He.ga K c)) f = some none
def S_kinds (K : PySem.W.Frag) : (Addr → Prop) → List Sl → (Pd → Prop) → Prop := fun _ ss Θ => ∃ i : Nat, i < 26 ∧ ss = [.is (XK (.ref (He.ga K (cn i))))] ∧ Θ (Is (.list ((List.range 26).map fun j => .bool (decide (i = j)))))
def S_numbers_right : (Addr → Prop) → List Sl → (Pd → Prop) → Prop := fun _ ss Θ => ∃ n : Int, ss = [.is (IsI n)] ∧ Θ (IsB true)
def S_others_right : (Addr → Prop) → List Sl → (Pd → Prop) → Prop := fun _ ss Θ => ∃ (P : Pd) (d : PyData), ss = [.is P] ∧ (∀ R v, P R v → Is d R v) ∧ d ∈ odds ∧ Θ (IsB true)
def S_runs_right : (Addr → Prop) → List Sl → (Pd → Prop) → Prop := fun _ ss Θ => ∃ d e : PyData, ss = [.is (Is d), .is (Is e)] ∧ SeqAt.shaped d = true ∧ SeqAt.shaped e = true ∧ e.depth ≤ 63 ∧ Θ (IsB true)
def t_kinds (K : PySem.W.Frag) : TS :=
(tSeq (tAsg (tLst (tCons (tCB (rIsX K) (tCons (tVar 0) (tCons (tC (.ref (He.ga K "BadBlocks"))) tNil))) (tCons (tCB (rIsX K) (tCons (tVar 0) (tCons (tC (.ref (He.ga K "BadCount"))) tNil))) (tCons (tCB (rIsX K) (tCons (tVar 0) (tCons (tC (.ref (He.ga K "BadCover"))) tNil))) tNil)))) (gName 1))
  (tSeq (tAsg (tOp (qAdd K) (tVar 1) (tLst (tCons (tCB (rIsX K) (tCons (tVar 0) (tCons (tC (.ref (He.ga K "BadEntry"))) tNil))) (tCons (tCB (rIsX K) (tCons (tVar 0) (tCons (tC (.ref (He.ga K "BadIns"))) tNil))) (tCons (tCB (rIsX K) (tCons (tVar 0) (tCons (tC (.ref (He.ga K "BadJump"))) tNil))) tNil))))) (gName 1))
  (tSeq (tAsg (tOp (qAdd K) (tVar 1) (tLst (tCons (tCB (rIsX K) (tCons (tVar 0) (tCons (tC (.ref (He.ga K "BadNumber"))) tNil))) (tCons (tCB (rIsX K) (tCons (tVar 0) (tCons (tC (.ref (He.ga K "BadProgram"))) tNil))) tNil)))) (gName 1))
  (tSeq (tAsg (tOp (qAdd K) (tVar 1) (tLst (tCons (tCB (rIsX K) (tCons (tVar 0) (tCons (tC (.ref (He.ga K "BadText"))) tNil))) (tCons (tCB (rIsX K) (tCons (tVar 0) (tCons (tC (.ref (He.ga K "NoBlock"))) tNil))) tNil)))) (gName 1))
  (tSeq (tAsg (tOp (qAdd K) (tVar 1) (tLst (tCons (tCB (rIsX K) (tCons (tVar 0) (tCons (tC (.ref (He.ga K "NoCeiling"))) tNil))) (tCons (tCB (rIsX K) (tCons (tVar 0) (tCons (tC (.ref (He.ga K "NoFloor"))) tNil))) (tCons (tCB (rIsX K) (tCons (tVar 0) (tCons (tC (.ref (He.ga K "NoItem"))) tNil))) tNil))))) (gName 1))
  (tSeq (tAsg (tOp (qAdd K) (tVar 1) (tLst (tCons (tCB (rIsX K) (tCons (tVar 0) (tCons (tC (.ref (He.ga K "NoJump"))) tNil))) (tCons (tCB (rIsX K) (tCons (tVar 0) (tCons (tC (.ref (He.ga K "NoMark"))) tNil))) (tCons (tCB (rIsX K) (tCons (tVar 0) (tCons (tC (.ref (He.ga K "NoRun"))) tNil))) tNil))))) (gName 1))
  (tSeq (tAsg (tOp (qAdd K) (tVar 1) (tLst (tCons (tCB (rIsX K) (tCons (tVar 0) (tCons (tC (.ref (He.ga K "NotEnough"))) tNil))) (tCons (tCB (rIsX K) (tCons (tVar 0) (tCons (tC (.ref (He.ga K "NotInner"))) tNil))) (tCons (tCB (rIsX K) (tCons (tVar 0) (tCons (tC (.ref (He.ga K "NotPassed"))) tNil))) tNil))))) (gName 1))
  (tSeq (tAsg (tOp (qAdd K) (tVar 1) (tLst (tCons (tCB (rIsX K) (tCons (tVar 0) (tCons (tC (.ref (He.ga K "NotPossible"))) tNil))) (tCons (tCB (rIsX K) (tCons (tVar 0) (tCons (tC (.ref (He.ga K "NotSeen"))) tNil))) (tCons (tCB (rIsX K) (tCons (tVar 0) (tCons (tC (.ref (He.ga K "NotTwins"))) tNil))) tNil))))) (gName 1))
  (tSeq (tAsg (tOp (qAdd K) (tVar 1) (tLst (tCons (tCB (rIsX K) (tCons (tVar 0) (tCons (tC (.ref (He.ga K "OtherCounts"))) tNil))) (tCons (tCB (rIsX K) (tCons (tVar 0) (tCons (tC (.ref (He.ga K "OtherRoutine"))) tNil))) tNil)))) (gName 1))
  (tRet (tOp (qAdd K) (tVar 1) (tLst (tCons (tCB (rIsX K) (tCons (tVar 0) (tCons (tC (.ref (He.ga K "TooLarge"))) tNil))) (tCons (tCB (rIsX K) (tCons (tVar 0) (tCons (tC (.ref (He.ga K "Uneven"))) tNil))) tNil))))))))))))))
def t_numbers_right (K : PySem.W.Frag) : TS :=
(tSeq (tAsg (tLst (tCons (tXfl K (tXn (He.ga K "BadCount") 1 0 gPos (spX1 (He.ga K "BadCount") "at") (tCons (tVar 0) tNil) tNil) "at") (tCons (tXfl K (tXn (He.ga K "BadEntry") 1 0 gPos (spX1 (He.ga K "BadEntry") "at") (tCons (tVar 0) tNil) tNil) "at") (tCons (tXfl K (tXn (He.ga K "BadJump") 1 0 gPos (spX1 (He.ga K "BadJump") "at") (tCons (tVar 0) tNil) tNil) "at") (tCons (tXfl K (tXn (He.ga K "BadText") 1 0 gPos (spX1 (He.ga K "BadText") "line") (tCons (tVar 0) tNil) tNil) "line") (tCons (tXfl K (tXn (He.ga K "TooLarge") 1 0 gPos (spX1 (He.ga K "TooLarge") "bound") (tCons (tVar 0) tNil) tNil) "bound") tNil)))))) (gName 1))
  (tSeq (tAsg (tOp (qAdd K) (tVar 1) (tLst (tCons (tXfl K (tXn (He.ga K "BadCount") 0 1 gKw (spX1 (He.ga K "BadCount") "at") tNil (tCons (tVar 0) tNil)) "at") (tCons (tXfl K (tXn (He.ga K "BadEntry") 0 1 gKw (spX1 (He.ga K "BadEntry") "at") tNil (tCons (tVar 0) tNil)) "at") (tCons (tXfl K (tXn (He.ga K "BadJump") 0 1 gKw (spX1 (He.ga K "BadJump") "at") tNil (tCons (tVar 0) tNil)) "at") (tCons (tXfl K (tXn (He.ga K "BadText") 0 1 gKw (spX1 (He.ga K "BadText") "line") tNil (tCons (tVar 0) tNil)) "line") tNil)))))) (gName 1))
  (tSeq (tAsg (tOp (qAdd K) (tVar 1) (tLst (tCons (tXfl K (tXn (He.ga K "TooLarge") 0 1 gKw (spX1 (He.ga K "TooLarge") "bound") tNil (tCons (tVar 0) tNil)) "bound") (tCons (tXfl K (tXn (He.ga K "Uneven") 1 0 gPos (spX1 (He.ga K "Uneven") "block") (tCons (tVar 0) tNil) tNil) "block") (tCons (tXfl K (tXn (He.ga K "Uneven") 0 1 gKw (spX1 (He.ga K "Uneven") "block") tNil (tCons (tVar 0) tNil)) "block") tNil))))) (gName 1))
  (tSeq (tAsg (tOp (qAdd K) (tVar 1) (tLst (tCons (tXfl K (tXn (He.ga K "BadProgram") 1 0 gPos (spX1 (He.ga K "BadProgram") "at") (tCons (tVar 0) tNil) tNil) "at") (tCons (tXfl K (tXn (He.ga K "BadProgram") 0 1 gKw (spX1 (He.ga K "BadProgram") "at") tNil (tCons (tVar 0) tNil)) "at") tNil)))) (gName 1))
  (tSeq (tAsg (tOp (qAdd K) (tVar 1) (tLst (tCons (tXfl K (tXn (He.ga K "NotPossible") 2 0 gPos (spX2 (He.ga K "NotPossible") "least" "greatest") (tCons (tVar 0) (tCons (tC (.int 5)) tNil)) tNil) "least") (tCons (tXfl K (tXn (He.ga K "NotPossible") 2 0 gPos (spX2 (He.ga K "NotPossible") "least" "greatest") (tCons (tC (.int 5)) (tCons (tVar 0) tNil)) tNil) "greatest") tNil)))) (gName 1))
  (tSeq (tAsg (tOp (qAdd K) (tVar 1) (tLst (tCons (tXfl K (tXn (He.ga K "NotPossible") 0 2 gKw2 (spX2 (He.ga K "NotPossible") "least" "greatest") tNil (tCons (tC (.int 5)) (tCons (tVar 0) tNil))) "least") (tCons (tXfl K (tXn (He.ga K "NotPossible") 0 2 gKw2 (spX2 (He.ga K "NotPossible") "least" "greatest") tNil (tCons (tVar 0) (tCons (tC (.int 5)) tNil))) "greatest") tNil)))) (gName 1))
  (tRet (tOp (qEq K) (tVar 1) (tOp (qMul) (tLst (tCons (tVar 0) tNil)) (tC (.int 18)))))))))))
def t_others_right (K : PySem.W.Frag) : TS :=
(tSeq (tAsg (tLst (tCons (tXfl K (tXn (He.ga K "NoBlock") 1 0 gPos (spX1 (He.ga K "NoBlock") "block") (tCons (tVar 0) tNil) tNil) "block") (tCons (tXfl K (tXn (He.ga K "NoItem") 1 0 gPos (spX1 (He.ga K "NoItem") "item") (tCons (tVar 0) tNil) tNil) "item") (tCons (tXfl K (tXn (He.ga K "NoJump") 1 0 gPos (spX1 (He.ga K "NoJump") "jump") (tCons (tVar 0) tNil) tNil) "jump") (tCons (tXfl K (tXn (He.ga K "NoMark") 1 0 gPos (spX1 (He.ga K "NoMark") "number") (tCons (tVar 0) tNil) tNil) "number") (tCons (tXfl K (tXn (He.ga K "NoRun") 1 0 gPos (spX1 (He.ga K "NoRun") "run") (tCons (tVar 0) tNil) tNil) "run") tNil)))))) (gName 1))
  (tSeq (tAsg (tOp (qAdd K) (tVar 1) (tLst (tCons (tXfl K (tXn (He.ga K "NotInner") 1 0 gPos (spX1 (He.ga K "NotInner") "block") (tCons (tVar 0) tNil) tNil) "block") (tCons (tXfl K (tXn (He.ga K "NotPassed") 1 0 gPos (spX1 (He.ga K "NotPassed") "block") (tCons (tVar 0) tNil) tNil) "block") tNil)))) (gName 1))
  (tSeq (tAsg (tOp (qAdd K) (tVar 1) (tLst (tCons (tXfl K (tXn (He.ga K "NoBlock") 0 1 gKw (spX1 (He.ga K "NoBlock") "block") tNil (tCons (tVar 0) tNil)) "block") (tCons (tXfl K (tXn (He.ga K "NoItem") 0 1 gKw (spX1 (He.ga K "NoItem") "item") tNil (tCons (tVar 0) tNil)) "item") tNil)))) (gName 1))
  (tSeq (tAsg (tOp (qAdd K) (tVar 1) (tLst (tCons (tXfl K (tXn (He.ga K "NoJump") 0 1 gKw (spX1 (He.ga K "NoJump") "jump") tNil (tCons (tVar 0) tNil)) "jump") (tCons (tXfl K (tXn (He.ga K "NoMark") 0 1 gKw (spX1 (He.ga K "NoMark") "number") tNil (tCons (tVar 0) tNil)) "number") (tCons (tXfl K (tXn (He.ga K "NoRun") 0 1 gKw (spX1 (He.ga K "NoRun") "run") tNil (tCons (tVar 0) tNil)) "run") tNil))))) (gName 1))
  (tSeq (tAsg (tOp (qAdd K) (tVar 1) (tLst (tCons (tXfl K (tXn (He.ga K "NotInner") 0 1 gKw (spX1 (He.ga K "NotInner") "block") tNil (tCons (tVar 0) tNil)) "block") (tCons (tXfl K (tXn (He.ga K "NotPassed") 0 1 gKw (spX1 (He.ga K "NotPassed") "block") tNil (tCons (tVar 0) tNil)) "block") tNil)))) (gName 1))
  (tRet (tOp (qEq K) (tCB (qRepr K) (tCons (tVar 1) tNil)) (tCB (qRepr K) (tCons (tOp (qMul) (tLst (tCons (tVar 0) tNil)) (tC (.int 14))) tNil)))))))))
def t_runs_right (K : PySem.W.Frag) : TS :=
(tSeq (tIfS (tOr (tTest (tOp (qNe K) (tXfl K (tXn (He.ga K "NotEnough") 1 0 gPos (spX1 (He.ga K "NotEnough") "run") (tCons (tVar 0) tNil) tNil) "run") (tVar 0))) (tTest (tOp (qNe K) (tXfl K (tXn (He.ga K "NotEnough") 0 1 gKw (spX1 (He.ga K "NotEnough") "run") tNil (tCons (tVar 0) tNil)) "run") (tVar 0)))) (tRet (tC (.bl false))) tNext)
  (tSeq (tAsg (tLst (tCons (tXfl K (tXn (He.ga K "NotSeen") 1 0 gPos (spX1 (He.ga K "NotSeen") "jump") (tCons (tVar 1) tNil) tNil) "jump") (tCons (tXfl K (tXn (He.ga K "OtherCounts") 1 0 gPos (spX1 (He.ga K "OtherCounts") "jump") (tCons (tVar 1) tNil) tNil) "jump") tNil))) (gName 2))
  (tSeq (tAsg (tOp (qAdd K) (tVar 2) (tLst (tCons (tXfl K (tXn (He.ga K "NotSeen") 0 1 gKw (spX1 (He.ga K "NotSeen") "jump") tNil (tCons (tVar 1) tNil)) "jump") (tCons (tXfl K (tXn (He.ga K "OtherCounts") 0 1 gKw (spX1 (He.ga K "OtherCounts") "jump") tNil (tCons (tVar 1) tNil)) "jump") tNil)))) (gName 2))
  (tRet (tOp (qEq K) (tVar 2) (tOp (qMul) (tLst (tCons (tVar 1) tNil)) (tC (.int 4))))))))
section
variable {K : PySem.W.Frag} {S : Addr → Prop} {R H : Hp} {ss : List Sl} {Θ : Pd → Prop}
theorem rd_kinds (T : KF K) (h : S_kinds K S ss Θ) : Blk S R H (t_kinds K) (ss ++ List.replicate (2 - ss.length) .no) Θ (fun _ => Θ (Is .none)) (fun _ => False) (fun _ => False) := by
  obtain ⟨i, hi, rfl, k⟩ := h
  refine b_seq (b_asg (ev_lstD (ea_cons (ev_cb (ea_cons (ev_var rfl (ea_cons (ev_c (ea_nil (c_isX (.own _) (.inl ⟨_, rfl, T.xi i hi⟩) (T.kit i 0 hi (by decide)) (ea_cons (ev_cb (ea_cons (ev_var rfl (ea_cons (ev_c (ea_nil (c_isX (.own _) (.inl ⟨_, rfl, T.xi i hi⟩) (T.kit i 1 hi (by decide)) (ea_cons (ev_cb (ea_cons (ev_var rfl (ea_cons (ev_c (ea_nil (c_isX (.own _) (.inl ⟨_, rfl, T.xi i hi⟩) (T.kit i 2 hi (by decide)) (ea_nil ⟨[_, _, _], _, rfl, (Nat.le_of_ble_eq_true rfl), (.cons td_B (.cons td_B (.cons td_B .nil))), ?_⟩)))))))))))))))))))))))))))
  refine b_seq (b_asg (ev_catD (ev_var rfl ⟨_, td_L, (ev_lstD (ea_cons (ev_cb (ea_cons (ev_var rfl (ea_cons (ev_c (ea_nil (c_isX (.own _) (.inl ⟨_, rfl, T.xi i hi⟩) (T.kit i 3 hi (by decide)) (ea_cons (ev_cb (ea_cons (ev_var rfl (ea_cons (ev_c (ea_nil (c_isX (.own _) (.inl ⟨_, rfl, T.xi i hi⟩) (T.kit i 4 hi (by decide)) (ea_cons (ev_cb (ea_cons (ev_var rfl (ea_cons (ev_c (ea_nil (c_isX (.own _) (.inl ⟨_, rfl, T.xi i hi⟩) (T.kit i 5 hi (by decide)) (ea_nil ⟨[_, _, _], _, rfl, (Nat.le_of_ble_eq_true rfl), (.cons td_B (.cons td_B (.cons td_B .nil))), ⟨_, td_L, (Nat.le_of_ble_eq_true rfl), ?_⟩⟩))))))))))))))))))))))))))⟩)))
  refine b_seq (b_asg (ev_catD (ev_var rfl ⟨_, td_L, (ev_lstD (ea_cons (ev_cb (ea_cons (ev_var rfl (ea_cons (ev_c (ea_nil (c_isX (.own _) (.inl ⟨_, rfl, T.xi i hi⟩) (T.kit i 6 hi (by decide)) (ea_cons (ev_cb (ea_cons (ev_var rfl (ea_cons (ev_c (ea_nil (c_isX (.own _) (.inl ⟨_, rfl, T.xi i hi⟩) (T.kit i 7 hi (by decide)) (ea_nil ⟨[_, _], _, rfl, (Nat.le_of_ble_eq_true rfl), (.cons td_B (.cons td_B .nil)), ⟨_, td_L, (Nat.le_of_ble_eq_true rfl), ?_⟩⟩))))))))))))))))))⟩)))
  refine b_seq (b_asg (ev_catD (ev_var rfl ⟨_, td_L, (ev_lstD (ea_cons (ev_cb (ea_cons (ev_var rfl (ea_cons (ev_c (ea_nil (c_isX (.own _) (.inl ⟨_, rfl, T.xi i hi⟩) (T.kit i 8 hi (by decide)) (ea_cons (ev_cb (ea_cons (ev_var rfl (ea_cons (ev_c (ea_nil (c_isX (.own _) (.inl ⟨_, rfl, T.xi i hi⟩) (T.kit i 9 hi (by decide)) (ea_nil ⟨[_, _], _, rfl, (Nat.le_of_ble_eq_true rfl), (.cons td_B (.cons td_B .nil)), ⟨_, td_L, (Nat.le_of_ble_eq_true rfl), ?_⟩⟩))))))))))))))))))⟩)))
  refine b_seq (b_asg (ev_catD (ev_var rfl ⟨_, td_L, (ev_lstD (ea_cons (ev_cb (ea_cons (ev_var rfl (ea_cons (ev_c (ea_nil (c_isX (.own _) (.inl ⟨_, rfl, T.xi i hi⟩) (T.kit i 10 hi (by decide)) (ea_cons (ev_cb (ea_cons (ev_var rfl (ea_cons (ev_c (ea_nil (c_isX (.own _) (.inl ⟨_, rfl, T.xi i hi⟩) (T.kit i 11 hi (by decide)) (ea_cons (ev_cb (ea_cons (ev_var rfl (ea_cons (ev_c (ea_nil (c_isX (.own _) (.inl ⟨_, rfl, T.xi i hi⟩) (T.kit i 12 hi (by decide)) (ea_nil ⟨[_, _, _], _, rfl, (Nat.le_of_ble_eq_true rfl), (.cons td_B (.cons td_B (.cons td_B .nil))), ⟨_, td_L, (Nat.le_of_ble_eq_true rfl), ?_⟩⟩))))))))))))))))))))))))))⟩)))
  refine b_seq (b_asg (ev_catD (ev_var rfl ⟨_, td_L, (ev_lstD (ea_cons (ev_cb (ea_cons (ev_var rfl (ea_cons (ev_c (ea_nil (c_isX (.own _) (.inl ⟨_, rfl, T.xi i hi⟩) (T.kit i 13 hi (by decide)) (ea_cons (ev_cb (ea_cons (ev_var rfl (ea_cons (ev_c (ea_nil (c_isX (.own _) (.inl ⟨_, rfl, T.xi i hi⟩) (T.kit i 14 hi (by decide)) (ea_cons (ev_cb (ea_cons (ev_var rfl (ea_cons (ev_c (ea_nil (c_isX (.own _) (.inl ⟨_, rfl, T.xi i hi⟩) (T.kit i 15 hi (by decide)) (ea_nil ⟨[_, _, _], _, rfl, (Nat.le_of_ble_eq_true rfl), (.cons td_B (.cons td_B (.cons td_B .nil))), ⟨_, td_L, (Nat.le_of_ble_eq_true rfl), ?_⟩⟩))))))))))))))))))))))))))⟩)))
  refine b_seq (b_asg (ev_catD (ev_var rfl ⟨_, td_L, (ev_lstD (ea_cons (ev_cb (ea_cons (ev_var rfl (ea_cons (ev_c (ea_nil (c_isX (.own _) (.inl ⟨_, rfl, T.xi i hi⟩) (T.kit i 16 hi (by decide)) (ea_cons (ev_cb (ea_cons (ev_var rfl (ea_cons (ev_c (ea_nil (c_isX (.own _) (.inl ⟨_, rfl, T.xi i hi⟩) (T.kit i 17 hi (by decide)) (ea_cons (ev_cb (ea_cons (ev_var rfl (ea_cons (ev_c (ea_nil (c_isX (.own _) (.inl ⟨_, rfl, T.xi i hi⟩) (T.kit i 18 hi (by decide)) (ea_nil ⟨[_, _, _], _, rfl, (Nat.le_of_ble_eq_true rfl), (.cons td_B (.cons td_B (.cons td_B .nil))), ⟨_, td_L, (Nat.le_of_ble_eq_true rfl), ?_⟩⟩))))))))))))))))))))))))))⟩)))
  refine b_seq (b_asg (ev_catD (ev_var rfl ⟨_, td_L, (ev_lstD (ea_cons (ev_cb (ea_cons (ev_var rfl (ea_cons (ev_c (ea_nil (c_isX (.own _) (.inl ⟨_, rfl, T.xi i hi⟩) (T.kit i 19 hi (by decide)) (ea_cons (ev_cb (ea_cons (ev_var rfl (ea_cons (ev_c (ea_nil (c_isX (.own _) (.inl ⟨_, rfl, T.xi i hi⟩) (T.kit i 20 hi (by decide)) (ea_cons (ev_cb (ea_cons (ev_var rfl (ea_cons (ev_c (ea_nil (c_isX (.own _) (.inl ⟨_, rfl, T.xi i hi⟩) (T.kit i 21 hi (by decide)) (ea_nil ⟨[_, _, _], _, rfl, (Nat.le_of_ble_eq_true rfl), (.cons td_B (.cons td_B (.cons td_B .nil))), ⟨_, td_L, (Nat.le_of_ble_eq_true rfl), ?_⟩⟩))))))))))))))))))))))))))⟩)))
  refine b_seq (b_asg (ev_catD (ev_var rfl ⟨_, td_L, (ev_lstD (ea_cons (ev_cb (ea_cons (ev_var rfl (ea_cons (ev_c (ea_nil (c_isX (.own _) (.inl ⟨_, rfl, T.xi i hi⟩) (T.kit i 22 hi (by decide)) (ea_cons (ev_cb (ea_cons (ev_var rfl (ea_cons (ev_c (ea_nil (c_isX (.own _) (.inl ⟨_, rfl, T.xi i hi⟩) (T.kit i 23 hi (by decide)) (ea_nil ⟨[_, _], _, rfl, (Nat.le_of_ble_eq_true rfl), (.cons td_B (.cons td_B .nil)), ⟨_, td_L, (Nat.le_of_ble_eq_true rfl), ?_⟩⟩))))))))))))))))))⟩)))
  refine b_ret (ev_catD (ev_var rfl ⟨_, td_L, (ev_lstD (ea_cons (ev_cb (ea_cons (ev_var rfl (ea_cons (ev_c (ea_nil (c_isX (.own _) (.inl ⟨_, rfl, T.xi i hi⟩) (T.kit i 24 hi (by decide)) (ea_cons (ev_cb (ea_cons (ev_var rfl (ea_cons (ev_c (ea_nil (c_isX (.own _) (.inl ⟨_, rfl, T.xi i hi⟩) (T.kit i 25 hi (by decide)) (ea_nil ⟨[_, _], _, rfl, (Nat.le_of_ble_eq_true rfl), (.cons td_B (.cons td_B .nil)), ⟨_, td_L, (Nat.le_of_ble_eq_true rfl), ?_⟩⟩))))))))))))))))))⟩))
  exact k
theorem rd_numbers_right (T : KF K) (h : S_numbers_right S ss Θ) : Blk S R H (t_numbers_right K) (ss ++ List.replicate (2 - ss.length) .no) Θ (fun _ => Θ (Is .none)) (fun _ => False) (fun _ => False) := by
  obtain ⟨n, rfl, k⟩ := h
  refine b_seq (b_asg (ev_lstD (ea_cons (ev_xfl (T.xf 1 (by decide)) (T.fl "BadCount" "at" (by decide)) (ev_xn1 (ev_var rfl fun m => ⟨_, _, rfl, rfl, m, (ea_cons (ev_xfl (T.xf 3 (by decide)) (T.fl "BadEntry" "at" (by decide)) (ev_xn1 (ev_var rfl fun m => ⟨_, _, rfl, rfl, m, (ea_cons (ev_xfl (T.xf 5 (by decide)) (T.fl "BadJump" "at" (by decide)) (ev_xn1 (ev_var rfl fun m => ⟨_, _, rfl, rfl, m, (ea_cons (ev_xfl (T.xf 8 (by decide)) (T.fl "BadText" "line" (by decide)) (ev_xn1 (ev_var rfl fun m => ⟨_, _, rfl, rfl, m, (ea_cons (ev_xfl (T.xf 24 (by decide)) (T.fl "TooLarge" "bound" (by decide)) (ev_xn1 (ev_var rfl fun m => ⟨_, _, rfl, rfl, m, (ea_nil ⟨[_, _, _, _, _], _, rfl, (Nat.le_of_ble_eq_true rfl), (.cons td_I (.cons td_I (.cons td_I (.cons td_I (.cons td_I .nil))))), ?_⟩)⟩))))⟩))))⟩))))⟩))))⟩))))))
  refine b_seq (b_asg (ev_catD (ev_var rfl ⟨_, td_L, (ev_lstD (ea_cons (ev_xfl (T.xf 1 (by decide)) (T.fl "BadCount" "at" (by decide)) (ev_xn1k (ev_var rfl fun m => ⟨_, _, rfl, rfl, m, (ea_cons (ev_xfl (T.xf 3 (by decide)) (T.fl "BadEntry" "at" (by decide)) (ev_xn1k (ev_var rfl fun m => ⟨_, _, rfl, rfl, m, (ea_cons (ev_xfl (T.xf 5 (by decide)) (T.fl "BadJump" "at" (by decide)) (ev_xn1k (ev_var rfl fun m => ⟨_, _, rfl, rfl, m, (ea_cons (ev_xfl (T.xf 8 (by decide)) (T.fl "BadText" "line" (by decide)) (ev_xn1k (ev_var rfl fun m => ⟨_, _, rfl, rfl, m, (ea_nil ⟨[_, _, _, _], _, rfl, (Nat.le_of_ble_eq_true rfl), (.cons td_I (.cons td_I (.cons td_I (.cons td_I .nil)))), ⟨_, td_L, (Nat.le_of_ble_eq_true rfl), ?_⟩⟩)⟩))))⟩))))⟩))))⟩)))))⟩)))
  refine b_seq (b_asg (ev_catD (ev_var rfl ⟨_, td_L, (ev_lstD (ea_cons (ev_xfl (T.xf 24 (by decide)) (T.fl "TooLarge" "bound" (by decide)) (ev_xn1k (ev_var rfl fun m => ⟨_, _, rfl, rfl, m, (ea_cons (ev_xfl (T.xf 25 (by decide)) (T.fl "Uneven" "block" (by decide)) (ev_xn1 (ev_var rfl fun m => ⟨_, _, rfl, rfl, m, (ea_cons (ev_xfl (T.xf 25 (by decide)) (T.fl "Uneven" "block" (by decide)) (ev_xn1k (ev_var rfl fun m => ⟨_, _, rfl, rfl, m, (ea_nil ⟨[_, _, _], _, rfl, (Nat.le_of_ble_eq_true rfl), (.cons td_I (.cons td_I (.cons td_I .nil))), ⟨_, td_L, (Nat.le_of_ble_eq_true rfl), ?_⟩⟩)⟩))))⟩))))⟩)))))⟩)))
  refine b_seq (b_asg (ev_catD (ev_var rfl ⟨_, td_L, (ev_lstD (ea_cons (ev_xfl (T.xf 7 (by decide)) (T.fl "BadProgram" "at" (by decide)) (ev_xn1 (ev_var rfl fun m => ⟨_, _, rfl, rfl, m, (ea_cons (ev_xfl (T.xf 7 (by decide)) (T.fl "BadProgram" "at" (by decide)) (ev_xn1k (ev_var rfl fun m => ⟨_, _, rfl, rfl, m, (ea_nil ⟨[_, _], _, rfl, (Nat.le_of_ble_eq_true rfl), (.cons td_I (.cons td_I .nil)), ⟨_, td_L, (Nat.le_of_ble_eq_true rfl), ?_⟩⟩)⟩))))⟩)))))⟩)))
  refine b_seq (b_asg (ev_catD (ev_var rfl ⟨_, td_L, (ev_lstD (ea_cons (ev_xfl (T.xf 19 (by decide)) (T.fl "NotPossible" "least" (by decide)) (ev_xn2 (ev_var rfl (ev_int fun m1 m2 => ⟨_, _, rfl, rfl, m1, (ea_cons (ev_xfl (T.xf 19 (by decide)) (T.fl "NotPossible" "greatest" (by decide)) (ev_xn2 (ev_int (ev_var rfl fun m1 m2 => ⟨_, _, rfl, rfl, m2, (ea_nil ⟨[_, _], _, rfl, (Nat.le_of_ble_eq_true rfl), (.cons td_I (.cons td_I .nil)), ⟨_, td_L, (Nat.le_of_ble_eq_true rfl), ?_⟩⟩)⟩)))))⟩))))))⟩)))
  refine b_seq (b_asg (ev_catD (ev_var rfl ⟨_, td_L, (ev_lstD (ea_cons (ev_xfl (T.xf 19 (by decide)) (T.fl "NotPossible" "least" (by decide)) (ev_xn2k (ev_int (ev_var rfl fun m1 m2 => ⟨_, _, rfl, rfl, m1, (ea_cons (ev_xfl (T.xf 19 (by decide)) (T.fl "NotPossible" "greatest" (by decide)) (ev_xn2k (ev_var rfl (ev_int fun m1 m2 => ⟨_, _, rfl, rfl, m2, (ea_nil ⟨[_, _], _, rfl, (Nat.le_of_ble_eq_true rfl), (.cons td_I (.cons td_I .nil)), ⟨_, td_L, (Nat.le_of_ble_eq_true rfl), ?_⟩⟩)⟩)))))⟩))))))⟩)))
  refine b_ret (ev_op (ev_var rfl (ev_repD (by decide) (ev_lstD (ea_cons (ev_var rfl (ea_nil ⟨[_], _, rfl, (Nat.le_of_ble_eq_true rfl), (.cons td_I .nil), ⟨_, td_L, (ev_int ⟨rfl, (Nat.le_of_ble_eq_true rfl), (by decide), (o_eqD td_L td_L ?_ ?_ ?_)⟩)⟩⟩)))))))
  all_goals first | exact shI n 18 | skip
  have e : (List.replicate (Int.toNat 18) [PyData.int n]).flatten = List.replicate 18 (PyData.int n) := rfl
  show Θ (IsB (PyData.eqv (.list (List.replicate 18 (PyData.int n))) (.list (List.replicate 18 (PyData.int n)))))
  rw [eqv_sh (shI n 18)]
  exact k
theorem rd_others_right (T : KF K) (h : S_others_right S ss Θ) : Blk S R H (t_others_right K) (ss ++ List.replicate (2 - ss.length) .no) Θ (fun _ => Θ (Is .none)) (fun _ => False) (fun _ => False) := by
  obtain ⟨P, d, rfl, hP, hd, k⟩ := h
  have z := List.all_eq_true.mp odds_ok d hd
  simp only [Bool.and_eq_true, decide_eq_true_eq, Bool.not_eq_true'] at z
  obtain ⟨⟨⟨o1, o2⟩, o3⟩, o4⟩ := z
  refine b_seq (b_asg (ev_lstD (ea_cons (ev_xfl (T.xf 9 (by decide)) (T.fl "NoBlock" "block" (by decide)) (ev_xn1 (ev_var rfl fun m => ⟨_, _, rfl, rfl, m, (ea_cons (ev_xfl (T.xf 12 (by decide)) (T.fl "NoItem" "item" (by decide)) (ev_xn1 (ev_var rfl fun m => ⟨_, _, rfl, rfl, m, (ea_cons (ev_xfl (T.xf 13 (by decide)) (T.fl "NoJump" "jump" (by decide)) (ev_xn1 (ev_var rfl fun m => ⟨_, _, rfl, rfl, m, (ea_cons (ev_xfl (T.xf 14 (by decide)) (T.fl "NoMark" "number" (by decide)) (ev_xn1 (ev_var rfl fun m => ⟨_, _, rfl, rfl, m, (ea_cons (ev_xfl (T.xf 15 (by decide)) (T.fl "NoRun" "run" (by decide)) (ev_xn1 (ev_var rfl fun m => ⟨_, _, rfl, rfl, m, (ea_nil ⟨[_, _, _, _, _], _, rfl, (Nat.le_of_ble_eq_true rfl), (.cons hP (.cons hP (.cons hP (.cons hP (.cons hP .nil))))), ?_⟩)⟩))))⟩))))⟩))))⟩))))⟩))))))
  refine b_seq (b_asg (ev_catD (ev_var rfl ⟨_, td_L, (ev_lstD (ea_cons (ev_xfl (T.xf 17 (by decide)) (T.fl "NotInner" "block" (by decide)) (ev_xn1 (ev_var rfl fun m => ⟨_, _, rfl, rfl, m, (ea_cons (ev_xfl (T.xf 18 (by decide)) (T.fl "NotPassed" "block" (by decide)) (ev_xn1 (ev_var rfl fun m => ⟨_, _, rfl, rfl, m, (ea_nil ⟨[_, _], _, rfl, (Nat.le_of_ble_eq_true rfl), (.cons hP (.cons hP .nil)), ⟨_, td_L, (Nat.le_of_ble_eq_true rfl), ?_⟩⟩)⟩))))⟩)))))⟩)))
  refine b_seq (b_asg (ev_catD (ev_var rfl ⟨_, td_L, (ev_lstD (ea_cons (ev_xfl (T.xf 9 (by decide)) (T.fl "NoBlock" "block" (by decide)) (ev_xn1k (ev_var rfl fun m => ⟨_, _, rfl, rfl, m, (ea_cons (ev_xfl (T.xf 12 (by decide)) (T.fl "NoItem" "item" (by decide)) (ev_xn1k (ev_var rfl fun m => ⟨_, _, rfl, rfl, m, (ea_nil ⟨[_, _], _, rfl, (Nat.le_of_ble_eq_true rfl), (.cons hP (.cons hP .nil)), ⟨_, td_L, (Nat.le_of_ble_eq_true rfl), ?_⟩⟩)⟩))))⟩)))))⟩)))
  refine b_seq (b_asg (ev_catD (ev_var rfl ⟨_, td_L, (ev_lstD (ea_cons (ev_xfl (T.xf 13 (by decide)) (T.fl "NoJump" "jump" (by decide)) (ev_xn1k (ev_var rfl fun m => ⟨_, _, rfl, rfl, m, (ea_cons (ev_xfl (T.xf 14 (by decide)) (T.fl "NoMark" "number" (by decide)) (ev_xn1k (ev_var rfl fun m => ⟨_, _, rfl, rfl, m, (ea_cons (ev_xfl (T.xf 15 (by decide)) (T.fl "NoRun" "run" (by decide)) (ev_xn1k (ev_var rfl fun m => ⟨_, _, rfl, rfl, m, (ea_nil ⟨[_, _, _], _, rfl, (Nat.le_of_ble_eq_true rfl), (.cons hP (.cons hP (.cons hP .nil))), ⟨_, td_L, (Nat.le_of_ble_eq_true rfl), ?_⟩⟩)⟩))))⟩))))⟩)))))⟩)))
  refine b_seq (b_asg (ev_catD (ev_var rfl ⟨_, td_L, (ev_lstD (ea_cons (ev_xfl (T.xf 17 (by decide)) (T.fl "NotInner" "block" (by decide)) (ev_xn1k (ev_var rfl fun m => ⟨_, _, rfl, rfl, m, (ea_cons (ev_xfl (T.xf 18 (by decide)) (T.fl "NotPassed" "block" (by decide)) (ev_xn1k (ev_var rfl fun m => ⟨_, _, rfl, rfl, m, (ea_nil ⟨[_, _], _, rfl, (Nat.le_of_ble_eq_true rfl), (.cons hP (.cons hP .nil)), ⟨_, td_L, (Nat.le_of_ble_eq_true rfl), ?_⟩⟩)⟩))))⟩)))))⟩)))
  refine b_ret (ev_op (ev_cb (ea_cons (ev_var rfl (ea_nil (c_repr td_L ⟨_, .inl rfl⟩ o1 o2 o3 o4 (ev_cb (ea_cons (ev_repD (by decide) (ev_lstD (ea_cons (ev_var rfl (ea_nil ⟨[_], _, rfl, (Nat.le_of_ble_eq_true rfl), (.cons hP .nil), ⟨_, td_L, (ev_int ⟨rfl, (Nat.le_of_ble_eq_true rfl), (by decide), (ea_nil (c_repr td_L ⟨_, .inl rfl⟩ o1 o2 o3 o4 (o_eqS ?_)))⟩)⟩⟩)))))))))))))
  show Θ (IsB (decide ((odd14 d).shown = (odd14 d).shown)))
  rw [decide_eq_true rfl]
  exact k
theorem rd_runs_right (T : KF K) (h : S_runs_right S ss Θ) : Blk S R H (t_runs_right K) (ss ++ List.replicate (3 - ss.length) .no) Θ (fun _ => Θ (Is .none)) (fun _ => False) (fun _ => False) := by
  obtain ⟨d, e, rfl, h1, h2, h3, k⟩ := h
  refine b_seq (b_if (et_or (et_test (ev_op (ev_xfl (T.xf 16 (by decide)) (T.fl "NotEnough" "run" (by decide)) (ev_xn1 (ev_var rfl fun m => ⟨_, _, rfl, rfl, m, ev_var rfl (o_neD td_D td_D h1 h1 ⟨_, isB, ?_⟩)⟩)))))))
  rw [eqv_sh h1]
  refine et_test (ev_op (ev_xfl (T.xf 16 (by decide)) (T.fl "NotEnough" "run" (by decide)) (ev_xn1k (ev_var rfl fun m => ⟨_, _, rfl, rfl, m, ev_var rfl (o_neD td_D td_D h1 h1 ⟨_, isB, ?_⟩)⟩))))
  rw [eqv_sh h1]
  refine b_next ?_
  refine b_seq (b_asg (ev_lstD (ea_cons (ev_xfl (T.xf 20 (by decide)) (T.fl "NotSeen" "jump" (by decide)) (ev_xn1 (ev_var rfl fun m => ⟨_, _, rfl, rfl, m, (ea_cons (ev_xfl (T.xf 22 (by decide)) (T.fl "OtherCounts" "jump" (by decide)) (ev_xn1 (ev_var rfl fun m => ⟨_, _, rfl, rfl, m, (ea_nil ⟨[_, _], _, rfl, (Nat.le_of_ble_eq_true rfl), (.cons td_D (.cons td_D .nil)), ?_⟩)⟩))))⟩))))))
  refine b_seq (b_asg (ev_catD (ev_var rfl ⟨_, td_L, (ev_lstD (ea_cons (ev_xfl (T.xf 20 (by decide)) (T.fl "NotSeen" "jump" (by decide)) (ev_xn1k (ev_var rfl fun m => ⟨_, _, rfl, rfl, m, (ea_cons (ev_xfl (T.xf 22 (by decide)) (T.fl "OtherCounts" "jump" (by decide)) (ev_xn1k (ev_var rfl fun m => ⟨_, _, rfl, rfl, m, (ea_nil ⟨[_, _], _, rfl, (Nat.le_of_ble_eq_true rfl), (.cons td_D (.cons td_D .nil)), ⟨_, td_L, (Nat.le_of_ble_eq_true rfl), ?_⟩⟩)⟩))))⟩)))))⟩)))
  refine b_ret (ev_op (ev_var rfl (ev_repD (by decide) (ev_lstD (ea_cons (ev_var rfl (ea_nil ⟨[_], _, rfl, (Nat.le_of_ble_eq_true rfl), (.cons td_D .nil), ⟨_, td_L, (ev_int ⟨rfl, (Nat.le_of_ble_eq_true rfl), (by decide), (o_eqD td_L td_L ?_ ?_ ?_)⟩)⟩⟩)))))))
  all_goals first | exact shE' h2 h3 4 | skip
  show Θ (IsB (PyData.eqv (.list (List.replicate 4 e)) (.list (List.replicate 4 e))))
  rw [eqv_sh (shE' h2 h3 4)]
  exact k
end
end Ru
namespace Ru
open PySem L2 PyProof.Rows
def t_law (K : PySem.W.Frag) : TS :=
(tSeq (tAsg (tLst (tCons (tX0 (He.ga K "BadBlocks")) (tCons (tXn (He.ga K "BadCount") 1 0 gPos (spX1 (He.ga K "BadCount") "at") (tCons (tC (.int 0)) tNil) tNil) (tCons (tX0 (He.ga K "BadCover")) (tCons (tXn (He.ga K "BadEntry") 1 0 gPos (spX1 (He.ga K "BadEntry") "at") (tCons (tC (.int 0)) tNil) tNil) (tCons (tX0 (He.ga K "BadIns")) (tCons (tXn (He.ga K "BadJump") 1 0 gPos (spX1 (He.ga K "BadJump") "at") (tCons (tC (.int 0)) tNil) tNil) (tCons (tX0 (He.ga K "BadNumber")) tNil)))))))) (gName 1))
  (tSeq (tAsg (tOp (qAdd K) (tVar 1) (tLst (tCons (tXn (He.ga K "BadProgram") 1 0 gPos (spX1 (He.ga K "BadProgram") "at") (tCons (tC (.int 0)) tNil) tNil) (tCons (tXn (He.ga K "BadText") 1 0 gPos (spX1 (He.ga K "BadText") "line") (tCons (tC (.int 1)) tNil) tNil) tNil)))) (gName 1))
  (tSeq (tAsg (tOp (qAdd K) (tVar 1) (tLst (tCons (tXn (He.ga K "NoBlock") 1 0 gPos (spX1 (He.ga K "NoBlock") "block") (tCons (tC (.int 9)) tNil) tNil) (tCons (tX0 (He.ga K "NoCeiling")) (tCons (tX0 (He.ga K "NoFloor")) (tCons (tXn (He.ga K "NoItem") 1 0 gPos (spX1 (He.ga K "NoItem") "item") (tCons (tC (.int 9)) tNil) tNil) (tCons (tXn (He.ga K "NoJump") 1 0 gPos (spX1 (He.ga K "NoJump") "jump") (tCons (tTup (tCons (tC (.int 0)) (tCons (tC (.int 1)) tNil))) tNil) tNil) (tCons (tXn (He.ga K "NoMark") 1 0 gPos (spX1 (He.ga K "NoMark") "number") (tCons (tC (.int 1)) tNil) tNil) (tCons (tXn (He.ga K "NoRun") 1 0 gPos (spX1 (He.ga K "NoRun") "run") (tCons (tTup (tCons (tC (.int 0)) (tCons (tC (.int 1)) tNil))) tNil) tNil) tNil))))))))) (gName 1))
  (tSeq (tAsg (tOp (qAdd K) (tVar 1) (tLst (tCons (tXn (He.ga K "NotEnough") 1 0 gPos (spX1 (He.ga K "NotEnough") "run") (tCons (tTup (tCons (tC (.int 0)) (tCons (tC (.int 1)) tNil))) tNil) tNil) (tCons (tXn (He.ga K "NotInner") 1 0 gPos (spX1 (He.ga K "NotInner") "block") (tCons (tC (.int 0)) tNil) tNil) (tCons (tXn (He.ga K "NotPassed") 1 0 gPos (spX1 (He.ga K "NotPassed") "block") (tCons (tC (.int 1)) tNil) tNil) (tCons (tXn (He.ga K "NotPossible") 2 0 gPos (spX2 (He.ga K "NotPossible") "least" "greatest") (tCons (tC (.int 0)) (tCons (tC (.int 1)) tNil)) tNil) (tCons (tXn (He.ga K "NotSeen") 1 0 gPos (spX1 (He.ga K "NotSeen") "jump") (tCons (tTup (tCons (tC (.int 0)) (tCons (tC (.int 1)) tNil))) tNil) tNil) (tCons (tX0 (He.ga K "NotTwins")) tNil)))))))) (gName 1))
  (tSeq (tAsg (tOp (qAdd K) (tVar 1) (tLst (tCons (tXn (He.ga K "OtherCounts") 1 0 gPos (spX1 (He.ga K "OtherCounts") "jump") (tCons (tTup (tCons (tC (.int 0)) (tCons (tC (.int 1)) tNil))) tNil) tNil) (tCons (tX0 (He.ga K "OtherRoutine")) (tCons (tXn (He.ga K "TooLarge") 1 0 gPos (spX1 (He.ga K "TooLarge") "bound") (tCons (tC (.int 40)) tNil) tNil) (tCons (tXn (He.ga K "Uneven") 1 0 gPos (spX1 (He.ga K "Uneven") "block") (tCons (tC (.int 1)) tNil) tNil) tNil)))))) (gName 1))
  (tSeq (tFor (iEnum K (tCons (tVar 1) tNil)) (gTup K 2 (gCons (gName 2) (gCons (gName 3) gNil))) (tSeq (tIfS (tTest (tOp (qNe K) (tCall (pr (S_kinds K)) [] E0 (tCons (tVar 3) tNil)) (tLc (iRng1 (tCons (tC (.int 26)) tNil)) (gName 4) tYes (tOp (qEq K) (tVar 4) (tVar 2)) [4]))) (tRet (tC (.bl false))) tNext)
  (tIfS (tOr (tNot (tB (tCB (rIsX K) (tCons (tVar 3) (tCons (tC (.ref (He.ga K "RunError"))) tNil))))) (tNot (tB (tCB (rIsX K) (tCons (tVar 3) (tCons (tC (.ty "ValueError")) tNil)))))) (tRet (tC (.bl false))) tNext)))
  (tSeq (tFor (iRng1 (tCons (tCB (qMax2) (tCons (tC (.int 1)) (tCons (tCB (qMin2) (tCons (tC (.int 2)) (tCons (tCB (qLen K) (tCons (tVar 0) tNil)) tNil))) tNil))) tNil)) (gName 5) (tSeq (tAsg (tCall (spFeed K) [] E0 (tCons (tVar 0) (tCons (tVar 5) tNil))) (gName 6))
  (tSeq (tIfS (tNot (tB (tCall (pr S_numbers_right) [] E0 (tCons (tCall (pr S_take) [] E0 (tCons (tVar 6) (tCons (tC (.int 99)) tNil))) tNil)))) (tRet (tC (.bl false))) tNext)
  (tSeq (tIfS (tNot (tB (tCall (pr S_others_right) [] E0 (tCons (tCall (pr S_pick) [] E0 (tCons (tVar 6) (tCons (tLst (tCons (tC (.int 7)) (tCons (tC .non) (tCons (tC (.str "x")) (tCons (tTup (tCons (tC (.int 0)) (tCons (tC (.int 1)) tNil))) (tCons (tTup tNil) (tCons (tLst (tCons (tC (.int 0)) (tCons (tC (.int 1)) tNil))) (tCons (tC (.bl true)) (tCons (tOp (qPow) (tC (.int 10)) (tC (.int 30))) tNil))))))))) tNil))) tNil)))) (tRet (tC (.bl false))) tNext)
  (tSeq (tAsg (tCall (pr S_take) [] E0 (tCons (tVar 6) (tCons (tC (.int 20)) tNil))) (gName 7))
  (tIfS (tNot (tB (tCall (pr S_runs_right) [] E0 (tCons (tTup (tCons (tC (.int 0)) (tCons (tOp (qAdd K) (tVar 7) (tC (.int 1))) (tCons (tC (.int 30)) tNil)))) (tCons (tTup (tCons (tVar 7) (tCons (tOp (qAdd K) (tOp (qAdd K) (tVar 7) (tC (.int 1))) (tCall (pr S_take) [] E0 (tCons (tVar 6) (tCons (tC (.int 9)) tNil)))) tNil))) tNil))))) (tRet (tC (.bl false))) tNext))))))
  (tRet (tNotV (tCB (rIsX K) (tCons (tXb "ValueError") (tCons (tC (.ref (He.ga K "RunError"))) tNil))))))))))))
def spLaw (K : PySem.W.Frag) : Sp := fun vs H Q _ => ∃ (a : Addr) (ns : List Int), vs = [.ref a] ∧ SqL K H a (ns.map V.int) ∧ ns.length ≤ 63 ∧ ∀ H', Q (.bl true) H'
theorem layB (g : Nat → Bool) : ∀ l : List Nat, PyData.canLayAll0 (l.map fun j => PyData.bool (g j)) = true ∧ PyData.depthAll (l.map fun j => PyData.bool (g j)) ≤ 0
  | [] => ⟨by simp [PyData.canLayAll0], by simp [PyData.depthAll]⟩
  | x :: l => by
    obtain ⟨h1, h2⟩ := layB g l
    rw [List.map_cons]
    simp only [PyData.canLayAll0, PyData.depthAll, PyData.canLay0, PyData.depth]
    exact ⟨by rw [h1]; rfl, by omega⟩
theorem shB (g : Nat → Bool) (l : List Nat) : SeqAt.shaped (.list (l.map fun j => PyData.bool (g j))) = true := by
  obtain ⟨h1, h2⟩ := layB g l
  refine Bool.and_eq_true_iff.mpr ⟨by simp only [PyData.canLay0]; exact h1, decide_eq_true ?_⟩
  simp only [PyData.depth]
  omega
/-- the state of the law's names: the script, the list made, and what does not matter -/
def WL (ns : List Int) (K : PySem.W.Frag) (P : Pd) : Slots → Prop := fun env => ∃ a b c d e f : Sl, env = [.is (Scr K ns), .is P, a, b, c, d, e, f]
section
variable {K : PySem.W.Frag} {R H : Hp}
theorem rd_law0 (T : KF K) {ns : List Int} (hn : ns.length ≤ 63) : Blk S0 R H (t_law K) ([.is (Scr K ns)] ++ List.replicate 7 .no) (fun P => P = IsB true) (fun _ => False) (fun _ => False) (fun _ => False) := by
  refine b_seq (b_asg (ev_l (el_lst (ea_cons (ev_x0 (ea_cons (ev_asK (fs := []) (ev_xn1 (ev_int fun m => ⟨⟨_, rfl⟩, (ea_cons (ev_x0 (ea_cons (ev_asK (fs := []) (ev_xn1 (ev_int fun m => ⟨⟨_, rfl⟩, (ea_cons (ev_x0 (ea_cons (ev_asK (fs := []) (ev_xn1 (ev_int fun m => ⟨⟨_, rfl⟩, (ea_cons (ev_x0 (ea_nil ⟨[_, _, _, _, _, _, _], rfl, (Nat.le_of_ble_eq_true rfl), ListP _, inferInstance, fun _ _ h => h, ?_⟩)))⟩))))))⟩))))))⟩)))))))))
  refine b_seq (b_asg (ev_l (el_cat (ev_var rfl ⟨_, fun _ _ h => h, MnL.all, ev_l (el_lst (ea_cons (ev_asK (fs := []) (ev_xn1 (ev_int fun m => ⟨⟨_, rfl⟩, (ea_cons (ev_asK (fs := []) (ev_xn1 (ev_int fun m => ⟨⟨_, rfl⟩, (ea_nil ⟨[_, _], rfl, (Nat.le_of_ble_eq_true rfl), ListP _, inferInstance, fun _ _ h => h, _, fun _ _ h => h, MnL.all, (Nat.le_of_ble_eq_true rfl), ListP _, inferInstance, fun _ _ h => h, ?_⟩)⟩))))⟩)))))⟩))))
  refine b_seq (b_asg (ev_l (el_cat (ev_var rfl ⟨_, fun _ _ h => h, MnL.all, ev_l (el_lst (ea_cons (ev_asK (fs := []) (ev_xn1 (ev_int fun m => ⟨⟨_, rfl⟩, (ea_cons (ev_x0 (ea_cons (ev_x0 (ea_cons (ev_asK (fs := []) (ev_xn1 (ev_int fun m => ⟨⟨_, rfl⟩, (ea_cons (ev_asK (fs := []) (ev_xn1 (ev_tup (ea_cons (ev_int (ea_cons (ev_int (ea_nil ⟨[_, _], _, rfl, (Nat.le_of_ble_eq_true rfl), (.cons td_I (.cons td_I .nil)), fun m => ⟨⟨_, rfl⟩, (ea_cons (ev_asK (fs := []) (ev_xn1 (ev_int fun m => ⟨⟨_, rfl⟩, (ea_cons (ev_asK (fs := []) (ev_xn1 (ev_tup (ea_cons (ev_int (ea_cons (ev_int (ea_nil ⟨[_, _], _, rfl, (Nat.le_of_ble_eq_true rfl), (.cons td_I (.cons td_I .nil)), fun m => ⟨⟨_, rfl⟩, (ea_nil ⟨[_, _, _, _, _, _, _], rfl, (Nat.le_of_ble_eq_true rfl), ListP _, inferInstance, fun _ _ h => h, _, fun _ _ h => h, MnL.all, (Nat.le_of_ble_eq_true rfl), ListP _, inferInstance, fun _ _ h => h, ?_⟩)⟩⟩)))))))))⟩))))⟩⟩)))))))))⟩))))))))⟩)))))⟩))))
  refine b_seq (b_asg (ev_l (el_cat (ev_var rfl ⟨_, fun _ _ h => h, MnL.all, ev_l (el_lst (ea_cons (ev_asK (fs := []) (ev_xn1 (ev_tup (ea_cons (ev_int (ea_cons (ev_int (ea_nil ⟨[_, _], _, rfl, (Nat.le_of_ble_eq_true rfl), (.cons td_I (.cons td_I .nil)), fun m => ⟨⟨_, rfl⟩, (ea_cons (ev_asK (fs := []) (ev_xn1 (ev_int fun m => ⟨⟨_, rfl⟩, (ea_cons (ev_asK (fs := []) (ev_xn1 (ev_int fun m => ⟨⟨_, rfl⟩, (ea_cons (ev_asK (fs := []) (ev_xn2 (ev_int (ev_int fun m1 m2 => ⟨⟨_, rfl⟩, (ea_cons (ev_asK (fs := []) (ev_xn1 (ev_tup (ea_cons (ev_int (ea_cons (ev_int (ea_nil ⟨[_, _], _, rfl, (Nat.le_of_ble_eq_true rfl), (.cons td_I (.cons td_I .nil)), fun m => ⟨⟨_, rfl⟩, (ea_cons (ev_x0 (ea_nil ⟨[_, _, _, _, _, _], rfl, (Nat.le_of_ble_eq_true rfl), ListP _, inferInstance, fun _ _ h => h, _, fun _ _ h => h, MnL.all, (Nat.le_of_ble_eq_true rfl), ListP _, inferInstance, fun _ _ h => h, ?_⟩)))⟩⟩)))))))))⟩)))))⟩))))⟩))))⟩⟩))))))))))⟩))))
  refine b_seq (b_asg (ev_l (el_cat (ev_var rfl ⟨_, fun _ _ h => h, MnL.all, ev_l (el_lst (ea_cons (ev_asK (fs := []) (ev_xn1 (ev_tup (ea_cons (ev_int (ea_cons (ev_int (ea_nil ⟨[_, _], _, rfl, (Nat.le_of_ble_eq_true rfl), (.cons td_I (.cons td_I .nil)), fun m => ⟨⟨_, rfl⟩, (ea_cons (ev_x0 (ea_cons (ev_asK (fs := []) (ev_xn1 (ev_int fun m => ⟨⟨_, rfl⟩, (ea_cons (ev_asK (fs := []) (ev_xn1 (ev_int fun m => ⟨⟨_, rfl⟩, (ea_nil ⟨[_, _, _, _], rfl, (Nat.le_of_ble_eq_true rfl), ListP _, inferInstance, fun _ _ h => h, _, fun _ _ h => h, MnL.all, (Nat.le_of_ble_eq_true rfl), ListP _, inferInstance, fun _ _ h => h, ?_⟩)⟩))))⟩))))))⟩⟩))))))))))⟩))))
  refine b_seq (b_for_en (ea_cons (ev_var rfl (ea_nil ⟨_, _, rfl, fun _ _ h => h, MnL.all, fun _ => WL ns K _, ⟨_, _, _, _, _, _, rfl⟩, ?_, ?_⟩))))
  · rintro k p env' hp ⟨a, b, c, d, e, f, rfl⟩
    have hk : k < 26 := (List.getElem?_eq_some_iff.mp hp).1
    have ep : p = XK (.ref (He.ga K (cn k))) := by
      have h2 : ((List.range 26).map fun i => XK (.ref (He.ga K (cn i))))[k]? = some p := hp
      rw [List.getElem?_map, List.getElem?_range hk] at h2
      exact (Option.some.inj h2).symm
    subst ep
    refine b_seq (b_if (et_test (ev_op (ev_call (ea_cons (ev_var rfl (ea_nil ⟨k, hk, rfl, ?_⟩)))))))
    refine ev_lD (el_comp_r1 (ea_cons (ev_int (ea_nil ⟨26, rfl, by decide, by decide, fun _ b => b = true, fun j P => P = IsB (decide ((j : Int) = (k : Int))), fun j hj => et_yes ⟨rfl, fun _ => ?_⟩, fun ps hps => ?_⟩))))
    · exact ev_op (ev_var rfl (ev_var rfl (o_eqI rfl)))
    · have e1 := hps.det (fun _ : Nat => true) (fun j : Nat => IsB (decide ((j : Int) = (k : Int)))) (fun _ _ h => h) (fun _ _ h => h)
      have e2 : (List.range (Int.toNat 26)).filter (fun _ => true) = List.range 26 := rfl
      rw [e2] at e1
      subst e1
      refine ⟨(List.range 26).map fun j : Nat => .bool (decide ((j : Int) = (k : Int))), ToDs.map (fun j => td_B) _, o_neD td_D td_D (shB _ _) (shB _ _) ⟨_, isB, ?_⟩⟩
      have e3 : (List.range 26).map (fun j => PyData.bool (decide (k = j))) = (List.range 26).map (fun j : Nat => PyData.bool (decide ((j : Int) = (k : Int)))) := by
        refine List.map_congr_left fun j _ => ?_
        exact congrArg PyData.bool (decide_eq_decide.mpr ⟨fun z => by rw [z], fun z => by omega⟩)
      rw [e3, eqv_sh (shB _ _)]
      refine b_next (b_if (et_or (et_not (et_B (ev_cb (ea_cons (ev_var rfl (ea_cons (ev_c (ea_nil (c_isX (.own _) (.inl ⟨_, rfl, T.xi k hk⟩) (T.kitR k hk) ⟨_, isB, ?_⟩)))))))))))
      refine et_not (et_B (ev_cb (ea_cons (ev_var rfl (ea_cons (ev_c (ea_nil (c_isX (.ty _) (.inl ⟨_, rfl, T.xi k hk⟩) (T.kitV k hk) ⟨_, isB, ?_⟩))))))))
      exact b_next ⟨_, _, _, _, _, _, rfl⟩
  rintro env' ⟨a, b, c, d, e, f, rfl⟩
  have hb : ∀ n : Int, n ≤ 63 → (if (if n < 2 then n else 2) > 1 then (if n < 2 then n else 2) else 1) ≤ (63 : Int) ∧ (-63 : Int) ≤ (if (if n < 2 then n else 2) > 1 then (if n < 2 then n else 2) else 1) := by
    intro n h
    split <;> split <;> omega
  obtain ⟨hb1, hb2⟩ := hb (ns.length : Int) (by omega)
  refine b_seq (b_for_r1 (ea_cons (ev_cb (ea_cons (ev_int (ea_cons (ev_cb (ea_cons (ev_int (ea_cons (ev_cb (ea_cons (ev_var rfl (ea_nil (c_len_scr (ea_nil (c_min (ea_nil (c_max (ea_nil ⟨_, rfl, by omega, by omega, fun _ => WL ns K _, ⟨_, _, _, _, _, _, rfl⟩, ?_, ?_⟩))))))))))))))))))))
  · rintro k env' hk ⟨a, b, c, d, e, f, rfl⟩
    refine b_feed (ns := ns) (k := (k : Int)) rfl rfl (by omega) (by omega) fun f R1 H1 => ?_
    refine b_seq (b_if (et_not (et_B (ev_call (ea_cons (ev_call (ea_cons (ev_var rfl (ea_cons (ev_int (ea_nil ⟨f, 99, rfl, rfl, by decide, by decide, fun r _ _ => ea_nil ⟨r, rfl, _, isB, ?_⟩⟩)))))))))))
    refine b_next ?_
    refine b_seq (b_if (et_not (et_B (ev_call (ea_cons (ev_call (ea_cons (ev_var rfl (ea_cons (ev_l (el_lst (ea_cons (ev_int (ea_cons (ev_non (ea_cons (ev_str (ea_cons (ev_tup (ea_cons (ev_int (ea_cons (ev_int (ea_nil ⟨[_, _], _, rfl, (Nat.le_of_ble_eq_true rfl), (.cons td_I (.cons td_I .nil)), (ea_cons (ev_tup (ea_nil ⟨[], _, rfl, (Nat.le_of_ble_eq_true rfl), .nil, (ea_cons (ev_lstD (ea_cons (ev_int (ea_cons (ev_int (ea_nil ⟨[_, _], _, rfl, (Nat.le_of_ble_eq_true rfl), (.cons td_I (.cons td_I .nil)), (ea_cons (ev_bl (ea_cons (ev_op (ev_int (ev_int (o_pow ⟨by decide, by decide, by decide⟩ (ea_nil ⟨[_, _, _, _, _, _, _, _], rfl, (Nat.le_of_ble_eq_true rfl), ListP _, inferInstance, fun _ _ h => h, (ea_nil ⟨f, _, _, rfl, rfl, fun _ _ h => h, MnL.all, List.cons_ne_nil _ _, (by decide), fun p hp => ea_nil (?_ : S_others_right _ _ _)⟩)⟩))))))))⟩)))))))⟩)))⟩))))))))))))))))))))))))
    have hp2 : ∃ d, (∀ R v, p R v → Is d R v) ∧ d ∈ odds := by
      simp only [List.mem_cons, List.not_mem_nil, or_false] at hp
      rcases hp with rfl | rfl | rfl | rfl | rfl | rfl | rfl | rfl
      · exact ⟨_, td_I, by simp [odds]⟩
      · exact ⟨_, td_D, by simp [odds]⟩
      · exact ⟨_, td_D, by simp [odds]⟩
      · exact ⟨_, td_D, by simp [odds]⟩
      · exact ⟨_, td_D, by simp [odds]⟩
      · exact ⟨_, td_D, by simp [odds]⟩
      · exact ⟨_, td_B, by simp [odds]⟩
      · exact ⟨_, td_I, by simp [odds]⟩
    obtain ⟨d, hd1, hd2⟩ := hp2
    refine ⟨p, d, rfl, hd1, hd2, _, isB, ?_⟩
    refine b_next ?_
    refine b_seq (b_asg (ev_call (ea_cons (ev_var rfl (ea_cons (ev_int (ea_nil ⟨f, 20, rfl, rfl, by decide, by decide, fun low _ _ => ?_⟩)))))))
    refine b_if (et_not (et_B (ev_call (ea_cons (ev_tup (ea_cons (ev_int (ea_cons (ev_op (ev_var rfl (ev_int (o_add (ea_cons (ev_int (ea_nil ⟨[_, _, _], _, rfl, (Nat.le_of_ble_eq_true rfl), (.cons td_I (.cons td_I (.cons td_I .nil))), ?_⟩)))))))))))))))
    refine ea_cons (ev_tup (ea_cons (ev_var rfl (ea_cons (ev_op (ev_op (ev_var rfl (ev_int (o_add (ev_call (ea_cons (ev_var rfl (ea_cons (ev_int (ea_nil ⟨f, 9, rfl, rfl, by decide, by decide, fun r2 _ _ => o_add (ea_nil ⟨[_, _], _, rfl, (Nat.le_of_ble_eq_true rfl), (.cons td_I (.cons td_I .nil)), ?_⟩)⟩)))))))))))))))
    refine ea_nil ⟨_, _, rfl, ?_, ?_, ?_, _, isB, ?_⟩
    · simp [SeqAt.shaped, PyData.canLay0, PyData.canLayAll0, PyData.depth, PyData.depthAll]
    · simp [SeqAt.shaped, PyData.canLay0, PyData.canLayAll0, PyData.depth, PyData.depthAll]
    · simp [PyData.depth, PyData.depthAll]
    exact b_next ⟨_, _, _, _, _, _, rfl⟩
  · rintro env' ⟨a, b, c, d, e, f, rfl⟩
    exact b_ret (ev_notV (ev_cb (ea_cons (ev_xb (ea_cons (ev_c (ea_nil (c_isX (.own _) (.inr rfl) T.kitVR ⟨_, isB, rfl⟩))))))))
end
end Ru
namespace K73
open PySem L2 Ru
def top (i : Nat) : Stmt := PySem.Challenge.pw_runledger_k73_errors_and_fields.main.body.getD i (.Pass ⟨0, 0, 0, 0⟩)
abbrev s_feed : Stmt := top 29
abbrev sc_feedN : List Str := ["_law_script", "_law_k", "_law_cell", "_law_digits", "_law_state"]
theorem sc_feed : FnScope sc_feedN ["_law_script", "_law_k"] (defScope s_feed) := ⟨rfl, rfl, rfl, by decide +kernel, rfl, by decide +kernel, by decide +kernel⟩
abbrev s_take : Stmt := top 30
abbrev sc_takeN : List Str := ["_law_feed_here", "_law_many", "_law_digit"]
theorem sc_take : FnScope sc_takeN ["_law_feed_here", "_law_many"] (defScope s_take) := ⟨rfl, rfl, rfl, by decide +kernel, rfl, by decide +kernel, by decide +kernel⟩
abbrev s_pick : Stmt := top 31
abbrev sc_pickN : List Str := ["_law_feed_here", "_law_some"]
theorem sc_pick : FnScope sc_pickN ["_law_feed_here", "_law_some"] (defScope s_pick) := ⟨rfl, rfl, rfl, by decide +kernel, rfl, by decide +kernel, by decide +kernel⟩
abbrev s_kinds : Stmt := top 32
abbrev sc_kindsN : List Str := ["_law_thing", "_law_found"]
theorem sc_kinds : FnScope sc_kindsN ["_law_thing"] (defScope s_kinds) := ⟨rfl, rfl, rfl, by decide +kernel, rfl, by decide +kernel, by decide +kernel⟩
abbrev s_numbers_right : Stmt := top 33
abbrev sc_numbers_rightN : List Str := ["_law_mine", "_law_found"]
theorem sc_numbers_right : FnScope sc_numbers_rightN ["_law_mine"] (defScope s_numbers_right) := ⟨rfl, rfl, rfl, by decide +kernel, rfl, by decide +kernel, by decide +kernel⟩
abbrev s_others_right : Stmt := top 34
abbrev sc_others_rightN : List Str := ["_law_odd", "_law_found"]
theorem sc_others_right : FnScope sc_others_rightN ["_law_odd"] (defScope s_others_right) := ⟨rfl, rfl, rfl, by decide +kernel, rfl, by decide +kernel, by decide +kernel⟩
abbrev s_runs_right : Stmt := top 35
abbrev sc_runs_rightN : List Str := ["_law_run_told", "_law_jump_told", "_law_found"]
theorem sc_runs_right : FnScope sc_runs_rightN ["_law_run_told", "_law_jump_told"] (defScope s_runs_right) := ⟨rfl, rfl, rfl, by decide +kernel, rfl, by decide +kernel, by decide +kernel⟩
abbrev s_law : Stmt := top 36
abbrev sc_lawN : List Str := ["_law_script", "_law_made", "_law_nth", "_law_one", "_law_nr", "_law_k", "_law_feed_here", "_law_low"]
theorem sc_law : FnScope sc_lawN ["_law_script"] (defScope s_law) := ⟨rfl, rfl, rfl, by decide +kernel, rfl, by decide +kernel, by decide +kernel⟩
abbrev s_BadJump_init : Stmt := inClass (top 3) 0
abbrev sc_BadJump_initN : List Str := ["self", "at"]
theorem sc_BadJump_init : FnScope sc_BadJump_initN ["self", "at"] (defScope s_BadJump_init) := ⟨rfl, rfl, rfl, by decide +kernel, rfl, by decide +kernel, by decide +kernel⟩
abbrev s_TooLarge_init : Stmt := inClass (top 4) 0
abbrev sc_TooLarge_initN : List Str := ["self", "bound"]
theorem sc_TooLarge_init : FnScope sc_TooLarge_initN ["self", "bound"] (defScope s_TooLarge_init) := ⟨rfl, rfl, rfl, by decide +kernel, rfl, by decide +kernel, by decide +kernel⟩
abbrev s_NoBlock_init : Stmt := inClass (top 5) 0
abbrev sc_NoBlock_initN : List Str := ["self", "block"]
theorem sc_NoBlock_init : FnScope sc_NoBlock_initN ["self", "block"] (defScope s_NoBlock_init) := ⟨rfl, rfl, rfl, by decide +kernel, rfl, by decide +kernel, by decide +kernel⟩
abbrev s_NoJump_init : Stmt := inClass (top 6) 0
abbrev sc_NoJump_initN : List Str := ["self", "jump"]
theorem sc_NoJump_init : FnScope sc_NoJump_initN ["self", "jump"] (defScope s_NoJump_init) := ⟨rfl, rfl, rfl, by decide +kernel, rfl, by decide +kernel, by decide +kernel⟩
abbrev s_NoRun_init : Stmt := inClass (top 7) 0
abbrev sc_NoRun_initN : List Str := ["self", "run"]
theorem sc_NoRun_init : FnScope sc_NoRun_initN ["self", "run"] (defScope s_NoRun_init) := ⟨rfl, rfl, rfl, by decide +kernel, rfl, by decide +kernel, by decide +kernel⟩
abbrev s_NoItem_init : Stmt := inClass (top 8) 0
abbrev sc_NoItem_initN : List Str := ["self", "item"]
theorem sc_NoItem_init : FnScope sc_NoItem_initN ["self", "item"] (defScope s_NoItem_init) := ⟨rfl, rfl, rfl, by decide +kernel, rfl, by decide +kernel, by decide +kernel⟩
abbrev s_NotInner_init : Stmt := inClass (top 9) 0
abbrev sc_NotInner_initN : List Str := ["self", "block"]
theorem sc_NotInner_init : FnScope sc_NotInner_initN ["self", "block"] (defScope s_NotInner_init) := ⟨rfl, rfl, rfl, by decide +kernel, rfl, by decide +kernel, by decide +kernel⟩
abbrev s_BadCount_init : Stmt := inClass (top 11) 0
abbrev sc_BadCount_initN : List Str := ["self", "at"]
theorem sc_BadCount_init : FnScope sc_BadCount_initN ["self", "at"] (defScope s_BadCount_init) := ⟨rfl, rfl, rfl, by decide +kernel, rfl, by decide +kernel, by decide +kernel⟩
abbrev s_Uneven_init : Stmt := inClass (top 12) 0
abbrev sc_Uneven_initN : List Str := ["self", "block"]
theorem sc_Uneven_init : FnScope sc_Uneven_initN ["self", "block"] (defScope s_Uneven_init) := ⟨rfl, rfl, rfl, by decide +kernel, rfl, by decide +kernel, by decide +kernel⟩
abbrev s_BadEntry_init : Stmt := inClass (top 14) 0
abbrev sc_BadEntry_initN : List Str := ["self", "at"]
theorem sc_BadEntry_init : FnScope sc_BadEntry_initN ["self", "at"] (defScope s_BadEntry_init) := ⟨rfl, rfl, rfl, by decide +kernel, rfl, by decide +kernel, by decide +kernel⟩
abbrev s_NotPassed_init : Stmt := inClass (top 15) 0
abbrev sc_NotPassed_initN : List Str := ["self", "block"]
theorem sc_NotPassed_init : FnScope sc_NotPassed_initN ["self", "block"] (defScope s_NotPassed_init) := ⟨rfl, rfl, rfl, by decide +kernel, rfl, by decide +kernel, by decide +kernel⟩
abbrev s_NotEnough_init : Stmt := inClass (top 16) 0
abbrev sc_NotEnough_initN : List Str := ["self", "run"]
theorem sc_NotEnough_init : FnScope sc_NotEnough_initN ["self", "run"] (defScope s_NotEnough_init) := ⟨rfl, rfl, rfl, by decide +kernel, rfl, by decide +kernel, by decide +kernel⟩
abbrev s_NotPossible_init : Stmt := inClass (top 19) 0
abbrev sc_NotPossible_initN : List Str := ["self", "least", "greatest"]
theorem sc_NotPossible_init : FnScope sc_NotPossible_initN ["self", "least", "greatest"] (defScope s_NotPossible_init) := ⟨rfl, rfl, rfl, by decide +kernel, rfl, by decide +kernel, by decide +kernel⟩
abbrev s_NotSeen_init : Stmt := inClass (top 20) 0
abbrev sc_NotSeen_initN : List Str := ["self", "jump"]
theorem sc_NotSeen_init : FnScope sc_NotSeen_initN ["self", "jump"] (defScope s_NotSeen_init) := ⟨rfl, rfl, rfl, by decide +kernel, rfl, by decide +kernel, by decide +kernel⟩
abbrev s_OtherCounts_init : Stmt := inClass (top 21) 0
abbrev sc_OtherCounts_initN : List Str := ["self", "jump"]
theorem sc_OtherCounts_init : FnScope sc_OtherCounts_initN ["self", "jump"] (defScope s_OtherCounts_init) := ⟨rfl, rfl, rfl, by decide +kernel, rfl, by decide +kernel, by decide +kernel⟩
abbrev s_BadProgram_init : Stmt := inClass (top 25) 0
abbrev sc_BadProgram_initN : List Str := ["self", "at"]
theorem sc_BadProgram_init : FnScope sc_BadProgram_initN ["self", "at"] (defScope s_BadProgram_init) := ⟨rfl, rfl, rfl, by decide +kernel, rfl, by decide +kernel, by decide +kernel⟩
abbrev s_NoMark_init : Stmt := inClass (top 26) 0
abbrev sc_NoMark_initN : List Str := ["self", "number"]
theorem sc_NoMark_init : FnScope sc_NoMark_initN ["self", "number"] (defScope s_NoMark_init) := ⟨rfl, rfl, rfl, by decide +kernel, rfl, by decide +kernel, by decide +kernel⟩
abbrev s_BadText_init : Stmt := inClass (top 27) 0
abbrev sc_BadText_initN : List Str := ["self", "line"]
theorem sc_BadText_init : FnScope sc_BadText_initN ["self", "line"] (defScope s_BadText_init) := ⟨rfl, rfl, rfl, by decide +kernel, rfl, by decide +kernel, by decide +kernel⟩
def fn : List He.DefD := [⟨("_law_feed", none), "_law_feed", "_law_feed", defArgs s_feed, defBody s_feed, defScope s_feed, [], []⟩,
 ⟨("_law_take", none), "_law_take", "_law_take", defArgs s_take, defBody s_take, defScope s_take, [], []⟩,
 ⟨("_law_pick", none), "_law_pick", "_law_pick", defArgs s_pick, defBody s_pick, defScope s_pick, [], []⟩,
 ⟨("_law_kinds", none), "_law_kinds", "_law_kinds", defArgs s_kinds, defBody s_kinds, defScope s_kinds, [], []⟩,
 ⟨("_law_numbers_right", none), "_law_numbers_right", "_law_numbers_right", defArgs s_numbers_right, defBody s_numbers_right, defScope s_numbers_right, [], []⟩,
 ⟨("_law_others_right", none), "_law_others_right", "_law_others_right", defArgs s_others_right, defBody s_others_right, defScope s_others_right, [], []⟩,
 ⟨("_law_runs_right", none), "_law_runs_right", "_law_runs_right", defArgs s_runs_right, defBody s_runs_right, defScope s_runs_right, [], []⟩,
 ⟨("law", none), "law", "law", defArgs s_law, defBody s_law, defScope s_law, [], []⟩,
 ⟨("BadJump", some "__init__"), "__init__", "BadJump.__init__", defArgs s_BadJump_init, defBody s_BadJump_init, defScope s_BadJump_init, [], []⟩,
 ⟨("TooLarge", some "__init__"), "__init__", "TooLarge.__init__", defArgs s_TooLarge_init, defBody s_TooLarge_init, defScope s_TooLarge_init, [], []⟩,
 ⟨("NoBlock", some "__init__"), "__init__", "NoBlock.__init__", defArgs s_NoBlock_init, defBody s_NoBlock_init, defScope s_NoBlock_init, [], []⟩,
 ⟨("NoJump", some "__init__"), "__init__", "NoJump.__init__", defArgs s_NoJump_init, defBody s_NoJump_init, defScope s_NoJump_init, [], []⟩,
 ⟨("NoRun", some "__init__"), "__init__", "NoRun.__init__", defArgs s_NoRun_init, defBody s_NoRun_init, defScope s_NoRun_init, [], []⟩,
 ⟨("NoItem", some "__init__"), "__init__", "NoItem.__init__", defArgs s_NoItem_init, defBody s_NoItem_init, defScope s_NoItem_init, [], []⟩,
 ⟨("NotInner", some "__init__"), "__init__", "NotInner.__init__", defArgs s_NotInner_init, defBody s_NotInner_init, defScope s_NotInner_init, [], []⟩,
 ⟨("BadCount", some "__init__"), "__init__", "BadCount.__init__", defArgs s_BadCount_init, defBody s_BadCount_init, defScope s_BadCount_init, [], []⟩,
 ⟨("Uneven", some "__init__"), "__init__", "Uneven.__init__", defArgs s_Uneven_init, defBody s_Uneven_init, defScope s_Uneven_init, [], []⟩,
 ⟨("BadEntry", some "__init__"), "__init__", "BadEntry.__init__", defArgs s_BadEntry_init, defBody s_BadEntry_init, defScope s_BadEntry_init, [], []⟩,
 ⟨("NotPassed", some "__init__"), "__init__", "NotPassed.__init__", defArgs s_NotPassed_init, defBody s_NotPassed_init, defScope s_NotPassed_init, [], []⟩,
 ⟨("NotEnough", some "__init__"), "__init__", "NotEnough.__init__", defArgs s_NotEnough_init, defBody s_NotEnough_init, defScope s_NotEnough_init, [], []⟩,
 ⟨("NotPossible", some "__init__"), "__init__", "NotPossible.__init__", defArgs s_NotPossible_init, defBody s_NotPossible_init, defScope s_NotPossible_init, [], []⟩,
 ⟨("NotSeen", some "__init__"), "__init__", "NotSeen.__init__", defArgs s_NotSeen_init, defBody s_NotSeen_init, defScope s_NotSeen_init, [], []⟩,
 ⟨("OtherCounts", some "__init__"), "__init__", "OtherCounts.__init__", defArgs s_OtherCounts_init, defBody s_OtherCounts_init, defScope s_OtherCounts_init, [], []⟩,
 ⟨("BadProgram", some "__init__"), "__init__", "BadProgram.__init__", defArgs s_BadProgram_init, defBody s_BadProgram_init, defScope s_BadProgram_init, [], []⟩,
 ⟨("NoMark", some "__init__"), "__init__", "NoMark.__init__", defArgs s_NoMark_init, defBody s_NoMark_init, defScope s_NoMark_init, [], []⟩,
 ⟨("BadText", some "__init__"), "__init__", "BadText.__init__", defArgs s_BadText_init, defBody s_BadText_init, defScope s_BadText_init, [], []⟩]
def glos0 : List PySem.Str := ["_law_feed", "_law_take", "_law_pick", "_law_kinds", "_law_numbers_right", "_law_others_right", "_law_runs_right", "law", "RunError", "BadBlocks", "BadJump", "TooLarge", "NoBlock", "NoJump", "NoRun", "NoItem", "NotInner", "OtherRoutine", "BadCount", "Uneven"]
def glos1 : List PySem.Str := ["BadNumber", "BadEntry", "NotPassed", "NotEnough", "NoCeiling", "NoFloor", "NotPossible", "NotSeen", "OtherCounts", "BadCover", "BadIns", "NotTwins", "BadProgram", "NoMark", "BadText"]
def glos : List PySem.Str := glos0 ++ glos1
def fres0 : List PySem.Str := ["len", "abs", "max", "min", "int", "range", "enumerate", "isinstance", "repr", "ValueError"]
def fres : List PySem.Str := fres0
def inis0 : List PySem.Str := ["BadJump", "TooLarge", "NoBlock", "NoJump", "NoRun", "NoItem", "NotInner", "BadCount", "Uneven", "BadEntry", "NotPassed", "NotEnough", "NotPossible", "NotSeen", "OtherCounts", "BadProgram", "NoMark", "BadText"]
def inis : List PySem.Str := inis0
def zers0 : List PySem.Str := ["BadBlocks", "OtherRoutine", "BadNumber", "NoCeiling", "NoFloor", "BadCover", "BadIns", "NotTwins"]
def zers : List PySem.Str := zers0
def fa : List He.Fa := glos.map .glo ++ fres.map .free
theorem g__law_feed : ("_law_feed" : PySem.Str) ∈ glos := by decide
theorem g__law_take : ("_law_take" : PySem.Str) ∈ glos := by decide
theorem g__law_pick : ("_law_pick" : PySem.Str) ∈ glos := by decide
theorem g__law_kinds : ("_law_kinds" : PySem.Str) ∈ glos := by decide
theorem g__law_numbers_right : ("_law_numbers_right" : PySem.Str) ∈ glos := by decide
theorem g__law_others_right : ("_law_others_right" : PySem.Str) ∈ glos := by decide
theorem g__law_runs_right : ("_law_runs_right" : PySem.Str) ∈ glos := by decide
theorem g_law : ("law" : PySem.Str) ∈ glos := by decide
theorem g_RunError : ("RunError" : PySem.Str) ∈ glos := by decide
theorem g_BadBlocks : ("BadBlocks" : PySem.Str) ∈ glos := by decide
theorem g_BadJump : ("BadJump" : PySem.Str) ∈ glos := by decide
theorem g_TooLarge : ("TooLarge" : PySem.Str) ∈ glos := by decide
theorem g_NoBlock : ("NoBlock" : PySem.Str) ∈ glos := by decide
theorem g_NoJump : ("NoJump" : PySem.Str) ∈ glos := by decide
theorem g_NoRun : ("NoRun" : PySem.Str) ∈ glos := by decide
theorem g_NoItem : ("NoItem" : PySem.Str) ∈ glos := by decide
theorem g_NotInner : ("NotInner" : PySem.Str) ∈ glos := by decide
theorem g_OtherRoutine : ("OtherRoutine" : PySem.Str) ∈ glos := by decide
theorem g_BadCount : ("BadCount" : PySem.Str) ∈ glos := by decide
theorem g_Uneven : ("Uneven" : PySem.Str) ∈ glos := by decide
theorem g_BadNumber : ("BadNumber" : PySem.Str) ∈ glos := by decide
theorem g_BadEntry : ("BadEntry" : PySem.Str) ∈ glos := by decide
theorem g_NotPassed : ("NotPassed" : PySem.Str) ∈ glos := by decide
theorem g_NotEnough : ("NotEnough" : PySem.Str) ∈ glos := by decide
theorem g_NoCeiling : ("NoCeiling" : PySem.Str) ∈ glos := by decide
theorem g_NoFloor : ("NoFloor" : PySem.Str) ∈ glos := by decide
theorem g_NotPossible : ("NotPossible" : PySem.Str) ∈ glos := by decide
theorem g_NotSeen : ("NotSeen" : PySem.Str) ∈ glos := by decide
theorem g_OtherCounts : ("OtherCounts" : PySem.Str) ∈ glos := by decide
theorem g_BadCover : ("BadCover" : PySem.Str) ∈ glos := by decide
theorem g_BadIns : ("BadIns" : PySem.Str) ∈ glos := by decide
theorem g_NotTwins : ("NotTwins" : PySem.Str) ∈ glos := by decide
theorem g_BadProgram : ("BadProgram" : PySem.Str) ∈ glos := by decide
theorem g_NoMark : ("NoMark" : PySem.Str) ∈ glos := by decide
theorem g_BadText : ("BadText" : PySem.Str) ∈ glos := by decide
theorem z_len : ("len" : PySem.Str) ∈ fres := by decide
theorem z_abs : ("abs" : PySem.Str) ∈ fres := by decide
theorem z_max : ("max" : PySem.Str) ∈ fres := by decide
theorem z_min : ("min" : PySem.Str) ∈ fres := by decide
theorem z_int : ("int" : PySem.Str) ∈ fres := by decide
theorem z_range : ("range" : PySem.Str) ∈ fres := by decide
theorem z_enumerate : ("enumerate" : PySem.Str) ∈ fres := by decide
theorem z_isinstance : ("isinstance" : PySem.Str) ∈ fres := by decide
theorem z_repr : ("repr" : PySem.Str) ∈ fres := by decide
theorem z_ValueError : ("ValueError" : PySem.Str) ∈ fres := by decide
theorem n_BadBlocks : ("BadBlocks" : PySem.Str) ∈ zers := by decide
theorem n_OtherRoutine : ("OtherRoutine" : PySem.Str) ∈ zers := by decide
theorem n_BadNumber : ("BadNumber" : PySem.Str) ∈ zers := by decide
theorem n_NoCeiling : ("NoCeiling" : PySem.Str) ∈ zers := by decide
theorem n_NoFloor : ("NoFloor" : PySem.Str) ∈ zers := by decide
theorem n_BadCover : ("BadCover" : PySem.Str) ∈ zers := by decide
theorem n_BadIns : ("BadIns" : PySem.Str) ∈ zers := by decide
theorem n_NotTwins : ("NotTwins" : PySem.Str) ∈ zers := by decide
theorem c_BadJump : ("BadJump" : PySem.Str) ∈ inis := by decide
theorem c_TooLarge : ("TooLarge" : PySem.Str) ∈ inis := by decide
theorem c_NoBlock : ("NoBlock" : PySem.Str) ∈ inis := by decide
theorem c_NoJump : ("NoJump" : PySem.Str) ∈ inis := by decide
theorem c_NoRun : ("NoRun" : PySem.Str) ∈ inis := by decide
theorem c_NoItem : ("NoItem" : PySem.Str) ∈ inis := by decide
theorem c_NotInner : ("NotInner" : PySem.Str) ∈ inis := by decide
theorem c_BadCount : ("BadCount" : PySem.Str) ∈ inis := by decide
theorem c_Uneven : ("Uneven" : PySem.Str) ∈ inis := by decide
theorem c_BadEntry : ("BadEntry" : PySem.Str) ∈ inis := by decide
theorem c_NotPassed : ("NotPassed" : PySem.Str) ∈ inis := by decide
theorem c_NotEnough : ("NotEnough" : PySem.Str) ∈ inis := by decide
theorem c_NotPossible : ("NotPossible" : PySem.Str) ∈ inis := by decide
theorem c_NotSeen : ("NotSeen" : PySem.Str) ∈ inis := by decide
theorem c_OtherCounts : ("OtherCounts" : PySem.Str) ∈ inis := by decide
theorem c_BadProgram : ("BadProgram" : PySem.Str) ∈ inis := by decide
theorem c_NoMark : ("NoMark" : PySem.Str) ∈ inis := by decide
theorem c_BadText : ("BadText" : PySem.Str) ∈ inis := by decide
/-! ### facts about the classes, asked of the head -/
def eqB : Option Bool → Bool → Bool
  | some a, b => a == b
  | none, _ => false
theorem eqB_ok {a : Option Bool} {b : Bool} (h : eqB a b = true) : a = some b := by
  cases a with
  | none => cases h
  | some a => rw [eq_of_beq (show (a == b) = true from h)]
def oexB (K : PySem.W.Frag) (C : Addr) : Bool :=
  match K.lookup C with
  | some { cls := .type T, dict := _, data := .cls { name := _, bases := _, mro := .ref C' :: bm, ns := _, qualname := _, hasDict := hd, slotNames := _, subclasses := _, abstract := _, collection := _, hasDel := del }, slots := ⟨[_, _, _, _, some (.builtin n), _]⟩ } =>
    T == "type" && C' == C && n == "ValueError.__new__" && hd && !del && PySem.HandSPX.refsVE bm
  | _ => false
theorem oexB_ok {K : PySem.W.Frag} {C : Addr} (h : oexB K C = true) : ∃ nm q N bs bm sn sub ab col dd k0 k1 k2 k3 k5, K.lookup C = some (PySem.excClassObj nm q C N bs bm true sn sub ab col dd k0 k1 k2 k3 k5 "ValueError.__new__") ∧ PySem.HandSPX.refsVE bm = true := by
  unfold oexB at h
  split at h
  · rename_i e
    simp only [Bool.and_eq_true, beq_iff_eq, Bool.not_eq_true'] at h
    obtain ⟨⟨⟨⟨⟨rfl, rfl⟩, rfl⟩, rfl⟩, rfl⟩, hv⟩ := h
    exact ⟨_, _, _, _, _, _, _, _, _, _, _, _, _, _, _, e, hv⟩
  · cases h
def clB (K : PySem.W.Frag) (c : Str) : Bool :=
  let C := He.ga K c
  (PySem.W.clsIn K C).isSome && (He.eqO (PySem.W.findIn K (.ref C) "__getattribute__") (some (some (.builtin "BaseException.__getattribute__"))) && (He.eqO (PySem.W.findIn K (.ref C) "__getattr__") (some none) &&
    (eqB (PySem.W.subIn K (.ref C) (.type "BaseException")) true && (He.eqO (PySem.W.findIn K (.ref C) "__class__") (some (some (.builtin "object.__class__"))) && (eqB (PySem.W.mroIn K C (.type "object")) true && PySem.W.hasDictIn K C)))))
def inB (K : PySem.W.Frag) (c : Str) : Bool :=
  let C := He.ga K c
  oexB K C && (He.eqO (PySem.W.findIn K (.ref C) "__setattr__") (some (some (.builtin "object.__setattr__"))) && (eqB (PySem.W.subIn K (.ref C) (.type "BaseException")) true && (decide (PySem.W.typeIn K (.ref C) = some (.type "type")) && (PySem.W.keepIn K (.ref C) &&
    (He.eqO (PySem.W.findIn K (.ref C) "__init__") (some (some (.ref (He.ma K C "__init__")))) && decide (PySem.W.typeIn K (.ref (He.ma K C "__init__")) = some (.type "function")))))))
def zeB (K : PySem.W.Frag) (c : Str) : Bool := PySem.W.excIn K (He.ga K c) He.veBase "ValueError.__new__" && PySem.W.keepIn K (.ref (He.ga K c))
def kiB (K : PySem.W.Frag) (i : Nat) : Bool :=
  let C := He.ga K (cn i)
  (List.range 26).all (fun j => eqB (PySem.W.kitOne K (.ref C) (.ref (He.ga K (cn j)))) (decide (i = j))) && (eqB (PySem.W.kitOne K (.ref C) (.ref (He.ga K "RunError"))) true && eqB (PySem.W.kitOne K (.ref C) (.type "ValueError")) true)
def exK (K : PySem.W.Frag) : Bool :=
  ((List.range 26).all (fun i => clB K (cn i)) && (inis.all (inB K) && zers.all (zeB K))) && ((List.range 26).all (kiB K) && (eqB (PySem.W.kitOne K (.type "ValueError") (.ref (He.ga K "RunError"))) false && flds.all fun p => He.eqO (PySem.W.findIn K (.ref (He.ga K p.1)) p.2) (some none)))
structure Tx (K : PySem.W.Frag) (mg : Str → Option Value) : Prop where
  z : ∀ x ∈ fres, mg x = none
  m : ∀ x ∈ glos, mg x = some (.ref (He.ga K x))
  n0 : ∀ x ∈ zers, PySem.W.excIn K (He.ga K x) He.veBase "ValueError.__new__" = true ∧ PySem.W.keepIn K (.ref (He.ga K x)) = true
  c : ∀ x ∈ inis, OexC K (He.ga K x) ∧ PySem.W.findIn K (.ref (He.ga K x)) "__init__" = some (some (.ref (He.ma K (He.ga K x) "__init__"))) ∧ PySem.W.typeIn K (.ref (He.ma K (He.ga K x) "__init__")) = some (.type "function")
  kf : KF K
theorem tx_of {K : PySem.W.Frag} {h : Heap} {mg : Str → Option Value} (X : K.In h) (G : h.Ns mainGlobals mg) (F : ∀ {f : He.Fa}, f ∈ fa → He.Fa.ok K f = true) (E : exK K = true) : Tx K mg := by
  unfold exK at E
  obtain ⟨E1, E2⟩ := He.ba E
  obtain ⟨Ea, Eb⟩ := He.ba E1
  obtain ⟨Eb, Ec⟩ := He.ba Eb
  obtain ⟨Ed, Ee⟩ := He.ba E2
  obtain ⟨Ee, Ef⟩ := He.ba Ee
  have cl : ∀ i : Nat, i < 26 → clB K (cn i) = true := fun i hi => List.all_eq_true.mp Ea i (List.mem_range.mpr hi)
  have ki : ∀ i : Nat, i < 26 → kiB K i = true := fun i hi => List.all_eq_true.mp Ed i (List.mem_range.mpr hi)
  refine ⟨fun x hx => He.free_ok X G (F (List.mem_append_right _ (List.mem_map.mpr ⟨x, hx, rfl⟩))), fun x hx => He.glo_ok X G (F (List.mem_append_left _ (List.mem_map.mpr ⟨x, hx, rfl⟩))), fun x hx => He.ba (List.all_eq_true.mp Ec x hx), fun x hx => ?_, ?_⟩
  · have e : inB K x = true := List.all_eq_true.mp Eb x hx
    unfold inB at e
    obtain ⟨e1, e⟩ := He.ba e
    obtain ⟨e2, e⟩ := He.ba e
    obtain ⟨e3, e⟩ := He.ba e
    obtain ⟨e4, e⟩ := He.ba e
    obtain ⟨e5, e⟩ := He.ba e
    obtain ⟨e6, e7⟩ := He.ba e
    exact ⟨⟨oexB_ok e1, He.eqO_ok e2, eqB_ok e3, of_decide_eq_true e4, e5⟩, He.eqO_ok e6, of_decide_eq_true e7⟩
  · refine ⟨fun i j hi hj => ?_, fun i hi => ?_, fun i hi => ?_, eqB_ok Ee, fun i hi => ?_, fun i hi => ?_, fun c f hf => He.eqO_ok (List.all_eq_true.mp Ef _ hf)⟩
    · exact eqB_ok (List.all_eq_true.mp (He.ba (ki i hi)).1 j (List.mem_range.mpr hj))
    · exact eqB_ok (He.ba (He.ba (ki i hi)).2).1
    · exact eqB_ok (He.ba (He.ba (ki i hi)).2).2
    · have e := cl i hi
      unfold clB at e
      obtain ⟨e1, e⟩ := He.ba e
      obtain ⟨e2, e⟩ := He.ba e
      obtain ⟨e3, e⟩ := He.ba e
      obtain ⟨e4, e⟩ := He.ba e
      obtain ⟨e5, e⟩ := He.ba e
      obtain ⟨e6, e7⟩ := He.ba e
      exact ⟨e1, He.eqO_ok e2, He.eqO_ok e3, eqB_ok e4, He.eqO_ok e5, rfl, rfl, eqB_ok e6⟩
    · have e := cl i hi
      unfold clB at e
      obtain ⟨e1, e⟩ := He.ba e
      obtain ⟨e2, e⟩ := He.ba e
      obtain ⟨e3, e⟩ := He.ba e
      obtain ⟨e4, e⟩ := He.ba e
      obtain ⟨e5, e⟩ := He.ba e
      obtain ⟨e6, e7⟩ := He.ba e
      exact ⟨He.eqO_ok e2, He.eqO_ok e3, eqB_ok e4, e7⟩
theorem kb_of {K : PySem.W.Frag} {x q : Str} {pa : Arguments} {bd : List Stmt} {sc : Scope} {f : Addr} {fd : FuncData} {ps ks : List Str} {n : Nat} {g : List Value → List Value → List Value} {gV : List V → List V → List V} (F : FunD K x q pa bd sc [] [] f fd)
    (rel : ∀ {vs : List V} {us : List Value} {zs : List V} {ws : List Value}, Vals vs us → Vals zs ws → Vals (gV vs zs) (g us ws))
    (h : ∀ (kV doc pm : Value) (an : Option Addr) (cd ct : Value) (us ws : List Value), us.length = n → ws.length = ks.length → PySem.bindArgs (PySem.W.fnOf x q pa bd sc .none kV doc pm an cd ct) ⟨us, ks.zip ws⟩ = pure (ps.zip (g us ws))) : KBn K fd ps n ks g gV := by
  obtain ⟨oc, od, dV, kV, doc, pm, an, cd, ct, sl, rfl, lk, hc, dd, -⟩ := F.ex
  obtain ⟨-, rfl⟩ | ⟨ne, -⟩ := dd
  · exact ⟨fun s us ws _ hl hk => PySem.BindsTo.of_eq (h kV doc pm an cd ct us ws hl hk), rel⟩
  · exact absurd rfl ne
theorem vals_app {vs zs : List V} {us ws : List Value} (a : Vals vs us) (b : Vals zs ws) : Vals (vs ++ zs) (us ++ ws) := by
  induction a with
  | nil => exact b
  | cons h _ ih => exact .cons h ih
theorem vals_rev {vs : List V} {us : List Value} (a : Vals vs us) : Vals vs.reverse us.reverse := by
  induction a with
  | nil => exact .nil
  | cons h _ ih =>
    rw [List.reverse_cons, List.reverse_cons]
    exact vals_app ih (.cons h .nil)
structure Fs (K : PySem.W.Frag) where
  fd_feed : FuncData
  F_feed : FunD K "_law_feed" "_law_feed" (defArgs s_feed) (defBody s_feed) (defScope s_feed) [] [] (He.fAd K ("_law_feed", none)) fd_feed
  fd_take : FuncData
  F_take : FunD K "_law_take" "_law_take" (defArgs s_take) (defBody s_take) (defScope s_take) [] [] (He.fAd K ("_law_take", none)) fd_take
  fd_pick : FuncData
  F_pick : FunD K "_law_pick" "_law_pick" (defArgs s_pick) (defBody s_pick) (defScope s_pick) [] [] (He.fAd K ("_law_pick", none)) fd_pick
  fd_kinds : FuncData
  F_kinds : FunD K "_law_kinds" "_law_kinds" (defArgs s_kinds) (defBody s_kinds) (defScope s_kinds) [] [] (He.fAd K ("_law_kinds", none)) fd_kinds
  fd_numbers_right : FuncData
  F_numbers_right : FunD K "_law_numbers_right" "_law_numbers_right" (defArgs s_numbers_right) (defBody s_numbers_right) (defScope s_numbers_right) [] [] (He.fAd K ("_law_numbers_right", none)) fd_numbers_right
  fd_others_right : FuncData
  F_others_right : FunD K "_law_others_right" "_law_others_right" (defArgs s_others_right) (defBody s_others_right) (defScope s_others_right) [] [] (He.fAd K ("_law_others_right", none)) fd_others_right
  fd_runs_right : FuncData
  F_runs_right : FunD K "_law_runs_right" "_law_runs_right" (defArgs s_runs_right) (defBody s_runs_right) (defScope s_runs_right) [] [] (He.fAd K ("_law_runs_right", none)) fd_runs_right
  fd_law : FuncData
  F_law : FunD K "law" "law" (defArgs s_law) (defBody s_law) (defScope s_law) [] [] (He.fAd K ("law", none)) fd_law
  fd_BadJump_init : FuncData
  F_BadJump_init : FunD K "__init__" "BadJump.__init__" (defArgs s_BadJump_init) (defBody s_BadJump_init) (defScope s_BadJump_init) [] [] (He.fAd K ("BadJump", some "__init__")) fd_BadJump_init
  fd_TooLarge_init : FuncData
  F_TooLarge_init : FunD K "__init__" "TooLarge.__init__" (defArgs s_TooLarge_init) (defBody s_TooLarge_init) (defScope s_TooLarge_init) [] [] (He.fAd K ("TooLarge", some "__init__")) fd_TooLarge_init
  fd_NoBlock_init : FuncData
  F_NoBlock_init : FunD K "__init__" "NoBlock.__init__" (defArgs s_NoBlock_init) (defBody s_NoBlock_init) (defScope s_NoBlock_init) [] [] (He.fAd K ("NoBlock", some "__init__")) fd_NoBlock_init
  fd_NoJump_init : FuncData
  F_NoJump_init : FunD K "__init__" "NoJump.__init__" (defArgs s_NoJump_init) (defBody s_NoJump_init) (defScope s_NoJump_init) [] [] (He.fAd K ("NoJump", some "__init__")) fd_NoJump_init
  fd_NoRun_init : FuncData
  F_NoRun_init : FunD K "__init__" "NoRun.__init__" (defArgs s_NoRun_init) (defBody s_NoRun_init) (defScope s_NoRun_init) [] [] (He.fAd K ("NoRun", some "__init__")) fd_NoRun_init
  fd_NoItem_init : FuncData
  F_NoItem_init : FunD K "__init__" "NoItem.__init__" (defArgs s_NoItem_init) (defBody s_NoItem_init) (defScope s_NoItem_init) [] [] (He.fAd K ("NoItem", some "__init__")) fd_NoItem_init
  fd_NotInner_init : FuncData
  F_NotInner_init : FunD K "__init__" "NotInner.__init__" (defArgs s_NotInner_init) (defBody s_NotInner_init) (defScope s_NotInner_init) [] [] (He.fAd K ("NotInner", some "__init__")) fd_NotInner_init
  fd_BadCount_init : FuncData
  F_BadCount_init : FunD K "__init__" "BadCount.__init__" (defArgs s_BadCount_init) (defBody s_BadCount_init) (defScope s_BadCount_init) [] [] (He.fAd K ("BadCount", some "__init__")) fd_BadCount_init
  fd_Uneven_init : FuncData
  F_Uneven_init : FunD K "__init__" "Uneven.__init__" (defArgs s_Uneven_init) (defBody s_Uneven_init) (defScope s_Uneven_init) [] [] (He.fAd K ("Uneven", some "__init__")) fd_Uneven_init
  fd_BadEntry_init : FuncData
  F_BadEntry_init : FunD K "__init__" "BadEntry.__init__" (defArgs s_BadEntry_init) (defBody s_BadEntry_init) (defScope s_BadEntry_init) [] [] (He.fAd K ("BadEntry", some "__init__")) fd_BadEntry_init
  fd_NotPassed_init : FuncData
  F_NotPassed_init : FunD K "__init__" "NotPassed.__init__" (defArgs s_NotPassed_init) (defBody s_NotPassed_init) (defScope s_NotPassed_init) [] [] (He.fAd K ("NotPassed", some "__init__")) fd_NotPassed_init
  fd_NotEnough_init : FuncData
  F_NotEnough_init : FunD K "__init__" "NotEnough.__init__" (defArgs s_NotEnough_init) (defBody s_NotEnough_init) (defScope s_NotEnough_init) [] [] (He.fAd K ("NotEnough", some "__init__")) fd_NotEnough_init
  fd_NotPossible_init : FuncData
  F_NotPossible_init : FunD K "__init__" "NotPossible.__init__" (defArgs s_NotPossible_init) (defBody s_NotPossible_init) (defScope s_NotPossible_init) [] [] (He.fAd K ("NotPossible", some "__init__")) fd_NotPossible_init
  fd_NotSeen_init : FuncData
  F_NotSeen_init : FunD K "__init__" "NotSeen.__init__" (defArgs s_NotSeen_init) (defBody s_NotSeen_init) (defScope s_NotSeen_init) [] [] (He.fAd K ("NotSeen", some "__init__")) fd_NotSeen_init
  fd_OtherCounts_init : FuncData
  F_OtherCounts_init : FunD K "__init__" "OtherCounts.__init__" (defArgs s_OtherCounts_init) (defBody s_OtherCounts_init) (defScope s_OtherCounts_init) [] [] (He.fAd K ("OtherCounts", some "__init__")) fd_OtherCounts_init
  fd_BadProgram_init : FuncData
  F_BadProgram_init : FunD K "__init__" "BadProgram.__init__" (defArgs s_BadProgram_init) (defBody s_BadProgram_init) (defScope s_BadProgram_init) [] [] (He.fAd K ("BadProgram", some "__init__")) fd_BadProgram_init
  fd_NoMark_init : FuncData
  F_NoMark_init : FunD K "__init__" "NoMark.__init__" (defArgs s_NoMark_init) (defBody s_NoMark_init) (defScope s_NoMark_init) [] [] (He.fAd K ("NoMark", some "__init__")) fd_NoMark_init
  fd_BadText_init : FuncData
  F_BadText_init : FunD K "__init__" "BadText.__init__" (defArgs s_BadText_init) (defBody s_BadText_init) (defScope s_BadText_init) [] [] (He.fAd K ("BadText", some "__init__")) fd_BadText_init
section
variable {P : Program} {w : World} {K : PySem.W.Frag} {mg : Str → Option Value} {base : Heap}
theorem Fs.b_feed (D : Fs K) : Binds K D.fd_feed ["_law_script", "_law_k"] [] := D.F_feed.bindsN fun _ _ _ _ _ _ us hl => match us, hl with | [_, _], _ => rfl
theorem Fs.b_take (D : Fs K) : Binds K D.fd_take ["_law_feed_here", "_law_many"] [] := D.F_take.bindsN fun _ _ _ _ _ _ us hl => match us, hl with | [_, _], _ => rfl
theorem Fs.b_pick (D : Fs K) : Binds K D.fd_pick ["_law_feed_here", "_law_some"] [] := D.F_pick.bindsN fun _ _ _ _ _ _ us hl => match us, hl with | [_, _], _ => rfl
theorem Fs.b_kinds (D : Fs K) : Binds K D.fd_kinds ["_law_thing"] [] := D.F_kinds.bindsN fun _ _ _ _ _ _ us hl => match us, hl with | [_], _ => rfl
theorem Fs.b_numbers_right (D : Fs K) : Binds K D.fd_numbers_right ["_law_mine"] [] := D.F_numbers_right.bindsN fun _ _ _ _ _ _ us hl => match us, hl with | [_], _ => rfl
theorem Fs.b_others_right (D : Fs K) : Binds K D.fd_others_right ["_law_odd"] [] := D.F_others_right.bindsN fun _ _ _ _ _ _ us hl => match us, hl with | [_], _ => rfl
theorem Fs.b_runs_right (D : Fs K) : Binds K D.fd_runs_right ["_law_run_told", "_law_jump_told"] [] := D.F_runs_right.bindsN fun _ _ _ _ _ _ us hl => match us, hl with | [_, _], _ => rfl
theorem Fs.b_BadJump (D : Fs K) : KBn K D.fd_BadJump_init ["self", "at"] 2 [] (fun us _ => us) gPos := kb_of D.F_BadJump_init (fun a _ => a) fun _ _ _ _ _ _ us ws hl hk => match us, ws, hl, hk with | [_, _], [], _, _ => rfl
theorem Fs.bk_BadJump (D : Fs K) : KBn K D.fd_BadJump_init ["self", "at"] 1 ["at"] (fun us ws => us ++ ws) gKw := kb_of D.F_BadJump_init (fun a b => vals_app a b) fun _ _ _ _ _ _ us ws hl hk => match us, ws, hl, hk with | [_], [_], _, _ => rfl
theorem iok_BadJump (D : Fs K) (T : Tx K mg) : FnOk P w K mg base CX0 1 (He.fAd K ("BadJump", some "__init__")) D.fd_BadJump_init ["self", "at"] (spX1 (He.ga K "BadJump") "at") := by
  refine D.F_BadJump_init.ok sc_BadJump_init (fun vs H Q E h => ?_) (fun cdv A outer s H vs Q E hr h => ⟨tOst K "at" (tVar 0) (tVar 1), PSs.nox ?_, ?_⟩)
  · obtain ⟨a, y, rfl, _⟩ := h
    rfl
  · exact pss_one (ps_ost (pv 0) (pv 1))
  · obtain ⟨a, y, rfl, ha, k⟩ := h
    exact ⟨_, rfl, _, rfl, a, _, rfl, (T.c _ c_BadJump).1, (T.kf.fl "BadJump" "at" (by decide)), .inl ⟨ha, fun dx n ne => k dx n ne⟩⟩
theorem Fs.b_TooLarge (D : Fs K) : KBn K D.fd_TooLarge_init ["self", "bound"] 2 [] (fun us _ => us) gPos := kb_of D.F_TooLarge_init (fun a _ => a) fun _ _ _ _ _ _ us ws hl hk => match us, ws, hl, hk with | [_, _], [], _, _ => rfl
theorem Fs.bk_TooLarge (D : Fs K) : KBn K D.fd_TooLarge_init ["self", "bound"] 1 ["bound"] (fun us ws => us ++ ws) gKw := kb_of D.F_TooLarge_init (fun a b => vals_app a b) fun _ _ _ _ _ _ us ws hl hk => match us, ws, hl, hk with | [_], [_], _, _ => rfl
theorem iok_TooLarge (D : Fs K) (T : Tx K mg) : FnOk P w K mg base CX0 1 (He.fAd K ("TooLarge", some "__init__")) D.fd_TooLarge_init ["self", "bound"] (spX1 (He.ga K "TooLarge") "bound") := by
  refine D.F_TooLarge_init.ok sc_TooLarge_init (fun vs H Q E h => ?_) (fun cdv A outer s H vs Q E hr h => ⟨tOst K "bound" (tVar 0) (tVar 1), PSs.nox ?_, ?_⟩)
  · obtain ⟨a, y, rfl, _⟩ := h
    rfl
  · exact pss_one (ps_ost (pv 0) (pv 1))
  · obtain ⟨a, y, rfl, ha, k⟩ := h
    exact ⟨_, rfl, _, rfl, a, _, rfl, (T.c _ c_TooLarge).1, (T.kf.fl "TooLarge" "bound" (by decide)), .inl ⟨ha, fun dx n ne => k dx n ne⟩⟩
theorem Fs.b_NoBlock (D : Fs K) : KBn K D.fd_NoBlock_init ["self", "block"] 2 [] (fun us _ => us) gPos := kb_of D.F_NoBlock_init (fun a _ => a) fun _ _ _ _ _ _ us ws hl hk => match us, ws, hl, hk with | [_, _], [], _, _ => rfl
theorem Fs.bk_NoBlock (D : Fs K) : KBn K D.fd_NoBlock_init ["self", "block"] 1 ["block"] (fun us ws => us ++ ws) gKw := kb_of D.F_NoBlock_init (fun a b => vals_app a b) fun _ _ _ _ _ _ us ws hl hk => match us, ws, hl, hk with | [_], [_], _, _ => rfl
theorem iok_NoBlock (D : Fs K) (T : Tx K mg) : FnOk P w K mg base CX0 1 (He.fAd K ("NoBlock", some "__init__")) D.fd_NoBlock_init ["self", "block"] (spX1 (He.ga K "NoBlock") "block") := by
  refine D.F_NoBlock_init.ok sc_NoBlock_init (fun vs H Q E h => ?_) (fun cdv A outer s H vs Q E hr h => ⟨tOst K "block" (tVar 0) (tVar 1), PSs.nox ?_, ?_⟩)
  · obtain ⟨a, y, rfl, _⟩ := h
    rfl
  · exact pss_one (ps_ost (pv 0) (pv 1))
  · obtain ⟨a, y, rfl, ha, k⟩ := h
    exact ⟨_, rfl, _, rfl, a, _, rfl, (T.c _ c_NoBlock).1, (T.kf.fl "NoBlock" "block" (by decide)), .inl ⟨ha, fun dx n ne => k dx n ne⟩⟩
theorem Fs.b_NoJump (D : Fs K) : KBn K D.fd_NoJump_init ["self", "jump"] 2 [] (fun us _ => us) gPos := kb_of D.F_NoJump_init (fun a _ => a) fun _ _ _ _ _ _ us ws hl hk => match us, ws, hl, hk with | [_, _], [], _, _ => rfl
theorem Fs.bk_NoJump (D : Fs K) : KBn K D.fd_NoJump_init ["self", "jump"] 1 ["jump"] (fun us ws => us ++ ws) gKw := kb_of D.F_NoJump_init (fun a b => vals_app a b) fun _ _ _ _ _ _ us ws hl hk => match us, ws, hl, hk with | [_], [_], _, _ => rfl
theorem iok_NoJump (D : Fs K) (T : Tx K mg) : FnOk P w K mg base CX0 1 (He.fAd K ("NoJump", some "__init__")) D.fd_NoJump_init ["self", "jump"] (spX1 (He.ga K "NoJump") "jump") := by
  refine D.F_NoJump_init.ok sc_NoJump_init (fun vs H Q E h => ?_) (fun cdv A outer s H vs Q E hr h => ⟨tOst K "jump" (tVar 0) (tVar 1), PSs.nox ?_, ?_⟩)
  · obtain ⟨a, y, rfl, _⟩ := h
    rfl
  · exact pss_one (ps_ost (pv 0) (pv 1))
  · obtain ⟨a, y, rfl, ha, k⟩ := h
    exact ⟨_, rfl, _, rfl, a, _, rfl, (T.c _ c_NoJump).1, (T.kf.fl "NoJump" "jump" (by decide)), .inl ⟨ha, fun dx n ne => k dx n ne⟩⟩
theorem Fs.b_NoRun (D : Fs K) : KBn K D.fd_NoRun_init ["self", "run"] 2 [] (fun us _ => us) gPos := kb_of D.F_NoRun_init (fun a _ => a) fun _ _ _ _ _ _ us ws hl hk => match us, ws, hl, hk with | [_, _], [], _, _ => rfl
theorem Fs.bk_NoRun (D : Fs K) : KBn K D.fd_NoRun_init ["self", "run"] 1 ["run"] (fun us ws => us ++ ws) gKw := kb_of D.F_NoRun_init (fun a b => vals_app a b) fun _ _ _ _ _ _ us ws hl hk => match us, ws, hl, hk with | [_], [_], _, _ => rfl
theorem iok_NoRun (D : Fs K) (T : Tx K mg) : FnOk P w K mg base CX0 1 (He.fAd K ("NoRun", some "__init__")) D.fd_NoRun_init ["self", "run"] (spX1 (He.ga K "NoRun") "run") := by
  refine D.F_NoRun_init.ok sc_NoRun_init (fun vs H Q E h => ?_) (fun cdv A outer s H vs Q E hr h => ⟨tOst K "run" (tVar 0) (tVar 1), PSs.nox ?_, ?_⟩)
  · obtain ⟨a, y, rfl, _⟩ := h
    rfl
  · exact pss_one (ps_ost (pv 0) (pv 1))
  · obtain ⟨a, y, rfl, ha, k⟩ := h
    exact ⟨_, rfl, _, rfl, a, _, rfl, (T.c _ c_NoRun).1, (T.kf.fl "NoRun" "run" (by decide)), .inl ⟨ha, fun dx n ne => k dx n ne⟩⟩
theorem Fs.b_NoItem (D : Fs K) : KBn K D.fd_NoItem_init ["self", "item"] 2 [] (fun us _ => us) gPos := kb_of D.F_NoItem_init (fun a _ => a) fun _ _ _ _ _ _ us ws hl hk => match us, ws, hl, hk with | [_, _], [], _, _ => rfl
theorem Fs.bk_NoItem (D : Fs K) : KBn K D.fd_NoItem_init ["self", "item"] 1 ["item"] (fun us ws => us ++ ws) gKw := kb_of D.F_NoItem_init (fun a b => vals_app a b) fun _ _ _ _ _ _ us ws hl hk => match us, ws, hl, hk with | [_], [_], _, _ => rfl
theorem iok_NoItem (D : Fs K) (T : Tx K mg) : FnOk P w K mg base CX0 1 (He.fAd K ("NoItem", some "__init__")) D.fd_NoItem_init ["self", "item"] (spX1 (He.ga K "NoItem") "item") := by
  refine D.F_NoItem_init.ok sc_NoItem_init (fun vs H Q E h => ?_) (fun cdv A outer s H vs Q E hr h => ⟨tOst K "item" (tVar 0) (tVar 1), PSs.nox ?_, ?_⟩)
  · obtain ⟨a, y, rfl, _⟩ := h
    rfl
  · exact pss_one (ps_ost (pv 0) (pv 1))
  · obtain ⟨a, y, rfl, ha, k⟩ := h
    exact ⟨_, rfl, _, rfl, a, _, rfl, (T.c _ c_NoItem).1, (T.kf.fl "NoItem" "item" (by decide)), .inl ⟨ha, fun dx n ne => k dx n ne⟩⟩
theorem Fs.b_NotInner (D : Fs K) : KBn K D.fd_NotInner_init ["self", "block"] 2 [] (fun us _ => us) gPos := kb_of D.F_NotInner_init (fun a _ => a) fun _ _ _ _ _ _ us ws hl hk => match us, ws, hl, hk with | [_, _], [], _, _ => rfl
theorem Fs.bk_NotInner (D : Fs K) : KBn K D.fd_NotInner_init ["self", "block"] 1 ["block"] (fun us ws => us ++ ws) gKw := kb_of D.F_NotInner_init (fun a b => vals_app a b) fun _ _ _ _ _ _ us ws hl hk => match us, ws, hl, hk with | [_], [_], _, _ => rfl
theorem iok_NotInner (D : Fs K) (T : Tx K mg) : FnOk P w K mg base CX0 1 (He.fAd K ("NotInner", some "__init__")) D.fd_NotInner_init ["self", "block"] (spX1 (He.ga K "NotInner") "block") := by
  refine D.F_NotInner_init.ok sc_NotInner_init (fun vs H Q E h => ?_) (fun cdv A outer s H vs Q E hr h => ⟨tOst K "block" (tVar 0) (tVar 1), PSs.nox ?_, ?_⟩)
  · obtain ⟨a, y, rfl, _⟩ := h
    rfl
  · exact pss_one (ps_ost (pv 0) (pv 1))
  · obtain ⟨a, y, rfl, ha, k⟩ := h
    exact ⟨_, rfl, _, rfl, a, _, rfl, (T.c _ c_NotInner).1, (T.kf.fl "NotInner" "block" (by decide)), .inl ⟨ha, fun dx n ne => k dx n ne⟩⟩
theorem Fs.b_BadCount (D : Fs K) : KBn K D.fd_BadCount_init ["self", "at"] 2 [] (fun us _ => us) gPos := kb_of D.F_BadCount_init (fun a _ => a) fun _ _ _ _ _ _ us ws hl hk => match us, ws, hl, hk with | [_, _], [], _, _ => rfl
theorem Fs.bk_BadCount (D : Fs K) : KBn K D.fd_BadCount_init ["self", "at"] 1 ["at"] (fun us ws => us ++ ws) gKw := kb_of D.F_BadCount_init (fun a b => vals_app a b) fun _ _ _ _ _ _ us ws hl hk => match us, ws, hl, hk with | [_], [_], _, _ => rfl
theorem iok_BadCount (D : Fs K) (T : Tx K mg) : FnOk P w K mg base CX0 1 (He.fAd K ("BadCount", some "__init__")) D.fd_BadCount_init ["self", "at"] (spX1 (He.ga K "BadCount") "at") := by
  refine D.F_BadCount_init.ok sc_BadCount_init (fun vs H Q E h => ?_) (fun cdv A outer s H vs Q E hr h => ⟨tOst K "at" (tVar 0) (tVar 1), PSs.nox ?_, ?_⟩)
  · obtain ⟨a, y, rfl, _⟩ := h
    rfl
  · exact pss_one (ps_ost (pv 0) (pv 1))
  · obtain ⟨a, y, rfl, ha, k⟩ := h
    exact ⟨_, rfl, _, rfl, a, _, rfl, (T.c _ c_BadCount).1, (T.kf.fl "BadCount" "at" (by decide)), .inl ⟨ha, fun dx n ne => k dx n ne⟩⟩
theorem Fs.b_Uneven (D : Fs K) : KBn K D.fd_Uneven_init ["self", "block"] 2 [] (fun us _ => us) gPos := kb_of D.F_Uneven_init (fun a _ => a) fun _ _ _ _ _ _ us ws hl hk => match us, ws, hl, hk with | [_, _], [], _, _ => rfl
theorem Fs.bk_Uneven (D : Fs K) : KBn K D.fd_Uneven_init ["self", "block"] 1 ["block"] (fun us ws => us ++ ws) gKw := kb_of D.F_Uneven_init (fun a b => vals_app a b) fun _ _ _ _ _ _ us ws hl hk => match us, ws, hl, hk with | [_], [_], _, _ => rfl
theorem iok_Uneven (D : Fs K) (T : Tx K mg) : FnOk P w K mg base CX0 1 (He.fAd K ("Uneven", some "__init__")) D.fd_Uneven_init ["self", "block"] (spX1 (He.ga K "Uneven") "block") := by
  refine D.F_Uneven_init.ok sc_Uneven_init (fun vs H Q E h => ?_) (fun cdv A outer s H vs Q E hr h => ⟨tOst K "block" (tVar 0) (tVar 1), PSs.nox ?_, ?_⟩)
  · obtain ⟨a, y, rfl, _⟩ := h
    rfl
  · exact pss_one (ps_ost (pv 0) (pv 1))
  · obtain ⟨a, y, rfl, ha, k⟩ := h
    exact ⟨_, rfl, _, rfl, a, _, rfl, (T.c _ c_Uneven).1, (T.kf.fl "Uneven" "block" (by decide)), .inl ⟨ha, fun dx n ne => k dx n ne⟩⟩
theorem Fs.b_BadEntry (D : Fs K) : KBn K D.fd_BadEntry_init ["self", "at"] 2 [] (fun us _ => us) gPos := kb_of D.F_BadEntry_init (fun a _ => a) fun _ _ _ _ _ _ us ws hl hk => match us, ws, hl, hk with | [_, _], [], _, _ => rfl
theorem Fs.bk_BadEntry (D : Fs K) : KBn K D.fd_BadEntry_init ["self", "at"] 1 ["at"] (fun us ws => us ++ ws) gKw := kb_of D.F_BadEntry_init (fun a b => vals_app a b) fun _ _ _ _ _ _ us ws hl hk => match us, ws, hl, hk with | [_], [_], _, _ => rfl
theorem iok_BadEntry (D : Fs K) (T : Tx K mg) : FnOk P w K mg base CX0 1 (He.fAd K ("BadEntry", some "__init__")) D.fd_BadEntry_init ["self", "at"] (spX1 (He.ga K "BadEntry") "at") := by
  refine D.F_BadEntry_init.ok sc_BadEntry_init (fun vs H Q E h => ?_) (fun cdv A outer s H vs Q E hr h => ⟨tOst K "at" (tVar 0) (tVar 1), PSs.nox ?_, ?_⟩)
  · obtain ⟨a, y, rfl, _⟩ := h
    rfl
  · exact pss_one (ps_ost (pv 0) (pv 1))
  · obtain ⟨a, y, rfl, ha, k⟩ := h
    exact ⟨_, rfl, _, rfl, a, _, rfl, (T.c _ c_BadEntry).1, (T.kf.fl "BadEntry" "at" (by decide)), .inl ⟨ha, fun dx n ne => k dx n ne⟩⟩
theorem Fs.b_NotPassed (D : Fs K) : KBn K D.fd_NotPassed_init ["self", "block"] 2 [] (fun us _ => us) gPos := kb_of D.F_NotPassed_init (fun a _ => a) fun _ _ _ _ _ _ us ws hl hk => match us, ws, hl, hk with | [_, _], [], _, _ => rfl
theorem Fs.bk_NotPassed (D : Fs K) : KBn K D.fd_NotPassed_init ["self", "block"] 1 ["block"] (fun us ws => us ++ ws) gKw := kb_of D.F_NotPassed_init (fun a b => vals_app a b) fun _ _ _ _ _ _ us ws hl hk => match us, ws, hl, hk with | [_], [_], _, _ => rfl
theorem iok_NotPassed (D : Fs K) (T : Tx K mg) : FnOk P w K mg base CX0 1 (He.fAd K ("NotPassed", some "__init__")) D.fd_NotPassed_init ["self", "block"] (spX1 (He.ga K "NotPassed") "block") := by
  refine D.F_NotPassed_init.ok sc_NotPassed_init (fun vs H Q E h => ?_) (fun cdv A outer s H vs Q E hr h => ⟨tOst K "block" (tVar 0) (tVar 1), PSs.nox ?_, ?_⟩)
  · obtain ⟨a, y, rfl, _⟩ := h
    rfl
  · exact pss_one (ps_ost (pv 0) (pv 1))
  · obtain ⟨a, y, rfl, ha, k⟩ := h
    exact ⟨_, rfl, _, rfl, a, _, rfl, (T.c _ c_NotPassed).1, (T.kf.fl "NotPassed" "block" (by decide)), .inl ⟨ha, fun dx n ne => k dx n ne⟩⟩
theorem Fs.b_NotEnough (D : Fs K) : KBn K D.fd_NotEnough_init ["self", "run"] 2 [] (fun us _ => us) gPos := kb_of D.F_NotEnough_init (fun a _ => a) fun _ _ _ _ _ _ us ws hl hk => match us, ws, hl, hk with | [_, _], [], _, _ => rfl
theorem Fs.bk_NotEnough (D : Fs K) : KBn K D.fd_NotEnough_init ["self", "run"] 1 ["run"] (fun us ws => us ++ ws) gKw := kb_of D.F_NotEnough_init (fun a b => vals_app a b) fun _ _ _ _ _ _ us ws hl hk => match us, ws, hl, hk with | [_], [_], _, _ => rfl
theorem iok_NotEnough (D : Fs K) (T : Tx K mg) : FnOk P w K mg base CX0 1 (He.fAd K ("NotEnough", some "__init__")) D.fd_NotEnough_init ["self", "run"] (spX1 (He.ga K "NotEnough") "run") := by
  refine D.F_NotEnough_init.ok sc_NotEnough_init (fun vs H Q E h => ?_) (fun cdv A outer s H vs Q E hr h => ⟨tOst K "run" (tVar 0) (tVar 1), PSs.nox ?_, ?_⟩)
  · obtain ⟨a, y, rfl, _⟩ := h
    rfl
  · exact pss_one (ps_ost (pv 0) (pv 1))
  · obtain ⟨a, y, rfl, ha, k⟩ := h
    exact ⟨_, rfl, _, rfl, a, _, rfl, (T.c _ c_NotEnough).1, (T.kf.fl "NotEnough" "run" (by decide)), .inl ⟨ha, fun dx n ne => k dx n ne⟩⟩
theorem Fs.b_NotPossible (D : Fs K) : KBn K D.fd_NotPossible_init ["self", "least", "greatest"] 3 [] (fun us _ => us) gPos := kb_of D.F_NotPossible_init (fun a _ => a) fun _ _ _ _ _ _ us ws hl hk => match us, ws, hl, hk with | [_, _, _], [], _, _ => rfl
theorem Fs.bk_NotPossible (D : Fs K) : KBn K D.fd_NotPossible_init ["self", "least", "greatest"] 1 ["greatest", "least"] (fun us ws => us ++ ws.reverse) gKw2 := kb_of D.F_NotPossible_init (fun a b => vals_app a (vals_rev b)) fun _ _ _ _ _ _ us ws hl hk => match us, ws, hl, hk with | [_], [_, _], _, _ => rfl
theorem iok_NotPossible (D : Fs K) (T : Tx K mg) : FnOk P w K mg base CX0 1 (He.fAd K ("NotPossible", some "__init__")) D.fd_NotPossible_init ["self", "least", "greatest"] (spX2 (He.ga K "NotPossible") "least" "greatest") := by
  refine D.F_NotPossible_init.ok sc_NotPossible_init (fun vs H Q E h => ?_) (fun cdv A outer s H vs Q E hr h => ⟨tSeq (tOst K "least" (tVar 0) (tVar 1)) (tOst K "greatest" (tVar 0) (tVar 2)), PSs.nox ?_, ?_⟩)
  · obtain ⟨a, y, z, rfl, _⟩ := h
    rfl
  · exact pss_cons (ps_ost (pv 0) (pv 1)) (pss_one (ps_ost (pv 0) (pv 2)))
  · obtain ⟨a, y, z, rfl, ha, k⟩ := h
    refine ⟨_, rfl, _, rfl, a, _, rfl, (T.c _ c_NotPossible).1, (T.kf.fl "NotPossible" "least" (by decide)), .inl ⟨ha, fun dx n ne => ?_⟩⟩
    refine ⟨_, rfl, _, rfl, a, _, rfl, (T.c _ c_NotPossible).1, (T.kf.fl "NotPossible" "greatest" (by decide)), .inr ⟨dx, _, upd_same, by rw [upd_ne ne]; exact upd_same, by simp, ?_⟩⟩
    exact k dx n ne
theorem Fs.b_NotSeen (D : Fs K) : KBn K D.fd_NotSeen_init ["self", "jump"] 2 [] (fun us _ => us) gPos := kb_of D.F_NotSeen_init (fun a _ => a) fun _ _ _ _ _ _ us ws hl hk => match us, ws, hl, hk with | [_, _], [], _, _ => rfl
theorem Fs.bk_NotSeen (D : Fs K) : KBn K D.fd_NotSeen_init ["self", "jump"] 1 ["jump"] (fun us ws => us ++ ws) gKw := kb_of D.F_NotSeen_init (fun a b => vals_app a b) fun _ _ _ _ _ _ us ws hl hk => match us, ws, hl, hk with | [_], [_], _, _ => rfl
theorem iok_NotSeen (D : Fs K) (T : Tx K mg) : FnOk P w K mg base CX0 1 (He.fAd K ("NotSeen", some "__init__")) D.fd_NotSeen_init ["self", "jump"] (spX1 (He.ga K "NotSeen") "jump") := by
  refine D.F_NotSeen_init.ok sc_NotSeen_init (fun vs H Q E h => ?_) (fun cdv A outer s H vs Q E hr h => ⟨tOst K "jump" (tVar 0) (tVar 1), PSs.nox ?_, ?_⟩)
  · obtain ⟨a, y, rfl, _⟩ := h
    rfl
  · exact pss_one (ps_ost (pv 0) (pv 1))
  · obtain ⟨a, y, rfl, ha, k⟩ := h
    exact ⟨_, rfl, _, rfl, a, _, rfl, (T.c _ c_NotSeen).1, (T.kf.fl "NotSeen" "jump" (by decide)), .inl ⟨ha, fun dx n ne => k dx n ne⟩⟩
theorem Fs.b_OtherCounts (D : Fs K) : KBn K D.fd_OtherCounts_init ["self", "jump"] 2 [] (fun us _ => us) gPos := kb_of D.F_OtherCounts_init (fun a _ => a) fun _ _ _ _ _ _ us ws hl hk => match us, ws, hl, hk with | [_, _], [], _, _ => rfl
theorem Fs.bk_OtherCounts (D : Fs K) : KBn K D.fd_OtherCounts_init ["self", "jump"] 1 ["jump"] (fun us ws => us ++ ws) gKw := kb_of D.F_OtherCounts_init (fun a b => vals_app a b) fun _ _ _ _ _ _ us ws hl hk => match us, ws, hl, hk with | [_], [_], _, _ => rfl
theorem iok_OtherCounts (D : Fs K) (T : Tx K mg) : FnOk P w K mg base CX0 1 (He.fAd K ("OtherCounts", some "__init__")) D.fd_OtherCounts_init ["self", "jump"] (spX1 (He.ga K "OtherCounts") "jump") := by
  refine D.F_OtherCounts_init.ok sc_OtherCounts_init (fun vs H Q E h => ?_) (fun cdv A outer s H vs Q E hr h => ⟨tOst K "jump" (tVar 0) (tVar 1), PSs.nox ?_, ?_⟩)
  · obtain ⟨a, y, rfl, _⟩ := h
    rfl
  · exact pss_one (ps_ost (pv 0) (pv 1))
  · obtain ⟨a, y, rfl, ha, k⟩ := h
    exact ⟨_, rfl, _, rfl, a, _, rfl, (T.c _ c_OtherCounts).1, (T.kf.fl "OtherCounts" "jump" (by decide)), .inl ⟨ha, fun dx n ne => k dx n ne⟩⟩
theorem Fs.b_BadProgram (D : Fs K) : KBn K D.fd_BadProgram_init ["self", "at"] 2 [] (fun us _ => us) gPos := kb_of D.F_BadProgram_init (fun a _ => a) fun _ _ _ _ _ _ us ws hl hk => match us, ws, hl, hk with | [_, _], [], _, _ => rfl
theorem Fs.bk_BadProgram (D : Fs K) : KBn K D.fd_BadProgram_init ["self", "at"] 1 ["at"] (fun us ws => us ++ ws) gKw := kb_of D.F_BadProgram_init (fun a b => vals_app a b) fun _ _ _ _ _ _ us ws hl hk => match us, ws, hl, hk with | [_], [_], _, _ => rfl
theorem iok_BadProgram (D : Fs K) (T : Tx K mg) : FnOk P w K mg base CX0 1 (He.fAd K ("BadProgram", some "__init__")) D.fd_BadProgram_init ["self", "at"] (spX1 (He.ga K "BadProgram") "at") := by
  refine D.F_BadProgram_init.ok sc_BadProgram_init (fun vs H Q E h => ?_) (fun cdv A outer s H vs Q E hr h => ⟨tOst K "at" (tVar 0) (tVar 1), PSs.nox ?_, ?_⟩)
  · obtain ⟨a, y, rfl, _⟩ := h
    rfl
  · exact pss_one (ps_ost (pv 0) (pv 1))
  · obtain ⟨a, y, rfl, ha, k⟩ := h
    exact ⟨_, rfl, _, rfl, a, _, rfl, (T.c _ c_BadProgram).1, (T.kf.fl "BadProgram" "at" (by decide)), .inl ⟨ha, fun dx n ne => k dx n ne⟩⟩
theorem Fs.b_NoMark (D : Fs K) : KBn K D.fd_NoMark_init ["self", "number"] 2 [] (fun us _ => us) gPos := kb_of D.F_NoMark_init (fun a _ => a) fun _ _ _ _ _ _ us ws hl hk => match us, ws, hl, hk with | [_, _], [], _, _ => rfl
theorem Fs.bk_NoMark (D : Fs K) : KBn K D.fd_NoMark_init ["self", "number"] 1 ["number"] (fun us ws => us ++ ws) gKw := kb_of D.F_NoMark_init (fun a b => vals_app a b) fun _ _ _ _ _ _ us ws hl hk => match us, ws, hl, hk with | [_], [_], _, _ => rfl
theorem iok_NoMark (D : Fs K) (T : Tx K mg) : FnOk P w K mg base CX0 1 (He.fAd K ("NoMark", some "__init__")) D.fd_NoMark_init ["self", "number"] (spX1 (He.ga K "NoMark") "number") := by
  refine D.F_NoMark_init.ok sc_NoMark_init (fun vs H Q E h => ?_) (fun cdv A outer s H vs Q E hr h => ⟨tOst K "number" (tVar 0) (tVar 1), PSs.nox ?_, ?_⟩)
  · obtain ⟨a, y, rfl, _⟩ := h
    rfl
  · exact pss_one (ps_ost (pv 0) (pv 1))
  · obtain ⟨a, y, rfl, ha, k⟩ := h
    exact ⟨_, rfl, _, rfl, a, _, rfl, (T.c _ c_NoMark).1, (T.kf.fl "NoMark" "number" (by decide)), .inl ⟨ha, fun dx n ne => k dx n ne⟩⟩
theorem Fs.b_BadText (D : Fs K) : KBn K D.fd_BadText_init ["self", "line"] 2 [] (fun us _ => us) gPos := kb_of D.F_BadText_init (fun a _ => a) fun _ _ _ _ _ _ us ws hl hk => match us, ws, hl, hk with | [_, _], [], _, _ => rfl
theorem Fs.bk_BadText (D : Fs K) : KBn K D.fd_BadText_init ["self", "line"] 1 ["line"] (fun us ws => us ++ ws) gKw := kb_of D.F_BadText_init (fun a b => vals_app a b) fun _ _ _ _ _ _ us ws hl hk => match us, ws, hl, hk with | [_], [_], _, _ => rfl
theorem iok_BadText (D : Fs K) (T : Tx K mg) : FnOk P w K mg base CX0 1 (He.fAd K ("BadText", some "__init__")) D.fd_BadText_init ["self", "line"] (spX1 (He.ga K "BadText") "line") := by
  refine D.F_BadText_init.ok sc_BadText_init (fun vs H Q E h => ?_) (fun cdv A outer s H vs Q E hr h => ⟨tOst K "line" (tVar 0) (tVar 1), PSs.nox ?_, ?_⟩)
  · obtain ⟨a, y, rfl, _⟩ := h
    rfl
  · exact pss_one (ps_ost (pv 0) (pv 1))
  · obtain ⟨a, y, rfl, ha, k⟩ := h
    exact ⟨_, rfl, _, rfl, a, _, rfl, (T.c _ c_BadText).1, (T.kf.fl "BadText" "line" (by decide)), .inl ⟨ha, fun dx n ne => k dx n ne⟩⟩
theorem ok_take (D : Fs K) (T : Tx K mg) : FnOk P w K mg base CX0 1 (He.fAd K ("_law_take", none)) D.fd_take ["_law_feed_here", "_law_many"] (pr S_take) := by
  refine D.F_take.ok sc_take (fun vs H Q E h => ?_) (fun cdv A outer s H vs Q E hr h => ?_)
  · obtain ⟨_, _, _, _, _, a, z, _⟩ := h
    obtain ⟨_, _, rfl, _⟩ := z
    exact a.length
  have hu64 : (A.deeper (PyProof.Rows.envOfC "_law_take" (defScope s_take) s.heap.objs.size (He.fAd K ("_law_take", none)) cdv)).units + 64 < cLine := by
    have := hr.un
    omega
  refine ⟨t_take K, PSs.nox ?_, ?_⟩
  · exact (pss_cons (ps_if (pt_cmpR op_gt (pe_ix ix_seq (pv 0) pe_int (fun _ _ => rfl)) pe_int (nomark _)) (pss_cons (ps_set (i := 2) sc_take.nd rfl (by first | exact Or.inl rfl | exact Or.inr rfl) (pe_op op_mod (pe_callTy call_int1 (by rfl) (T.z _ z_int) (by decide +kernel) (pa_cons (pe_ix ix_seq (pv 0) pe_int (fun _ _ => rfl)) pa_nil)) (pv 1)))
  (pss_cons (ps_asg (pe_op op_fdiv (pe_ix ix_seq (pv 0) pe_int (fun _ _ => rfl)) (pv 1)) (pg_sub (pv 0) pe_int set_list))
  (pss_one (ps_ret (pv 2))))) pss_nil)
  (pss_cons (ps_asg (pe_op op_mod (pe_callTy call_int1 (by rfl) (T.z _ z_int) (by decide +kernel) (pa_cons (pe_op op_addU (pe_op op_mulU (pe_ix ix_seq (pv 0) pe_int (fun _ _ => rfl)) pe_int) pe_int) pa_nil)) pe_int) (pg_sub (pv 0) pe_int set_list))
  (pss_one (ps_ret (pe_op op_mod (pe_callTy call_int1 (by rfl) (T.z _ z_int) (by decide +kernel) (pa_cons (pe_op op_fdiv (pe_ix ix_seq (pv 0) pe_int (fun _ _ => rfl)) pe_int) pa_nil)) (pv 1))))))
  · exact rd_take h
theorem ok_pick (D : Fs K) (T : Tx K mg) : FnOk P w K mg base CX0 2 (He.fAd K ("_law_pick", none)) D.fd_pick ["_law_feed_here", "_law_some"] (pr S_pick) := by
  refine D.F_pick.ok sc_pick (fun vs H Q E h => ?_) (fun cdv A outer s H vs Q E hr h => ?_)
  · obtain ⟨_, _, _, _, _, a, z, _⟩ := h
    obtain ⟨_, _, _, rfl, _⟩ := z
    exact a.length
  have hu64 : (A.deeper (PyProof.Rows.envOfC "_law_pick" (defScope s_pick) s.heap.objs.size (He.fAd K ("_law_pick", none)) cdv)).units + 64 < cLine := by
    have := hr.un
    omega
  refine ⟨t_pick K, PSs.nox ?_, ?_⟩
  · exact (pss_one (ps_ret (pe_ix ix_seq (pv 1) (pe_call (ok_take D T) (hr.mono (by decide)) rfl (T.m _ g__law_take) D.F_take.kp D.b_take .nil pass0 (pa_cons (pv 0) (pa_cons (pe_callB call_len (by rfl) (T.z _ z_len) (by decide +kernel) (pa_cons (pv 1) pa_nil)) pa_nil))) (fun _ _ => rfl))))
  · exact fn_blk h (fun S ss Θ z => by obtain ⟨_, _, _, rfl, _⟩ := z; exact Nat.le_of_ble_eq_true rfl) fun S R ss Θ o z => (show Blk S R H (t_pick K) (ss ++ List.replicate (2 - ss.length) .no) Θ _ _ _ from by have e : ss.length = 2 := (by obtain ⟨_, _, _, rfl, _⟩ := z; rfl); rw [e]; show Blk S R H (t_pick K) (ss ++ []) Θ _ _ _; rw [List.append_nil]; exact rd_pick z)
theorem ok_feed (D : Fs K) (T : Tx K mg) : FnOk P w K mg base CX0 1 (He.fAd K ("_law_feed", none)) D.fd_feed ["_law_script", "_law_k"] (spFeed K) := by
  refine D.F_feed.ok sc_feed (fun vs H Q E h => ?_) (fun cdv A outer s H vs Q E hr h => ?_)
  · obtain ⟨_, _, _, _, rfl, _⟩ := h
    rfl
  have hu64 : (A.deeper (PyProof.Rows.envOfC "_law_feed" (defScope s_feed) s.heap.objs.size (He.fAd K ("_law_feed", none)) cdv)).units + 64 < cLine := by
    have := hr.un
    omega
  refine ⟨t_feed K, PSs.nox ?_, ?_⟩
  · exact (pss_cons (ps_set (i := 2) sc_feed.nd rfl (by first | exact Or.inl rfl | exact Or.inr rfl) (pe_ifExp (pt_cmpR op_lt (pv 1) (pe_callB call_len (by rfl) (T.z _ z_len) (by decide +kernel) (pa_cons (pv 0) pa_nil)) (nomark _)) (pe_ix ix_seq (pv 0) (pv 1) (fun _ _ => rfl)) (pe_op op_addU (pe_op op_mulU pe_int (pv 1)) pe_int)))
  (pss_cons (ps_set (i := 3) sc_feed.nd rfl (by first | exact Or.inl rfl | exact Or.inr rfl) (pe_callB (call_max2 rfl) (by rfl) (T.z _ z_max) (by decide +kernel) (pa_cons pe_int (pa_cons (pe_op op_sub (pe_callB call_abs (by rfl) (T.z _ z_abs) (by decide +kernel) (pa_cons (pv 2) pa_nil)) (pe_op op_pow pe_int pe_int)) pa_nil))))
  (pss_cons (ps_set (i := 4) sc_feed.nd rfl (by first | exact Or.inl rfl | exact Or.inr rfl) (pe_op op_mod (pe_callTy call_int1 (by rfl) (T.z _ z_int) (by decide +kernel) (pa_cons (pe_op op_addU (pe_op op_addU (pe_op op_mulU (pv 2) pe_int) (pe_op op_mulU pe_int (pv 1))) pe_int) pa_nil)) pe_int))
  (pss_one (ps_ret (pe_lst (pa_cons (pv 3) (pa_cons (pv 4) pa_nil))))))))
  · exact rd_feed h
theorem ok_kinds (D : Fs K) (T : Tx K mg) : FnOk P w K mg base CX0 1 (He.fAd K ("_law_kinds", none)) D.fd_kinds ["_law_thing"] (pr (S_kinds K)) := by
  refine D.F_kinds.ok sc_kinds (fun vs H Q E h => ?_) (fun cdv A outer s H vs Q E hr h => ?_)
  · obtain ⟨_, _, _, _, _, a, z, _⟩ := h
    obtain ⟨_, _, rfl, _⟩ := z
    exact a.length
  have hu64 : (A.deeper (PyProof.Rows.envOfC "_law_kinds" (defScope s_kinds) s.heap.objs.size (He.fAd K ("_law_kinds", none)) cdv)).units + 64 < cLine := by
    have := hr.un
    omega
  refine ⟨t_kinds K, PSs.nox ?_, ?_⟩
  · exact (pss_cons (ps_set (i := 1) sc_kinds.nd rfl (by first | exact Or.inl rfl | exact Or.inr rfl) (pe_lst (pa_cons (pe_callB call_isX (by rfl) (T.z _ z_isinstance) (by decide +kernel) (pa_cons (pv 0) (pa_cons (pe_glob (by rfl) ((T.m _ g_BadBlocks)) rfl) pa_nil))) (pa_cons (pe_callB call_isX (by rfl) (T.z _ z_isinstance) (by decide +kernel) (pa_cons (pv 0) (pa_cons (pe_glob (by rfl) ((T.m _ g_BadCount)) rfl) pa_nil))) (pa_cons (pe_callB call_isX (by rfl) (T.z _ z_isinstance) (by decide +kernel) (pa_cons (pv 0) (pa_cons (pe_glob (by rfl) ((T.m _ g_BadCover)) rfl) pa_nil))) pa_nil)))))
  (pss_cons (ps_set (i := 1) sc_kinds.nd rfl (by first | exact Or.inl rfl | exact Or.inr rfl) (pe_op op_addU (pv 1) (pe_lst (pa_cons (pe_callB call_isX (by rfl) (T.z _ z_isinstance) (by decide +kernel) (pa_cons (pv 0) (pa_cons (pe_glob (by rfl) ((T.m _ g_BadEntry)) rfl) pa_nil))) (pa_cons (pe_callB call_isX (by rfl) (T.z _ z_isinstance) (by decide +kernel) (pa_cons (pv 0) (pa_cons (pe_glob (by rfl) ((T.m _ g_BadIns)) rfl) pa_nil))) (pa_cons (pe_callB call_isX (by rfl) (T.z _ z_isinstance) (by decide +kernel) (pa_cons (pv 0) (pa_cons (pe_glob (by rfl) ((T.m _ g_BadJump)) rfl) pa_nil))) pa_nil))))))
  (pss_cons (ps_set (i := 1) sc_kinds.nd rfl (by first | exact Or.inl rfl | exact Or.inr rfl) (pe_op op_addU (pv 1) (pe_lst (pa_cons (pe_callB call_isX (by rfl) (T.z _ z_isinstance) (by decide +kernel) (pa_cons (pv 0) (pa_cons (pe_glob (by rfl) ((T.m _ g_BadNumber)) rfl) pa_nil))) (pa_cons (pe_callB call_isX (by rfl) (T.z _ z_isinstance) (by decide +kernel) (pa_cons (pv 0) (pa_cons (pe_glob (by rfl) ((T.m _ g_BadProgram)) rfl) pa_nil))) pa_nil)))))
  (pss_cons (ps_set (i := 1) sc_kinds.nd rfl (by first | exact Or.inl rfl | exact Or.inr rfl) (pe_op op_addU (pv 1) (pe_lst (pa_cons (pe_callB call_isX (by rfl) (T.z _ z_isinstance) (by decide +kernel) (pa_cons (pv 0) (pa_cons (pe_glob (by rfl) ((T.m _ g_BadText)) rfl) pa_nil))) (pa_cons (pe_callB call_isX (by rfl) (T.z _ z_isinstance) (by decide +kernel) (pa_cons (pv 0) (pa_cons (pe_glob (by rfl) ((T.m _ g_NoBlock)) rfl) pa_nil))) pa_nil)))))
  (pss_cons (ps_set (i := 1) sc_kinds.nd rfl (by first | exact Or.inl rfl | exact Or.inr rfl) (pe_op op_addU (pv 1) (pe_lst (pa_cons (pe_callB call_isX (by rfl) (T.z _ z_isinstance) (by decide +kernel) (pa_cons (pv 0) (pa_cons (pe_glob (by rfl) ((T.m _ g_NoCeiling)) rfl) pa_nil))) (pa_cons (pe_callB call_isX (by rfl) (T.z _ z_isinstance) (by decide +kernel) (pa_cons (pv 0) (pa_cons (pe_glob (by rfl) ((T.m _ g_NoFloor)) rfl) pa_nil))) (pa_cons (pe_callB call_isX (by rfl) (T.z _ z_isinstance) (by decide +kernel) (pa_cons (pv 0) (pa_cons (pe_glob (by rfl) ((T.m _ g_NoItem)) rfl) pa_nil))) pa_nil))))))
  (pss_cons (ps_set (i := 1) sc_kinds.nd rfl (by first | exact Or.inl rfl | exact Or.inr rfl) (pe_op op_addU (pv 1) (pe_lst (pa_cons (pe_callB call_isX (by rfl) (T.z _ z_isinstance) (by decide +kernel) (pa_cons (pv 0) (pa_cons (pe_glob (by rfl) ((T.m _ g_NoJump)) rfl) pa_nil))) (pa_cons (pe_callB call_isX (by rfl) (T.z _ z_isinstance) (by decide +kernel) (pa_cons (pv 0) (pa_cons (pe_glob (by rfl) ((T.m _ g_NoMark)) rfl) pa_nil))) (pa_cons (pe_callB call_isX (by rfl) (T.z _ z_isinstance) (by decide +kernel) (pa_cons (pv 0) (pa_cons (pe_glob (by rfl) ((T.m _ g_NoRun)) rfl) pa_nil))) pa_nil))))))
  (pss_cons (ps_set (i := 1) sc_kinds.nd rfl (by first | exact Or.inl rfl | exact Or.inr rfl) (pe_op op_addU (pv 1) (pe_lst (pa_cons (pe_callB call_isX (by rfl) (T.z _ z_isinstance) (by decide +kernel) (pa_cons (pv 0) (pa_cons (pe_glob (by rfl) ((T.m _ g_NotEnough)) rfl) pa_nil))) (pa_cons (pe_callB call_isX (by rfl) (T.z _ z_isinstance) (by decide +kernel) (pa_cons (pv 0) (pa_cons (pe_glob (by rfl) ((T.m _ g_NotInner)) rfl) pa_nil))) (pa_cons (pe_callB call_isX (by rfl) (T.z _ z_isinstance) (by decide +kernel) (pa_cons (pv 0) (pa_cons (pe_glob (by rfl) ((T.m _ g_NotPassed)) rfl) pa_nil))) pa_nil))))))
  (pss_cons (ps_set (i := 1) sc_kinds.nd rfl (by first | exact Or.inl rfl | exact Or.inr rfl) (pe_op op_addU (pv 1) (pe_lst (pa_cons (pe_callB call_isX (by rfl) (T.z _ z_isinstance) (by decide +kernel) (pa_cons (pv 0) (pa_cons (pe_glob (by rfl) ((T.m _ g_NotPossible)) rfl) pa_nil))) (pa_cons (pe_callB call_isX (by rfl) (T.z _ z_isinstance) (by decide +kernel) (pa_cons (pv 0) (pa_cons (pe_glob (by rfl) ((T.m _ g_NotSeen)) rfl) pa_nil))) (pa_cons (pe_callB call_isX (by rfl) (T.z _ z_isinstance) (by decide +kernel) (pa_cons (pv 0) (pa_cons (pe_glob (by rfl) ((T.m _ g_NotTwins)) rfl) pa_nil))) pa_nil))))))
  (pss_cons (ps_set (i := 1) sc_kinds.nd rfl (by first | exact Or.inl rfl | exact Or.inr rfl) (pe_op op_addU (pv 1) (pe_lst (pa_cons (pe_callB call_isX (by rfl) (T.z _ z_isinstance) (by decide +kernel) (pa_cons (pv 0) (pa_cons (pe_glob (by rfl) ((T.m _ g_OtherCounts)) rfl) pa_nil))) (pa_cons (pe_callB call_isX (by rfl) (T.z _ z_isinstance) (by decide +kernel) (pa_cons (pv 0) (pa_cons (pe_glob (by rfl) ((T.m _ g_OtherRoutine)) rfl) pa_nil))) pa_nil)))))
  (pss_one (ps_ret (pe_op op_addU (pv 1) (pe_lst (pa_cons (pe_callB call_isX (by rfl) (T.z _ z_isinstance) (by decide +kernel) (pa_cons (pv 0) (pa_cons (pe_glob (by rfl) ((T.m _ g_TooLarge)) rfl) pa_nil))) (pa_cons (pe_callB call_isX (by rfl) (T.z _ z_isinstance) (by decide +kernel) (pa_cons (pv 0) (pa_cons (pe_glob (by rfl) ((T.m _ g_Uneven)) rfl) pa_nil))) pa_nil)))))))))))))))
  · exact fn_blk h (fun S ss Θ z => by obtain ⟨_, _, rfl, _⟩ := z; exact Nat.le_of_ble_eq_true rfl) fun S R ss Θ o z => rd_kinds T.kf z
theorem ok_numbers_right (D : Fs K) (T : Tx K mg) : FnOk P w K mg base CX0 3 (He.fAd K ("_law_numbers_right", none)) D.fd_numbers_right ["_law_mine"] (pr S_numbers_right) := by
  refine D.F_numbers_right.ok sc_numbers_right (fun vs H Q E h => ?_) (fun cdv A outer s H vs Q E hr h => ?_)
  · obtain ⟨_, _, _, _, _, a, z, _⟩ := h
    obtain ⟨_, rfl, _⟩ := z
    exact a.length
  have hu64 : (A.deeper (PyProof.Rows.envOfC "_law_numbers_right" (defScope s_numbers_right) s.heap.objs.size (He.fAd K ("_law_numbers_right", none)) cdv)).units + 64 < cLine := by
    have := hr.un
    omega
  refine ⟨t_numbers_right K, PSs.nox ?_, ?_⟩
  · exact (pss_cons (ps_set (i := 1) sc_numbers_right.nd rfl (by first | exact Or.inl rfl | exact Or.inr rfl) (pe_lst (pa_cons (pe_xfl (pe_xn (n := 1) (T.c _ c_BadCount).1 (T.c _ c_BadCount).2.1 (T.c _ c_BadCount).2.2 (iok_BadCount D T) (hr.mono (by decide)) (D.b_BadCount) pass0 (by rfl) ((T.m _ g_BadCount)) (pa_cons (pv 0) pa_nil))) (pa_cons (pe_xfl (pe_xn (n := 1) (T.c _ c_BadEntry).1 (T.c _ c_BadEntry).2.1 (T.c _ c_BadEntry).2.2 (iok_BadEntry D T) (hr.mono (by decide)) (D.b_BadEntry) pass0 (by rfl) ((T.m _ g_BadEntry)) (pa_cons (pv 0) pa_nil))) (pa_cons (pe_xfl (pe_xn (n := 1) (T.c _ c_BadJump).1 (T.c _ c_BadJump).2.1 (T.c _ c_BadJump).2.2 (iok_BadJump D T) (hr.mono (by decide)) (D.b_BadJump) pass0 (by rfl) ((T.m _ g_BadJump)) (pa_cons (pv 0) pa_nil))) (pa_cons (pe_xfl (pe_xn (n := 1) (T.c _ c_BadText).1 (T.c _ c_BadText).2.1 (T.c _ c_BadText).2.2 (iok_BadText D T) (hr.mono (by decide)) (D.b_BadText) pass0 (by rfl) ((T.m _ g_BadText)) (pa_cons (pv 0) pa_nil))) (pa_cons (pe_xfl (pe_xn (n := 1) (T.c _ c_TooLarge).1 (T.c _ c_TooLarge).2.1 (T.c _ c_TooLarge).2.2 (iok_TooLarge D T) (hr.mono (by decide)) (D.b_TooLarge) pass0 (by rfl) ((T.m _ g_TooLarge)) (pa_cons (pv 0) pa_nil))) pa_nil)))))))
  (pss_cons (ps_set (i := 1) sc_numbers_right.nd rfl (by first | exact Or.inl rfl | exact Or.inr rfl) (pe_op op_addU (pv 1) (pe_lst (pa_cons (pe_xfl (pe_xnK (ks := ["at"]) (T.c _ c_BadCount).1 (T.c _ c_BadCount).2.1 (T.c _ c_BadCount).2.2 (iok_BadCount D T) (hr.mono (by decide)) (D.bk_BadCount) pass0 (by rfl) ((T.m _ g_BadCount)) (pk_cons (pv 0) pk_nil))) (pa_cons (pe_xfl (pe_xnK (ks := ["at"]) (T.c _ c_BadEntry).1 (T.c _ c_BadEntry).2.1 (T.c _ c_BadEntry).2.2 (iok_BadEntry D T) (hr.mono (by decide)) (D.bk_BadEntry) pass0 (by rfl) ((T.m _ g_BadEntry)) (pk_cons (pv 0) pk_nil))) (pa_cons (pe_xfl (pe_xnK (ks := ["at"]) (T.c _ c_BadJump).1 (T.c _ c_BadJump).2.1 (T.c _ c_BadJump).2.2 (iok_BadJump D T) (hr.mono (by decide)) (D.bk_BadJump) pass0 (by rfl) ((T.m _ g_BadJump)) (pk_cons (pv 0) pk_nil))) (pa_cons (pe_xfl (pe_xnK (ks := ["line"]) (T.c _ c_BadText).1 (T.c _ c_BadText).2.1 (T.c _ c_BadText).2.2 (iok_BadText D T) (hr.mono (by decide)) (D.bk_BadText) pass0 (by rfl) ((T.m _ g_BadText)) (pk_cons (pv 0) pk_nil))) pa_nil)))))))
  (pss_cons (ps_set (i := 1) sc_numbers_right.nd rfl (by first | exact Or.inl rfl | exact Or.inr rfl) (pe_op op_addU (pv 1) (pe_lst (pa_cons (pe_xfl (pe_xnK (ks := ["bound"]) (T.c _ c_TooLarge).1 (T.c _ c_TooLarge).2.1 (T.c _ c_TooLarge).2.2 (iok_TooLarge D T) (hr.mono (by decide)) (D.bk_TooLarge) pass0 (by rfl) ((T.m _ g_TooLarge)) (pk_cons (pv 0) pk_nil))) (pa_cons (pe_xfl (pe_xn (n := 1) (T.c _ c_Uneven).1 (T.c _ c_Uneven).2.1 (T.c _ c_Uneven).2.2 (iok_Uneven D T) (hr.mono (by decide)) (D.b_Uneven) pass0 (by rfl) ((T.m _ g_Uneven)) (pa_cons (pv 0) pa_nil))) (pa_cons (pe_xfl (pe_xnK (ks := ["block"]) (T.c _ c_Uneven).1 (T.c _ c_Uneven).2.1 (T.c _ c_Uneven).2.2 (iok_Uneven D T) (hr.mono (by decide)) (D.bk_Uneven) pass0 (by rfl) ((T.m _ g_Uneven)) (pk_cons (pv 0) pk_nil))) pa_nil))))))
  (pss_cons (ps_set (i := 1) sc_numbers_right.nd rfl (by first | exact Or.inl rfl | exact Or.inr rfl) (pe_op op_addU (pv 1) (pe_lst (pa_cons (pe_xfl (pe_xn (n := 1) (T.c _ c_BadProgram).1 (T.c _ c_BadProgram).2.1 (T.c _ c_BadProgram).2.2 (iok_BadProgram D T) (hr.mono (by decide)) (D.b_BadProgram) pass0 (by rfl) ((T.m _ g_BadProgram)) (pa_cons (pv 0) pa_nil))) (pa_cons (pe_xfl (pe_xnK (ks := ["at"]) (T.c _ c_BadProgram).1 (T.c _ c_BadProgram).2.1 (T.c _ c_BadProgram).2.2 (iok_BadProgram D T) (hr.mono (by decide)) (D.bk_BadProgram) pass0 (by rfl) ((T.m _ g_BadProgram)) (pk_cons (pv 0) pk_nil))) pa_nil)))))
  (pss_cons (ps_set (i := 1) sc_numbers_right.nd rfl (by first | exact Or.inl rfl | exact Or.inr rfl) (pe_op op_addU (pv 1) (pe_lst (pa_cons (pe_xfl (pe_xn (n := 2) (T.c _ c_NotPossible).1 (T.c _ c_NotPossible).2.1 (T.c _ c_NotPossible).2.2 (iok_NotPossible D T) (hr.mono (by decide)) (D.b_NotPossible) pass0 (by rfl) ((T.m _ g_NotPossible)) (pa_cons (pv 0) (pa_cons pe_int pa_nil)))) (pa_cons (pe_xfl (pe_xn (n := 2) (T.c _ c_NotPossible).1 (T.c _ c_NotPossible).2.1 (T.c _ c_NotPossible).2.2 (iok_NotPossible D T) (hr.mono (by decide)) (D.b_NotPossible) pass0 (by rfl) ((T.m _ g_NotPossible)) (pa_cons pe_int (pa_cons (pv 0) pa_nil)))) pa_nil)))))
  (pss_cons (ps_set (i := 1) sc_numbers_right.nd rfl (by first | exact Or.inl rfl | exact Or.inr rfl) (pe_op op_addU (pv 1) (pe_lst (pa_cons (pe_xfl (pe_xnK (ks := ["greatest", "least"]) (T.c _ c_NotPossible).1 (T.c _ c_NotPossible).2.1 (T.c _ c_NotPossible).2.2 (iok_NotPossible D T) (hr.mono (by decide)) (D.bk_NotPossible) pass0 (by rfl) ((T.m _ g_NotPossible)) (pk_cons pe_int (pk_cons (pv 0) pk_nil)))) (pa_cons (pe_xfl (pe_xnK (ks := ["greatest", "least"]) (T.c _ c_NotPossible).1 (T.c _ c_NotPossible).2.1 (T.c _ c_NotPossible).2.2 (iok_NotPossible D T) (hr.mono (by decide)) (D.bk_NotPossible) pass0 (by rfl) ((T.m _ g_NotPossible)) (pk_cons (pv 0) (pk_cons pe_int pk_nil)))) pa_nil)))))
  (pss_one (ps_ret (pe_cmpR (op_eqU hu64) (pv 1) (pe_op op_mulU (pe_lst (pa_cons (pv 0) pa_nil)) pe_int) (nomark _))))))))))
  · exact fn_blk h (fun S ss Θ z => by obtain ⟨_, rfl, _⟩ := z; exact Nat.le_of_ble_eq_true rfl) fun S R ss Θ o z => rd_numbers_right T.kf z
theorem ok_others_right (D : Fs K) (T : Tx K mg) : FnG P w K mg base CX0 3 (He.fAd K ("_law_others_right", none)) D.fd_others_right ["_law_odd"] (pr S_others_right) := by
  refine FnG.of D.F_others_right sc_others_right (fun vs H Q E h => ?_) (fun cdv A outer s H vs Q E hg hr h => ?_)
  · obtain ⟨_, _, _, _, _, a, z, _⟩ := h
    obtain ⟨_, _, rfl, _⟩ := z
    exact a.length
  have hu64 : (A.deeper (PyProof.Rows.envOfC "_law_others_right" (defScope s_others_right) s.heap.objs.size (He.fAd K ("_law_others_right", none)) cdv)).units + 64 < cLine := by
    have := hr.un
    omega
  have gd : A.guards = some [] := hg
  refine ⟨t_others_right K, PSs.nox ?_, ?_⟩
  · exact (pss_cons (ps_set (i := 1) sc_others_right.nd rfl (by first | exact Or.inl rfl | exact Or.inr rfl) (pe_lst (pa_cons (pe_xfl (pe_xn (n := 1) (T.c _ c_NoBlock).1 (T.c _ c_NoBlock).2.1 (T.c _ c_NoBlock).2.2 (iok_NoBlock D T) (hr.mono (by decide)) (D.b_NoBlock) pass0 (by rfl) ((T.m _ g_NoBlock)) (pa_cons (pv 0) pa_nil))) (pa_cons (pe_xfl (pe_xn (n := 1) (T.c _ c_NoItem).1 (T.c _ c_NoItem).2.1 (T.c _ c_NoItem).2.2 (iok_NoItem D T) (hr.mono (by decide)) (D.b_NoItem) pass0 (by rfl) ((T.m _ g_NoItem)) (pa_cons (pv 0) pa_nil))) (pa_cons (pe_xfl (pe_xn (n := 1) (T.c _ c_NoJump).1 (T.c _ c_NoJump).2.1 (T.c _ c_NoJump).2.2 (iok_NoJump D T) (hr.mono (by decide)) (D.b_NoJump) pass0 (by rfl) ((T.m _ g_NoJump)) (pa_cons (pv 0) pa_nil))) (pa_cons (pe_xfl (pe_xn (n := 1) (T.c _ c_NoMark).1 (T.c _ c_NoMark).2.1 (T.c _ c_NoMark).2.2 (iok_NoMark D T) (hr.mono (by decide)) (D.b_NoMark) pass0 (by rfl) ((T.m _ g_NoMark)) (pa_cons (pv 0) pa_nil))) (pa_cons (pe_xfl (pe_xn (n := 1) (T.c _ c_NoRun).1 (T.c _ c_NoRun).2.1 (T.c _ c_NoRun).2.2 (iok_NoRun D T) (hr.mono (by decide)) (D.b_NoRun) pass0 (by rfl) ((T.m _ g_NoRun)) (pa_cons (pv 0) pa_nil))) pa_nil)))))))
  (pss_cons (ps_set (i := 1) sc_others_right.nd rfl (by first | exact Or.inl rfl | exact Or.inr rfl) (pe_op op_addU (pv 1) (pe_lst (pa_cons (pe_xfl (pe_xn (n := 1) (T.c _ c_NotInner).1 (T.c _ c_NotInner).2.1 (T.c _ c_NotInner).2.2 (iok_NotInner D T) (hr.mono (by decide)) (D.b_NotInner) pass0 (by rfl) ((T.m _ g_NotInner)) (pa_cons (pv 0) pa_nil))) (pa_cons (pe_xfl (pe_xn (n := 1) (T.c _ c_NotPassed).1 (T.c _ c_NotPassed).2.1 (T.c _ c_NotPassed).2.2 (iok_NotPassed D T) (hr.mono (by decide)) (D.b_NotPassed) pass0 (by rfl) ((T.m _ g_NotPassed)) (pa_cons (pv 0) pa_nil))) pa_nil)))))
  (pss_cons (ps_set (i := 1) sc_others_right.nd rfl (by first | exact Or.inl rfl | exact Or.inr rfl) (pe_op op_addU (pv 1) (pe_lst (pa_cons (pe_xfl (pe_xnK (ks := ["block"]) (T.c _ c_NoBlock).1 (T.c _ c_NoBlock).2.1 (T.c _ c_NoBlock).2.2 (iok_NoBlock D T) (hr.mono (by decide)) (D.bk_NoBlock) pass0 (by rfl) ((T.m _ g_NoBlock)) (pk_cons (pv 0) pk_nil))) (pa_cons (pe_xfl (pe_xnK (ks := ["item"]) (T.c _ c_NoItem).1 (T.c _ c_NoItem).2.1 (T.c _ c_NoItem).2.2 (iok_NoItem D T) (hr.mono (by decide)) (D.bk_NoItem) pass0 (by rfl) ((T.m _ g_NoItem)) (pk_cons (pv 0) pk_nil))) pa_nil)))))
  (pss_cons (ps_set (i := 1) sc_others_right.nd rfl (by first | exact Or.inl rfl | exact Or.inr rfl) (pe_op op_addU (pv 1) (pe_lst (pa_cons (pe_xfl (pe_xnK (ks := ["jump"]) (T.c _ c_NoJump).1 (T.c _ c_NoJump).2.1 (T.c _ c_NoJump).2.2 (iok_NoJump D T) (hr.mono (by decide)) (D.bk_NoJump) pass0 (by rfl) ((T.m _ g_NoJump)) (pk_cons (pv 0) pk_nil))) (pa_cons (pe_xfl (pe_xnK (ks := ["number"]) (T.c _ c_NoMark).1 (T.c _ c_NoMark).2.1 (T.c _ c_NoMark).2.2 (iok_NoMark D T) (hr.mono (by decide)) (D.bk_NoMark) pass0 (by rfl) ((T.m _ g_NoMark)) (pk_cons (pv 0) pk_nil))) (pa_cons (pe_xfl (pe_xnK (ks := ["run"]) (T.c _ c_NoRun).1 (T.c _ c_NoRun).2.1 (T.c _ c_NoRun).2.2 (iok_NoRun D T) (hr.mono (by decide)) (D.bk_NoRun) pass0 (by rfl) ((T.m _ g_NoRun)) (pk_cons (pv 0) pk_nil))) pa_nil))))))
  (pss_cons (ps_set (i := 1) sc_others_right.nd rfl (by first | exact Or.inl rfl | exact Or.inr rfl) (pe_op op_addU (pv 1) (pe_lst (pa_cons (pe_xfl (pe_xnK (ks := ["block"]) (T.c _ c_NotInner).1 (T.c _ c_NotInner).2.1 (T.c _ c_NotInner).2.2 (iok_NotInner D T) (hr.mono (by decide)) (D.bk_NotInner) pass0 (by rfl) ((T.m _ g_NotInner)) (pk_cons (pv 0) pk_nil))) (pa_cons (pe_xfl (pe_xnK (ks := ["block"]) (T.c _ c_NotPassed).1 (T.c _ c_NotPassed).2.1 (T.c _ c_NotPassed).2.2 (iok_NotPassed D T) (hr.mono (by decide)) (D.bk_NotPassed) pass0 (by rfl) ((T.m _ g_NotPassed)) (pk_cons (pv 0) pk_nil))) pa_nil)))))
  (pss_one (ps_ret (pe_cmpR (op_eqU hu64) (pe_callB (call_repr gd hu64) (by rfl) (T.z _ z_repr) (by decide +kernel) (pa_cons (pv 1) pa_nil)) (pe_callB (call_repr gd hu64) (by rfl) (T.z _ z_repr) (by decide +kernel) (pa_cons (pe_op op_mulU (pe_lst (pa_cons (pv 0) pa_nil)) pe_int) pa_nil)) (nomark _)))))))))
  · exact fn_blk h (fun S ss Θ z => by obtain ⟨_, _, rfl, _⟩ := z; exact Nat.le_of_ble_eq_true rfl) fun S R ss Θ o z => rd_others_right T.kf z
theorem ok_runs_right (D : Fs K) (T : Tx K mg) : FnOk P w K mg base CX0 3 (He.fAd K ("_law_runs_right", none)) D.fd_runs_right ["_law_run_told", "_law_jump_told"] (pr S_runs_right) := by
  refine D.F_runs_right.ok sc_runs_right (fun vs H Q E h => ?_) (fun cdv A outer s H vs Q E hr h => ?_)
  · obtain ⟨_, _, _, _, _, a, z, _⟩ := h
    obtain ⟨_, _, rfl, _⟩ := z
    exact a.length
  have hu64 : (A.deeper (PyProof.Rows.envOfC "_law_runs_right" (defScope s_runs_right) s.heap.objs.size (He.fAd K ("_law_runs_right", none)) cdv)).units + 64 < cLine := by
    have := hr.un
    omega
  refine ⟨t_runs_right K, PSs.nox ?_, ?_⟩
  · exact (pss_cons (ps_if (PW.pt (pw_or (pt_cmpR (op_neU hu64) (pe_xfl (pe_xn (n := 1) (T.c _ c_NotEnough).1 (T.c _ c_NotEnough).2.1 (T.c _ c_NotEnough).2.2 (iok_NotEnough D T) (hr.mono (by decide)) (D.b_NotEnough) pass0 (by rfl) ((T.m _ g_NotEnough)) (pa_cons (pv 0) pa_nil))) (pv 0) (nomark _)) (pw_or1 (pt_cmpR (op_neU hu64) (pe_xfl (pe_xnK (ks := ["run"]) (T.c _ c_NotEnough).1 (T.c _ c_NotEnough).2.1 (T.c _ c_NotEnough).2.2 (iok_NotEnough D T) (hr.mono (by decide)) (D.bk_NotEnough) pass0 (by rfl) ((T.m _ g_NotEnough)) (pk_cons (pv 0) pk_nil))) (pv 0) (nomark _))))) (pss_one (ps_ret pe_bl)) pss_nil)
  (pss_cons (ps_set (i := 2) sc_runs_right.nd rfl (by first | exact Or.inl rfl | exact Or.inr rfl) (pe_lst (pa_cons (pe_xfl (pe_xn (n := 1) (T.c _ c_NotSeen).1 (T.c _ c_NotSeen).2.1 (T.c _ c_NotSeen).2.2 (iok_NotSeen D T) (hr.mono (by decide)) (D.b_NotSeen) pass0 (by rfl) ((T.m _ g_NotSeen)) (pa_cons (pv 1) pa_nil))) (pa_cons (pe_xfl (pe_xn (n := 1) (T.c _ c_OtherCounts).1 (T.c _ c_OtherCounts).2.1 (T.c _ c_OtherCounts).2.2 (iok_OtherCounts D T) (hr.mono (by decide)) (D.b_OtherCounts) pass0 (by rfl) ((T.m _ g_OtherCounts)) (pa_cons (pv 1) pa_nil))) pa_nil))))
  (pss_cons (ps_set (i := 2) sc_runs_right.nd rfl (by first | exact Or.inl rfl | exact Or.inr rfl) (pe_op op_addU (pv 2) (pe_lst (pa_cons (pe_xfl (pe_xnK (ks := ["jump"]) (T.c _ c_NotSeen).1 (T.c _ c_NotSeen).2.1 (T.c _ c_NotSeen).2.2 (iok_NotSeen D T) (hr.mono (by decide)) (D.bk_NotSeen) pass0 (by rfl) ((T.m _ g_NotSeen)) (pk_cons (pv 1) pk_nil))) (pa_cons (pe_xfl (pe_xnK (ks := ["jump"]) (T.c _ c_OtherCounts).1 (T.c _ c_OtherCounts).2.1 (T.c _ c_OtherCounts).2.2 (iok_OtherCounts D T) (hr.mono (by decide)) (D.bk_OtherCounts) pass0 (by rfl) ((T.m _ g_OtherCounts)) (pk_cons (pv 1) pk_nil))) pa_nil)))))
  (pss_one (ps_ret (pe_cmpR (op_eqU hu64) (pv 2) (pe_op op_mulU (pe_lst (pa_cons (pv 1) pa_nil)) pe_int) (nomark _)))))))
  · exact fn_blk h (fun S ss Θ z => by obtain ⟨_, _, rfl, _⟩ := z; exact Nat.le_of_ble_eq_true rfl) fun S R ss Θ o z => rd_runs_right T.kf z
theorem ok_law (D : Fs K) (T : Tx K mg) : FnG P w K mg base CX0 4 (He.fAd K ("law", none)) D.fd_law ["_law_script"] (spLaw K) := by
  refine FnG.of D.F_law sc_law (fun vs H Q E h => ?_) (fun cdv A outer s H vs Q E hg hr h => ?_)
  · obtain ⟨_, _, rfl, _⟩ := h
    rfl
  have hu64 : (A.deeper (PyProof.Rows.envOfC "law" (defScope s_law) s.heap.objs.size (He.fAd K ("law", none)) cdv)).units + 64 < cLine := by
    have := hr.un
    omega
  have gd : A.guards = some [] := hg
  refine ⟨t_law K, PSs.nox ?_, ?_⟩
  · exact (pss_cons (ps_set (i := 1) sc_law.nd rfl (by first | exact Or.inl rfl | exact Or.inr rfl) (pe_lst (pa_cons (pe_x0 PySem.F.excBase_ValueError (T.n0 _ n_BadBlocks).1 ((T.m _ g_BadBlocks)) (T.n0 _ n_BadBlocks).2 (by rfl)) (pa_cons (pe_xn (n := 1) (T.c _ c_BadCount).1 (T.c _ c_BadCount).2.1 (T.c _ c_BadCount).2.2 (iok_BadCount D T) (hr.mono (by decide)) (D.b_BadCount) pass0 (by rfl) ((T.m _ g_BadCount)) (pa_cons pe_int pa_nil)) (pa_cons (pe_x0 PySem.F.excBase_ValueError (T.n0 _ n_BadCover).1 ((T.m _ g_BadCover)) (T.n0 _ n_BadCover).2 (by rfl)) (pa_cons (pe_xn (n := 1) (T.c _ c_BadEntry).1 (T.c _ c_BadEntry).2.1 (T.c _ c_BadEntry).2.2 (iok_BadEntry D T) (hr.mono (by decide)) (D.b_BadEntry) pass0 (by rfl) ((T.m _ g_BadEntry)) (pa_cons pe_int pa_nil)) (pa_cons (pe_x0 PySem.F.excBase_ValueError (T.n0 _ n_BadIns).1 ((T.m _ g_BadIns)) (T.n0 _ n_BadIns).2 (by rfl)) (pa_cons (pe_xn (n := 1) (T.c _ c_BadJump).1 (T.c _ c_BadJump).2.1 (T.c _ c_BadJump).2.2 (iok_BadJump D T) (hr.mono (by decide)) (D.b_BadJump) pass0 (by rfl) ((T.m _ g_BadJump)) (pa_cons pe_int pa_nil)) (pa_cons (pe_x0 PySem.F.excBase_ValueError (T.n0 _ n_BadNumber).1 ((T.m _ g_BadNumber)) (T.n0 _ n_BadNumber).2 (by rfl)) pa_nil)))))))))
  (pss_cons (ps_set (i := 1) sc_law.nd rfl (by first | exact Or.inl rfl | exact Or.inr rfl) (pe_op op_addU (pv 1) (pe_lst (pa_cons (pe_xn (n := 1) (T.c _ c_BadProgram).1 (T.c _ c_BadProgram).2.1 (T.c _ c_BadProgram).2.2 (iok_BadProgram D T) (hr.mono (by decide)) (D.b_BadProgram) pass0 (by rfl) ((T.m _ g_BadProgram)) (pa_cons pe_int pa_nil)) (pa_cons (pe_xn (n := 1) (T.c _ c_BadText).1 (T.c _ c_BadText).2.1 (T.c _ c_BadText).2.2 (iok_BadText D T) (hr.mono (by decide)) (D.b_BadText) pass0 (by rfl) ((T.m _ g_BadText)) (pa_cons pe_int pa_nil)) pa_nil)))))
  (pss_cons (ps_set (i := 1) sc_law.nd rfl (by first | exact Or.inl rfl | exact Or.inr rfl) (pe_op op_addU (pv 1) (pe_lst (pa_cons (pe_xn (n := 1) (T.c _ c_NoBlock).1 (T.c _ c_NoBlock).2.1 (T.c _ c_NoBlock).2.2 (iok_NoBlock D T) (hr.mono (by decide)) (D.b_NoBlock) pass0 (by rfl) ((T.m _ g_NoBlock)) (pa_cons pe_int pa_nil)) (pa_cons (pe_x0 PySem.F.excBase_ValueError (T.n0 _ n_NoCeiling).1 ((T.m _ g_NoCeiling)) (T.n0 _ n_NoCeiling).2 (by rfl)) (pa_cons (pe_x0 PySem.F.excBase_ValueError (T.n0 _ n_NoFloor).1 ((T.m _ g_NoFloor)) (T.n0 _ n_NoFloor).2 (by rfl)) (pa_cons (pe_xn (n := 1) (T.c _ c_NoItem).1 (T.c _ c_NoItem).2.1 (T.c _ c_NoItem).2.2 (iok_NoItem D T) (hr.mono (by decide)) (D.b_NoItem) pass0 (by rfl) ((T.m _ g_NoItem)) (pa_cons pe_int pa_nil)) (pa_cons (pe_xn (n := 1) (T.c _ c_NoJump).1 (T.c _ c_NoJump).2.1 (T.c _ c_NoJump).2.2 (iok_NoJump D T) (hr.mono (by decide)) (D.b_NoJump) pass0 (by rfl) ((T.m _ g_NoJump)) (pa_cons (pe_tup (pa_cons pe_int (pa_cons pe_int pa_nil))) pa_nil)) (pa_cons (pe_xn (n := 1) (T.c _ c_NoMark).1 (T.c _ c_NoMark).2.1 (T.c _ c_NoMark).2.2 (iok_NoMark D T) (hr.mono (by decide)) (D.b_NoMark) pass0 (by rfl) ((T.m _ g_NoMark)) (pa_cons pe_int pa_nil)) (pa_cons (pe_xn (n := 1) (T.c _ c_NoRun).1 (T.c _ c_NoRun).2.1 (T.c _ c_NoRun).2.2 (iok_NoRun D T) (hr.mono (by decide)) (D.b_NoRun) pass0 (by rfl) ((T.m _ g_NoRun)) (pa_cons (pe_tup (pa_cons pe_int (pa_cons pe_int pa_nil))) pa_nil)) pa_nil))))))))))
  (pss_cons (ps_set (i := 1) sc_law.nd rfl (by first | exact Or.inl rfl | exact Or.inr rfl) (pe_op op_addU (pv 1) (pe_lst (pa_cons (pe_xn (n := 1) (T.c _ c_NotEnough).1 (T.c _ c_NotEnough).2.1 (T.c _ c_NotEnough).2.2 (iok_NotEnough D T) (hr.mono (by decide)) (D.b_NotEnough) pass0 (by rfl) ((T.m _ g_NotEnough)) (pa_cons (pe_tup (pa_cons pe_int (pa_cons pe_int pa_nil))) pa_nil)) (pa_cons (pe_xn (n := 1) (T.c _ c_NotInner).1 (T.c _ c_NotInner).2.1 (T.c _ c_NotInner).2.2 (iok_NotInner D T) (hr.mono (by decide)) (D.b_NotInner) pass0 (by rfl) ((T.m _ g_NotInner)) (pa_cons pe_int pa_nil)) (pa_cons (pe_xn (n := 1) (T.c _ c_NotPassed).1 (T.c _ c_NotPassed).2.1 (T.c _ c_NotPassed).2.2 (iok_NotPassed D T) (hr.mono (by decide)) (D.b_NotPassed) pass0 (by rfl) ((T.m _ g_NotPassed)) (pa_cons pe_int pa_nil)) (pa_cons (pe_xn (n := 2) (T.c _ c_NotPossible).1 (T.c _ c_NotPossible).2.1 (T.c _ c_NotPossible).2.2 (iok_NotPossible D T) (hr.mono (by decide)) (D.b_NotPossible) pass0 (by rfl) ((T.m _ g_NotPossible)) (pa_cons pe_int (pa_cons pe_int pa_nil))) (pa_cons (pe_xn (n := 1) (T.c _ c_NotSeen).1 (T.c _ c_NotSeen).2.1 (T.c _ c_NotSeen).2.2 (iok_NotSeen D T) (hr.mono (by decide)) (D.b_NotSeen) pass0 (by rfl) ((T.m _ g_NotSeen)) (pa_cons (pe_tup (pa_cons pe_int (pa_cons pe_int pa_nil))) pa_nil)) (pa_cons (pe_x0 PySem.F.excBase_ValueError (T.n0 _ n_NotTwins).1 ((T.m _ g_NotTwins)) (T.n0 _ n_NotTwins).2 (by rfl)) pa_nil)))))))))
  (pss_cons (ps_set (i := 1) sc_law.nd rfl (by first | exact Or.inl rfl | exact Or.inr rfl) (pe_op op_addU (pv 1) (pe_lst (pa_cons (pe_xn (n := 1) (T.c _ c_OtherCounts).1 (T.c _ c_OtherCounts).2.1 (T.c _ c_OtherCounts).2.2 (iok_OtherCounts D T) (hr.mono (by decide)) (D.b_OtherCounts) pass0 (by rfl) ((T.m _ g_OtherCounts)) (pa_cons (pe_tup (pa_cons pe_int (pa_cons pe_int pa_nil))) pa_nil)) (pa_cons (pe_x0 PySem.F.excBase_ValueError (T.n0 _ n_OtherRoutine).1 ((T.m _ g_OtherRoutine)) (T.n0 _ n_OtherRoutine).2 (by rfl)) (pa_cons (pe_xn (n := 1) (T.c _ c_TooLarge).1 (T.c _ c_TooLarge).2.1 (T.c _ c_TooLarge).2.2 (iok_TooLarge D T) (hr.mono (by decide)) (D.b_TooLarge) pass0 (by rfl) ((T.m _ g_TooLarge)) (pa_cons pe_int pa_nil)) (pa_cons (pe_xn (n := 1) (T.c _ c_Uneven).1 (T.c _ c_Uneven).2.1 (T.c _ c_Uneven).2.2 (iok_Uneven D T) (hr.mono (by decide)) (D.b_Uneven) pass0 (by rfl) ((T.m _ g_Uneven)) (pa_cons pe_int pa_nil)) pa_nil)))))))
  (pss_cons (ps_for PassesOwn.never rfl (pi_enum (by rfl) (T.z _ z_enumerate) (pa_cons (pv 1) pa_nil)) (pg_tup rfl (pgs_cons (pg_name (i := 2) sc_law.nd rfl (by first | exact Or.inl rfl | exact Or.inr rfl)) (pgs_cons (pg_name (i := 3) sc_law.nd rfl (by first | exact Or.inl rfl | exact Or.inr rfl)) pgs_nil))) (pss_cons (ps_if (pt_cmpR (op_neU hu64) (pe_call (ok_kinds D T) (hr.mono (by decide)) rfl (T.m _ g__law_kinds) D.F_kinds.kp D.b_kinds .nil pass0 (pa_cons (pv 3) pa_nil)) (pe_lc (own := [("_law_nr", 4)]) (g := (gName 4)) (tt := tYes) rfl sc_law.nd (pi_range1 (by rfl) (T.z _ z_range) (pa_cons pe_int pa_nil)) (blkOk_by (N := sc_lawN) (sc := defScope s_law) (by decide +kernel)) (fun _ _ _ _ _ => (pg_name (i := 4) sc_law.nd rfl (by first | exact Or.inl rfl | exact Or.inr rfl))) (fun _ _ _ _ _ => pts_nil) (fun _ _ _ _ _ => (pe_cmpR (op_eqU hu64) (pv 4) (pv 2) (nomark _)))) (nomark _)) (pss_one (ps_ret pe_bl)) pss_nil)
  (pss_one (ps_if (PW.pt (pw_or (pt_not (pt_val (pe_callB call_isX (by rfl) (T.z _ z_isinstance) (by decide +kernel) (pa_cons (pv 3) (pa_cons (pe_glob (by rfl) ((T.m _ g_RunError)) rfl) pa_nil))))) (pw_or1 (pt_not (pt_val (pe_callB call_isX (by rfl) (T.z _ z_isinstance) (by decide +kernel) (pa_cons (pv 3) (pa_cons (pe_bltn (by rfl) (T.z _ z_ValueError) (by decide +kernel) rfl) pa_nil)))))))) (pss_one (ps_ret pe_bl)) pss_nil))))
  (pss_cons (ps_for PassesOwn.never rfl (pi_range1 (by rfl) (T.z _ z_range) (pa_cons (pe_callB (call_max2 rfl) (by rfl) (T.z _ z_max) (by decide +kernel) (pa_cons pe_int (pa_cons (pe_callB (call_min2 rfl) (by rfl) (T.z _ z_min) (by decide +kernel) (pa_cons pe_int (pa_cons (pe_callB call_len (by rfl) (T.z _ z_len) (by decide +kernel) (pa_cons (pv 0) pa_nil)) pa_nil))) pa_nil))) pa_nil)) (pg_name (i := 5) sc_law.nd rfl (by first | exact Or.inl rfl | exact Or.inr rfl)) (pss_cons (ps_set (i := 6) sc_law.nd rfl (by first | exact Or.inl rfl | exact Or.inr rfl) (pe_call (ok_feed D T) (hr.mono (by decide)) rfl (T.m _ g__law_feed) D.F_feed.kp D.b_feed .nil pass0 (pa_cons (pv 0) (pa_cons (pv 5) pa_nil))))
  (pss_cons (ps_if (pt_not (pt_val (pe_call (ok_numbers_right D T) (hr.mono (by decide)) rfl (T.m _ g__law_numbers_right) D.F_numbers_right.kp D.b_numbers_right .nil pass0 (pa_cons (pe_call (ok_take D T) (hr.mono (by decide)) rfl (T.m _ g__law_take) D.F_take.kp D.b_take .nil pass0 (pa_cons (pv 6) (pa_cons pe_int pa_nil))) pa_nil)))) (pss_one (ps_ret pe_bl)) pss_nil)
  (pss_cons (ps_if (pt_not (pt_val (pe_callG gd (ok_others_right D T) (hr.mono (by decide)) rfl (T.m _ g__law_others_right) D.F_others_right.kp D.b_others_right pass0 (pa_cons (pe_call (ok_pick D T) (hr.mono (by decide)) rfl (T.m _ g__law_pick) D.F_pick.kp D.b_pick .nil pass0 (pa_cons (pv 6) (pa_cons (pe_lst (pa_cons pe_int (pa_cons pe_non (pa_cons pe_str (pa_cons (pe_tup (pa_cons pe_int (pa_cons pe_int pa_nil))) (pa_cons (pe_tup pa_nil) (pa_cons (pe_lst (pa_cons pe_int (pa_cons pe_int pa_nil))) (pa_cons pe_bl (pa_cons (pe_op op_pow pe_int pe_int) pa_nil))))))))) pa_nil))) pa_nil)))) (pss_one (ps_ret pe_bl)) pss_nil)
  (pss_cons (ps_set (i := 7) sc_law.nd rfl (by first | exact Or.inl rfl | exact Or.inr rfl) (pe_call (ok_take D T) (hr.mono (by decide)) rfl (T.m _ g__law_take) D.F_take.kp D.b_take .nil pass0 (pa_cons (pv 6) (pa_cons pe_int pa_nil))))
  (pss_one (ps_if (pt_not (pt_val (pe_call (ok_runs_right D T) (hr.mono (by decide)) rfl (T.m _ g__law_runs_right) D.F_runs_right.kp D.b_runs_right .nil pass0 (pa_cons (pe_tup (pa_cons pe_int (pa_cons (pe_op op_addU (pv 7) pe_int) (pa_cons pe_int pa_nil)))) (pa_cons (pe_tup (pa_cons (pv 7) (pa_cons (pe_op op_addU (pe_op op_addU (pv 7) pe_int) (pe_call (ok_take D T) (hr.mono (by decide)) rfl (T.m _ g__law_take) D.F_take.kp D.b_take .nil pass0 (pa_cons (pv 6) (pa_cons pe_int pa_nil)))) pa_nil))) pa_nil))))) (pss_one (ps_ret pe_bl)) pss_nil)))))))
  (pss_one (ps_ret (pe_not (pe_callB call_isX (by rfl) (T.z _ z_isinstance) (by decide +kernel) (pa_cons (pe_xb0 exb_ValueError (by rfl) (T.z _ z_ValueError) (by decide +kernel)) (pa_cons (pe_glob (by rfl) ((T.m _ g_RunError)) rfl) pa_nil)))))))))))))
  · obtain ⟨a, ns, rfl, hS, hn, k⟩ := h
    have okH : Ok S0 H H := ⟨fun c u h => h, fun _ z => z.elim⟩
    have st := start_stt (S := S0) (R := H) (H := H) (N := sc_lawN) (vs := [.ref a]) (ss := [.is (Scr K ns)]) (.cons ⟨⟨a, rfl, hS⟩, inferInstance⟩ .nil) okH (Nat.le_of_ble_eq_true rfl)
    refine rd_law0 T.kf hn (L2.start sc_lawN [.ref a]) H H okH (Ext.refl okH) st { nx := fun _ H' => Q .non H', rt := Q } (fun P v R' H' e m ex p => ?_) (fun _ _ _ _ z => z.elim) (fun _ _ _ _ z => z.elim) (fun _ _ _ _ z => z.elim)
    subst e
    obtain rfl : v = .bl true := p
    exact k H'
end
abbrev R : PySem.W.OpenRow := PySem.W.OpenLaw.row PySem.Challenge.rw_runledger_k73_errors_and_fields
abbrev hk : PySem.W.Hook := He.hookX 5 fa fn [] [] exK
def ob (s : PySem.W.SharedT) : He.AlX := He.obsX 5 fa fn [] [] exK (HandSHeadRun.getT s)
theorem ob_eq (s : PySem.W.SharedT) : ob s = hk.obs s.abs := He.obsX_eq (HandSHeadRun.getT_eq s)
def loose0 : List PySem.Str := ["__name__", "RunError", "BadBlocks", "BadJump", "TooLarge", "NoBlock", "NoJump", "NoRun", "NoItem", "NotInner", "OtherRoutine", "BadCount", "Uneven", "BadNumber", "BadEntry", "NotPassed", "NotEnough", "NoCeiling", "NoFloor", "NotPossible"]
def loose1 : List PySem.Str := ["NotSeen", "OtherCounts", "BadCover", "BadIns", "NotTwins", "BadProgram", "NoMark", "BadText", "_law_feed", "_law_take", "_law_pick", "_law_kinds", "_law_numbers_right", "_law_others_right", "_law_runs_right"]
def loose : List PySem.Str := loose0 ++ loose1
theorem run (w : World) : HandSHeadRun.RunEq R (PySem.W.view R.prog [36]) hk ob 7000 loose w := by
  intro os
  kernel_rfl
theorem facts {P : Program} {w : World} {K : PySem.W.Frag} {h : Heap} {mg : Str → Option Value} {f : Addr} (X : K.In h) (G : h.Ns mainGlobals mg) (hfa : mg ("law" : Str) = some (.ref f)) (c : He.SaysX fa fn [] [] exK w h K) :
    ∃ fd : FuncData, (∀ (s : Shared) (v : Value), BindsTo s fd ⟨[v], []⟩ [("_law_script", v)]) ∧ ∀ base : Heap, K.In base → base.Ns mainGlobals mg → FnG P w K mg base CX0 4 f fd ["_law_script"] (spLaw K) := by
  have d := c.t.d
  have T : Tx K mg := tx_of X G (fun {f} hf => d.facts hf) c.more
  obtain ⟨fd0, F0⟩ := d.def_ 0 (d := ⟨("_law_feed", none), "_law_feed", "_law_feed", defArgs s_feed, defBody s_feed, defScope s_feed, [], []⟩) rfl
  obtain ⟨fd1, F1⟩ := d.def_ 1 (d := ⟨("_law_take", none), "_law_take", "_law_take", defArgs s_take, defBody s_take, defScope s_take, [], []⟩) rfl
  obtain ⟨fd2, F2⟩ := d.def_ 2 (d := ⟨("_law_pick", none), "_law_pick", "_law_pick", defArgs s_pick, defBody s_pick, defScope s_pick, [], []⟩) rfl
  obtain ⟨fd3, F3⟩ := d.def_ 3 (d := ⟨("_law_kinds", none), "_law_kinds", "_law_kinds", defArgs s_kinds, defBody s_kinds, defScope s_kinds, [], []⟩) rfl
  obtain ⟨fd4, F4⟩ := d.def_ 4 (d := ⟨("_law_numbers_right", none), "_law_numbers_right", "_law_numbers_right", defArgs s_numbers_right, defBody s_numbers_right, defScope s_numbers_right, [], []⟩) rfl
  obtain ⟨fd5, F5⟩ := d.def_ 5 (d := ⟨("_law_others_right", none), "_law_others_right", "_law_others_right", defArgs s_others_right, defBody s_others_right, defScope s_others_right, [], []⟩) rfl
  obtain ⟨fd6, F6⟩ := d.def_ 6 (d := ⟨("_law_runs_right", none), "_law_runs_right", "_law_runs_right", defArgs s_runs_right, defBody s_runs_right, defScope s_runs_right, [], []⟩) rfl
  obtain ⟨fd7, F7⟩ := d.def_ 7 (d := ⟨("law", none), "law", "law", defArgs s_law, defBody s_law, defScope s_law, [], []⟩) rfl
  obtain ⟨fd8, F8⟩ := d.def_ 8 (d := ⟨("BadJump", some "__init__"), "__init__", "BadJump.__init__", defArgs s_BadJump_init, defBody s_BadJump_init, defScope s_BadJump_init, [], []⟩) rfl
  obtain ⟨fd9, F9⟩ := d.def_ 9 (d := ⟨("TooLarge", some "__init__"), "__init__", "TooLarge.__init__", defArgs s_TooLarge_init, defBody s_TooLarge_init, defScope s_TooLarge_init, [], []⟩) rfl
  obtain ⟨fd10, F10⟩ := d.def_ 10 (d := ⟨("NoBlock", some "__init__"), "__init__", "NoBlock.__init__", defArgs s_NoBlock_init, defBody s_NoBlock_init, defScope s_NoBlock_init, [], []⟩) rfl
  obtain ⟨fd11, F11⟩ := d.def_ 11 (d := ⟨("NoJump", some "__init__"), "__init__", "NoJump.__init__", defArgs s_NoJump_init, defBody s_NoJump_init, defScope s_NoJump_init, [], []⟩) rfl
  obtain ⟨fd12, F12⟩ := d.def_ 12 (d := ⟨("NoRun", some "__init__"), "__init__", "NoRun.__init__", defArgs s_NoRun_init, defBody s_NoRun_init, defScope s_NoRun_init, [], []⟩) rfl
  obtain ⟨fd13, F13⟩ := d.def_ 13 (d := ⟨("NoItem", some "__init__"), "__init__", "NoItem.__init__", defArgs s_NoItem_init, defBody s_NoItem_init, defScope s_NoItem_init, [], []⟩) rfl
  obtain ⟨fd14, F14⟩ := d.def_ 14 (d := ⟨("NotInner", some "__init__"), "__init__", "NotInner.__init__", defArgs s_NotInner_init, defBody s_NotInner_init, defScope s_NotInner_init, [], []⟩) rfl
  obtain ⟨fd15, F15⟩ := d.def_ 15 (d := ⟨("BadCount", some "__init__"), "__init__", "BadCount.__init__", defArgs s_BadCount_init, defBody s_BadCount_init, defScope s_BadCount_init, [], []⟩) rfl
  obtain ⟨fd16, F16⟩ := d.def_ 16 (d := ⟨("Uneven", some "__init__"), "__init__", "Uneven.__init__", defArgs s_Uneven_init, defBody s_Uneven_init, defScope s_Uneven_init, [], []⟩) rfl
  obtain ⟨fd17, F17⟩ := d.def_ 17 (d := ⟨("BadEntry", some "__init__"), "__init__", "BadEntry.__init__", defArgs s_BadEntry_init, defBody s_BadEntry_init, defScope s_BadEntry_init, [], []⟩) rfl
  obtain ⟨fd18, F18⟩ := d.def_ 18 (d := ⟨("NotPassed", some "__init__"), "__init__", "NotPassed.__init__", defArgs s_NotPassed_init, defBody s_NotPassed_init, defScope s_NotPassed_init, [], []⟩) rfl
  obtain ⟨fd19, F19⟩ := d.def_ 19 (d := ⟨("NotEnough", some "__init__"), "__init__", "NotEnough.__init__", defArgs s_NotEnough_init, defBody s_NotEnough_init, defScope s_NotEnough_init, [], []⟩) rfl
  obtain ⟨fd20, F20⟩ := d.def_ 20 (d := ⟨("NotPossible", some "__init__"), "__init__", "NotPossible.__init__", defArgs s_NotPossible_init, defBody s_NotPossible_init, defScope s_NotPossible_init, [], []⟩) rfl
  obtain ⟨fd21, F21⟩ := d.def_ 21 (d := ⟨("NotSeen", some "__init__"), "__init__", "NotSeen.__init__", defArgs s_NotSeen_init, defBody s_NotSeen_init, defScope s_NotSeen_init, [], []⟩) rfl
  obtain ⟨fd22, F22⟩ := d.def_ 22 (d := ⟨("OtherCounts", some "__init__"), "__init__", "OtherCounts.__init__", defArgs s_OtherCounts_init, defBody s_OtherCounts_init, defScope s_OtherCounts_init, [], []⟩) rfl
  obtain ⟨fd23, F23⟩ := d.def_ 23 (d := ⟨("BadProgram", some "__init__"), "__init__", "BadProgram.__init__", defArgs s_BadProgram_init, defBody s_BadProgram_init, defScope s_BadProgram_init, [], []⟩) rfl
  obtain ⟨fd24, F24⟩ := d.def_ 24 (d := ⟨("NoMark", some "__init__"), "__init__", "NoMark.__init__", defArgs s_NoMark_init, defBody s_NoMark_init, defScope s_NoMark_init, [], []⟩) rfl
  obtain ⟨fd25, F25⟩ := d.def_ 25 (d := ⟨("BadText", some "__init__"), "__init__", "BadText.__init__", defArgs s_BadText_init, defBody s_BadText_init, defScope s_BadText_init, [], []⟩) rfl
  have e := hfa.symm.trans (T.m _ g_law)
  cases e
  have b := FunD.bindsA (ps := ["_law_script"]) F7 fun _ _ _ _ _ _ us hl => match us, hl with | [_], _ => rfl
  exact ⟨fd7, fun s v => b s [v] rfl, fun base _ _ => ok_law (⟨fd0, F0, fd1, F1, fd2, F2, fd3, F3, fd4, F4, fd5, F5, fd6, F6, fd7, F7, fd8, F8, fd9, F9, fd10, F10, fd11, F11, fd12, F12, fd13, F13, fd14, F14, fd15, F15, fd16, F16, fd17, F17, fd18, F18, fd19, F19, fd20, F20, fd21, F21, fd22, F22, fd23, F23, fd24, F24, fd25, F25⟩ : Fs K) T⟩
end K73
open PySem PySem.W PySem.Calls PyProof.Rows
theorem PySem.Challenge.cw_runledger_k73_errors_and_fields_holds : PySem.Challenge.rw_runledger_k73_errors_and_fields.Holds := by
  w_on; o_law
  refine HandSHeadRun.head_any (r := OpenLaw.row PySem.Challenge.rw_runledger_k73_errors_and_fields) (q := view (OpenLaw.row PySem.Challenge.rw_runledger_k73_errors_and_fields).prog [36]) (H := K73.hk) (ob := K73.ob) (M := 7000) (loose := K73.loose) (d := HandSHeadRun.topDef (OpenLaw.row PySem.Challenge.rw_runledger_k73_errors_and_fields).prog 36) (kwd := []) K73.ob_eq
    (by kernel_rfl) (fun s => by kernel_rfl) K73.run (by kernel_rfl) (by kernel_rfl) (by kernel_rfl) (by rfl) (by first | assumption | decide +kernel) (by decide +kernel) ⟨rfl, rfl, rfl, rfl, rfl, by decide +kernel⟩ ?hw ?hc
  case hw => w_witness2
  case hc =>
    refine Ru.walk_G (l := PySem.Challenge.rw_runledger_k73_errors_and_fields) (n := 63) (k := 4) (x := "_law_script") rfl (by decide) (by kernel_rfl) ⟨rfl, by decide, by decide⟩ ?F
    intro w mg fa h Y G hmg0
    obtain ⟨K, KX, c⟩ := Y
    have hmg : mg ("law" : PySem.Str) = some (.ref fa) := by
      have e : (HandSHeadRun.topDef (OpenLaw.row PySem.Challenge.rw_runledger_k73_errors_and_fields).prog 36).name = ("law" : PySem.Str) := by kernel_rfl
      rw [← e]
      exact hmg0
    obtain ⟨fd, hb, hF⟩ := K73.facts (P := (PySem.Challenge.rw_runledger_k73_errors_and_fields).prog) (w := w) KX G hmg c
    exact ⟨K, fd, Ru.spLaw K, KX, hb, fun H a ns hl hS => ⟨a, ns, rfl, hS, hl, fun _ => rfl⟩, hF⟩
