import PyProof.Rows.All
import Wide.All
import OpenK.AllK
import Wide.FinOn
import HandS.ForMost
import HandS.ForExc
import HandS.TupAny
import HandS.Wide
import HandS.Style
import HandS.Deep
import HandS.IsInst
import HandS.CallSlots
import HandS.Conv
import HandS.SortInts
import HandS.SortRule
import HandS.Star
import HandS.Zip
import HandS.NoneIn
import HandS.Small
import HandS.TupLen
import HandS.More
import HandS.RaiseMore
import HandS.Defaults
import HandS.ExcInit
import HandS.TryOnly
import HandS.HeadHook4
import HandS.SetBool
import HandS.SetKeys
import HandS.Dict
import HandS.DictComp
import HandS.Property
import HandS.TryMany
import HandS.Flow
import HandS.Head0
import HandS.Head1
import HandS.Head2
import HandS.HeadEnd
import HandS.HeadWalk
import PySem.Challenge.RW_allcells_k02_rows_in_least_form
set_option Elab.async false
set_option linter.all false
set_option autoImplicit false
/-! ## EvCore -/
set_option maxRecDepth 100000
set_option maxHeartbeats 4000000
/-! EvCore: values and a store of plain Lean that the machine's values and heap are held against. -/
namespace EV
open PySem L2

inductive Val where
  | non | bl (b : Bool) | int (i : Int) | str (x : Str) | ref (n : Nat) | tup (vs : List Val)
  deriving Inhabited
inductive Ob where
  | lst (vs : List Val) | fro (vs : List Val) | dct (kvs : List (Key × Val)) | frd (kvs : List (Key × Val)) | ins (c : Nat) (fs : List (Str × Val))
  deriving Inhabited
abbrev Store := List Ob
inductive Res (α : Type) where
  | ok (a : α) (st : Store) | exc (c : Nat) (v : Val) (st : Store) | stuck
@[inline] def Res.bind {α β : Type} (r : Res α) (f : α → Store → Res β) : Res β := match r with
  | .ok a st => f a st
  | .exc c v st => .exc c v st
  | .stuck => .stuck

section
variable (K : PySem.W.Frag)
mutual
inductive RepV (μ : List Addr) (H : Hp) : Val → V → Prop
  | non : RepV μ H .non .non
  | bl (b : Bool) : RepV μ H (.bl b) (.bl b)
  | int (i : Int) : RepV μ H (.int i) (.int i)
  | str (x : Str) : RepV μ H (.str x) (.str x)
  | ref {n : Nat} {a : Addr} (h : μ[n]? = some a) : RepV μ H (.ref n) (.ref a)
  | tup {a : Addr} {vs : List Val} {xs : List V} (h : SqT K H a xs) (r : RepL μ H vs xs) : RepV μ H (.tup vs) (.ref a)
inductive RepL (μ : List Addr) (H : Hp) : List Val → List V → Prop
  | nil : RepL μ H [] []
  | cons {v : Val} {x : V} {vs : List Val} {xs : List V} (h : RepV μ H v x) (t : RepL μ H vs xs) : RepL μ H (v :: vs) (x :: xs)
end
structure Le0 (μ : List Addr) (H : Hp) (μ' : List Addr) (H' : Hp) : Prop where
  pre : μ <+: μ'
  tup : ∀ a xs, Rd H a (.tup xs) → Rd H' a (.tup xs)
structure Le (μ : List Addr) (H : Hp) (μ' : List Addr) (H' : Hp) : Prop where
  pre : μ <+: μ'
  tup : ∀ a xs, Rd H a (.tup xs) → Rd H' a (.tup xs)
  frz : ∀ a ob u, H a = some (.frz ob u) → H' a = some (.frz ob u)
  ext : ∀ a F, H a = some (.ext F) → H' a = some (.ext F)
end

section
variable {K : PySem.W.Frag} {μ μ' μ'' : List Addr} {H H' H'' : Hp}
theorem Le.refl : Le μ H μ H := ⟨List.prefix_refl _, fun _ _ h => h, fun _ _ _ h => h, fun _ _ h => h⟩
theorem Le.trans (a : Le μ H μ' H') (b : Le μ' H' μ'' H'') : Le μ H μ'' H'' := ⟨a.pre.trans b.pre, fun p xs h => b.tup p xs (a.tup p xs h), fun p o u h => b.frz p o u (a.frz p o u h), fun p F h => b.ext p F (a.ext p F h)⟩
theorem Le.to0 (a : Le μ H μ' H') : Le0 μ H μ' H' := ⟨a.pre, a.tup⟩
theorem Le0.at_ (a : Le0 μ H μ' H') {n : Nat} {p : Addr} (h : μ[n]? = some p) : μ'[n]? = some p := by
  obtain ⟨t, rfl⟩ := a.pre
  rw [List.getElem?_append_left (List.getElem?_eq_some_iff.mp h).1]
  exact h
theorem Le.at_ (a : Le μ H μ' H') {n : Nat} {p : Addr} (h : μ[n]? = some p) : μ'[n]? = some p := a.to0.at_ h
theorem Le0.sq (a : Le0 μ H μ' H') {p : Addr} {xs : List V} (h : SqT K H p xs) : SqT K H' p xs := by
  rcases h with h | h
  · exact .inl (a.tup p xs h)
  · exact .inr h
theorem Le.sq (a : Le μ H μ' H') {p : Addr} {xs : List V} (h : SqT K H p xs) : SqT K H' p xs := a.to0.sq h
mutual
theorem RepV.mono0 (l : Le0 μ H μ' H') : ∀ {v : Val} {x : V}, RepV K μ H v x → RepV K μ' H' v x
  | _, _, .non => .non
  | _, _, .bl b => .bl b
  | _, _, .int i => .int i
  | _, _, .str x => .str x
  | _, _, .ref h => .ref (l.at_ h)
  | _, _, .tup h r => .tup (l.sq h) (RepL.mono0 l r)
theorem RepL.mono0 (l : Le0 μ H μ' H') : ∀ {vs : List Val} {xs : List V}, RepL K μ H vs xs → RepL K μ' H' vs xs
  | _, _, .nil => .nil
  | _, _, .cons h t => .cons (RepV.mono0 l h) (RepL.mono0 l t)
end
theorem RepV.mono (l : Le μ H μ' H') {v : Val} {x : V} (h : RepV K μ H v x) : RepV K μ' H' v x := RepV.mono0 l.to0 h
theorem RepL.mono (l : Le μ H μ' H') {vs : List Val} {xs : List V} (h : RepL K μ H vs xs) : RepL K μ' H' vs xs := RepL.mono0 l.to0 h
theorem RepL.length : ∀ {vs : List Val} {xs : List V}, RepL K μ H vs xs → vs.length = xs.length
  | _, _, .nil => rfl
  | _, _, .cons _ t => by rw [List.length_cons, List.length_cons, RepL.length t]
theorem RepL.append : ∀ {vs ws : List Val} {xs ys : List V}, RepL K μ H vs xs → RepL K μ H ws ys → RepL K μ H (vs ++ ws) (xs ++ ys)
  | _, _, _, _, .nil, s => s
  | _, _, _, _, .cons h t, s => .cons h (RepL.append t s)
theorem RepL.get : ∀ {vs : List Val} {xs : List V} {i : Nat} {v : Val}, RepL K μ H vs xs → vs[i]? = some v → ∃ x, xs[i]? = some x ∧ RepV K μ H v x
  | _, _, _, _, .nil, e => by simp at e
  | _, _, 0, _, .cons h _, e => by simp at e; subst e; exact ⟨_, rfl, h⟩
  | _, _, i + 1, v, .cons _ t, e => by
    obtain ⟨x, h1, h2⟩ := RepL.get (i := i) (v := v) t (by simpa using e)
    exact ⟨x, by simpa using h1, h2⟩
theorem RepL.getR : ∀ {vs : List Val} {xs : List V} {i : Nat} {x : V}, RepL K μ H vs xs → xs[i]? = some x → ∃ v, vs[i]? = some v ∧ RepV K μ H v x
  | _, _, _, _, .nil, e => by simp at e
  | _, _, 0, _, .cons h _, e => by simp at e; subst e; exact ⟨_, rfl, h⟩
  | _, _, i + 1, x, .cons _ t, e => by
    obtain ⟨v, h1, h2⟩ := RepL.getR (i := i) (x := x) t (by simpa using e)
    exact ⟨v, by simpa using h1, h2⟩
theorem RepL.set : ∀ {vs : List Val} {xs : List V} {i : Nat} {v : Val} {x : V}, RepL K μ H vs xs → RepV K μ H v x → RepL K μ H (vs.set i v) (xs.set i x)
  | _, _, _, _, _, .nil, _ => .nil
  | _, _, 0, _, _, .cons _ t, r => .cons r t
  | _, _, i + 1, _, _, .cons h t, r => .cons h (RepL.set t r)
theorem RepL.drop : ∀ {vs : List Val} {xs : List V} (n : Nat), RepL K μ H vs xs → RepL K μ H (vs.drop n) (xs.drop n)
  | _, _, 0, h => h
  | _, _, _ + 1, .nil => .nil
  | _, _, n + 1, .cons _ t => RepL.drop n t
theorem RepL.take : ∀ {vs : List Val} {xs : List V} (n : Nat), RepL K μ H vs xs → RepL K μ H (vs.take n) (xs.take n)
  | _, _, 0, _ => .nil
  | _, _, _ + 1, .nil => .nil
  | _, _, n + 1, .cons h t => .cons h (RepL.take n t)
theorem RepL.reverse : ∀ {vs : List Val} {xs : List V}, RepL K μ H vs xs → RepL K μ H vs.reverse xs.reverse
  | _, _, .nil => .nil
  | _, _, .cons h t => by
    rw [List.reverse_cons, List.reverse_cons]
    exact RepL.append (RepL.reverse t) (.cons h .nil)
theorem RepL.flat_replicate {vs : List Val} {xs : List V} (h : RepL K μ H vs xs) : ∀ n : Nat, RepL K μ H (List.replicate n vs).flatten (List.replicate n xs).flatten
  | 0 => .nil
  | n + 1 => by
    rw [List.replicate_succ, List.replicate_succ, List.flatten_cons, List.flatten_cons]
    exact RepL.append h (RepL.flat_replicate h n)
theorem RepL.ints : ∀ ns : List Int, RepL K μ H (ns.map Val.int) (ns.map V.int)
  | [] => .nil
  | n :: ns => .cons (.int n) (RepL.ints ns)
end

/-- a list that nobody changes: known to the object, or written by the top -/
def SqF (K : PySem.W.Frag) (H : Hp) (a : Addr) (xs : List V) : Prop := (∃ ob, H a = some (.frz ob (.lst xs))) ∨
  ∃ (ob : Obj) (items : Array Value) (e : Nat),
    K.lookup a = some ob ∧ ob.cls = .type "list" ∧ ob.dict = none ∧
    ob.data = .seq items e ∧ items.size ≤ sizeLine ∧ Vals xs items.toList
theorem SqF.sql {K : PySem.W.Frag} {H : Hp} {a : Addr} {xs : List V} (h : SqF K H a xs) : SqL K H a xs := by
  rcases h with ⟨ob, h⟩ | h
  · exact .inl (.inr ⟨ob, h⟩)
  · exact .inr h
/-- an object of the store, as it is tracked -/
def RepO (K : PySem.W.Frag) (CA : Nat → Addr) (μ : List Addr) (H : Hp) : Ob → HO → Prop
  | .lst vs, .lst xs => RepL K μ H vs xs
  | .dct kvs, .dK kxs => kvs.map (·.1) = kxs.map (·.1) ∧ RepL K μ H (kvs.map (·.2)) (kxs.map (·.2))
  | .frd kvs, .frz _ (.dK kxs) => kvs.map (·.1) = kxs.map (·.1) ∧ RepL K μ H (kvs.map (·.2)) (kxs.map (·.2))
  | .ins c fs, .ins C _ gs => C = CA c ∧ fs.map (·.1) = gs.map (·.1) ∧ RepL K μ H (fs.map (·.2)) (gs.map (·.2))
  | _, _ => False
def isFro : Ob → Bool
  | .fro _ => true
  | _ => false
def ObAt (K : PySem.W.Frag) (CA : Nat → Addr) (μ : List Addr) (H : Hp) (a : Addr) (o : Ob) : Prop :=
  (isFro o = false ∧ ∃ ho, H a = some ho ∧ RepO K CA μ H o ho) ∨ ∃ vs xs, o = .fro vs ∧ SqF K H a xs ∧ RepL K μ H vs xs
structure Rel (K : PySem.W.Frag) (CA : Nat → Addr) (μ : List Addr) (st : Store) (H : Hp) : Prop where
  len : μ.length = st.length
  inj : ∀ (i j : Nat) (a : Addr) (o u : Ob), μ[i]? = some a → μ[j]? = some a → st[i]? = some o → st[j]? = some u → isFro o = false → isFro u = false → i = j
  ob : ∀ (n : Nat) (o : Ob), st[n]? = some o → ∃ a, μ[n]? = some a ∧ ObAt K CA μ H a o

section
variable {K : PySem.W.Frag} {CA : Nat → Addr} {μ μ' : List Addr} {H H' : Hp} {st : Store}
theorem RepO.mono0 (l : Le0 μ H μ' H') {o : Ob} {ho : HO} (h : RepO K CA μ H o ho) : RepO K CA μ' H' o ho := by
  cases o <;> cases ho <;> first
    | exact h.elim
    | exact RepL.mono0 l h
    | exact ⟨h.1, RepL.mono0 l h.2⟩
    | exact ⟨h.1, h.2.1, RepL.mono0 l h.2.2⟩
    | (rename_i u; cases u <;> first | exact h.elim | exact ⟨h.1, RepL.mono0 l h.2⟩)
theorem RepO.mono (l : Le μ H μ' H') {o : Ob} {ho : HO} (h : RepO K CA μ H o ho) : RepO K CA μ' H' o ho := h.mono0 l.to0
theorem ObAt.mono0 (l : Le0 μ H μ' H') {a : Addr} (k : ∀ u, H a = some u → H' a = some u) {o : Ob} (h : ObAt K CA μ H a o) : ObAt K CA μ' H' a o := by
  rcases h with ⟨f, ho, h1, h2⟩ | ⟨vs, xs, e, h1, h2⟩
  · exact .inl ⟨f, ho, k _ h1, h2.mono0 l⟩
  · refine .inr ⟨vs, xs, e, ?_, h2.mono0 l⟩
    rcases h1 with ⟨ob, h1⟩ | h1
    · exact .inl ⟨ob, k _ h1⟩
    · exact .inr h1
theorem ObAt.mono (l : Le μ H μ' H') {a : Addr} (k : ∀ u, H a = some u → H' a = some u) {o : Ob} (h : ObAt K CA μ H a o) : ObAt K CA μ' H' a o := h.mono0 l.to0 k
theorem Rel.at_ (R : Rel K CA μ st H) {n : Nat} {a : Addr} {o : Ob} (hm : μ[n]? = some a) (h : st[n]? = some o) : ObAt K CA μ H a o := by
  obtain ⟨b, h1, h2⟩ := R.ob n o h
  rw [hm] at h1; cases h1
  exact h2
theorem Rel.real (R : Rel K CA μ st H) {n : Nat} {a : Addr} {o : Ob} (hm : μ[n]? = some a) (h : st[n]? = some o) (f : isFro o = false) : ∃ ho, H a = some ho ∧ RepO K CA μ H o ho := by
  rcases R.at_ hm h with ⟨_, z⟩ | ⟨vs, xs, e, _⟩
  · exact z
  · subst e; cases f
theorem Le.of_new {p : Addr} {o : HO} (hp : H p = none) : Le μ H (μ ++ [p]) (upd H p o) := by
  refine ⟨List.prefix_append _ _, fun a xs h => ?_, fun a ob u h => by rw [upd_ne (ne_of_none h hp)]; exact h, fun a F h => by rw [upd_ne (ne_of_none h hp)]; exact h⟩
  rcases h with h | ⟨ob, h⟩
  · exact .inl (by rw [upd_ne (ne_of_none h hp)]; exact h)
  · exact .inr ⟨ob, by rw [upd_ne (ne_of_none h hp)]; exact h⟩
theorem Le.of_fresh {p : Addr} {o : HO} (hp : H p = none) : Le μ H μ (upd H p o) := by
  refine ⟨List.prefix_refl _, fun a xs h => ?_, fun a ob u h => by rw [upd_ne (ne_of_none h hp)]; exact h, fun a F h => by rw [upd_ne (ne_of_none h hp)]; exact h⟩
  rcases h with h | ⟨ob, h⟩
  · exact .inl (by rw [upd_ne (ne_of_none h hp)]; exact h)
  · exact .inr ⟨ob, by rw [upd_ne (ne_of_none h hp)]; exact h⟩
theorem keep_new {p a : Addr} {o : HO} (hp : H p = none) : ∀ u, H a = some u → upd H p o a = some u := fun u e => by rw [upd_ne (ne_of_none e hp)]; exact e
/-- a thing beside the store is laid (a tuple) -/
theorem Rel.beside (R : Rel K CA μ st H) {p : Addr} {o : HO} (hp : H p = none) : Rel K CA μ st (upd H p o) := by
  refine ⟨R.len, R.inj, fun n ob h => ?_⟩
  obtain ⟨a, h1, h2⟩ := R.ob n ob h
  exact ⟨a, h1, h2.mono (.of_fresh hp) (keep_new hp)⟩
theorem RepO.real {o : Ob} {ho : HO} (h : RepO K CA μ H o ho) : isFro o = false := by
  cases o <;> first | rfl | (cases ho <;> exact h.elim)
/-- a new object of the store -/
theorem Rel.alloc (R : Rel K CA μ st H) {p : Addr} {o : HO} {ob : Ob} (hp : H p = none) (h : RepO K CA μ H ob o) : Rel K CA (μ ++ [p]) (st ++ [ob]) (upd H p o) := by
  have l : Le μ H (μ ++ [p]) (upd H p o) := .of_new hp
  have hl := R.len
  have last : ∀ {i : Nat} {u : Ob}, (st ++ [ob])[i]? = some u → ¬ i < st.length → i = st.length ∧ u = ob := fun {i u} e hi => by
    rw [List.getElem?_append_right (Nat.le_of_not_lt hi)] at e
    have hz : i - st.length = 0 := by
      rcases Nat.eq_zero_or_pos (i - st.length) with z | z
      · exact z
      · rw [List.getElem?_eq_none (by rw [List.length_singleton]; exact z)] at e; cases e
    rw [hz] at e
    exact ⟨by omega, by simpa using e.symm⟩
  have noP : ∀ {i : Nat} {u : Ob}, i < st.length → (μ ++ [p])[i]? = some p → (st ++ [ob])[i]? = some u → isFro u = false → False := fun {i u} hi e1 e2 f => by
    rw [List.getElem?_append_left (by rw [hl]; exact hi)] at e1
    rw [List.getElem?_append_left hi] at e2
    obtain ⟨ho, h1, _⟩ := R.real e1 e2 f
    rw [hp] at h1; cases h1
  have lastM : ∀ {a : Addr}, (μ ++ [p])[st.length]? = some a → a = p := fun {a} e => by
    rw [← hl, List.getElem?_append_right (Nat.le_refl _), Nat.sub_self] at e
    exact (Option.some.inj e).symm
  refine ⟨by rw [List.length_append, List.length_append, hl]; rfl, ?_, fun n o' h' => ?_⟩
  · intro i j a o1 u1 ei ej si sj fo fu
    by_cases hi : i < st.length
    · by_cases hj : j < st.length
      · rw [List.getElem?_append_left (by rw [hl]; exact hi)] at ei
        rw [List.getElem?_append_left (by rw [hl]; exact hj)] at ej
        rw [List.getElem?_append_left hi] at si
        rw [List.getElem?_append_left hj] at sj
        exact R.inj i j a o1 u1 ei ej si sj fo fu
      · obtain ⟨rfl, rfl⟩ := last sj hj
        have e := lastM ej
        subst e
        exact (noP hi ei si fo).elim
    · obtain ⟨rfl, rfl⟩ := last si hi
      have e := lastM ei
      subst e
      by_cases hj : j < st.length
      · exact (noP hj ej sj fu).elim
      · exact (last sj hj).1.symm
  · by_cases hn : n < st.length
    · rw [List.getElem?_append_left hn] at h'
      obtain ⟨a, h1, h2⟩ := R.ob n o' h'
      exact ⟨a, l.at_ h1, h2.mono l (keep_new hp)⟩
    · obtain ⟨rfl, rfl⟩ := last h' hn
      refine ⟨p, ?_, .inl ⟨h.real, o, upd_same, h.mono l⟩⟩
      rw [← hl, List.getElem?_append_right (Nat.le_refl _), Nat.sub_self]
      rfl
theorem alloc_at (R : Rel K CA μ st H) {p : Addr} : (μ ++ [p])[st.length]? = some p := by
  rw [← R.len, List.getElem?_append_right (Nat.le_refl _), Nat.sub_self]
  rfl
/-- what is no tuple -/
def NoTup : HO → Prop
  | .tup _ => False
  | .frz _ _ => False
  | .ext _ => False
  | _ => True
theorem Le.of_write {a : Addr} {ho o : HO} (h : H a = some ho) (nt : NoTup ho) : Le μ H μ (upd H a o) := by
  have ne : ∀ {b} u, H b = some u → ¬ NoTup u → b ≠ a := fun {b} u e n z => by
    subst z
    rw [h] at e; cases e
    exact n nt
  refine ⟨List.prefix_refl _, fun b xs q => ?_, fun b ob u q => by rw [upd_ne (ne _ q fun z => z)]; exact q, fun b F q => by rw [upd_ne (ne _ q fun z => z)]; exact q⟩
  rcases q with q | ⟨ob, q⟩
  · exact .inl (by rw [upd_ne (ne _ q fun z => z)]; exact q)
  · exact .inr ⟨ob, by rw [upd_ne (ne _ q fun z => z)]; exact q⟩
/-- an object of the store is changed -/
theorem Rel.write (R : Rel K CA μ st H) {n : Nat} {a : Addr} {ho o : HO} {old ob : Ob} (hm : μ[n]? = some a) (hs : st[n]? = some old) (hf : isFro old = false) (h : H a = some ho) (nt : NoTup ho) (new : RepO K CA μ H ob o) : Rel K CA μ (st.set n ob) (upd H a o) := by
  have l : Le μ H μ (upd H a o) := .of_write h nt
  have hn : n < st.length := (List.getElem?_eq_some_iff.mp hs).1
  have back : ∀ {i : Nat} {u : Ob}, (st.set n ob)[i]? = some u → isFro u = false → ∃ u', st[i]? = some u' ∧ isFro u' = false := fun {i u} e f => by
    by_cases z : n = i
    · subst z; exact ⟨old, hs, hf⟩
    · rw [List.getElem?_set_ne z] at e; exact ⟨u, e, f⟩
  refine ⟨by rw [List.length_set]; exact R.len, ?_, fun m o' h' => ?_⟩
  · intro i j b o1 u1 ei ej si sj fo fu
    obtain ⟨o2, s2, f2⟩ := back si fo
    obtain ⟨u2, t2, g2⟩ := back sj fu
    exact R.inj i j b o2 u2 ei ej s2 t2 f2 g2
  · by_cases e : n = m
    · subst e
      rw [List.getElem?_set_self hn] at h'
      cases h'
      exact ⟨a, hm, .inl ⟨new.real, o, upd_same, new.mono l⟩⟩
    · rw [List.getElem?_set_ne e] at h'
      obtain ⟨b, h1, h2⟩ := R.ob m o' h'
      refine ⟨b, h1, ?_⟩
      rcases h2 with ⟨f, hb, h3, h4⟩ | ⟨vs, xs, eo, h3, h4⟩
      · refine .inl ⟨f, hb, ?_, h4.mono l⟩
        rw [upd_ne]
        · exact h3
        · intro z
          subst z
          exact e (R.inj n m b old o' hm h1 hs h' hf f)
      · refine .inr ⟨vs, xs, eo, ?_, h4.mono l⟩
        rcases h3 with ⟨w, h3⟩ | h3
        · refine .inl ⟨w, ?_⟩
          rw [upd_ne]
          · exact h3
          · intro z
            subst z
            rw [h] at h3; cases h3
            exact nt
        · exact .inr h3
theorem Le0.of_ext {a : Addr} {F G : Heap → Prop} (h : H a = some (.ext F)) : Le0 μ H μ (upd H a (.ext G)) := by
  have ne : ∀ {b} u, H b = some u → u ≠ .ext F → b ≠ a := fun {b} u e n z => by
    subst z
    rw [h] at e; cases e
    exact n rfl
  refine ⟨List.prefix_refl _, fun b xs q => ?_⟩
  rcases q with q | ⟨ob, q⟩
  · exact .inl (by rw [upd_ne (ne _ q fun z => by cases z)]; exact q)
  · exact .inr ⟨ob, by rw [upd_ne (ne _ q fun z => by cases z)]; exact q⟩
/-- a thing that the store doesn't hold is changed -/
theorem Rel.ext (R : Rel K CA μ st H) {a : Addr} {F G : Heap → Prop} (h : H a = some (.ext F)) : Rel K CA μ st (upd H a (.ext G)) := by
  have l : Le0 μ H μ (upd H a (.ext G)) := .of_ext h
  refine ⟨R.len, R.inj, fun m o' h' => ?_⟩
  obtain ⟨b, h1, h2⟩ := R.ob m o' h'
  refine ⟨b, h1, ?_⟩
  rcases h2 with ⟨f, hb, h3, h4⟩ | ⟨vs, xs, eo, h3, h4⟩
  · refine .inl ⟨f, hb, ?_, h4.mono0 l⟩
    rw [upd_ne]
    · exact h3
    · intro z
      subst z
      rw [h] at h3
      cases h3
      cases o' <;> exact h4
  · refine .inr ⟨vs, xs, eo, ?_, RepL.mono0 l h4⟩
    rcases h3 with ⟨w, h3⟩ | h3
    · refine .inl ⟨w, ?_⟩
      rw [upd_ne]
      · exact h3
      · intro z
        subst z
        rw [h] at h3; cases h3
    · exact .inr h3
/-- a dict is locked -/
theorem Rel.lock (R : Rel K CA μ st H) {n : Nat} {a : Addr} {kvs : List (Key × Val)} {kxs : List (Key × V)} (od : Obj) (hm : μ[n]? = some a) (hs : st[n]? = some (.dct kvs)) (h : H a = some (.dK kxs)) (h1 : kvs.map (·.1) = kxs.map (·.1)) (h2 : RepL K μ H (kvs.map (·.2)) (kxs.map (·.2))) :
    Le μ H μ (upd H a (.frz od (.dK kxs))) ∧ Rel K CA μ (st.set n (.frd kvs)) (upd H a (.frz od (.dK kxs))) :=
  ⟨.of_write h (by exact True.intro), R.write hm hs rfl h (by exact True.intro) (o := .frz od (.dK kxs)) (ob := .frd kvs) ⟨h1, h2⟩⟩
theorem Le0.of_unlock {a : Addr} {od : Obj} {kxs : List (Key × V)} {o : HO} (h : H a = some (.frz od (.dK kxs))) : Le0 μ H μ (upd H a o) := by
  refine ⟨List.prefix_refl _, fun b xs q => ?_⟩
  have ne : b ≠ a := fun z => by
    subst z
    rcases q with q | ⟨ob, q⟩
    · rw [h] at q; cases q
    · rw [h] at q; cases q
  rcases q with q | ⟨ob, q⟩
  · exact .inl (by rw [upd_ne ne]; exact q)
  · exact .inr ⟨ob, by rw [upd_ne ne]; exact q⟩
/-- .. and unlocked -/
theorem Rel.unlock (R : Rel K CA μ st H) {n : Nat} {a : Addr} {kvs : List (Key × Val)} {kxs : List (Key × V)} {od : Obj} (hm : μ[n]? = some a) (hs : st[n]? = some (.frd kvs)) (h : H a = some (.frz od (.dK kxs))) : Rel K CA μ (st.set n (.dct kvs)) (upd H a (.dK kxs)) := by
  have l : Le0 μ H μ (upd H a (.dK kxs)) := .of_unlock h
  have hn : n < st.length := (List.getElem?_eq_some_iff.mp hs).1
  obtain ⟨ho, e1, e2⟩ := R.real hm hs rfl
  rw [h] at e1
  cases e1
  have back : ∀ {i : Nat} {u : Ob}, (st.set n (.dct kvs))[i]? = some u → isFro u = false → ∃ u', st[i]? = some u' ∧ isFro u' = false := fun {i u} e f => by
    by_cases z : n = i
    · subst z; exact ⟨_, hs, rfl⟩
    · rw [List.getElem?_set_ne z] at e; exact ⟨u, e, f⟩
  refine ⟨by rw [List.length_set]; exact R.len, ?_, fun m o' h' => ?_⟩
  · intro i j b o1 u1 ei ej si sj fo fu
    obtain ⟨o2, s2, f2⟩ := back si fo
    obtain ⟨u2, t2, g2⟩ := back sj fu
    exact R.inj i j b o2 u2 ei ej s2 t2 f2 g2
  · by_cases e : n = m
    · subst e
      rw [List.getElem?_set_self hn] at h'
      cases h'
      exact ⟨a, hm, .inl ⟨rfl, .dK kxs, upd_same, e2.1, RepL.mono0 l e2.2⟩⟩
    · rw [List.getElem?_set_ne e] at h'
      obtain ⟨b, h1, h2⟩ := R.ob m o' h'
      refine ⟨b, h1, ?_⟩
      rcases h2 with ⟨f, hb, h3, h4⟩ | ⟨vs, xs, eo, h3, h4⟩
      · refine .inl ⟨f, hb, ?_, h4.mono0 l⟩
        rw [upd_ne]
        · exact h3
        · intro z
          subst z
          exact e (R.inj n m b _ o' hm h1 hs h' rfl f)
      · refine .inr ⟨vs, xs, eo, ?_, RepL.mono0 l h4⟩
        rcases h3 with ⟨w, h3⟩ | h3
        · refine .inl ⟨w, ?_⟩
          rw [upd_ne]
          · exact h3
          · intro z
            subst z
            rw [h] at h3
            cases h3
        · exact .inr h3
end

/-! ### the frame's values -/
abbrev Fr := List (Option Val)
structure RepE (K : PySem.W.Frag) (μ : List Addr) (H : Hp) (ρ : Fr) (σ : L2.St) : Prop where
  len : ρ.length = σ.length
  at_ : ∀ (i : Nat) (v : Val), ρ[i]? = some (some v) → ∃ x, σ[i]? = some (some x) ∧ RepV K μ H v x
section
variable {K : PySem.W.Frag} {μ μ' : List Addr} {H H' : Hp} {ρ : Fr} {σ : L2.St}
theorem RepE.mono (l : Le μ H μ' H') (r : RepE K μ H ρ σ) : RepE K μ' H' ρ σ :=
  ⟨r.len, fun i v h => let ⟨x, h1, h2⟩ := r.at_ i v h; ⟨x, h1, h2.mono l⟩⟩
theorem RepE.set (r : RepE K μ H ρ σ) {i : Nat} {v : Val} {x : V} (h : RepV K μ H v x) : RepE K μ H (ρ.set i (some v)) (σ.set i (some x)) := by
  refine ⟨by rw [List.length_set, List.length_set]; exact r.len, fun j w e => ?_⟩
  by_cases z : i = j
  · subst z
    by_cases hi : i < ρ.length
    · rw [List.getElem?_set_self hi] at e
      cases e
      exact ⟨x, by rw [List.getElem?_set_self (by rw [← r.len]; exact hi)], h⟩
    · rw [List.getElem?_eq_none (by rw [List.length_set]; exact Nat.le_of_not_lt hi)] at e
      cases e
  · rw [List.getElem?_set_ne z] at e ⊢
    exact r.at_ j w e
theorem RepE.unset (r : RepE K μ H ρ σ) {i : Nat} : RepE K μ H (ρ.set i none) (σ.set i none) := by
  refine ⟨by rw [List.length_set, List.length_set]; exact r.len, fun j w e => ?_⟩
  by_cases z : i = j
  · subst z
    by_cases hi : i < ρ.length
    · rw [List.getElem?_set_self hi] at e
      cases e
    · rw [List.getElem?_eq_none (by rw [List.length_set]; exact Nat.le_of_not_lt hi)] at e
      cases e
  · rw [List.getElem?_set_ne z] at e ⊢
    exact r.at_ j w e
theorem RepE.wipe (r : RepE K μ H ρ σ) : ∀ vs : List Nat, ∃ ρ', ρ' = vs.foldr (fun i q => q.set i none) ρ ∧ RepE K μ H ρ' (L2.wipe σ vs)
  | [] => ⟨ρ, rfl, r⟩
  | i :: vs => by
    obtain ⟨ρ', e, h⟩ := RepE.wipe r vs
    refine ⟨ρ'.set i none, by rw [List.foldr_cons, e], ?_⟩
    show RepE K μ H _ ((L2.wipe σ vs).set i none)
    exact h.unset
end
end EV

/-! ## EvAst -/
set_option maxRecDepth 100000
set_option maxHeartbeats 4000000
/-! EvAst: a small syntax without places, and what it computes over the store. -/
namespace EV
open PySem L2

inductive BOp where
  | add | sub | mul | fdiv | mod | pow
  deriving DecidableEq
inductive COp where
  | eq | ne | lt | le | gt | ge | isN | notN | inn | notin
  deriving DecidableEq
/-- a built-in type's name, a built-in function, a method -/
inductive Ty where
  | int | bool | str | list | tuple | dict
  deriving DecidableEq
inductive Bf where
  | len | int | max | min | abs | all | any | sum | sorted | list | tuple | dict | str | isi (T : Ty)
inductive Mf where
  | append | join | pop
/-- what a for or a comprehension gives its items to -/
inductive Tg where
  | nm (i : Nat) | tp (is : List Nat)
mutual
inductive Ex where
  | var (i : Nat)
  | con (v : Val)
  | bin (o : BOp) (a b : Ex)
  | neg (a : Ex)
  | not (a : Tx)
  | and (a b : Ex)
  | or (a b : Ex)
  | cmp (o : COp) (a b : Ex)
  | chain (o o' : COp) (a b c : Ex)
  | ife (t : Tx) (a b : Ex)
  | call (f : Nat) (args : Exs)
  | callp (f : Nat) (perm : List Nat) (args : Exs)
  | tab (kvs : List (Str × Val)) (e : Ex)
  | tin (neg : Bool) (kvs : List (Str × Val)) (e : Ex)
  | dnew
  | rev (e : Ex)
  | blt (f : Bf) (args : Exs)
  | mth (m : Mf) (o : Ex) (args : Exs)
  | fld (c : Nat) (o : Ex) (f : Str)
  | mk (c id : Nat) (args : Exs)
  | meth (c id : Nat) (m : Str) (o : Ex) (args : Exs)
  | prop (c id : Nat) (o : Ex)
  | idx (o i : Ex)
  | slc (o : Ex) (lo hi : Exo)
  | lst (es : Exs)
  | tup (es : Exs)
  | lc (elt : Ex) (t : Tg) (it : Ir) (ifs : Txo) (own : List Nat)
  | lsc (elt : Ex) (t : Tg) (it : Ir) (ifs : Txo) (own : List Nat)
  | dc (k v : Ex) (t : Tg) (it : Ir) (ifs : Txo) (own : List Nat)
  | disp (ks : List Str) (es : Exs)
  | get (o k d : Ex)
  | lockd (x y : Ex)
  | never
inductive Tx where
  | val (e : Ex) | not (a : Tx) | and (a b : Tx) | or (a b : Tx)
inductive Txo where
  | none | some (t : Tx)
inductive Exs where
  | nil | cons (e : Ex) (es : Exs) | star (e : Ex) (es : Exs)
inductive Exo where
  | none | some (e : Ex)
inductive Ir where
  | ex (e : Ex)
  | rng1 (a : Ex)
  | rng2 (a b : Ex)
  | rng3 (a b c : Ex)
  | zip2 (a b : Ex)
  | keys (e : Ex)
  | never
end
inductive Sx where
  | set (i : Nat) (e : Ex)
  | unp (is : List Nat) (e : Ex)
  | seti (o i e : Ex)
  | setf (c : Nat) (o : Ex) (f : Str) (e : Ex)
  | exp (e : Ex)
  | ret (e : Ex)
  | retn
  | pass | brk | cnt
  | ite (c : Tx) (a b : List Sx)
  | loop (t : Tg) (it : Ir) (body : List Sx)
  | wh (n : Nat) (c : Tx) (body : List Sx)
  | loopd (t : Tg) (e : Ex) (body : List Sx)
  | rais (c : Nat) (e : Ex)
  | tryo (body : List Sx) (hs ns : List Nat) (suite : List Sx)
  | never

/-! ### operations -/
def liftO {α : Type} : Option (α × Store) → Res α
  | some (v, st) => .ok v st
  | none => .stuck
def lstAt (st : Store) (n : Nat) : Option (List Val) := match st[n]? with
  | some (.lst vs) => some vs
  | some (.fro vs) => some vs
  | _ => none
def mutAt (st : Store) (n : Nat) : Option (List Val) := match st[n]? with
  | some (.lst vs) => some vs
  | _ => none
/-- the items of a list or a tuple -/
def seqOf (st : Store) : Val → Option (List Val)
  | .ref n => lstAt st n
  | .tup vs => some vs
  | _ => none
def lineOk (n : Nat) : Bool := decide (n ≤ 16777216)
def alloc (st : Store) (o : Ob) : Option (Val × Store) := some (.ref st.length, st ++ [o])
def allocL (st : Store) (vs : List Val) : Option (Val × Store) := if lineOk vs.length then alloc st (.lst vs) else none
def mulOk (i j : Int) : Bool := decide (-(2 ^ 64) < i ∧ i < 2 ^ 64) || decide (-(2 ^ 64) < j ∧ j < 2 ^ 64) || decide (i.natAbs.log2 + j.natAbs.log2 < 1000000)
def binV (o : BOp) (v u : Val) (st : Store) : Option (Val × Store) := match o, v, u with
  | .add, .int i, .int j => some (.int (i + j), st)
  | .add, .str x, .str y => if lineOk (x.length + y.length) then some (.str (x ++ y), st) else none
  | .add, .ref n, .ref m => match mutAt st n, mutAt st m with
    | some xs, some ys => allocL st (xs ++ ys)
    | _, _ => none
  | .add, .tup xs, .tup ys => if lineOk (xs.length + ys.length) then some (.tup (xs ++ ys), st) else none
  | .sub, .int i, .int j => some (.int (i - j), st)
  | .mul, .int i, .int j => if mulOk i j then some (.int (i * j), st) else none
  | .mul, .ref n, .int k => match mutAt st n with
    | some xs => if decide (-(2 ^ 63) ≤ k ∧ k < 2 ^ 63) && lineOk (xs.length * k.toNat) then alloc st (.lst (List.replicate k.toNat xs).flatten) else none
    | none => none
  | .fdiv, .int i, .int j => if decide (0 < j ∧ j.natAbs.log2 < 9000) then some (.int (i / j), st) else none
  | .mod, .int i, .int j => if decide (0 < j) then some (.int (i % j), st) else none
  | .pow, .int i, .int j => if decide (0 ≤ j ∧ j ≤ 1000000 ∧ i.natAbs < 2 ^ 64) then some (.int (i ^ j.toNat), st) else none
  | _, _, _ => none
def negV : Val → Option Val
  | .int i => some (.int (-i))
  | _ => none
/-- a value without any object: none, a bool, an int, a text -/
def flat : Val → Bool
  | .non => true | .bl _ => true | .int _ => true | .str _ => true
  | _ => false
/-- == of such values -/
def eqF : Val → Val → Bool
  | .non, .non => true
  | .bl a, .bl b => a == b
  | .bl p, .int j => (if p then 1 else 0) == j
  | .int i, .bl q => i == (if q then 1 else 0)
  | .int a, .int b => a == b
  | .str a, .str b => a == b
  | _, _ => false
mutual
/-- a value as a tree (None where it is none of these) -/
def pyOf (st : Store) : Nat → Val → Option PyData
  | _, .non => some .none
  | _, .bl b => some (.bool b)
  | _, .int i => some (.int i)
  | _, .str x => some (.str x)
  | 0, _ => none
  | k + 1, .ref n => match lstAt st n with
    | some vs => (pyAll st k vs).map .list
    | none => none
  | k + 1, .tup vs => (pyAll st k vs).map .tuple
def pyAll (st : Store) : Nat → List Val → Option (List PyData)
  | _, [] => some []
  | 0, _ :: _ => none
  | k + 1, v :: vs => match pyOf st k v, pyAll st k vs with
    | some d, some ds => some (d :: ds)
    | _, _ => none
end
def eqS (st : Store) (v u : Val) : Option Bool :=
  if flat v && flat u then some (eqF v u) else
  match pyOf st 100000 v, pyOf st 100000 u with
  | some d, some e => if SeqAt.shaped d && SeqAt.shaped e then some (PyData.eqv d e) else none
  | _, _ => none
def inS (st : Store) (v u : Val) : Option Bool := match u with
  | .str y => match v with
    | .str x => some (!(Builtin.Str.occurrences y x 0 y.length 1).isEmpty)
    | _ => none
  | .ref n => match st[n]? with
    | some (.dct kvs) => match v with
      | .int i => some (kvs.any fun kv => decide (kv.1 = .inl i))
      | .str x => some (kvs.any fun kv => decide (kv.1 = .inr x))
      | _ => none
    | some (.lst vs) => if flat v && vs.all flat then some (vs.any fun w => eqF w v) else none
    | some (.fro vs) => if flat v && vs.all flat then some (vs.any fun w => eqF w v) else none
    | _ => none
  | .tup vs => if flat v && vs.all flat then some (vs.any fun w => eqF w v) else none
  | _ => none
def cmpV (o : COp) (v u : Val) (st : Store) : Option Bool := match o with
  | .eq => eqS st v u
  | .ne => (eqS st v u).map (!·)
  | .isN => match u with
    | .non => some (match v with | .non => true | _ => false)
    | .bl b => (match v with | .bl a => some (a == b) | _ => none)
    | _ => none
  | .notN => match u with
    | .non => some (match v with | .non => false | _ => true)
    | .bl b => (match v with | .bl a => some (!(a == b)) | _ => none)
    | _ => none
  | .inn => inS st v u
  | .notin => (inS st v u).map (!·)
  | .lt => match v, u with
    | .int i, .int j => some (decide (i < j))
    | .str x, .str y => some (decide (x.cps.toList < y.cps.toList))
    | _, _ => none
  | .le => match v, u with
    | .int i, .int j => some (decide (i ≤ j))
    | .str x, .str y => some (!decide (y.cps.toList < x.cps.toList))
    | _, _ => none
  | .gt => match v, u with
    | .int i, .int j => some (decide (j < i))
    | .str x, .str y => some (decide (y.cps.toList < x.cps.toList))
    | _, _ => none
  | .ge => match v, u with
    | .int i, .int j => some (decide (j ≤ i))
    | .str x, .str y => some (!decide (x.cps.toList < y.cps.toList))
    | _, _ => none
/-- a value's truth -/
def truV (st : Store) : Val → Option Bool
  | .non => some false
  | .bl b => some b
  | .int i => some (i != 0)
  | .str x => if lineOk x.length then some ((x.length : Int) != 0) else none
  | .tup vs => some (!vs.isEmpty)
  | .ref n => match st[n]? with
    | some (.lst vs) => some (!vs.isEmpty)
    | some (.fro vs) => some (!vs.isEmpty)
    | some (.dct kvs) => some (!kvs.isEmpty)
    | _ => none
def idxV (st : Store) (v u : Val) : Option Val := match u with
  | .int i => match v with
    | .ref n => match lstAt st n with
      | some vs => atI vs i
      | none => match st[n]? with
        | some (.dct kvs) => (kvs.find? fun kv => decide (kv.1 = .inl i)).map (·.2)
        | _ => none
    | .tup vs => atI vs i
    | .str z => if lineOk z.length then (atI z.cps.toList i).map fun c => .str ⟨#[c]⟩ else none
    | _ => none
  | .str x => match v with
    | .ref n => match st[n]? with
      | some (.dct kvs) => (kvs.find? fun kv => decide (kv.1 = .inr x)).map (·.2)
      | some (.frd kvs) => (kvs.find? fun kv => decide (kv.1 = .inr x)).map (·.2)
      | _ => none
    | _ => none
  | _ => none
def cut {α : Type} (xs : List α) (lo hi : Option Int) : List α := (xs.drop (HT.sIx xs.length 0 lo)).take (HT.sIx xs.length xs.length hi - HT.sIx xs.length 0 lo)
def slcV (v : Val) (lo hi : Option Int) (st : Store) : Option (Val × Store) := match v with
  | .ref n => match lstAt st n with
    | some vs => alloc st (.lst (cut vs lo hi))
    | none => none
  | .tup vs => some (.tup (cut vs lo hi), st)
  | .str z => if lineOk z.length then some (.str (cutS z lo hi), st) else none
  | _ => none
def revV (v : Val) (st : Store) : Option (Val × Store) := match v with
  | .ref n => match lstAt st n with
    | some vs => alloc st (.lst vs.reverse)
    | none => none
  | _ => none
/-! ### built-in functions -/
def intsOf : List Val → Option (List Int)
  | [] => some []
  | .int i :: vs => (intsOf vs).map (i :: ·)
  | _ => none
def boolsOf : List Val → Option (List Bool)
  | [] => some []
  | .bl i :: vs => (boolsOf vs).map (i :: ·)
  | _ => none
def strsOf : List Val → Option (List Str)
  | [] => some []
  | .str i :: vs => (strsOf vs).map (i :: ·)
  | _ => none
def pairsOf : List Val → Option (List (Int × Int))
  | [] => some []
  | .tup [.int i, .int j] :: vs => (pairsOf vs).map ((i, j) :: ·)
  | _ => none
def leS (a b : Str) : Bool := !decide (b.cps.toList < a.cps.toList)
def leP (a b : Int × Int) : Bool := decide (a.1 < b.1 ∨ (a.1 = b.1 ∧ a.2 ≤ b.2))
def sortI (ns : List Int) : List Int := ns.mergeSort fun a b => decide (a ≤ b)
def sortS (ns : List Str) : List Str := ns.mergeSort leS
def sortP (ns : List (Int × Int)) : List (Int × Int) := ns.mergeSort leP
def keyV : Key → Val
  | .inl i => .int i
  | .inr x => .str x
def keysS : List Key → Option (List Str)
  | [] => some []
  | .inr x :: ks => (keysS ks).map (x :: ·)
  | _ => none
def sortV (vs : List Val) : Option (List Val) := match intsOf vs with
  | some ns => some ((sortI ns).map .int)
  | none => match strsOf vs with
    | some zs => if decide (zs.length < 64) then some ((sortS zs).map .str) else none
    | none => match pairsOf vs with
      | some ps => some ((sortP ps).map fun p => .tup [.int p.1, .int p.2])
      | none => none
def tyOf (st : Store) : Val → Option Ty
  | .bl _ => some .bool
  | .int _ => some .int
  | .str _ => some .str
  | .tup _ => some .tuple
  | .ref n => match st[n]? with
    | some (.lst _) => some .list
    | some (.dct _) => some .dict
    | _ => none
  | .non => none
def isiV (T : Ty) (st : Store) : Val → Option Bool
  | .non => some false
  | v => (tyOf st v).map fun t => decide (t = T) || (decide (t = .bool) && decide (T = .int))
def maxI : List Int → Option Int
  | [] => none
  | n :: ns => some (ns.foldl (fun a b => if b > a then b else a) n)
def minI : List Int → Option Int
  | [] => none
  | n :: ns => some (ns.foldl (fun a b => if b < a then b else a) n)
def bltV (f : Bf) (vs : List Val) (st : Store) : Option (Val × Store) := match f, vs with
  | .len, [.str z] => if lineOk z.length then some (.int z.length, st) else none
  | .len, [.tup ws] => some (.int ws.length, st)
  | .len, [.ref n] => match st[n]? with
    | some (.lst ws) => some (.int ws.length, st)
    | some (.fro ws) => some (.int ws.length, st)
    | some (.dct kvs) => some (.int kvs.length, st)
    | _ => none
  | .int, [.int i] => some (.int i, st)
  | .int, [.bl b] => some (.int (if b then 1 else 0), st)
  | .str, [.int i] => if decide (i.natAbs.log2 < 1920) then some (.str (toString i), st) else none
  | .str, [.str z] => some (.str z, st)
  | .max, [.int i, .int j] => some (.int (if j > i then j else i), st)
  | .min, [.int i, .int j] => some (.int (if j < i then j else i), st)
  | .max, [.ref n] => match lstAt st n with
    | some ws => match intsOf ws with
      | some ns => (maxI ns).map fun m => (.int m, st)
      | none => none
    | none => none
  | .min, [.ref n] => match lstAt st n with
    | some ws => match intsOf ws with
      | some ns => (minI ns).map fun m => (.int m, st)
      | none => none
    | none => none
  | .abs, [.int i] => some (.int (if i < 0 then -i else i), st)
  | .all, [.ref n] => match lstAt st n with
    | some ws => (boolsOf ws).map fun bs => (.bl (bs.all id), st)
    | none => none
  | .any, [.ref n] => match lstAt st n with
    | some ws => (boolsOf ws).map fun bs => (.bl (bs.any id), st)
    | none => none
  | .sum, [.ref n] => match lstAt st n with
    | some ws => (intsOf ws).map fun ns => (.int ns.sum, st)
    | none => none
  | .sorted, [.ref n] => match st[n]? with
    | some (.lst ws) => match sortV ws with
      | some us => alloc st (.lst us)
      | none => none
    | some (.fro ws) => match sortV ws with
      | some us => alloc st (.lst us)
      | none => none
    | some (.dct kvs) => match keysS (kvs.map (·.1)) with
      | some ks => if decide (ks.length < 64) then alloc st (.lst ((sortS ks).map .str)) else none
      | none => none
    | _ => none
  | .list, [.ref n] => match st[n]? with
    | some (.lst ws) => alloc st (.lst ws)
    | some (.fro ws) => alloc st (.lst ws)
    | some (.dct kvs) => alloc st (.lst (kvs.map fun kv => keyV kv.1))
    | _ => none
  | .list, [.tup ws] => alloc st (.lst ws)
  | .tuple, [.ref n] => match lstAt st n with
    | some ws => some (.tup ws, st)
    | none => none
  | .tuple, [.tup ws] => some (.tup ws, st)
  | .dict, [.ref n] => match st[n]? with
    | some (.dct kvs) => alloc st (.dct kvs)
    | _ => none
  | .isi T, [v] => (isiV T st v).map fun b => (.bl b, st)
  | _, _ => none
def mthV (m : Mf) (v : Val) (vs : List Val) (st : Store) : Option (Val × Store) := match m, v, vs with
  | .append, .ref n, [u] => match mutAt st n with
    | some ws => if decide (ws.length < 16777216) then some (.non, st.set n (.lst (ws ++ [u]))) else none
    | none => none
  | .pop, .ref n, [] => match mutAt st n with
    | some ws => match ws[ws.length - 1]? with
      | some y => some (y, st.set n (.lst ws.dropLast))
      | none => none
    | none => none
  | .pop, .ref n, [.int i] => match mutAt st n with
    | some ws => match seqIndex? i ws.length with
      | some k => match ws[k]? with
        | some y => if decide (-2 ^ 63 ≤ i ∧ i < 2 ^ 63) then some (y, st.set n (.lst (ws.eraseIdx k))) else none
        | none => none
      | none => none
    | none => none
  | .join, .str z, [.ref n] => match lstAt st n with
    | some ws => match strsOf ws with
      | some zs => if decide ((zs.map (·.length)).sum + zs.length * z.length ≤ 16777216) then some (.str (Txt.join z zs), st) else none
      | none => none
    | none => none
  | _, _, _ => none
/-- the receiver is of the method's type -/
def rcv (m : Mf) (v : Val) (st : Store) : Bool := match m, v with
  | .append, .ref n => (mutAt st n).isSome
  | .pop, .ref n => (mutAt st n).isSome
  | .join, .str _ => true
  | _, _ => false
/-- the flow out of a statement -/
inductive Out where
  | next (ρ : Fr) (st : Store) | ret (v : Val) (st : Store) | brk (ρ : Fr) (st : Store) | cnt (ρ : Fr) (st : Store) | exc (c : Nat) (v : Val) (ρ : Fr) (st : Store) | stuck
def wipeF (ρ : Fr) : List Nat → Fr
  | [] => ρ
  | i :: is => (wipeF ρ is).set i none
def setAll : List Nat → List Val → Fr → Option Fr
  | [], [], ρ => some ρ
  | i :: is, v :: vs, ρ => setAll is vs (ρ.set i (some v))
  | _, _, _ => none
def Tg.give (t : Tg) (v : Val) (ρ : Fr) (st : Store) : Option Fr := match t with
  | .nm i => some (ρ.set i (some v))
  | .tp is => match v with
    | .tup vs => setAll is vs ρ
    | .ref n => match lstAt st n with
      | some vs => setAll is vs ρ
      | none => none
    | _ => none
/-- what is walked: how many turns, and the item of each turn (read off the store there) -/
inductive Wk where
  | lst (n : Nat) (len : Nat) | tup (vs : List Val) | rng (lo : Int) (len : Nat) | rngc (lo c : Int) (len : Nat) | txt (z : Str) | zipL (n k m l : Nat) | zipT (vs us : List Val)
/-- the texts' signs -/
def signs (z : Str) : List Val := z.cps.toList.map fun c => .str ⟨#[c]⟩
def Wk.len : Wk → Nat
  | .lst _ k => k
  | .tup vs => vs.length
  | .rng _ k => k
  | .rngc _ _ k => k
  | .txt z => z.cps.size
  | .zipL _ k _ l => min k l
  | .zipT vs us => min vs.length us.length
def Wk.item (w : Wk) (st : Store) (i : Nat) : Option Val := match w with
  | .lst n k => match lstAt st n with
    | some vs => if vs.length = k then vs[i]? else none
    | none => none
  | .tup vs => vs[i]?
  | .rng lo _ => some (.int (lo + i))
  | .rngc lo c _ => some (.int (lo + i * c))
  | .txt z => (z.cps[i]?).map fun c => .str ⟨#[c]⟩
  | .zipL n k m l => match lstAt st n, lstAt st m with
    | some vs, some us => if vs.length = k ∧ us.length = l then match vs[i]?, us[i]? with
        | some v, some u => some (.tup [v, u])
        | _, _ => none
      else none
    | _, _ => none
  | .zipT vs us => match vs[i]?, us[i]? with
    | some v, some u => some (.tup [v, u])
    | _, _ => none
def Wk.fits (w : Wk) (st : Store) : Bool := match w with
  | .lst n k => match lstAt st n with
    | some vs => decide (vs.length = k)
    | none => false
  | .zipL n k m l => match lstAt st n, lstAt st m with
    | some vs, some us => decide (vs.length = k ∧ us.length = l)
    | _, _ => false
  | _ => true
def wkOf (st : Store) : Val → Option Wk
  | .ref n => (lstAt st n).map fun vs => .lst n vs.length
  | .tup vs => some (.tup vs)
  | .str z => some (.txt z)
  | _ => none
def zipOf (st : Store) : Val → Val → Option Wk
  | .ref n, .ref m => match lstAt st n, lstAt st m with
    | some vs, some us => some (.zipL n vs.length m us.length)
    | _, _ => none
  | .tup vs, .tup us => some (.zipT vs us)
  | _, _ => none
def rngOk (i : Int) : Bool := decide (-(2 ^ 62) ≤ i ∧ i < 2 ^ 62)
/-- what an expression is by the frame alone: a name, or an item of a tuple -/
def pv (ρ : Fr) : Ex → Option Val
  | .var i => match ρ[i]? with
    | some (some v) => some v
    | _ => none
  | .idx (.var i) (.con (.int k)) => match ρ[i]? with
    | some (some (.tup vs)) => atI vs k
    | _ => none
  | _ => none
/-- a locked dict is unlocked -/
def thawS (n : Nat) (st : Store) : Option Store := match st[n]? with
  | some (.frd kvs) => some (st.set n (.dct kvs))
  | _ => none
def thaw (n : Nat) : Out → Out
  | .next ρ st => match thawS n st with
    | some st' => .next ρ st'
    | none => .stuck
  | .ret v st => match thawS n st with
    | some st' => .ret v st'
    | none => .stuck
  | _ => .stuck
/-- the items at some places, in their order -/
def permL {α : Type} (perm : List Nat) (l : List α) : List α := perm.filterMap fun i => l[i]?
/-- no exception goes through -/
def Res.quiet {α : Type} : Res α → Res α
  | .ok a st => .ok a st
  | _ => .stuck
/-- the turns of a comprehension: r turns are left, i are gone -/
def lcTurns (g : Val → Fr → Store → Option Fr) (tt : Fr → Store → Res Bool) (el : Fr → Store → Res Val) (w : Wk) (ρ : Fr) (D : Nat) : Nat → Nat → Store → Res Val
  | 0, _, st => if w.fits st then .ok (.ref D) st else .stuck
  | r + 1, i, st => match w.item st i with
    | none => .stuck
    | some v => match g v ρ st with
      | none => .stuck
      | some ρ' => (tt ρ' st).quiet.bind fun b st1 => if b then (el ρ' st1).quiet.bind fun y st2 => match mutAt st2 D with
          | some acc => if decide (acc.length < 16777216) then lcTurns g tt el w ρ D r (i + 1) (st2.set D (.lst (acc ++ [y]))) else .stuck
          | none => .stuck
        else lcTurns g tt el w ρ D r (i + 1) st1
def putKV (kvs : List (Key × Val)) (k : Key) (v : Val) : List (Key × Val) :=
  if (kvs.any fun q => decide (q.1 = k)) = true then List.map (fun q : Key × Val => if q.1 = k then (q.1, v) else q) kvs else kvs ++ [(k, v)]
def mergeKV (kvs more : List (Key × Val)) : List (Key × Val) := more.foldl (fun acc kv => putKV acc kv.1 kv.2) kvs
def keyOf : Val → Option Key
  | .int j => some (.inl j)
  | .str z => some (.inr z)
  | _ => none
/-- a dict comprehension's turns -/
def dcTurns (g : Val → Fr → Store → Option Fr) (tt : Fr → Store → Res Bool) (kx vx : Fr → Store → Res Val) (w : Wk) (ρ : Fr) (D : Nat) : Nat → Nat → Store → Res Val
  | 0, _, st => if w.fits st then .ok (.ref D) st else .stuck
  | r + 1, i, st => match w.item st i with
    | none => .stuck
    | some v => match g v ρ st with
      | none => .stuck
      | some ρ' => (tt ρ' st).quiet.bind fun b st1 => if b then (kx ρ' st1).quiet.bind fun y st2 => (vx ρ' st2).quiet.bind fun z st3 => match keyOf y with
          | some k => match st3[D]? with
            | some (.dct kvs) => if decide (kvs.length < 16777216) then dcTurns g tt kx vx w ρ D r (i + 1) (st3.set D (.dct (putKV kvs k z))) else .stuck
            | _ => .stuck
          | none => .stuck
        else dcTurns g tt kx vx w ρ D r (i + 1) st1
/-- an instance's fields -/
def insAt (c : Nat) (v : Val) (st : Store) : Option (List (Str × Val)) := match v with
  | .ref n => match st[n]? with
    | some (.ins c' fs) => if c' = c then some fs else none
    | _ => none
  | _ => none
def putFV (f : Str) (v : Val) : List (Str × Val) → List (Str × Val)
  | [] => [(f, v)]
  | (g, x) :: r => if g = f then (g, v) :: r else (g, x) :: putFV f v r
/-- what an expression is by the frame and the store alone: a field too -/
def pv2 (ρ : Fr) (st : Store) : Ex → Option Val
  | .fld c (.var i) f => match ρ[i]? with
    | some (some v) => match insAt c v st with
      | some fs => fs.lookup f
      | none => none
    | _ => none
  | e => pv ρ e
def thawR (n : Nat) : Res Val → Res Val
  | .ok v st => match thawS n st with
    | some st' => .ok v st'
    | none => .stuck
  | _ => .stuck
def hasK (ks : List Key) (c : Key) : Bool := ks.any fun q => decide (q = c)
def addK (ks : List Key) (c : Key) : List Key := if hasK ks c then ks else ks ++ [c]
/-- a set comprehension's turns: the keys found -/
def scTurns (g : Val → Fr → Store → Option Fr) (tt : Fr → Store → Res Bool) (el : Fr → Store → Res Val) (w : Wk) (ρ : Fr) : Nat → Nat → Store → List Key → Res Val
  | 0, _, st, ks => if w.fits st then .ok (.int ks.length) st else .stuck
  | r + 1, i, st, ks => match w.item st i with
    | none => .stuck
    | some v => match g v ρ st with
      | none => .stuck
      | some ρ' => (tt ρ' st).quiet.bind fun b st1 => if b then (el ρ' st1).quiet.bind fun y st2 => match y with
          | .int j => if decide (ks.length + 1 < 4096) then scTurns g tt el w ρ r (i + 1) st2 (addK ks (.inl j)) else .stuck
          | .str z => if decide (ks.length + 1 < 4096) then scTurns g tt el w ρ r (i + 1) st2 (addK ks (.inr z)) else .stuck
          | _ => .stuck
        else scTurns g tt el w ρ r (i + 1) st1 ks

abbrev Cl := Nat → List Val → Store → Res Val
section
variable (cl : Cl)
mutual
def ev : Ex → Fr → Store → Res Val
  | .var i, ρ, st => match ρ[i]? with
    | some (some v) => .ok v st
    | _ => .stuck
  | .con v, _, st => .ok v st
  | .bin o a b, ρ, st => (ev a ρ st).bind fun v st1 => (ev b ρ st1).bind fun u st2 => liftO (binV o v u st2)
  | .neg a, ρ, st => (ev a ρ st).bind fun v st1 => liftO ((negV v).map fun w => (w, st1))
  | .not a, ρ, st => (evT a ρ st).bind fun b st1 => .ok (.bl (!b)) st1
  | .and a b, ρ, st => (ev a ρ st).bind fun v st1 => match v with
    | .bl true => ev b ρ st1
    | .bl false => .ok (.bl false) st1
    | _ => .stuck
  | .or a b, ρ, st => (ev a ρ st).bind fun v st1 => match v with
    | .bl true => .ok (.bl true) st1
    | .bl false => ev b ρ st1
    | _ => .stuck
  | .cmp o a b, ρ, st => (ev a ρ st).bind fun v st1 => (ev b ρ st1).bind fun u st2 => liftO ((cmpV o v u st2).map fun k => (.bl k, st2))
  | .chain o o' a b c, ρ, st => (ev a ρ st).bind fun v st1 => (ev b ρ st1).bind fun u st2 => match cmpV o v u st2 with
    | some true => (ev c ρ st2).bind fun w st3 => liftO ((cmpV o' u w st3).map fun k => (.bl k, st3))
    | some false => .ok (.bl false) st2
    | none => .stuck
  | .ife t a b, ρ, st => (evT t ρ st).bind fun k st1 => if k then ev a ρ st1 else ev b ρ st1
  | .call f args, ρ, st => (evs args ρ st).bind fun vs st1 => cl f vs st1
  | .callp f perm args, ρ, st => (evs args ρ st).bind fun vs st1 => cl f (permL perm vs) st1
  | .tab kvs e, ρ, st => (ev e ρ st).bind fun v st1 => match v with
    | .str z => match kvs.lookup z with
      | some u => .ok u st1
      | none => .stuck
    | _ => .stuck
  | .tin neg kvs e, ρ, st => (ev e ρ st).bind fun v st1 => match v with
    | .str z => .ok (.bl (neg != (kvs.lookup z).isSome)) st1
    | _ => .stuck
  | .dnew, _, st => .ok (.ref st.length) (st ++ [.dct []])
  | .rev e, ρ, st => (ev e ρ st).bind fun v st1 => liftO (revV v st1)
  | .blt f args, ρ, st => (evs args ρ st).bind fun vs st1 => liftO (bltV f vs st1)
  | .mth m o args, ρ, st => (ev o ρ st).bind fun v st1 => if rcv m v st1 then (evs args ρ st1).bind fun vs st2 => liftO (mthV m v vs st2) else .stuck
  | .fld c o f, ρ, st => (ev o ρ st).bind fun v st1 => match insAt c v st1 with
    | some fs => match fs.lookup f with
      | some w => .ok w st1
      | none => .stuck
    | none => .stuck
  | .mk c id args, ρ, st => (evs args ρ st).bind fun vs st1 => (cl id (.ref st1.length :: vs) (st1 ++ [.ins c []])).quiet.bind fun v st2 => match v with
    | .non => .ok (.ref st1.length) st2
    | _ => .stuck
  | .meth c id m o args, ρ, st => (ev o ρ st).bind fun v st1 => match insAt c v st1 with
    | some fs => if (fs.lookup m).isNone then (evs args ρ st1).bind fun vs st2 => (cl id (v :: vs) st2).quiet else .stuck
    | none => .stuck
  | .prop c id o, ρ, st => (ev o ρ st).bind fun v st1 => match insAt c v st1 with
    | some _ => (cl id [v] st1).quiet
    | none => .stuck
  | .idx o i, ρ, st => (ev o ρ st).bind fun v st1 => (ev i ρ st1).bind fun u st2 => liftO ((idxV st2 v u).map fun w => (w, st2))
  | .slc o lo hi, ρ, st => (ev o ρ st).bind fun v st1 => (evo lo ρ st1).bind fun l st2 => (evo hi ρ st2).bind fun h st3 => liftO (slcV v l h st3)
  | .lst es, ρ, st => (evs es ρ st).bind fun vs st1 => liftO (allocL st1 vs)
  | .tup es, ρ, st => (evs es ρ st).bind fun vs st1 => if lineOk vs.length then .ok (.tup vs) st1 else .stuck
  | .lc elt t it ifs own, ρ, st => (evI it ρ st).bind fun w st1 => lcTurns (t.give) (evTs ifs) (ev elt) w (wipeF ρ own) st1.length w.len 0 (st1 ++ [.lst []])
  | .lsc elt t it ifs own, ρ, st => (evI it ρ st).bind fun w st1 => scTurns (t.give) (evTs ifs) (ev elt) w (wipeF ρ own) w.len 0 st1 []
  | .dc k v t it ifs own, ρ, st => (evI it ρ st).bind fun w st1 => dcTurns (t.give) (evTs ifs) (ev k) (ev v) w (wipeF ρ own) st1.length w.len 0 (st1 ++ [.dct []])
  | .disp ks es, ρ, st => (evs es ρ (st ++ [.dct []])).bind fun vs st1 => match st1[st.length]? with
    | some (.dct []) => if decide (vs.length = ks.length ∧ ks.length ≤ 15) then .ok (.ref st.length) (st1.set st.length (.dct (mergeKV [] ((ks.map Sum.inr).zip vs)))) else .stuck
    | _ => .stuck
  | .get o k d, ρ, st => (ev o ρ st).bind fun v st1 => match v with
    | .ref n => match st1[n]? with
      | some (.dct _) => (ev k ρ st1).bind fun y st2 => (ev d ρ st2).bind fun z st3 => match st3[n]? with
        | some (.dct kvs) => match keyOf y with
          | some kk => .ok (((kvs.find? fun kv => decide (kv.1 = kk)).map (·.2)).getD z) st3
          | none => .stuck
        | _ => .stuck
      | _ => .stuck
    | _ => .stuck
  | .lockd x y, ρ, st => match pv2 ρ st x with
    | some (.ref n) => match st[n]? with
      | some (.dct kvs) => thawR n (ev y ρ (st.set n (.frd kvs)))
      | _ => .stuck
    | _ => .stuck
  | .never, _, _ => .stuck
def evs : Exs → Fr → Store → Res (List Val)
  | .nil, _, st => .ok [] st
  | .cons e es, ρ, st => (ev e ρ st).bind fun v st1 => (evs es ρ st1).bind fun vs st2 => .ok (v :: vs) st2
  | .star e es, ρ, st => (ev e ρ st).bind fun v st1 => match seqOf st1 v with
    | some ws => (evs es ρ st1).bind fun vs st2 => .ok (ws ++ vs) st2
    | none => .stuck
/-- a slice's part -/
def evo : Exo → Fr → Store → Res (Option Int)
  | .none, _, st => .ok none st
  | .some e, ρ, st => (ev e ρ st).bind fun v st1 => match v with
    | .int i => .ok (some i) st1
    | _ => .stuck
/-- a comprehension's test -/
def evTs : Txo → Fr → Store → Res Bool
  | .none, _, st => .ok true st
  | .some e, ρ, st => evT e ρ st
/-- as a test -/
def evT : Tx → Fr → Store → Res Bool
  | .not a, ρ, st => (evT a ρ st).bind fun b st1 => .ok (!b) st1
  | .and a b, ρ, st => (evT a ρ st).bind fun k st1 => if k then evT b ρ st1 else .ok false st1
  | .or a b, ρ, st => (evT a ρ st).bind fun k st1 => if k then .ok true st1 else evT b ρ st1
  | .val e, ρ, st => (ev e ρ st).bind fun v st1 => match truV st1 v with
    | some b => .ok b st1
    | none => .stuck
def evI : Ir → Fr → Store → Res Wk
  | .ex e, ρ, st => (ev e ρ st).bind fun v st1 => match wkOf st1 v with
    | some w => .ok w st1
    | none => .stuck
  | .rng1 a, ρ, st => (ev a ρ st).bind fun v st1 => match v with
    | .int j => if rngOk j then .ok (.rng 0 j.toNat) st1 else .stuck
    | _ => .stuck
  | .rng2 a b, ρ, st => (ev a ρ st).bind fun v st1 => (ev b ρ st1).bind fun u st2 => match v, u with
    | .int i, .int j => if rngOk i && rngOk j then .ok (.rng i (j - i).toNat) st2 else .stuck
    | _, _ => .stuck
  | .rng3 a b c, ρ, st => (ev a ρ st).bind fun v st1 => (ev b ρ st1).bind fun u st2 => (ev c ρ st2).bind fun w st3 => match v, u, w with
    | .int i, .int j, .int c => if decide (c ≠ 0 ∧ c.natAbs < 1073741824 ∧ 0 ≤ Builtin.Range.rangeSize i j c) && Builtin.Range.small i j c then .ok (.rngc i c (Builtin.Range.rangeSize i j c).toNat) st3 else .stuck
    | _, _, _ => .stuck
  | .zip2 a b, ρ, st => (ev a ρ st).bind fun v st1 => (ev b ρ st1).bind fun u st2 => match zipOf st2 v u with
    | some w => .ok w st2
    | none => .stuck
  | .keys e, ρ, st => (ev e ρ st).bind fun v st1 => match v with
    | .ref n => match st1[n]? with
      | some (.frd kvs) => .ok (.tup (kvs.map fun kv => keyV kv.1)) st1
      | _ => .stuck
    | _ => .stuck
  | .never, _, _ => .stuck
end
end
/-- the turns of a for -/
def forTurns (g : Val → Fr → Store → Option Fr) (body : Fr → Store → Out) (w : Wk) : Nat → Nat → Fr → Store → Out
  | 0, _, ρ, st => if w.fits st then .next ρ st else .stuck
  | r + 1, i, ρ, st => match w.item st i with
    | none => .stuck
    | some v => match g v ρ st with
      | none => .stuck
      | some ρ' => match body ρ' st with
        | .next ρ2 st2 => forTurns g body w r (i + 1) ρ2 st2
        | .cnt ρ2 st2 => forTurns g body w r (i + 1) ρ2 st2
        | .brk ρ2 st2 => .next ρ2 st2
        | o => o
/-- the turns of a while: so many at most -/
def whTurns (c : Fr → Store → Res Bool) (body : Fr → Store → Out) : Nat → Fr → Store → Out
  | 0, _, _ => .stuck
  | r + 1, ρ, st => match c ρ st with
    | .ok k st1 => if k then (match body ρ st1 with
        | .next ρ2 st2 => whTurns c body r ρ2 st2
        | .cnt ρ2 st2 => whTurns c body r ρ2 st2
        | .brk ρ2 st2 => .next ρ2 st2
        | o => o) else .next ρ st1
    | .exc d v st1 => .exc d v ρ st1
    | .stuck => .stuck
def Res.out {α : Type} (r : Res α) (ρ : Fr) (f : α → Store → Out) : Out := match r with
  | .ok a st => f a st
  | .exc c v st => .exc c v ρ st
  | .stuck => .stuck
/-- o[i] = v -/
def setiV (o i v : Val) (st : Store) : Option Store := match o with
  | .ref n => match st[n]? with
    | some (.lst vs) => match i with
      | .int j => match ixN vs.length j with
        | some k => some (st.set n (.lst (vs.set k v)))
        | none => none
      | _ => none
    | some (.dct kvs) => if decide (kvs.length < 16777216) then match i with
        | .int j => some (st.set n (.dct (putKV kvs (.inl j) v)))
        | .str z => some (st.set n (.dct (putKV kvs (.inr z) v)))
        | _ => none
      else none
    | _ => none
  | _ => none
section
variable (cl : Cl)
mutual
def ex : Sx → Fr → Store → Out
  | .set i e, ρ, st => (ev cl e ρ st).out ρ fun v st1 => .next (ρ.set i (some v)) st1
  | .unp is e, ρ, st => (ev cl e ρ st).out ρ fun v st1 => match (Tg.tp is).give v ρ st1 with
    | some ρ' => .next ρ' st1
    | none => .stuck
  | .seti o i e, ρ, st => (ev cl e ρ st).out ρ fun v st1 => (ev cl o ρ st1).out ρ fun u st2 => (ev cl i ρ st2).out ρ fun w st3 => match setiV u w v st3 with
    | some st4 => .next ρ st4
    | none => .stuck
  | .setf c o f e, ρ, st => (ev cl e ρ st).out ρ fun v st1 => (ev cl o ρ st1).out ρ fun u st2 => match u with
    | .ref n => match insAt c u st2 with
      | some fs => if decide (fs.length < 1000) then .next ρ (st2.set n (.ins c (putFV f v fs))) else .stuck
      | none => .stuck
    | _ => .stuck
  | .exp e, ρ, st => (ev cl e ρ st).out ρ fun _ st1 => .next ρ st1
  | .ret e, ρ, st => (ev cl e ρ st).out ρ fun v st1 => .ret v st1
  | .retn, _, st => .ret .non st
  | .pass, ρ, st => .next ρ st
  | .brk, ρ, st => .brk ρ st
  | .cnt, ρ, st => .cnt ρ st
  | .ite c a b, ρ, st => (evT cl c ρ st).out ρ fun k st1 => if k then exs a ρ st1 else exs b ρ st1
  | .loop t it body, ρ, st => (evI cl it ρ st).out ρ fun w st1 => forTurns t.give (exs body) w w.len 0 ρ st1
  | .wh n c body, ρ, st => whTurns (evT cl c) (exs body) n ρ st
  | .loopd t e body, ρ, st => match pv ρ e with
    | some (.ref n) => match st[n]? with
      | some (.dct kvs) => thaw n (forTurns t.give (exs body) (.tup (kvs.map fun kv => keyV kv.1)) kvs.length 0 ρ (st.set n (.frd kvs)))
      | _ => .stuck
    | _ => .stuck
  | .rais c e, ρ, st => (ev cl e ρ st).out ρ fun v st1 => .exc c v ρ st1
  | .tryo body hs ns suite, ρ, st => match exs body ρ st with
    | .exc c v ρ1 st1 => if hs.contains c then exs suite ρ1 st1 else if ns.contains c then .exc c v ρ1 st1 else .stuck
    | o => o
  | .never, _, _ => .stuck
def exs : List Sx → Fr → Store → Out
  | [], ρ, st => .next ρ st
  | s :: ss, ρ, st => match ex s ρ st with
    | .next ρ1 st1 => exs ss ρ1 st1
    | o => o
end
/-- a def's body, from its arguments -/
def runB (n : Nat) (body : List Sx) (vs : List Val) (st : Store) : Res Val := match exs cl body (vs.map some ++ List.replicate (n - vs.length) none) st with
  | .next _ st => .ok .non st
  | .ret v st => .ok v st
  | .exc c v _ st => .exc c v st
  | _ => .stuck
end
example (cl : Cl) (v : Val) (ρ : Fr) (st : Store) : ev cl (.tup (.cons (.con v) .nil)) ρ st = .ok (.tup [v]) st := rfl
end EV

/-! ## EvSem -/
set_option maxRecDepth 100000
set_option maxHeartbeats 4000000
/-! EvSem: what the small syntax computes is what the machine does: operations and expressions. -/
namespace EV
open PySem L2

theorem PE.imp {X : Cx} {e : Expr} {t t' : TE} (h : PE X e t) (hi : ∀ σ H Q, t' σ H Q → t σ H Q) : PE X e t' := ⟨fun pins s σ H Q I q => h.run pins s σ H Q I (hi σ H Q q)⟩
theorem PA.imp {X : Cx} {e : List Expr} {t t' : TA} (h : PA X e t) (hi : ∀ σ H Q, t' σ H Q → t σ H Q) : PA X e t' := ⟨fun pos pins s σ H Q I q => h.run pos pins s σ H Q I (hi σ H Q q)⟩
theorem PT.imp {X : Cx} {e : Expr} {t t' : TT} (h : PT X e t) (hi : ∀ σ H Q, t' σ H Q → t σ H Q) : PT X e t' := ⟨fun pins s σ H Q I q => h.run pins s σ H Q I (hi σ H Q q)⟩
theorem PO.imp {X : Cx} {e : Option Expr} {t t' : TO} (h : PO X e t) (hi : ∀ σ H Q, t' σ H Q → t σ H Q) : PO X e t' := ⟨fun pins s σ H Q I q => h.run pins s σ H Q I (hi σ H Q q)⟩
theorem PS.imp {X : Cx} {e : Stmt} {t t' : TS} (h : PS X e t) (hi : ∀ D σ H, t' D σ H → t D σ H) : PS X e t' := ⟨fun pins s σ H D I q => h.run pins s σ H D I (hi D σ H q)⟩
theorem PSs.imp {X : Cx} {e : List Stmt} {t t' : TS} (h : PSs X e t) (hi : ∀ D σ H, t' D σ H → t D σ H) : PSs X e t' := ⟨fun pins s σ H D I q => h.run pins s σ H D I (hi D σ H q)⟩

abbrev valueF : Str := "value"
section
variable {α β γ δ : Type}
/-- what is wanted of a result -/
def Post (K : PySem.W.Frag) (CA : Nat → Addr) (W : WX) (RV : List Addr → Hp → α → β → Prop) (σ : L2.St) (μ : List Addr) (H : Hp) (Q : β → Hp → Prop) : Res α → Prop
  | .ok a st => ∀ μ' H' b, Le μ H μ' H' → Rel K CA μ' st H' → RV μ' H' a b → Q b H'
  | .exc c v st => ∀ μ' H' x d, Le μ H μ' H' → Rel K CA μ' st H' → RepV K μ' H' v x → H' d = some (.xd [(valueF, x)]) → W (.ref (CA c)) (some d) σ H'
  | .stuck => False
def tG (K : PySem.W.Frag) (CA : Nat → Addr) (W : WX) (RV : List Addr → Hp → α → β → Prop) (f : Fr → Store → Res α) : L2.St → Hp → (β → Hp → Prop) → Prop :=
  fun σ H Q => ∃ μ ρ st, Rel K CA μ st H ∧ RepE K μ H ρ σ ∧ Post K CA W RV σ μ H Q (f ρ st)
variable {K : PySem.W.Frag} {CA : Nat → Addr} {W : WX} {RV : List Addr → Hp → α → β → Prop} {RU : List Addr → Hp → γ → δ → Prop} {σ : L2.St} {μ : List Addr} {H : Hp} {Q Q' : β → Hp → Prop} {R' : δ → Hp → Prop}
theorem Post.imp {r : Res α} (h : Post K CA W RV σ μ H Q r) (hi : ∀ b H', Q b H' → Q' b H') : Post K CA W RV σ μ H Q' r := by
  cases r with
  | ok a st => exact fun μ' H' b l R v => hi _ _ (h μ' H' b l R v)
  | exc c v st => exact h
  | stuck => exact h
theorem Post.bind {r : Res α} {g : α → Store → Res γ} (h : Post K CA W RU σ μ H R' (r.bind g)) :
    Post K CA W RV σ μ H (fun b H1 => ∃ μ1 a st1, Le μ H μ1 H1 ∧ Rel K CA μ1 st1 H1 ∧ RV μ1 H1 a b ∧ Post K CA W RU σ μ1 H1 R' (g a st1)) r := by
  cases r with
  | ok a st =>
    intro μ' H' b l R v
    refine ⟨μ', a, st, l, R, v, ?_⟩
    have h : Post K CA W RU σ μ H R' (g a st) := h
    cases e : g a st with
    | ok c st2 => rw [e] at h; exact fun μ2 H2 d l2 => h μ2 H2 d (l.trans l2)
    | exc c w st2 => rw [e] at h; exact fun μ2 H2 d x l2 => h μ2 H2 d x (l.trans l2)
    | stuck => rw [e] at h; exact h.elim
  | exc c v st => exact h
  | stuck => exact h
end
abbrev RVal (K : PySem.W.Frag) : List Addr → Hp → Val → V → Prop := fun μ H => RepV K μ H
abbrev RVals (K : PySem.W.Frag) : List Addr → Hp → List Val → List V → Prop := fun μ H => RepL K μ H
abbrev REq (α : Type) : List Addr → Hp → α → α → Prop := fun _ _ a b => a = b
abbrev tE (K : PySem.W.Frag) (CA : Nat → Addr) (W : WX) (f : Fr → Store → Res Val) : TE := tG K CA W (RVal K) f
abbrev tA (K : PySem.W.Frag) (CA : Nat → Addr) (W : WX) (f : Fr → Store → Res (List Val)) : TA := tG K CA W (RVals K) f
abbrev tT (K : PySem.W.Frag) (CA : Nat → Addr) (W : WX) (f : Fr → Store → Res Bool) : TT := tG K CA W (REq Bool) f
abbrev tOi (K : PySem.W.Frag) (CA : Nat → Addr) (W : WX) (f : Fr → Store → Res (Option Int)) : TO := tG K CA W (REq (Option Int)) f

/-- what is wanted of an operation's result -/
def PostO (K : PySem.W.Frag) (CA : Nat → Addr) (μ : List Addr) (H : Hp) (Q : V → Hp → Prop) : Option (Val × Store) → Prop
  | some (w, st) => ∀ μ' H' z, Le μ H μ' H' → Rel K CA μ' st H' → RepV K μ' H' w z → Q z H'
  | none => False
section
variable {K : PySem.W.Frag} {CA : Nat → Addr} {W : WX} {σ : L2.St} {μ : List Addr} {H : Hp} {Q : V → Hp → Prop} {st : Store}
theorem Post.o {r : Option (Val × Store)} (h : Post K CA W (RVal K) σ μ H Q (liftO r)) : PostO K CA μ H Q r := by
  cases r with
  | none => exact h
  | some p => exact h
/-- a value without anything new -/
theorem PostO.val (R : Rel K CA μ st H) {w : Val} {z : V} (h : PostO K CA μ H Q (some (w, st))) (r : RepV K μ H w z) : Q z H := h μ H z .refl R r
theorem PostO.new (R : Rel K CA μ st H) {o : Ob} {p : Addr} {ho : HO} (hp : H p = none) (h : PostO K CA μ H Q (alloc st o)) (r : RepO K CA μ H o ho) : Q (.ref p) (upd H p ho) :=
  h _ _ _ (.of_new hp) (R.alloc hp r) (.ref (alloc_at R))
theorem PostO.newTup (R : Rel K CA μ st H) {vs : List Val} {p : Addr} {xs : List V} (hp : H p = none) (h : PostO K CA μ H Q (some (.tup vs, st))) (r : RepL K μ H vs xs) : Q (.ref p) (upd H p (.tup xs)) :=
  h _ _ _ (.of_fresh hp) (R.beside hp) (.tup (.of upd_same) (r.mono (.of_fresh hp)))
theorem Rel.lst (R : Rel K CA μ st H) {n : Nat} {a : Addr} {vs : List Val} (hm : μ[n]? = some a) (h : lstAt st n = some vs) : ∃ xs, SqL K H a xs ∧ RepL K μ H vs xs := by
  unfold lstAt at h
  cases e : st[n]? with
  | none => rw [e] at h; cases h
  | some o =>
    rw [e] at h
    cases o with
    | lst ws =>
      obtain ⟨ho, h1, h2⟩ := R.real hm e rfl
      cases h
      cases ho <;> first | exact h2.elim | exact ⟨_, .of h1, h2⟩
    | fro ws =>
      cases h
      rcases R.at_ hm e with ⟨f, _⟩ | ⟨vs, xs, eo, h1, h2⟩
      · cases f
      · cases eo; exact ⟨xs, h1.sql, h2⟩
    | _ => cases h
theorem Rel.mut (R : Rel K CA μ st H) {n : Nat} {a : Addr} {vs : List Val} (hm : μ[n]? = some a) (h : mutAt st n = some vs) : ∃ xs, H a = some (.lst xs) ∧ RepL K μ H vs xs := by
  unfold mutAt at h
  cases e : st[n]? with
  | none => rw [e] at h; cases h
  | some o =>
    rw [e] at h
    cases o with
    | lst ws =>
      obtain ⟨ho, h1, h2⟩ := R.real hm e rfl
      cases h
      cases ho <;> first | exact h2.elim | exact ⟨_, h1, h2⟩
    | _ => cases h
theorem Rel.dct (R : Rel K CA μ st H) {n : Nat} {a : Addr} {kvs : List (Key × Val)} (hm : μ[n]? = some a) (h : st[n]? = some (.dct kvs)) : ∃ kxs, H a = some (.dK kxs) ∧ kvs.map (·.1) = kxs.map (·.1) ∧ RepL K μ H (kvs.map (·.2)) (kxs.map (·.2)) := by
  obtain ⟨ho, h1, h2⟩ := R.real hm h rfl
  cases ho <;> first | exact h2.elim | exact ⟨_, h1, h2⟩
theorem Rel.frd (R : Rel K CA μ st H) {n : Nat} {a : Addr} {kvs : List (Key × Val)} (hm : μ[n]? = some a) (h : st[n]? = some (.frd kvs)) : ∃ ob kxs, H a = some (.frz ob (.dK kxs)) ∧ kvs.map (·.1) = kxs.map (·.1) ∧ RepL K μ H (kvs.map (·.2)) (kxs.map (·.2)) := by
  obtain ⟨ho, h1, h2⟩ := R.real hm h rfl
  cases ho <;> first | exact h2.elim | (rename_i ob u; cases u <;> first | exact h2.elim | exact ⟨_, _, h1, h2⟩)
theorem mut_at {n : Nat} {vs : List Val} (h : mutAt st n = some vs) : st[n]? = some (.lst vs) := by
  unfold mutAt at h
  cases e : st[n]? with
  | none => rw [e] at h; cases h
  | some o => rw [e] at h; cases o <;> first | (cases h; rfl) | cases h
theorem line_le {n : Nat} (h : lineOk n = true) : n ≤ sizeLine := by
  rw [sizeLine_eq]
  exact of_decide_eq_true h
end

/-- an operation on two values, over the store -/
def rD (K : PySem.W.Frag) (CA : Nat → Addr) (o : Val → Val → Store → Option (Val × Store)) : R2 := fun x y H Q => ∃ μ v u st, Rel K CA μ st H ∧ RepV K μ H v x ∧ RepV K μ H u y ∧ PostO K CA μ H Q (o v u st)
section
variable {X : Cx} {CA : Nat → Addr}
theorem bin_ok (o : BOp) : OpR X (binaryOp (match o with | .add => .Add | .sub => .Sub | .mul => .Mult | .fdiv => .FloorDiv | .mod => .Mod | .pow => .Pow)) (rD X.K CA (binV o)) := by
  intro pins s σ H x y v u Q I rx ry h
  obtain ⟨μ, v', u', st, R, rv, ru, q⟩ := h
  cases o with
  | add =>
    cases rv with
    | int i =>
      cases ru with
      | int j => exact op_add pins s σ H _ _ v u Q I rx ry ⟨i, j, rfl, rfl, q.val R (.int _)⟩
      | _ => exact q.elim
    | str a =>
      cases ru with
      | str b =>
        unfold binV at q
        dsimp only at q
        split at q
        · rename_i hl
          exact op_add_str pins s σ H _ _ v u Q I rx ry ⟨a, b, rfl, rfl, line_le hl, q.val R (.str _)⟩
        · exact q.elim
      | _ => exact q.elim
    | @ref n a hn =>
      cases ru with
      | @ref m b hm =>
        unfold binV at q
        dsimp only at q
        split at q
        · rename_i xs ys e1 e2
          obtain ⟨zs, h1, r1⟩ := R.mut hn e1
          obtain ⟨ws, h2, r2⟩ := R.mut hm e2
          unfold allocL at q
          split at q
          · rename_i hl
            have l1 := r1.length
            have l2 := r2.length
            have hl' := line_le hl
            rw [List.length_append] at hl'
            exact op_cat pins s σ H _ _ v u Q I rx ry ⟨a, b, zs, ws, rfl, rfl, h1, h2, by omega, fun p hp => q.new R (ho := .lst (zs ++ ws)) hp (r1.append r2)⟩
          · exact q.elim
        · exact q.elim
      | _ => exact q.elim
    | @tup a vs xs h1 r1 =>
      cases ru with
      | @tup b us ys h2 r2 =>
        unfold binV at q
        dsimp only at q
        split at q
        · rename_i hl
          have l1 := r1.length
          have l2 := r2.length
          have hl' := line_le hl
          refine op_catA pins s σ H _ _ v u Q I rx ry ⟨a, b, xs, ys, rfl, rfl, h1, h2, by omega, fun e => ?_, fun e1 e2 => ?_, fun _ _ p hp => q.newTup R hp (r1.append r2)⟩
          · subst e
            cases r1
            exact q.val R (.tup h2 r2)
          · subst e2
            cases r2
            rw [List.append_nil] at q
            exact q.val R (.tup h1 r1)
        · exact q.elim
      | _ => exact q.elim
    | _ => exact q.elim
  | sub =>
    cases rv with
    | int i =>
      cases ru with
      | int j => exact op_sub pins s σ H _ _ v u Q I rx ry ⟨i, j, rfl, rfl, q.val R (.int _)⟩
      | _ => exact q.elim
    | _ => exact q.elim
  | mul =>
    cases rv with
    | int i =>
      cases ru with
      | int j =>
        unfold binV at q
        dsimp only at q
        split at q
        · rename_i hl
          unfold mulOk at hl
          simp only [Bool.or_eq_true, decide_eq_true_eq] at hl
          rcases hl with (hl | hl) | hl
          · exact op_mul pins s σ H _ _ v u Q I rx ry ⟨i, j, rfl, rfl, .inl hl, q.val R (.int _)⟩
          · exact op_mul pins s σ H _ _ v u Q I rx ry ⟨i, j, rfl, rfl, .inr hl, q.val R (.int _)⟩
          · exact op_mulW pins s σ H _ _ v u Q I rx ry ⟨i, j, rfl, rfl, hl, q.val R (.int _)⟩
        · exact q.elim
      | _ => exact q.elim
    | @ref n a hn =>
      cases ru with
      | int k =>
        unfold binV at q
        dsimp only at q
        split at q
        · rename_i xs e1
          obtain ⟨zs, h1, r1⟩ := R.mut hn e1
          split at q
          · rename_i hl
            simp only [Bool.and_eq_true, decide_eq_true_eq] at hl
            have l1 := r1.length
            have hl' := line_le hl.2
            exact op_rep pins s σ H _ _ v u Q I rx ry ⟨a, k, zs, rfl, rfl, h1, hl.1.1, hl.1.2, by rw [← l1]; exact hl', fun p hp => q.new R (ho := .lst (List.replicate k.toNat zs).flatten) hp (r1.flat_replicate _)⟩
          · exact q.elim
        · exact q.elim
      | _ => exact q.elim
    | _ => exact q.elim
  | fdiv =>
    cases rv with
    | int i =>
      cases ru with
      | int j =>
        unfold binV at q
        dsimp only at q
        split at q
        · rename_i hl
          exact op_fdivW pins s σ H _ _ v u Q I rx ry ⟨i, j, rfl, rfl, (by have z := of_decide_eq_true hl; exact z), q.val R (.int _)⟩
        · exact q.elim
      | _ => exact q.elim
    | _ => exact q.elim
  | mod =>
    cases rv with
    | int i =>
      cases ru with
      | int j =>
        unfold binV at q
        dsimp only at q
        split at q
        · rename_i hl
          exact op_mod pins s σ H _ _ v u Q I rx ry ⟨i, j, rfl, rfl, of_decide_eq_true hl, q.val R (.int _)⟩
        · exact q.elim
      | _ => exact q.elim
    | _ => exact q.elim
  | pow =>
    cases rv with
    | int i =>
      cases ru with
      | int j =>
        unfold binV at q
        dsimp only at q
        split at q
        · rename_i hl
          exact op_pow pins s σ H _ _ v u Q I rx ry ⟨i, j, rfl, rfl, (by have z := of_decide_eq_true hl; exact z), q.val R (.int _)⟩
        · exact q.elim
      | _ => exact q.elim
    | _ => exact q.elim
theorem neg_ok : UnR X (unaryOp .USub) (fun x H Q => ∃ μ v st, Rel X.K CA μ st H ∧ RepV X.K μ H v x ∧ PostO X.K CA μ H Q ((negV v).map fun w => (w, st))) := by
  intro pins s σ H x v Q I rx h
  obtain ⟨μ, v', st, R, rv, q⟩ := h
  cases rv with
  | int i => exact un_neg pins s σ H _ v Q I rx ⟨i, rfl, q.val R (.int _)⟩
  | _ => exact q.elim
end
end EV

/-! ## EvSem2 -/
set_option maxRecDepth 100000
set_option maxHeartbeats 4000000
/-! EvSem2: comparisons, truth, subscripts, slices. -/
namespace EV
open PySem L2

section
variable {K : PySem.W.Frag} {CA : Nat → Addr} {μ : List Addr} {H : Hp} {st : Store}
/-- a flat value -/
theorem flat_rep {v : Val} {x : V} (r : RepV K μ H v x) (f : flat v = true) : flatV x = true := by
  cases r <;> first | rfl | cases f
theorem flat_all : ∀ {vs : List Val} {xs : List V}, RepL K μ H vs xs → vs.all flat = true → xs.all flatV = true
  | _, _, .nil, _ => rfl
  | _, _, .cons h t, f => by
    rw [List.all_cons, Bool.and_eq_true] at f ⊢
    exact ⟨flat_rep h f.1, flat_all t f.2⟩
theorem eqF_rep {v u : Val} {x y : V} (r : RepV K μ H v x) (s : RepV K μ H u y) (f : flat v = true) (g : flat u = true) : eqV x y = eqF v u := by
  cases r <;> first
    | (cases f; done)
    | (cases s <;> first | (cases g; done) | rfl)
theorem inF_rep {v : Val} {x : V} (r : RepV K μ H v x) (f : flat v = true) : ∀ {vs : List Val} {xs : List V}, RepL K μ H vs xs → vs.all flat = true → inV x xs = vs.any fun w => eqF w v
  | _, _, .nil, _ => rfl
  | _, _, .cons h t, g => by
    rw [List.all_cons, Bool.and_eq_true] at g
    show (_ :: _ : List V).any _ = (_ :: _ : List Val).any _
    rw [List.any_cons, List.any_cons, eqF_rep h r g.1 f]
    exact congrArg _ (inF_rep r f t g.2)
mutual
theorem py_rep (R : Rel K CA μ st H) : ∀ (k : Nat) (v : Val) (x : V) (d : PyData), RepV K μ H v x → pyOf st k v = some d → Dp K H x d
  | _, _, _, _, .non, e => by simp only [pyOf] at e; cases e; exact .non
  | _, _, _, _, .bl b, e => by simp only [pyOf] at e; cases e; exact .bl b
  | _, _, _, _, .int b, e => by simp only [pyOf] at e; cases e; exact .int b
  | _, _, _, _, .str b, e => by simp only [pyOf] at e; cases e; exact .str b
  | 0, _, _, _, .ref h, e => by simp only [pyOf] at e; cases e
  | 0, _, _, _, .tup h r, e => by simp only [pyOf] at e; cases e
  | k + 1, _, _, _, @RepV.ref _ _ _ n a h, e => by
    simp only [pyOf] at e
    split at e
    · rename_i vs hl
      obtain ⟨xs, hs, r⟩ := R.lst h hl
      obtain ⟨ds, hd, rfl⟩ := Option.map_eq_some_iff.mp e
      exact .lst hs (py_all R k vs xs ds r hd)
    · cases e
  | k + 1, _, _, _, @RepV.tup _ _ _ a vs xs h r, e => by
    simp only [pyOf] at e
    obtain ⟨ds, hd, rfl⟩ := Option.map_eq_some_iff.mp e
    exact .tup h (py_all R k vs xs ds r hd)
theorem py_all (R : Rel K CA μ st H) : ∀ (k : Nat) (vs : List Val) (xs : List V) (ds : List PyData), RepL K μ H vs xs → pyAll st k vs = some ds → DpAll K H xs ds
  | _, _, _, _, .nil, e => by simp only [pyAll] at e; cases e; exact .nil
  | 0, _, _, _, .cons h t, e => by simp only [pyAll] at e; cases e
  | k + 1, _, _, _, @RepL.cons _ _ _ v x vs xs h t, e => by
    simp only [pyAll] at e
    split at e
    · rename_i d ds h1 h2
      cases e
      exact .cons (py_rep R k v x d h h1) (py_all R k vs xs ds t h2)
    · cases e
end
theorem find_rep {k : Key} : ∀ {kvs : List (Key × Val)} {kxs : List (Key × V)}, kvs.map (·.1) = kxs.map (·.1) → RepL K μ H (kvs.map (·.2)) (kxs.map (·.2)) →
    (∀ v, (kvs.find? fun kv => decide (kv.1 = k)).map (·.2) = some v → ∃ x, valV kxs k = some x ∧ RepV K μ H v x) ∧ ((kvs.any fun kv => decide (kv.1 = k)) = (valV kxs k).isSome)
  | [], [], _, _ => ⟨fun v h => by simp at h, rfl⟩
  | [], _ :: _, e, _ => by simp at e
  | _ :: _, [], e, _ => by simp at e
  | (a, v) :: kvs, (b, x) :: kxs, e, r => by
    rw [List.map_cons, List.map_cons] at e
    obtain ⟨e1, e2⟩ := List.cons.inj e
    have e1 : a = b := e1
    subst e1
    cases r with
    | cons h t =>
      obtain ⟨i1, i2⟩ := find_rep (k := k) e2 t
      by_cases z : a = k
      · refine ⟨fun w hw => ?_, ?_⟩
        · rw [List.find?_cons_of_pos (by simpa using z)] at hw
          cases hw
          refine ⟨x, ?_, h⟩
          unfold valV
          rw [List.find?_cons_of_pos (by simpa using z)]
          rfl
        · rw [List.any_cons, decide_eq_true z]
          unfold valV
          rw [List.find?_cons_of_pos (by simpa using z)]
          rfl
      · refine ⟨fun w hw => ?_, ?_⟩
        · rw [List.find?_cons_of_neg (by simpa using z)] at hw
          obtain ⟨y, hy, r⟩ := i1 w hw
          refine ⟨y, ?_, r⟩
          unfold valV
          rw [List.find?_cons_of_neg (by simpa using z)]
          exact hy
        · rw [List.any_cons, decide_eq_false z, Bool.false_or, i2]
          unfold valV
          rw [List.find?_cons_of_neg (by simpa using z)]
theorem atI_rep {vs : List Val} {xs : List V} {i : Int} {v : Val} (r : RepL K μ H vs xs) (h : atI vs i = some v) : ∃ x, atI xs i = some x ∧ RepV K μ H v x := by
  unfold atI at h ⊢
  rw [← r.length]
  cases e : ixN vs.length i with
  | none => rw [e] at h; cases h
  | some j =>
    rw [e] at h
    exact r.get h
theorem cut_rep {vs : List Val} {xs : List V} {lo hi : Option Int} (r : RepL K μ H vs xs) : RepL K μ H (cut vs lo hi) (cutV xs lo hi) := by
  unfold cut cutV
  rw [r.length]
  exact (r.drop _).take _
end
/-- a comparison over the store -/
def rC (K : PySem.W.Frag) (CA : Nat → Addr) (o : Val → Val → Store → Option Bool) : R2 := fun x y H Q => ∃ μ v u st, Rel K CA μ st H ∧ RepV K μ H v x ∧ RepV K μ H u y ∧ ∃ k, o v u st = some k ∧ Q (.bl k) H
def copOf : COp → CmpOp
  | .eq => .Eq | .ne => .NotEq | .lt => .Lt | .le => .LtE | .gt => .Gt | .ge => .GtE | .isN => .Is | .notN => .IsNot | .inn => .In | .notin => .NotIn
section
variable {X : Cx} {CA : Nat → Addr}
theorem flat_scal {K : PySem.W.Frag} {μ : List Addr} {H : Hp} {v u : Val} {x y : V} (r : RepV K μ H v x) (s : RepV K μ H u y) (f : flat v = true) (g : flat u = true) (h : scal x y = true) : decide (x = y) = eqF v u := by
  cases r <;> first
    | (cases f; done)
    | (cases s <;> first | (cases g; done) | (cases h; done) | exact dec_int | exact dec_bl | exact dec_str | simp [eqF])
theorem eq_ok (hu : X.A.units + 64 < cLine) : OpR X (compareOp .Eq) (rC X.K CA fun v u st => eqS st v u) := by
  intro pins s σ H x y v u Q I rx ry h
  obtain ⟨μ, v', u', st, R, rv, ru, k, e, q⟩ := h
  have e : eqS st v' u' = some k := e
  unfold eqS at e
  by_cases f : (flat v' && flat u') = true
  · rw [if_pos f] at e
    cases e
    rw [Bool.and_eq_true] at f
    by_cases hs : scal x y = true
    · exact op_eq pins s σ H x y v u Q I rx ry ⟨hs, by rw [flat_scal rv ru f.1 f.2 hs]; exact q⟩
    · refine op_eqD hu pins s σ H x y v u Q I rx ry ?_
      cases rv <;> first
        | (cases f.1; done)
        | (cases ru <;> first
          | (cases f.2; done)
          | (exact absurd rfl hs)
          | exact ⟨_, _, .bl _, .int _, rfl, rfl, q⟩
          | exact ⟨_, _, .int _, .bl _, rfl, rfl, q⟩)
  · rw [if_neg f] at e
    split at e
    · rename_i d d' h1 h2
      split at e
      · rename_i hsh
        cases e
        rw [Bool.and_eq_true] at hsh
        exact op_eqD hu pins s σ H x y v u Q I rx ry ⟨d, d', py_rep R _ _ _ _ rv h1, py_rep R _ _ _ _ ru h2, hsh.1, hsh.2, q⟩
      · cases e
    · cases e
theorem ne_ok (hu : X.A.units + 64 < cLine) : OpR X (compareOp .NotEq) (rC X.K CA fun v u st => (eqS st v u).map (!·)) := by
  intro pins s σ H x y v u Q I rx ry h
  obtain ⟨μ, v', u', st, R, rv, ru, k', e', q'⟩ := h
  obtain ⟨k, e, rfl⟩ := Option.map_eq_some_iff.mp e'
  have e : eqS st v' u' = some k := e
  unfold eqS at e
  by_cases f : (flat v' && flat u') = true
  · rw [if_pos f] at e
    cases e
    rw [Bool.and_eq_true] at f
    by_cases hs : scal x y = true
    · exact op_ne pins s σ H x y v u Q I rx ry ⟨hs, by rw [flat_scal rv ru f.1 f.2 hs]; exact q'⟩
    · refine op_neD hu pins s σ H x y v u Q I rx ry ?_
      cases rv <;> first
        | (cases f.1; done)
        | (cases ru <;> first
          | (cases f.2; done)
          | (exact absurd rfl hs)
          | exact ⟨_, _, .bl _, .int _, rfl, rfl, q'⟩
          | exact ⟨_, _, .int _, .bl _, rfl, rfl, q'⟩)
  · rw [if_neg f] at e
    split at e
    · rename_i d d' h1 h2
      split at e
      · rename_i hsh
        cases e
        rw [Bool.and_eq_true] at hsh
        exact op_neD hu pins s σ H x y v u Q I rx ry ⟨d, d', py_rep R _ _ _ _ rv h1, py_rep R _ _ _ _ ru h2, hsh.1, hsh.2, q'⟩
      · cases e
    · cases e
theorem in_ok (hu : X.A.units + 64 < cLine) (neg : Bool) : OpR X (compareOp (if neg then .NotIn else .In)) (rC X.K CA fun v u st => (inS st v u).map fun k => if neg then !k else k) := by
  intro pins s σ H x y v u Q I rx ry h
  obtain ⟨μ, v', u', st, R, rv, ru, k', e', q'⟩ := h
  obtain ⟨k, e, rfl⟩ := Option.map_eq_some_iff.mp e'
  have seq : ∀ (p : Addr) (xs : List V) (vs : List Val), y = .ref p → (SqL X.K H p xs ∨ SqT X.K H p xs) → RepL X.K μ H vs xs → (if flat v' && vs.all flat then some (vs.any fun w => eqF w v') else none) = some k →
      wpAny (model X.prog X.w) X.A (compareOp (if neg then .NotIn else .In) v u) (EP X pins σ Q) X.xe s := fun p xs vs ey hq r ek => by
    split at ek
    · rename_i f
      cases ek
      rw [Bool.and_eq_true] at f
      have z := inF_rep rv f.1 r f.2
      cases neg with
      | true => exact op_notIn_seq pins s σ H x y v u Q I rx ry ⟨p, xs, ey, hq, flat_rep rv f.1, flat_all r f.2, by rw [if_pos rfl, z]; exact q'⟩
      | false => exact op_in_seq pins s σ H x y v u Q I rx ry ⟨p, xs, ey, hq, flat_rep rv f.1, flat_all r f.2, by rw [if_neg Bool.false_ne_true, z]; exact q'⟩
    · cases ek
  cases ru with
  | str b =>
    cases rv with
    | str a =>
      have e : some (!(Builtin.Str.occurrences b a 0 b.length 1).isEmpty) = some k := e
      cases e
      cases neg with
      | true => exact op_notin_str pins s σ H _ _ v u Q I rx ry ⟨a, b, rfl, rfl, q'⟩
      | false => exact op_in_str pins s σ H _ _ v u Q I rx ry ⟨a, b, rfl, rfl, q'⟩
    | _ => cases e
  | @tup p vs xs h r => exact seq p xs vs rfl (.inr h) r e
  | @ref n p hn =>
    have e : inS st v' _ = some k := e
    unfold inS at e
    dsimp only at e
    split at e
    · rename_i kvs ho
      obtain ⟨kxs, h1, h2, h3⟩ := R.dct hn ho
      have dk : ∀ (kk : Key), x = kV kk → (kvs.any fun kv => decide (kv.1 = kk)) = k → wpAny (model X.prog X.w) X.A (compareOp (if neg then .NotIn else .In) v u) (EP X pins σ Q) X.xe s := fun kk ex ek => by
        have g := DGet.k (k := kk) h1
        rw [← ex] at g
        obtain rfl : u = Value.ref p := ry
        have z := (find_rep (k := kk) h2 h3).2
        rw [ek] at z
        cases neg with
        | true => exact d_notIn (A := X.A) (by omega) I g rx fun s3 I3 => ⟨.bl (!(valV kxs kk).isSome), H, I3, rfl, by rw [← z]; exact q'⟩
        | false => exact d_in (A := X.A) (by omega) I g rx fun s3 I3 => ⟨.bl (valV kxs kk).isSome, H, I3, rfl, by rw [← z]; exact q'⟩
      cases rv with
      | int i => exact dk (.inl i) rfl (Option.some.inj e)
      | str z => exact dk (.inr z) rfl (Option.some.inj e)
      | _ => cases e
    · rename_i vs ho
      obtain ⟨xs, h1, h2⟩ := R.lst hn (show lstAt st n = some vs by unfold lstAt; rw [ho])
      exact seq p xs vs rfl (.inl h1) h2 e
    · rename_i vs ho
      obtain ⟨xs, h1, h2⟩ := R.lst hn (show lstAt st n = some vs by unfold lstAt; rw [ho])
      exact seq p xs vs rfl (.inl h1) h2 e
    · cases e
  | _ => cases e
theorem op_isB (neg : Bool) : OpR X (compareOp (if neg then .IsNot else .Is)) fun x y H Q => ∃ a b, x = .bl a ∧ y = .bl b ∧ Q (.bl (if neg then !(a == b) else a == b)) H := by
  rintro pins s σ H _ _ v u Q I rx ry ⟨a, b, rfl, rfl, q⟩
  have rx : v = .bool a := rx
  have ry : u = .bool b := ry
  subst rx ry
  have e : compareOp (if neg then .IsNot else .Is) (.bool a) (.bool b) = pure (.bool (if neg then !(a == b) else a == b)) := by cases neg <;> cases a <;> cases b <;> rfl
  rw [e]
  exact wpAny_pure ⟨.bl (if neg then !(a == b) else a == b), H, I, rfl, q⟩
theorem cmp_ok (hu : X.A.units + 64 < cLine) (o : COp) : OpR X (compareOp (copOf o)) (rC X.K CA fun v u st => cmpV o v u st) := by
  cases o with
  | eq => exact eq_ok hu
  | ne => exact ne_ok hu
  | inn =>
    intro pins s σ H x y v u Q I rx ry h
    obtain ⟨μ, v', u', st, R, rv, ru, k, e, q⟩ := h
    exact in_ok (CA := CA) hu false pins s σ H x y v u Q I rx ry ⟨μ, v', u', st, R, rv, ru, k, by show (inS st v' u').map _ = some k; rw [show inS st v' u' = some k from e]; rfl, q⟩
  | notin => exact in_ok (CA := CA) hu true
  | isN =>
    intro pins s σ H x y v u Q I rx ry h
    obtain ⟨μ, v', u', st, R, rv, ru, k, e, q⟩ := h
    cases ru with
    | non =>
      refine op_isN pins s σ H _ _ v u Q I rx ry ⟨rfl, ?_⟩
      cases rv <;> (cases e; simpa using q)
    | bl b => cases rv with
      | bl a => cases e; exact op_isB false pins s σ H _ _ v u Q I rx ry ⟨a, b, rfl, rfl, q⟩
      | _ => cases e
    | _ => cases e
  | notN =>
    intro pins s σ H x y v u Q I rx ry h
    obtain ⟨μ, v', u', st, R, rv, ru, k, e, q⟩ := h
    cases ru with
    | non =>
      refine op_notN pins s σ H _ _ v u Q I rx ry ⟨rfl, ?_⟩
      cases rv <;> (cases e; simpa using q)
    | bl b => cases rv with
      | bl a => cases e; exact op_isB true pins s σ H _ _ v u Q I rx ry ⟨a, b, rfl, rfl, q⟩
      | _ => cases e
    | _ => cases e
  | lt =>
    intro pins s σ H x y v u Q I rx ry h
    obtain ⟨μ, v', u', st, R, rv, ru, k, e, q⟩ := h
    cases rv with
    | int i => cases ru with
      | int j => cases e; exact op_lt pins s σ H _ _ v u Q I rx ry ⟨i, j, rfl, rfl, q⟩
      | _ => cases e
    | str i => cases ru with
      | str j => cases e; exact op_lt_str pins s σ H _ _ v u Q I rx ry ⟨i, j, rfl, rfl, q⟩
      | _ => cases e
    | _ => cases ru <;> cases e
  | le =>
    intro pins s σ H x y v u Q I rx ry h
    obtain ⟨μ, v', u', st, R, rv, ru, k, e, q⟩ := h
    cases rv with
    | int i => cases ru with
      | int j => cases e; exact op_le pins s σ H _ _ v u Q I rx ry ⟨i, j, rfl, rfl, q⟩
      | _ => cases e
    | str i => cases ru with
      | str j => cases e; exact op_le_str pins s σ H _ _ v u Q I rx ry ⟨i, j, rfl, rfl, q⟩
      | _ => cases e
    | _ => cases ru <;> cases e
  | gt =>
    intro pins s σ H x y v u Q I rx ry h
    obtain ⟨μ, v', u', st, R, rv, ru, k, e, q⟩ := h
    cases rv with
    | int i => cases ru with
      | int j => cases e; exact op_gt pins s σ H _ _ v u Q I rx ry ⟨i, j, rfl, rfl, q⟩
      | _ => cases e
    | str i => cases ru with
      | str j => cases e; exact op_gt_str pins s σ H _ _ v u Q I rx ry ⟨i, j, rfl, rfl, q⟩
      | _ => cases e
    | _ => cases ru <;> cases e
  | ge =>
    intro pins s σ H x y v u Q I rx ry h
    obtain ⟨μ, v', u', st, R, rv, ru, k, e, q⟩ := h
    cases rv with
    | int i => cases ru with
      | int j => cases e; exact op_ge pins s σ H _ _ v u Q I rx ry ⟨i, j, rfl, rfl, q⟩
      | _ => cases e
    | str i => cases ru with
      | str j => cases e; exact op_ge_str pins s σ H _ _ v u Q I rx ry ⟨i, j, rfl, rfl, q⟩
      | _ => cases e
    | _ => cases ru <;> cases e
end

/-! ### truth -/
def rTr (K : PySem.W.Frag) (CA : Nat → Addr) : V → Hp → (Bool → Hp → Prop) → Prop := fun x H Q => ∃ μ v st, Rel K CA μ st H ∧ RepV K μ H v x ∧ ∃ k, truV st v = some k ∧ Q k H
theorem isEmpty_rep {K : PySem.W.Frag} {μ : List Addr} {H : Hp} {vs : List Val} {xs : List V} (r : RepL K μ H vs xs) : vs.isEmpty = xs.isEmpty := by cases r <;> rfl
section
variable {X : Cx} {CA : Nat → Addr}
theorem tru_ok' : TruR X (rTr X.K CA) := by
  intro pins s σ H x v Q I rx h
  obtain ⟨μ, v', st, R, rv, k, e, q⟩ := h
  refine L2.tru_ok pins s σ H x v Q I rx ⟨k, ?_, q⟩
  cases rv with
  | non => cases e; rfl
  | bl b => cases e; rfl
  | int i => cases e; rfl
  | str z =>
    have e : (if lineOk z.length then some ((z.length : Int) != 0) else none) = some k := e
    split at e
    · rename_i hl
      cases e
      exact ⟨line_le hl, rfl⟩
    · cases e
  | @tup a vs xs h r =>
    cases e
    exact .inr (.inl ⟨xs, h, by rw [isEmpty_rep r]⟩)
  | @ref n a hn =>
    unfold truV at e
    dsimp only at e
    split at e
    · rename_i vs ho
      cases e
      obtain ⟨xs, h1, h2⟩ := R.lst hn (show lstAt st n = some vs by unfold lstAt; rw [ho])
      exact .inl ⟨xs, h1, by rw [isEmpty_rep h2]⟩
    · rename_i vs ho
      cases e
      obtain ⟨xs, h1, h2⟩ := R.lst hn (show lstAt st n = some vs by unfold lstAt; rw [ho])
      exact .inl ⟨xs, h1, by rw [isEmpty_rep h2]⟩
    · rename_i kvs ho
      cases e
      obtain ⟨kxs, h1, h2, h3⟩ := R.dct hn ho
      refine .inr (.inr ⟨kxs, h1, ?_⟩)
      have z : kvs.length = kxs.length := by simpa using congrArg List.length h2
      cases kvs <;> cases kxs <;> first | rfl | simp at z
    · cases e
end
/-! ### subscripts -/
section
variable {X : Cx} {CA : Nat → Addr}
def oIdx (v u : Val) (st : Store) : Option (Val × Store) := (idxV st v u).map fun w => (w, st)
theorem idx_ok (hu : X.A.units + 64 < cLine) : IxR X (rD X.K CA oIdx) := by
  intro value slice pins s σ H x y v u Q I rx ry h hs
  obtain ⟨μ, v', u', st, R, rv, ru, q⟩ := h
  unfold oIdx at q
  cases e : idxV st v' u' with
  | none => rw [e] at q; exact q.elim
  | some w =>
    rw [e] at q
    have q : PostO X.K CA μ H Q (some (w, st)) := q
    have dk : ∀ (n : Nat) (a : Addr) (kvs : List (Key × Val)) (kk : Key), x = .ref a → y = kV kk → μ[n]? = some a → st[n]? = some (.dct kvs) → (kvs.find? fun kv => decide (kv.1 = kk)).map (·.2) = some w →
        wpAny (model X.prog X.w) X.A (PyProof.Rows.subscriptTail value slice v u) (EP X pins σ Q) X.xe s := fun n a kvs kk ex ey hn ho hf => by
      obtain ⟨kxs, h1, h2, h3⟩ := R.dct hn ho
      obtain ⟨z, hz, r⟩ := (find_rep (k := kk) h2 h3).1 w hf
      have g := DGet.k (k := kk) h1
      rw [hz, ← ey] at g
      rw [ex] at rx
      obtain rfl : v = Value.ref a := rx
      exact PyProof.Rows.tail_any (dict_typeIs I g) PySem.F.slot_dict_getitem.lookup (d_getItem (A := X.A) (by omega) I g ry fun w' s3 I3 rw' => ⟨z, H, I3, rw', q.val R r⟩) hs
    have dk' : ∀ (n : Nat) (a : Addr) (kvs : List (Key × Val)) (kk : Key), x = .ref a → y = kV kk → μ[n]? = some a → st[n]? = some (.frd kvs) → (kvs.find? fun kv => decide (kv.1 = kk)).map (·.2) = some w →
        wpAny (model X.prog X.w) X.A (PyProof.Rows.subscriptTail value slice v u) (EP X pins σ Q) X.xe s := fun n a kvs kk ex ey hn ho hf => by
      obtain ⟨ob, kxs, h1, h2, h3⟩ := R.frd hn ho
      obtain ⟨z, hz, r⟩ := (find_rep (k := kk) h2 h3).1 w hf
      have g : DGet H a (kV kk) (valV kxs kk) := .inl ⟨kxs, kk, .inr ⟨ob, h1⟩, rfl, rfl⟩
      rw [hz, ← ey] at g
      rw [ex] at rx
      obtain rfl : v = Value.ref a := rx
      exact PyProof.Rows.tail_any (dict_typeIs I g) PySem.F.slot_dict_getitem.lookup (d_getItem (A := X.A) (by omega) I g ry fun w' s3 I3 rw' => ⟨z, H, I3, rw', q.val R r⟩) hs
    cases ru with
    | int i =>
      cases rv with
      | @ref n a hn =>
        unfold idxV at e
        dsimp only at e
        split at e
        · rename_i vs hl
          obtain ⟨xs, h1, h2⟩ := R.lst hn hl
          obtain ⟨z, hz, r⟩ := atI_rep h2 e
          exact ix_list value slice pins s σ H _ _ v u Q I rx ry ⟨a, xs, i, z, rfl, rfl, h1, hz, q.val R r⟩ hs
        · split at e
          · rename_i kvs ho
            exact dk n a kvs (.inl i) rfl rfl hn ho e
          · cases e
      | @tup a vs xs h1 h2 =>
        obtain ⟨z, hz, r⟩ := atI_rep h2 e
        exact ix_tup value slice pins s σ H _ _ v u Q I rx ry ⟨a, xs, i, z, rfl, rfl, h1, hz, q.val R r⟩ hs
      | str z =>
        have e : (if lineOk z.length then (atI z.cps.toList i).map fun c => Val.str ⟨#[c]⟩ else none) = some w := e
        split at e
        · rename_i hl
          obtain ⟨c, hc, rfl⟩ := Option.map_eq_some_iff.mp e
          exact ix_str value slice pins s σ H _ _ v u Q I rx ry ⟨z, i, c, rfl, rfl, line_le hl, hc, q.val R (.str _)⟩ hs
        · cases e
      | _ => cases e
    | str z =>
      cases rv with
      | @ref n a hn =>
        unfold idxV at e
        dsimp only at e
        split at e
        · rename_i kvs ho
          exact dk n a kvs (.inr z) rfl rfl hn ho e
        · rename_i kvs ho
          exact dk' n a kvs (.inr z) rfl rfl hn ho e
        · cases e
      | _ => cases e
    | _ => cases e
def rSl (K : PySem.W.Frag) (CA : Nat → Addr) : V → Option Int → Option Int → Hp → VK → Prop := fun x lo hi H Q => ∃ μ v st, Rel K CA μ st H ∧ RepV K μ H v x ∧ PostO K CA μ H Q (slcV v lo hi st)
theorem slc_ok : SlR X (rSl X.K CA) := by
  intro pins s σ H x v vl vu lo hi sl Q I rx hs pl pu h
  obtain ⟨μ, v', st, R, rv, q⟩ := h
  cases rv with
  | @ref n a hn =>
    unfold slcV at q
    dsimp only at q
    split at q
    · rename_i vs hl
      obtain ⟨xs, h1, h2⟩ := R.lst hn hl
      exact sl_list pins s σ H _ v vl vu lo hi sl Q I rx hs pl pu ⟨a, xs, rfl, h1, fun p hp => q.new R (ho := .lst (cutV xs lo hi)) hp (cut_rep h2)⟩
    · exact q.elim
  | @tup a vs xs h1 h2 =>
    refine sl_tupA pins s σ H _ v vl vu lo hi sl Q I rx hs pl pu ⟨a, xs, rfl, h1, fun z => ?_, fun _ p hp => q.newTup R hp (cut_rep h2)⟩
    have e : cut vs lo hi = vs := by
      unfold cut
      rw [h2.length, z.1, z.2, List.drop_zero, Nat.sub_zero, ← h2.length, List.take_length]
    exact q.val R (w := .tup (cut vs lo hi)) (by rw [e]; exact .tup h1 h2)
  | str z =>
    unfold slcV at q
    dsimp only at q
    split at q
    · rename_i hl
      exact sl_str pins s σ H _ v vl vu lo hi sl Q I rx hs pl pu ⟨z, rfl, line_le hl, q.val R (.str _)⟩
    · exact q.elim
  | _ => exact q.elim
end
end EV

/-! ## EvRules -/
set_option maxRecDepth 100000
set_option maxHeartbeats 4000000
/-! EvRules: the judgements (DE, DA, DT, DO) and a rule a construct. -/
namespace EV
open PySem L2

/-- what the small syntax leans on: own defs, built-in functions, methods of built-in types; the classes' places -/
structure Lib where
  cl : Cl
  CA : Nat → Addr
abbrev Lib.e (L : Lib) := ev L.cl
abbrev Lib.es (L : Lib) := evs L.cl
abbrev Lib.o (L : Lib) := evo L.cl
abbrev Lib.t (L : Lib) := evT L.cl
abbrev Lib.ts (L : Lib) := evTs L.cl
abbrev Lib.i (L : Lib) := evI L.cl
def DE (L : Lib) (X : Cx) (W : WX) (e : Expr) (x : Ex) : Prop := PE X e (tE X.K L.CA W (L.e x))
def DA (L : Lib) (X : Cx) (W : WX) (e : List Expr) (x : Exs) : Prop := PA X e (tA X.K L.CA W (L.es x))
def DT (L : Lib) (X : Cx) (W : WX) (e : Expr) (x : Tx) : Prop := PT X e (tT X.K L.CA W (L.t x))
def DW (L : Lib) (X : Cx) (W : WX) (e : Expr) (x : Tx) : Prop := PW X e (tT X.K L.CA W (L.t x))
def DO (L : Lib) (X : Cx) (W : WX) (e : Option Expr) (x : Exo) : Prop := PO X e (tOi X.K L.CA W (L.o x))
section
variable {L : Lib} {X : Cx} {W : WX} {a b c e : Expr} {es : List Expr} {x y z : Ex} {xs : Exs} {pos : Pos}
theorem PW.imp {X : Cx} {e : Expr} {t t' : TT} (h : PW X e t) (hi : ∀ σ H Q, t' σ H Q → t σ H Q) : PW X e t' := ⟨fun wh pins s σ H Q I q => h.run wh pins s σ H Q I (hi σ H Q q)⟩
theorem DW.t {t : Tx} (h : DW L X W e t) : DT L X W e t := L2.PW.pt h

theorem d_var (i : Nat) {n : Str} (hN : X.N[i]? = some n := by rfl) (hv : Vis X.env.scope n := by first | exact Or.inl rfl | exact Or.inr (Or.inl rfl) | exact Or.inr (Or.inr rfl)) (hd : (n == ("__debug__" : Str)) = false := by decide)
    (hcd : (n == ("__classdict__" : Str)) = false := by decide) : DE L X W (.Name n pos) (.var i) := by
  refine PE.imp (pe_var hN hv hd hcd) fun σ H Q h => ?_
  obtain ⟨μ, ρ, st, R, E, P⟩ := h
  have P : Post X.K L.CA W (RVal X.K) σ μ H Q (match ρ[i]? with | some (some v) => .ok v st | _ => .stuck) := P
  split at P
  · rename_i v hv
    obtain ⟨w, h1, h2⟩ := E.at_ i v hv
    exact ⟨w, h1, P μ H w .refl R h2⟩
  · exact P.elim
theorem con_imp {v : Val} {w : V} (r : ∀ μ H, RepV X.K μ H v w) (h : PE X e (tC w)) : DE L X W e (.con v) := by
  refine PE.imp h fun σ H Q h => ?_
  obtain ⟨μ, ρ, st, R, E, P⟩ := h
  exact P μ H w .refl R (r μ H)
theorem d_int {i : Int} {j : Nat} : DE L X W (.Constant (.int i) j pos) (.con (.int i)) := con_imp (fun _ _ => .int i) pe_int
theorem d_bl {b : Bool} {j : Nat} : DE L X W (.Constant (.bool b) j pos) (.con (.bl b)) := con_imp (fun _ _ => .bl b) pe_bl
theorem d_non {j : Nat} : DE L X W (.Constant .none j pos) (.con .non) := con_imp (fun _ _ => .non) pe_non
theorem d_str {z : Str} {j : Nat} : DE L X W (.Constant (.str z) j pos) (.con (.str z)) := con_imp (fun _ _ => .str z) pe_str

/-- two expressions and an operation on their values -/
theorem op_imp {r : R2} {o : Val → Val → Store → Res Val} {f : Fr → Store → Res Val} {σ : L2.St} {H : Hp} {Q : VK} (hf : ∀ ρ st, f ρ st = (L.e x ρ st).bind fun v st1 => (L.e y ρ st1).bind fun u st2 => o v u st2)
    (ho : ∀ μ v u st w z H, Rel X.K L.CA μ st H → RepV X.K μ H v w → RepV X.K μ H u z → Post X.K L.CA W (RVal X.K) σ μ H Q (o v u st) → r w z H Q)
    (h : tE X.K L.CA W f σ H Q) : tOp r (tE X.K L.CA W (L.e x)) (tE X.K L.CA W (L.e y)) σ H Q := by
  obtain ⟨μ, ρ, st, R, E, P⟩ := h
  rw [hf] at P
  refine ⟨μ, ρ, st, R, E, P.bind.imp fun w H1 h1 => ?_⟩
  obtain ⟨μ1, v, st1, l1, R1, rv, P1⟩ := h1
  refine ⟨μ1, ρ, st1, R1, E.mono l1, P1.bind.imp fun z H2 h2 => ?_⟩
  obtain ⟨μ2, u, st2, l2, R2, ru, P2⟩ := h2
  exact ho μ2 v u st2 w z H2 R2 (rv.mono l2) ru P2
def bopOf : BOp → Operator
  | .add => .Add | .sub => .Sub | .mul => .Mult | .fdiv => .FloorDiv | .mod => .Mod | .pow => .Pow
theorem d_bin (o : BOp) (ha : DE L X W a x) (hb : DE L X W b y) : DE L X W (.BinOp a (bopOf o) b pos) (.bin o x y) := by
  have ho : OpR X (binaryOp (bopOf o)) (rD X.K L.CA (binV o)) := by
    have z := bin_ok (X := X) (CA := L.CA) o
    cases o <;> exact z
  refine PE.imp (pe_op ho ha hb) fun σ H Q h => op_imp (fun _ _ => rfl) (fun μ v u st w z H R rv ru P => ⟨μ, v, u, st, R, rv, ru, P.o⟩) h
theorem d_neg (ha : DE L X W a x) : DE L X W (.UnaryOp .USub a pos) (.neg x) := by
  refine PE.imp (pe_un (neg_ok (CA := L.CA)) ha) fun σ H Q h => ?_
  obtain ⟨μ, ρ, st, R, E, P⟩ := h
  refine ⟨μ, ρ, st, R, E, (Post.bind (RV := RVal X.K) P).imp fun w H1 h1 => ?_⟩
  obtain ⟨μ1, v, st1, l1, R1, rv, P1⟩ := h1
  exact ⟨μ1, v, st1, R1, rv, P1.o⟩
theorem d_cmp (o : COp) (hu : X.A.units + 64 < cLine) (ha : DE L X W a x) (hb : DE L X W b y) (hm : behindInMarks (copOf o) b = false) : DE L X W (.Compare a [copOf o] [b] pos) (.cmp o x y) := by
  refine PE.imp (pe_cmpR (cmp_ok (CA := L.CA) hu o) ha hb hm) fun σ H Q h => op_imp (fun _ _ => rfl) (fun μ v u st w z H R rv ru P => ?_) h
  have q := P.o
  cases e : cmpV o v u st with
  | none => rw [e] at q; exact q.elim
  | some k => rw [e] at q; exact ⟨μ, v, u, st, R, rv, ru, k, e, PostO.val (w := .bl k) R q (.bl k)⟩
theorem d_idx (hu : X.A.units + 64 < cLine) (ha : DE L X W a x) (hb : DE L X W b y) (hs : PlainIx b := by intro _ _; rfl) : DE L X W (.Subscript a b pos) (.idx x y) :=
  PE.imp (pe_ix (idx_ok (CA := L.CA) hu) ha hb hs) fun σ H Q h => op_imp (fun _ _ => rfl) (fun μ v u st w z H R rv ru P => ⟨μ, v, u, st, R, rv, ru, P.o⟩) h
/-! ### parts of slices -/
theorem do_none : DO L X W none .none := by
  refine PO.imp po_none fun σ H Q h => ?_
  obtain ⟨μ, ρ, st, R, E, P⟩ := h
  exact P μ H none .refl R rfl
theorem do_some (ha : DE L X W a x) (hp : ∀ {te : TE}, PE X a te → PO X (some a) (tPart te) := by intro _ h; exact po_some h) : DO L X W (some a) (.some x) := by
  refine PO.imp (hp ha) fun σ H Q h => ?_
  obtain ⟨μ, ρ, st, R, E, P⟩ := h
  refine ⟨μ, ρ, st, R, E, (Post.bind (RV := RVal X.K) P).imp fun w H1 h1 => ?_⟩
  obtain ⟨μ1, v, st1, l1, R1, rv, P1⟩ := h1
  cases rv with
  | int i => exact ⟨i, rfl, P1 μ1 H1 (some i) .refl R1 rfl⟩
  | _ => exact P1.elim
theorem d_slc {lo hi : Option Expr} {l h : Exo} {p2 : Pos} (ha : DE L X W a x) (hl : DO L X W lo l) (hh : DO L X W hi h) : DE L X W (.Subscript a (.Slice lo hi none p2) pos) (.slc x l h) := by
  refine PE.imp (pe_slice (slc_ok (CA := L.CA)) ha hl hh) fun σ H Q q => ?_
  obtain ⟨μ, ρ, st, R, E, P⟩ := q
  refine ⟨μ, ρ, st, R, E, (Post.bind (RV := RVal X.K) P).imp fun w H1 h1 => ?_⟩
  obtain ⟨μ1, v, st1, l1, R1, rv, P1⟩ := h1
  refine ⟨μ1, ρ, st1, R1, E.mono l1, (Post.bind (RV := REq (Option Int)) P1).imp fun w2 H2 h2 => ?_⟩
  obtain ⟨μ2, u, st2, l2, R2, e2, P2⟩ := h2
  subst e2
  refine ⟨μ2, ρ, st2, R2, E.mono (l1.trans l2), (Post.bind (RV := REq (Option Int)) P2).imp fun w3 H3 h3 => ?_⟩
  obtain ⟨μ3, u3, st3, l3, R3, e3, P3⟩ := h3
  subst e3
  exact ⟨μ3, v, st3, R3, rv.mono (l2.trans l3), P3.o⟩
/-! ### argument lists, displays -/
theorem da_nil : DA L X W [] .nil := by
  refine PA.imp pa_nil fun σ H Q h => ?_
  obtain ⟨μ, ρ, st, R, E, P⟩ := h
  exact P μ H [] .refl R .nil
theorem da_cons (ha : DE L X W e x) (hr : DA L X W es xs) (hs : starEach (e :: es) X.env = (false, eval e X.env) :: starEach es X.env := by rfl) : DA L X W (e :: es) (.cons x xs) := by
  refine PA.imp (pa_cons ha hr hs) fun σ H Q h => ?_
  obtain ⟨μ, ρ, st, R, E, P⟩ := h
  refine ⟨μ, ρ, st, R, E, (Post.bind (RV := RVal X.K) P).imp fun w H1 h1 => ?_⟩
  obtain ⟨μ1, v, st1, l1, R1, rv, P1⟩ := h1
  refine ⟨μ1, ρ, st1, R1, E.mono l1, (Post.bind (RV := RVals X.K) P1).imp fun ws H2 h2 => ?_⟩
  obtain ⟨μ2, vs, st2, l2, R2, rvs, P2⟩ := h2
  exact P2 μ2 H2 _ .refl R2 (.cons (rv.mono l2) rvs)
theorem da_star {p : Pos} (ha : DE L X W e x) (hr : DA L X W es xs) (hs : starEach (.Starred e p :: es) X.env = (true, eval e X.env) :: starEach es X.env := by rfl) : DA L X W (.Starred e p :: es) (.star x xs) := by
  refine PA.imp (StX.pa_star ha hr hs) fun σ H Q h => ?_
  obtain ⟨μ, ρ, st, R, E, P⟩ := h
  refine ⟨μ, ρ, st, R, E, (Post.bind (RV := RVal X.K) P).imp fun w H1 h1 => ?_⟩
  obtain ⟨μ1, v, st1, l1, R1, rv, P1⟩ := h1
  split at P1
  · rename_i vs hv
    have key : ∃ (p : Addr) (zs : List V), w = V.ref p ∧ (SqT X.K H1 p zs ∨ SqL X.K H1 p zs) ∧ RepL X.K μ1 H1 vs zs := by
      cases rv with
      | @ref n a hn =>
        obtain ⟨zs, h1, h2⟩ := R1.lst hn hv
        exact ⟨a, zs, rfl, .inr h1, h2⟩
      | @tup a us zs h1 h2 =>
        cases hv
        exact ⟨a, zs, rfl, .inl h1, h2⟩
      | _ => cases hv
    obtain ⟨p, zs, rfl, hz, hrep⟩ := key
    refine ⟨p, zs, rfl, hz, μ1, ρ, st1, R1, E.mono l1, (Post.bind (RV := RVals X.K) P1).imp fun ws H2 h2 => ?_⟩
    obtain ⟨μ2, us, st2, l2, R2, rvs, P2⟩ := h2
    exact P2 μ2 H2 _ .refl R2 ((hrep.mono l2).append rvs)
  · exact P1.elim
theorem d_tup {k : Nat} (h : DA L X W es xs) : DE L X W (.Tuple es k pos) (.tup xs) := by
  refine PE.imp (pe_tup h) fun σ H Q h => ?_
  obtain ⟨μ, ρ, st, R, E, P⟩ := h
  refine ⟨μ, ρ, st, R, E, (Post.bind (RV := RVals X.K) P).imp fun ws H1 h1 => ?_⟩
  obtain ⟨μ1, vs, st1, l1, R1, rvs, P1⟩ := h1
  split at P1
  · rename_i hl
    refine ⟨by rw [← rvs.length]; exact line_le hl, fun p hp => ?_⟩
    exact P1 _ _ _ (.of_fresh hp) (R1.beside hp) (.tup (.of upd_same) (rvs.mono (.of_fresh hp)))
  · exact P1.elim
theorem d_lst (h : DA L X W es xs) : DE L X W (.List es pos) (.lst xs) := by
  refine PE.imp (pe_lst h) fun σ H Q h => ?_
  obtain ⟨μ, ρ, st, R, E, P⟩ := h
  refine ⟨μ, ρ, st, R, E, (Post.bind (RV := RVals X.K) P).imp fun ws H1 h1 => ?_⟩
  obtain ⟨μ1, vs, st1, l1, R1, rvs, P1⟩ := h1
  have q := P1.o
  unfold allocL at q
  split at q
  · rename_i hl
    exact ⟨by rw [← rvs.length]; exact line_le hl, fun p hp => q.new R1 (ho := .lst ws) hp rvs⟩
  · exact q.elim
/-! ### and, or as values -/
theorem d_one {op : BoolOp} (h : DE L X W a x) : DE L X W (.BoolOp op [a] pos) x := pe_one h
theorem d_and {rest : List Expr} (ha : DE L X W a x) (hb : DE L X W (.BoolOp .And (b :: rest) pos) y) : DE L X W (.BoolOp .And (a :: b :: rest) pos) (.and x y) := by
  refine PE.imp (pe_and ha hb) fun σ H Q h => ?_
  obtain ⟨μ, ρ, st, R, E, P⟩ := h
  refine ⟨μ, ρ, st, R, E, (Post.bind (RV := RVal X.K) P).imp fun w H1 h1 => ?_⟩
  obtain ⟨μ1, v, st1, l1, R1, rv, P1⟩ := h1
  cases rv with
  | bl k =>
    refine ⟨k, rfl, ?_⟩
    cases k with
    | true => exact iteT ⟨μ1, ρ, st1, R1, E.mono l1, P1⟩
    | false => exact iteF (P1 μ1 H1 _ .refl R1 (.bl _))
  | _ => exact P1.elim
theorem d_or {rest : List Expr} (ha : DE L X W a x) (hb : DE L X W (.BoolOp .Or (b :: rest) pos) y) : DE L X W (.BoolOp .Or (a :: b :: rest) pos) (.or x y) := by
  refine PE.imp (pe_or ha hb) fun σ H Q h => ?_
  obtain ⟨μ, ρ, st, R, E, P⟩ := h
  refine ⟨μ, ρ, st, R, E, (Post.bind (RV := RVal X.K) P).imp fun w H1 h1 => ?_⟩
  obtain ⟨μ1, v, st1, l1, R1, rv, P1⟩ := h1
  cases rv with
  | bl k =>
    refine ⟨k, rfl, ?_⟩
    cases k with
    | true => exact iteT (P1 μ1 H1 _ .refl R1 (.bl _))
    | false => exact iteF ⟨μ1, ρ, st1, R1, E.mono l1, P1⟩
  | _ => exact P1.elim
/-! ### tests -/
theorem dt_val (ha : DE L X W a x) (he : ∀ whole, isTrue a X.env whole = (do let v ← whole; standAt a.pos; holding [v] (truthy v)) := by intro _; rfl) : DT L X W a (.val x) := by
  refine PT.imp (pt_truth ha he) fun σ H Q h => ?_
  obtain ⟨μ, ρ, st, R, E, P⟩ := h
  refine ⟨μ, ρ, st, R, E, (Post.bind (RV := RVal X.K) P).imp fun w H1 h1 => ?_⟩
  obtain ⟨μ1, v, st1, l1, R1, rv, P1⟩ := h1
  split at P1
  · rename_i k ek
    refine ⟨k, ?_, P1 μ1 H1 k .refl R1 rfl⟩
    cases rv with
    | non => cases ek; rfl
    | bl b => cases ek; rfl
    | int i => cases ek; rfl
    | str z =>
      have e : (if lineOk z.length then some ((z.length : Int) != 0) else none) = some k := ek
      split at e
      · rename_i hl
        cases e
        exact ⟨line_le hl, rfl⟩
      · cases e
    | @tup p vs ws h r =>
      cases ek
      exact .inr (.inl ⟨ws, h, by rw [isEmpty_rep r]⟩)
    | @ref n p hn =>
      unfold truV at ek
      dsimp only at ek
      split at ek
      · rename_i vs ho
        cases ek
        obtain ⟨ws, h1, h2⟩ := R1.lst hn (show lstAt st1 n = some vs by unfold lstAt; rw [ho])
        exact .inl ⟨ws, h1, by rw [isEmpty_rep h2]⟩
      · rename_i vs ho
        cases ek
        obtain ⟨ws, h1, h2⟩ := R1.lst hn (show lstAt st1 n = some vs by unfold lstAt; rw [ho])
        exact .inl ⟨ws, h1, by rw [isEmpty_rep h2]⟩
      · rename_i kvs ho
        cases ek
        obtain ⟨kxs, h1, h2, h3⟩ := R1.dct hn ho
        refine .inr (.inr ⟨kxs, h1, ?_⟩)
        have z : kvs.length = kxs.length := by simpa using congrArg List.length h2
        cases kvs <;> cases kxs <;> first | rfl | simp at z
      · cases ek
  · exact P1.elim
/-- a value that is a bool, as a test -/
theorem tst_imp {t : TE} {f : Fr → Store → Res Val} {σ : L2.St} {H : Hp} {Q : Bool → Hp → Prop} (hi : ∀ σ H Q, tE X.K L.CA W f σ H Q → t σ H Q) (hb : ∀ ρ st v st', f ρ st = .ok v st' → ∃ k, v = .bl k)
    (h : tT X.K L.CA W (fun ρ st => (f ρ st).bind fun v st1 => match truV st1 v with | some b => .ok b st1 | none => .stuck) σ H Q) : tTest t σ H Q := by
  refine hi σ H _ ?_
  obtain ⟨μ, ρ, st, R, E, P⟩ := h
  refine ⟨μ, ρ, st, R, E, ?_⟩
  dsimp only at P
  cases e : f ρ st with
  | ok v st' =>
    rw [e] at P
    obtain ⟨k, rfl⟩ := hb ρ st v st' e
    intro μ' H' b l R' rb
    cases rb
    exact ⟨k, rfl, P μ' H' k l R' rfl⟩
  | exc c v st' => rw [e] at P; exact P
  | stuck => rw [e] at P; exact P
theorem bind_ok {α β : Type} {r : Res α} {f : α → Store → Res β} {v : β} {st : Store} (h : r.bind f = .ok v st) : ∃ a st1, r = .ok a st1 ∧ f a st1 = .ok v st := by
  cases r with
  | ok a st1 => exact ⟨a, st1, rfl, h⟩
  | exc _ _ _ => cases h
  | stuck => cases h
theorem dt_cmp (o : COp) (hu : X.A.units + 64 < cLine) (ha : DE L X W a x) (hb : DE L X W b y) (hm : behindInMarks (copOf o) b = false) : DT L X W (.Compare a [copOf o] [b] pos) (.val (.cmp o x y)) := by
  refine PT.imp (pt_cmpR (cmp_ok (CA := L.CA) hu o) ha hb hm) fun σ H Q h => tst_imp (f := L.e (.cmp o x y)) (fun σ H Q h => op_imp (fun _ _ => rfl) (fun μ v u st w z H R rv ru P => ?_) h) (fun ρ st v st' h => ?_) h
  · have q := P.o
    cases e : cmpV o v u st with
    | none => rw [e] at q; exact q.elim
    | some k => rw [e] at q; exact ⟨μ, v, u, st, R, rv, ru, k, e, PostO.val (w := .bl k) R q (.bl k)⟩
  · obtain ⟨v1, st1, h1, h⟩ := bind_ok h
    obtain ⟨v2, st2, h2, h⟩ := bind_ok h
    cases e : cmpV o v1 v2 st2 with
    | none => rw [e] at h; cases h
    | some k => rw [e] at h; cases h; exact ⟨k, rfl⟩
/-- a op b op' c -/
theorem chain_imp {o o' : COp} {σ : L2.St} {H : Hp} {Q : VK} (h : tE X.K L.CA W (L.e (.chain o o' x y z)) σ H Q) :
    tChain (rC X.K L.CA fun v u st => cmpV o v u st) (rC X.K L.CA fun v u st => cmpV o' v u st) (tE X.K L.CA W (L.e x)) (tE X.K L.CA W (L.e y)) (tE X.K L.CA W (L.e z)) σ H Q := by
  obtain ⟨μ, ρ, st, R, E, P⟩ := h
  refine ⟨μ, ρ, st, R, E, (Post.bind (RV := RVal X.K) P).imp fun w H1 h1 => ?_⟩
  obtain ⟨μ1, v, st1, l1, R1, rv, P1⟩ := h1
  refine ⟨μ1, ρ, st1, R1, E.mono l1, (Post.bind (RV := RVal X.K) P1).imp fun w2 H2 h2 => ?_⟩
  obtain ⟨μ2, u, st2, l2, R2, ru, P2⟩ := h2
  split at P2
  · rename_i e
    refine ⟨μ2, v, u, st2, R2, rv.mono l2, ru, true, e, true, rfl, iteT ?_⟩
    refine ⟨μ2, ρ, st2, R2, E.mono (l1.trans l2), (Post.bind (RV := RVal X.K) P2).imp fun w3 H3 h3 => ?_⟩
    obtain ⟨μ3, u3, st3, l3, R3, r3, P3⟩ := h3
    have q := P3.o
    cases e : cmpV o' u u3 st3 with
    | none => rw [e] at q; exact q.elim
    | some k => rw [e] at q; exact ⟨μ3, u, u3, st3, R3, ru.mono l3, r3, k, e, PostO.val (w := .bl k) R3 q (.bl k)⟩
  · rename_i e
    exact ⟨μ2, v, u, st2, R2, rv.mono l2, ru, false, e, false, rfl, iteF (P2 μ2 H2 _ .refl R2 (.bl _))⟩
  · exact P2.elim
theorem d_chain (o o' : COp) (hu : X.A.units + 64 < cLine) (ha : DE L X W a x) (hb : DE L X W b y) (hc : DE L X W c z) (hm : lastMarks [copOf o, copOf o'] [b, c] = false) :
    DE L X W (.Compare a [copOf o, copOf o'] [b, c] pos) (.chain o o' x y z) := PE.imp (pe_chain (cmp_ok (CA := L.CA) hu o) (cmp_ok (CA := L.CA) hu o') ha hb hc hm) fun σ H Q h => chain_imp h
theorem dt_chain (o o' : COp) (hu : X.A.units + 64 < cLine) (ha : DE L X W a x) (hb : DE L X W b y) (hc : DE L X W c z) (hm : lastMarks [copOf o, copOf o'] [b, c] = false) :
    DT L X W (.Compare a [copOf o, copOf o'] [b, c] pos) (.val (.chain o o' x y z)) := by
  refine PT.imp (pt_chain (cmp_ok (CA := L.CA) hu o) (cmp_ok (CA := L.CA) hu o') ha hb hc hm) fun σ H Q h => tst_imp (f := L.e (.chain o o' x y z)) (fun σ H Q h => chain_imp h) (fun ρ st v st' h => ?_) h
  obtain ⟨v1, st1, h1, h⟩ := bind_ok h
  obtain ⟨v2, st2, h2, h⟩ := bind_ok h
  split at h
  · obtain ⟨v3, st3, h3, h⟩ := bind_ok h
    cases e : cmpV o' v2 v3 st3 with
    | none => rw [e] at h; cases h
    | some k => rw [e] at h; cases h; exact ⟨k, rfl⟩
  · cases h; exact ⟨false, rfl⟩
  · cases h
theorem dt_not {t : Tx} (ha : DT L X W a t) : DT L X W (.UnaryOp .Not a pos) (.not t) := by
  refine PT.imp (pt_not ha) fun σ H Q h => ?_
  obtain ⟨μ, ρ, st, R, E, P⟩ := h
  refine ⟨μ, ρ, st, R, E, (Post.bind (RV := REq Bool) P).imp fun w H1 h1 => ?_⟩
  obtain ⟨μ1, v, st1, l1, R1, rv, P1⟩ := h1
  subst rv
  exact P1 μ1 H1 _ .refl R1 rfl
theorem dw_and1 {t : Tx} (ha : DT L X W a t) : DW L X W (.BoolOp .And [a] pos) t := pw_and1 ha
theorem dw_or1 {t : Tx} (ha : DT L X W a t) : DW L X W (.BoolOp .Or [a] pos) t := pw_or1 ha
theorem dw_and {t u : Tx} {rest : List Expr} (ha : DT L X W a t) (hb : DW L X W (.BoolOp .And (b :: rest) pos) u) : DW L X W (.BoolOp .And (a :: b :: rest) pos) (.and t u) := by
  refine PW.imp (pw_and ha hb) fun σ H Q h => ?_
  obtain ⟨μ, ρ, st, R, E, P⟩ := h
  refine ⟨μ, ρ, st, R, E, (Post.bind (RV := REq Bool) P).imp fun w H1 h1 => ?_⟩
  obtain ⟨μ1, v, st1, l1, R1, rv, P1⟩ := h1
  subst rv
  cases v with
  | true => exact iteT ⟨μ1, ρ, st1, R1, E.mono l1, P1⟩
  | false => exact iteF (P1 μ1 H1 _ .refl R1 rfl)
theorem dw_or {t u : Tx} {rest : List Expr} (ha : DT L X W a t) (hb : DW L X W (.BoolOp .Or (b :: rest) pos) u) : DW L X W (.BoolOp .Or (a :: b :: rest) pos) (.or t u) := by
  refine PW.imp (pw_or ha hb) fun σ H Q h => ?_
  obtain ⟨μ, ρ, st, R, E, P⟩ := h
  refine ⟨μ, ρ, st, R, E, (Post.bind (RV := REq Bool) P).imp fun w H1 h1 => ?_⟩
  obtain ⟨μ1, v, st1, l1, R1, rv, P1⟩ := h1
  subst rv
  cases v with
  | true => exact iteT (P1 μ1 H1 _ .refl R1 rfl)
  | false => exact iteF ⟨μ1, ρ, st1, R1, E.mono l1, P1⟩
theorem d_ife {t : Tx} (hc : DT L X W c t) (ha : DE L X W a x) (hb : DE L X W b y) : DE L X W (.IfExp c a b pos) (.ife t x y) := by
  refine PE.imp (pe_ifExp hc ha hb) fun σ H Q h => ?_
  obtain ⟨μ, ρ, st, R, E, P⟩ := h
  refine ⟨μ, ρ, st, R, E, (Post.bind (RV := REq Bool) P).imp fun w H1 h1 => ?_⟩
  obtain ⟨μ1, v, st1, l1, R1, rv, P1⟩ := h1
  subst rv
  cases v with
  | true => exact iteT ⟨μ1, ρ, st1, R1, E.mono l1, P1⟩
  | false => exact iteF ⟨μ1, ρ, st1, R1, E.mono l1, P1⟩
end
end EV

/-! ## EvIter -/
set_option maxRecDepth 100000
set_option maxHeartbeats 4000000
/-! EvIter: what is walked, targets, comprehensions. -/
namespace EV
open PySem L2

/-- the walk w is the machine's walk J, as long as the store is held -/
structure Wit (K : PySem.W.Frag) (CA : Nat → Addr) (μ0 : List Addr) (H0 : Hp) (w : Wk) (J : L2.It) : Prop where
  go : ∀ μ st H i v, Le μ0 H0 μ H → Rel K CA μ st H → i < w.len → w.item st i = some v → J.go i H ∧ ∀ x H', J.yld i H x H' → Le μ H μ H' ∧ Rel K CA μ st H' ∧ RepV K μ H' v x
  stop : ∀ μ st H, Le μ0 H0 μ H → Rel K CA μ st H → w.fits st = true → J.stop w.len H
def RWk (K : PySem.W.Frag) (CA : Nat → Addr) : List Addr → Hp → Wk → L2.It → Prop := fun μ H w J => Wit K CA μ H w J
abbrev tI (K : PySem.W.Frag) (CA : Nat → Addr) (W : WX) (f : Fr → Store → Res Wk) : TI := tG K CA W (RWk K CA) f
theorem PI.imp {X : Cx} {tg e : Expr} {t t' : TI} (h : PI X tg e t) (hi : ∀ σ H Q, t' σ H Q → t σ H Q) : PI X tg e t' := ⟨fun pins s σ H R I q => h.run pins s σ H R I (hi σ H R q)⟩
def DI (L : Lib) (X : Cx) (W : WX) (tg e : Expr) (x : Ir) : Prop := PI X tg e (tI X.K L.CA W (L.i x))

section
variable {K : PySem.W.Frag} {CA : Nat → Addr} {μ0 : List Addr} {H0 : Hp}
theorem wit_lst {n : Nat} {a : Addr} {k : Nat} (hm : μ0[n]? = some a) : Wit K CA μ0 H0 (.lst n k) (Itl K a) where
  go := fun μ st H i v l R hi h => by
    unfold Wk.item at h
    dsimp only at h
    split at h
    · rename_i vs hl
      split at h
      · obtain ⟨xs, h1, h2⟩ := R.lst (l.at_ hm) hl
        obtain ⟨x, hx, r⟩ := h2.get h
        refine ⟨⟨xs, x, h1, hx⟩, fun y H' q => ?_⟩
        obtain ⟨rfl, q⟩ := q
        have e := q xs h1
        rw [hx] at e
        cases e
        exact ⟨.refl, R, r⟩
      · cases h
    · cases h
  stop := fun μ st H l R h => by
    unfold Wk.fits at h
    dsimp only at h
    split at h
    · rename_i vs hl
      have e := of_decide_eq_true h
      obtain ⟨xs, h1, h2⟩ := R.lst (l.at_ hm) hl
      exact ⟨xs, h1, by rw [← h2.length, e]; exact Nat.le_refl _⟩
    · cases h
theorem sqT_inj {a : Addr} {xs ys : List V} (hX : True) : True := trivial
theorem wit_tup {a : Addr} {vs : List Val} {xs : List V} (h : SqT K H0 a xs) (r : RepL K μ0 H0 vs xs) (inj : ∀ μ H ys, Le μ0 H0 μ H → SqT K H a ys → ys = xs) : Wit K CA μ0 H0 (.tup vs) (Itt K a) where
  go := fun μ st H i v l R hi hv => by
    obtain ⟨x, hx, rx⟩ := (r.mono l).get hv
    refine ⟨⟨xs, x, l.sq h, hx⟩, fun y H' q => ?_⟩
    obtain ⟨rfl, q⟩ := q
    have e := q xs (l.sq h)
    rw [hx] at e
    cases e
    exact ⟨.refl, R, rx⟩
  stop := fun μ st H l R _ => ⟨xs, l.sq h, by rw [← r.length]; exact Nat.le_refl _⟩
theorem wit_tup' {a : Addr} {vs : List Val} {xs : List V} (h : SqT K H0 a xs) (r : RepL K μ0 H0 vs xs) : Wit K CA μ0 H0 (.tup vs) (Itt K a) where
  go := fun μ st H i v l R hi hv => by
    obtain ⟨x, hx, rx⟩ := (r.mono l).get hv
    refine ⟨⟨xs, x, l.sq h, hx⟩, fun y H' q => ?_⟩
    obtain ⟨rfl, q⟩ := q
    have e := q xs (l.sq h)
    rw [hx] at e
    cases e
    exact ⟨.refl, R, rx⟩
  stop := fun μ st H l R _ => ⟨xs, l.sq h, by rw [← r.length]; exact Nat.le_refl _⟩
theorem wit_rng {lo : Int} {n : Nat} : Wit K CA μ0 H0 (.rng lo n) (Itr lo n) where
  go := fun μ st H i v l R hi hv => by
    cases hv
    refine ⟨hi, fun y H' q => ?_⟩
    obtain ⟨rfl, rfl⟩ := q
    exact ⟨.refl, R, .int _⟩
  stop := fun μ st H l R _ => Nat.le_refl _
theorem wit_rngc {lo c : Int} {n : Nat} : Wit K CA μ0 H0 (.rngc lo c n) (Itc lo c n) where
  go := fun μ st H i v l R hi hv => by
    cases hv
    refine ⟨hi, fun y H' q => ?_⟩
    obtain ⟨rfl, rfl⟩ := q
    exact ⟨.refl, R, .int _⟩
  stop := fun μ st H l R _ => Nat.le_refl _
/-- the keys of a dict that is locked -/
theorem wit_dct {d : Addr} {od : Obj} {kvs : List (Key × Val)} {kxs : List (Key × V)} (h : H0 d = some (.frz od (.dK kxs))) (hk : kvs.map (·.1) = kxs.map (·.1)) : Wit K CA μ0 H0 (.tup (kvs.map fun kv => keyV kv.1)) (Itk d od kxs) where
  go := fun μ st H i v l R hi hv => by
    have hlen : kvs.length = kxs.length := by simpa using congrArg List.length hk
    have hi' : i < kvs.length := by
      have hi : i < (kvs.map fun kv => keyV kv.1).length := hi
      rw [List.length_map] at hi
      exact hi
    refine ⟨⟨l.frz _ _ _ h, by omega⟩, fun y H' q => ?_⟩
    obtain ⟨rfl, k, v', hk', rfl⟩ := q
    have e1 : (kvs.map (·.1))[i]? = some k := by rw [hk, List.getElem?_map, hk']; rfl
    have e2 : (kvs.map fun kv => keyV kv.1)[i]? = some (keyV k) := by
      rw [List.getElem?_map] at e1 ⊢
      cases e3 : kvs[i]? with
      | none => rw [e3] at e1; cases e1
      | some kv =>
        rw [e3] at e1
        have e1 : kv.1 = k := Option.some.inj e1
        rw [← e1]
        rfl
    have hv : (kvs.map fun kv => keyV kv.1)[i]? = some v := hv
    rw [e2] at hv
    cases hv
    refine ⟨.refl, R, ?_⟩
    cases k with
    | inl i => exact .int i
    | inr z => exact .str z
  stop := fun μ st H l R _ => ⟨l.frz _ _ _ h, by
    have hlen : kvs.length = kxs.length := by simpa using congrArg List.length hk
    show kxs.length ≤ (kvs.map fun kv => keyV kv.1).length
    rw [List.length_map]
    omega⟩
theorem wit_txt {z : Str} : Wit K CA μ0 H0 (.txt z) (Its z) where
  go := fun μ st H i v l R hi hv => by
    refine ⟨hi, fun y H' q => ?_⟩
    obtain ⟨rfl, c, hc, rfl⟩ := q
    obtain ⟨c', hc', rfl⟩ := Option.map_eq_some_iff.mp hv
    rw [hc] at hc'
    cases hc'
    exact ⟨.refl, R, .str _⟩
  stop := fun μ st H l R _ => Nat.le_refl _
theorem wit_zipL {n m k l : Nat} {a b : Addr} (hn : μ0[n]? = some a) (hm : μ0[m]? = some b) : Wit K CA μ0 H0 (.zipL n k m l) (Itz K a b) where
  go := fun μ st H i v le R hi h => by
    unfold Wk.item at h
    dsimp only at h
    split at h
    · rename_i vs us h1 h2
      split at h
      · split at h
        · rename_i v1 v2 e1 e2
          cases h
          obtain ⟨xs, q1, r1⟩ := R.lst (le.at_ hn) h1
          obtain ⟨ys, q2, r2⟩ := R.lst (le.at_ hm) h2
          obtain ⟨x, hx, rx⟩ := r1.get e1
          obtain ⟨y, hy, ry⟩ := r2.get e2
          refine ⟨⟨xs, ys, x, y, q1, q2, hx, hy⟩, fun w H' q => ?_⟩
          obtain ⟨T, x', y', rfl, hT, rfl, z1, z2⟩ := q
          have f1 := z1 xs q1
          have f2 := z2 ys q2
          rw [hx] at f1
          rw [hy] at f2
          cases f1
          cases f2
          exact ⟨.of_fresh hT, R.beside hT, .tup (.of upd_same) (.cons (rx.mono (.of_fresh hT)) (.cons (ry.mono (.of_fresh hT)) .nil))⟩
        · cases h
      · cases h
    · cases h
  stop := fun μ st H le R h => by
    unfold Wk.fits at h
    dsimp only at h
    split at h
    · rename_i vs us h1 h2
      have e := of_decide_eq_true h
      obtain ⟨xs, q1, r1⟩ := R.lst (le.at_ hn) h1
      obtain ⟨ys, q2, r2⟩ := R.lst (le.at_ hm) h2
      refine ⟨xs, ys, q1, q2, ?_⟩
      have l1 := r1.length
      have l2 := r2.length
      show xs.length ≤ min k l ∨ ys.length ≤ min k l
      omega
    · cases h
theorem wit_zipT {a b : Addr} {vs us : List Val} {xs ys : List V} (h1 : SqT K H0 a xs) (h2 : SqT K H0 b ys) (r1 : RepL K μ0 H0 vs xs) (r2 : RepL K μ0 H0 us ys) : Wit K CA μ0 H0 (.zipT vs us) (RZ.ItzT K a b) where
  go := fun μ st H i v le R hi h => by
    unfold Wk.item at h
    dsimp only at h
    split at h
    · rename_i v1 v2 e1 e2
      cases h
      obtain ⟨x, hx, rx⟩ := (r1.mono le).get e1
      obtain ⟨y, hy, ry⟩ := (r2.mono le).get e2
      refine ⟨⟨xs, ys, x, y, le.sq h1, le.sq h2, hx, hy⟩, fun w H' q => ?_⟩
      obtain ⟨T, x', y', rfl, hT, rfl, z1, z2⟩ := q
      have f1 := z1 xs (le.sq h1)
      have f2 := z2 ys (le.sq h2)
      rw [hx] at f1
      rw [hy] at f2
      cases f1
      cases f2
      exact ⟨.of_fresh hT, R.beside hT, .tup (.of upd_same) (.cons (rx.mono (.of_fresh hT)) (.cons (ry.mono (.of_fresh hT)) .nil))⟩
    · cases h
  stop := fun μ st H le R h => by
    refine ⟨xs, ys, le.sq h1, le.sq h2, ?_⟩
    have l1 := r1.length
    have l2 := r2.length
    show xs.length ≤ min vs.length us.length ∨ ys.length ≤ min vs.length us.length
    omega
end
section
variable {L : Lib} {X : Cx} {W : WX} {a b e tg : Expr} {x y : Ex} {pos : Pos}
def iAny (K : PySem.W.Frag) (te : TE) : TI := fun σ H R => te σ H fun v H1 => (∃ a, v = .ref a ∧ (∃ xs, SqL K H1 a xs) ∧ R (Itl K a) H1) ∨ (∃ a, v = .ref a ∧ (∃ xs, SqT K H1 a xs) ∧ R (Itt K a) H1) ∨ ∃ z, v = .str z ∧ R (Its z) H1
theorem pi_any {te : TE} (he : PE X e te) : PI X tg e (iAny X.K te) := by
  refine ⟨fun pins s σ H R I h => ?_⟩
  refine thn (he.run pins s σ H _ I h) fun v s1 ⟨y, H1, I1, r1, q⟩ => ?_
  rcases q with ⟨a, rfl, q1, q2⟩ | ⟨a, rfl, q1, q2⟩ | ⟨z, rfl, q2⟩
  · cases r1
    obtain ⟨xs, q1⟩ := q1
    obtain ⟨its, rv, p, hz⟩ := I1.list q1
    refine wpAny_pyIter_list p.isList ?_
    refine ⟨s1.heap.objs.size, [s1.heap.objs.size], _, _, H1, rfl, I1.kept (t' := s1.toks) fun b o e => Heap.get?_push_of_some _ e, turn_list a _, ⟨_, Heap.get?_push_size _ rfl, rfl, rfl⟩, fun b hb => ?_, q2⟩
    have e : b = s1.heap.objs.size := by simpa using hb
    subst e
    exact I1.fpOk (Nat.le_refl _) (I1.hok.fresh (Nat.le_refl _))
  · cases r1
    obtain ⟨xs, q1⟩ := q1
    obtain ⟨its, rv, p, hz⟩ := I1.tuple q1
    refine wpAny_pyIter_tuple (show s1.heap.IsTuple a its.toArray from p) ?_
    refine ⟨s1.heap.objs.size, [s1.heap.objs.size], _, _, H1, rfl, I1.kept (t' := s1.toks) fun b o e => Heap.get?_push_of_some _ e, turn_tuple a _, ⟨_, Heap.get?_push_size _ rfl, rfl, rfl⟩, fun b hb => ?_, q2⟩
    have e : b = s1.heap.objs.size := by simpa using hb
    subst e
    exact I1.fpOk (Nat.le_refl _) (I1.hok.fresh (Nat.le_refl _))
  · obtain ⟨t, rfl⟩ := r1
    cases ha : z.cps.all (· < 128)
    · exact wpAny_pyIter_wide ha (pi_one (tk := s1.toks) I1 _ (turn_str _ z t "str_iterator" (.inr rfl)) ⟨_, Heap.get?_push_size _ rfl, rfl, rfl⟩ q2)
    · exact wpAny_pyIter_ascii ha (pi_one (tk := s1.toks) I1 _ (turn_str _ z t "str_ascii_iterator" (.inl rfl)) ⟨_, Heap.get?_push_size _ rfl, rfl, rfl⟩ q2)
theorem di_ex (ha : DE L X W a x) : DI L X W tg a (.ex x) := by
  refine PI.imp (pi_any ha) fun σ H R h => ?_
  obtain ⟨μ, ρ, st, Rl, E, P⟩ := h
  refine ⟨μ, ρ, st, Rl, E, (Post.bind (RV := RVal X.K) P).imp fun w H1 h1 => ?_⟩
  obtain ⟨μ1, v, st1, l1, R1, rv, P1⟩ := h1
  split at P1
  · rename_i wk ek
    cases rv with
    | str z =>
      cases ek
      exact .inr (.inr ⟨z, rfl, P1 μ1 H1 _ .refl R1 wit_txt⟩)
    | @tup p vs xs h r =>
      cases ek
      exact .inr (.inl ⟨p, rfl, ⟨xs, h⟩, P1 μ1 H1 _ .refl R1 (wit_tup' h r)⟩)
    | @ref n p hn =>
      obtain ⟨vs, hl, rfl⟩ := Option.map_eq_some_iff.mp ek
      obtain ⟨xs, h1, h2⟩ := R1.lst hn hl
      exact .inl ⟨p, rfl, ⟨xs, h1⟩, P1 μ1 H1 _ .refl R1 (wit_lst hn)⟩
    | _ => cases ek
  · exact P1.elim
/-- the keys of a locked dict -/
theorem di_keys (ha : DE L X W a x) : DI L X W tg a (.keys x) := by
  refine PI.imp (pi_keys ha) fun σ H R h => ?_
  obtain ⟨μ, ρ, st, Rl, E, P⟩ := h
  refine ⟨μ, ρ, st, Rl, E, (Post.bind (RV := RVal X.K) P).imp fun w H1 h1 => ?_⟩
  obtain ⟨μ1, v, st1, l1, R1, rv, P1⟩ := h1
  split at P1
  · rename_i n
    split at P1
    · rename_i kvs hs
      cases rv with
      | @ref n p hn =>
        obtain ⟨od, kxs, h1, h2, _⟩ := R1.frd hn hs
        exact ⟨p, od, rfl, .inl ⟨kxs, h1, P1 μ1 H1 _ .refl R1 (wit_dct h1 h2)⟩⟩
    · exact P1.elim
  · exact P1.elim
theorem di_rng1 {p : Pos} (hg : Gl X "range") (hm : X.mg "range" = none) (ha : DE L X W a x) (h1 : starEach [a] X.env = (false, eval a X.env) :: starEach [] X.env := by rfl) (hs : starEach [a] X.env = [(false, eval a X.env)] := by rfl) :
    DI L X W tg (.Call (.Name "range" p) [a] [] pos) (.rng1 x) := by
  refine PI.imp (pi_range1 hg hm (pa_cons ha pa_nil h1) hs) fun σ H R h => ?_
  obtain ⟨μ, ρ, st, Rl, E, P⟩ := h
  refine ⟨μ, ρ, st, Rl, E, (Post.bind (RV := RVal X.K) P).imp fun w H1 h1 => ?_⟩
  obtain ⟨μ1, v, st1, l1, R1, rv, P1⟩ := h1
  cases rv with
  | int j =>
    dsimp only at P1
    split at P1
    · rename_i hr
      have z := of_decide_eq_true hr
      exact ⟨j, rfl, z.1, z.2, P1 μ1 H1 _ .refl R1 wit_rng⟩
    · exact P1.elim
  | _ => exact P1.elim
theorem di_rng2 {p : Pos} (hg : Gl X "range") (hm : X.mg "range" = none) (ha : DE L X W a x) (hb : DE L X W b y) (h1 : starEach [a, b] X.env = (false, eval a X.env) :: starEach [b] X.env := by rfl) (h2 : starEach [b] X.env = (false, eval b X.env) :: starEach [] X.env := by rfl)
    (hs : starEach [a, b] X.env = [(false, eval a X.env), (false, eval b X.env)] := by rfl) (hs2 : starEach [b] X.env = [(false, eval b X.env)] := by rfl) :
    DI L X W tg (.Call (.Name "range" p) [a, b] [] pos) (.rng2 x y) := by
  refine PI.imp (pi_range2 hg hm (pa_cons ha (pa_cons hb pa_nil h2) h1) hs hs2) fun σ H R h => ?_
  obtain ⟨μ, ρ, st, Rl, E, P⟩ := h
  refine ⟨μ, ρ, st, Rl, E, (Post.bind (RV := RVal X.K) P).imp fun w H1 h1 => ?_⟩
  obtain ⟨μ1, v, st1, l1, R1, rv, P1⟩ := h1
  refine ⟨μ1, ρ, st1, R1, E.mono l1, (Post.bind (RV := RVal X.K) P1).imp fun w2 H2 h2 => ?_⟩
  obtain ⟨μ2, u, st2, l2, R2, ru, P2⟩ := h2
  cases rv with
  | int i =>
    cases ru with
    | int j =>
      dsimp only at P2
      split at P2
      · rename_i hr
        rw [Bool.and_eq_true] at hr
        have z1 := of_decide_eq_true hr.1
        have z2 := of_decide_eq_true hr.2
        exact ⟨i, j, rfl, ⟨z1.1, z1.2, z2.1, z2.2⟩, P2 μ2 H2 _ .refl R2 wit_rng⟩
      · exact P2.elim
    | _ => exact P2.elim
  | _ => exact P2.elim
theorem di_rng3 {c : Expr} {z : Ex} {p : Pos} (hg : Gl X "range") (hm : X.mg "range" = none) (ha : DE L X W a x) (hb : DE L X W b y) (hc : DE L X W c z) (h1 : starEach [a, b, c] X.env = (false, eval a X.env) :: starEach [b, c] X.env := by rfl) (h2 : starEach [b, c] X.env = (false, eval b X.env) :: starEach [c] X.env := by rfl) (h3 : starEach [c] X.env = (false, eval c X.env) :: starEach [] X.env := by rfl)
    (hpl : (backTo pos (starEach [b, c] X.env)).any (·.1) = false := by rfl) :
    DI L X W tg (.Call (.Name "range" p) [a, b, c] [] pos) (.rng3 x y z) := by
  refine PI.imp (pi_range3 hg hm (pa_cons ha (pa_cons hb (pa_cons hc pa_nil h3) h2) h1) h1 hpl) fun σ H R h => ?_
  obtain ⟨μ, ρ, st, Rl, E, P⟩ := h
  refine ⟨μ, ρ, st, Rl, E, (Post.bind (RV := RVal X.K) P).imp fun w H1 h1 => ?_⟩
  obtain ⟨μ1, v, st1, l1, R1, rv, P1⟩ := h1
  refine ⟨μ1, ρ, st1, R1, E.mono l1, (Post.bind (RV := RVal X.K) P1).imp fun w2 H2 h2 => ?_⟩
  obtain ⟨μ2, u, st2, l2, R2, ru, P2⟩ := h2
  refine ⟨μ2, ρ, st2, R2, E.mono (l1.trans l2), (Post.bind (RV := RVal X.K) P2).imp fun w3 H3 h3 => ?_⟩
  obtain ⟨μ3, t, st3, l3, R3, rt, P3⟩ := h3
  cases rv with
  | int i =>
    cases ru with
    | int j =>
      cases rt with
      | int c =>
        dsimp only at P3
        split at P3
        · rename_i hr
          rw [Bool.and_eq_true] at hr
          have z1 := of_decide_eq_true hr.1
          exact ⟨i, j, c, _, rfl, ⟨z1.1, z1.2.1, hr.2, (Int.toNat_of_nonneg z1.2.2).symm⟩, P3 μ3 H3 _ .refl R3 wit_rngc⟩
        · exact P3.elim
      | _ => exact P3.elim
    | _ => exact P3.elim
  | _ => exact P3.elim
theorem di_zip {p tpos : Pos} {elts : List Expr} {kk : Nat} (hg : Gl X "zip") (hm : X.mg "zip" = none) (ha : DE L X W a x) (hb : DE L X W b y) (h2 : starEach [b] X.env = (false, eval b X.env) :: starEach [] X.env := by rfl)
    (hs : starEach [a, b] X.env = (false, eval a X.env) :: starEach [b] X.env := by rfl) (hpl : (backTo pos (starEach [b] X.env)).any (·.1) = false := by rfl) :
    DI L X W (.Tuple elts kk tpos) (.Call (.Name "zip" p) [a, b] [] pos) (.zip2 x y) := by
  refine PI.imp (RZ.pi_zipA hg hm (pa_cons ha (pa_cons hb pa_nil h2) hs) hs hpl) fun σ H R h => ?_
  obtain ⟨μ, ρ, st, Rl, E, P⟩ := h
  refine ⟨μ, ρ, st, Rl, E, (Post.bind (RV := RVal X.K) P).imp fun w H1 h1 => ?_⟩
  obtain ⟨μ1, v, st1, l1, R1, rv, P1⟩ := h1
  refine ⟨μ1, ρ, st1, R1, E.mono l1, (Post.bind (RV := RVal X.K) P1).imp fun w2 H2 h2 => ?_⟩
  obtain ⟨μ2, u, st2, l2, R2, ru, P2⟩ := h2
  split at P2
  · rename_i wk ek
    cases rv with
    | @ref n p1 hn =>
      cases ru with
      | @ref m p2 hm2 =>
        unfold zipOf at ek
        dsimp only at ek
        split at ek
        · rename_i vs us e1 e2
          cases ek
          obtain ⟨xs, h1, r1⟩ := R2.lst (l2.at_ hn) e1
          obtain ⟨ys, h2, r2⟩ := R2.lst hm2 e2
          exact ⟨p1, p2, xs, ys, rfl, .inl ⟨h1, h2, P2 μ2 H2 _ .refl R2 (wit_zipL (l2.at_ hn) hm2)⟩⟩
        · cases ek
      | _ => cases ek
    | @tup p1 vs xs h1 r1 =>
      cases ru with
      | @tup p2 us ys h2 r2 =>
        cases ek
        exact ⟨p1, p2, xs, ys, rfl, .inr ⟨l2.sq h1, h2, P2 μ2 H2 _ .refl R2 (wit_zipT (l2.sq h1) h2 (r1.mono l2) r2)⟩⟩
      | _ => cases ek
    | _ => cases ek
  · exact P2.elim
end

/-! ### targets -/
def Tg.slots : Tg → List Nat
  | .nm i => [i]
  | .tp is => is
structure DG (CA : Nat → Addr) (X : Cx) (tg : Expr) (t : Tg) (g : TG) : Prop where
  pg : PG X tg g
  ok : ∀ μ H v x ρ σ ρ' st (Q : L2.St → Hp → Prop), Rel X.K CA μ st H → RepV X.K μ H v x → RepE X.K μ H ρ σ → t.give v ρ st = some ρ' → (∀ σ', RepE X.K μ H ρ' σ' → (∀ vs : List Nat, (∀ i ∈ t.slots, i ∈ vs) → wipe σ' vs = wipe σ vs) → Q σ' H) → g x σ H Q
theorem wipe_set {σ : L2.St} {i : Nat} {x : Option V} : ∀ {vs : List Nat}, i ∈ vs → wipe (σ.set i x) vs = wipe σ vs
  | [], h => by simp at h
  | v :: vs, h => by
    show (wipe (σ.set i x) vs).set v none = (wipe σ vs).set v none
    by_cases e : i = v
    · subst e
      by_cases h2 : i ∈ vs
      · rw [wipe_set h2]
      · have aux : ∀ (vs : List Nat) (τ : L2.St), i ∉ vs → wipe (τ.set i x) vs = (wipe τ vs).set i x := by
          intro vs
          induction vs with
          | nil => intro τ _; rfl
          | cons w ws ih =>
            intro τ hn
            rw [List.mem_cons, not_or] at hn
            show (wipe (τ.set i x) ws).set w none = ((wipe τ ws).set w none).set i x
            rw [ih τ hn.2, List.set_comm _ _ hn.1]
        rw [aux vs σ h2, List.set_set]
    · rw [List.mem_cons] at h
      rcases h with h | h
      · exact absurd h e
      · rw [wipe_set h]
section
variable {CA : Nat → Addr} {X : Cx} {pos : Pos}
theorem dg_nm (i : Nat) {n : Str} (hN : X.N.Nodup) (hi : X.N[i]? = some n) (hx : Loc X.env.scope n) (hf : X.fn n = true ∨ X.env.scope.names.lookup n = some .local) : DG CA X (.Name n pos) (.nm i) (gName i) where
  pg := pg_name hN hi hx hf
  ok := fun μ H v x ρ σ ρ' st Q _ r e h q => by
    cases h
    exact q _ (e.set r) fun vs hv => wipe_set (hv i (by simp [Tg.slots]))
/-- the names of a tuple -/
inductive DGs (X : Cx) : List Expr → List Nat → TGs → Prop where
  | nil : DGs X [] [] gNil
  | cons {e : Expr} {es : List Expr} {i : Nat} {is : List Nat} {g : TGs} {n : Str} {pos : Pos} (he : e = .Name n pos) (hN : X.N.Nodup) (hi : X.N[i]? = some n) (hx : Loc X.env.scope n) (hf : X.fn n = true ∨ X.env.scope.names.lookup n = some .local) (t : DGs X es is g) : DGs X (e :: es) (i :: is) (gCons (gName i) g)
theorem DGs.pgs : ∀ {es : List Expr} {is : List Nat} {g : TGs}, DGs X es is g → PGs X es g
  | _, _, _, .nil => pgs_nil
  | _, _, _, .cons he hN hi hx hf t => by
    subst he
    exact pgs_cons (pg_name hN hi hx hf) t.pgs
theorem DGs.len : ∀ {es : List Expr} {is : List Nat} {g : TGs}, DGs X es is g → (assignEach es X.env).length = is.length ∧ (assignEach es X.env).findIdx? (·.1) = none
  | _, _, _, .nil => ⟨rfl, rfl⟩
  | _, _, _, .cons he hN hi hx hf t => by
    subst he
    obtain ⟨h1, h2⟩ := t.len
    refine ⟨by show (assignEach _ X.env).length + 1 = _; rw [h1]; rfl, ?_⟩
    show List.findIdx? _ ((false, _) :: assignEach _ X.env) = none
    rw [List.findIdx?_cons]
    simp [h2]
theorem DGs.ok {K : PySem.W.Frag} : ∀ {es : List Expr} {is : List Nat} {g : TGs}, DGs X es is g → ∀ μ H vs xs ρ σ ρ' (Q : L2.St → Hp → Prop), RepL K μ H vs xs → RepE K μ H ρ σ → setAll is vs ρ = some ρ' →
    (∀ σ', RepE K μ H ρ' σ' → (∀ ws : List Nat, (∀ i ∈ is, i ∈ ws) → wipe σ' ws = wipe σ ws) → Q σ' H) → g xs σ H Q
  | _, _, _, .nil, μ, H, vs, xs, ρ, σ, ρ', Q, r, e, h, q => by
    cases r with
    | nil => cases h; exact ⟨rfl, q σ e fun _ _ => rfl⟩
    | cons a b => cases h
  | _, _, _, .cons he hN hi hx hf t, μ, H, vs, xs, ρ, σ, ρ', Q, r, e, h, q => by
    cases r with
    | nil => cases h
    | cons a b =>
      refine ⟨_, _, rfl, ?_⟩
      refine t.ok μ H _ _ _ _ ρ' Q b (e.set a) h fun σ' e' w => q σ' e' fun ws hw => ?_
      rw [w ws fun i hi => hw i (List.mem_cons_of_mem _ hi)]
      exact wipe_set (hw _ List.mem_cons_self)
theorem setAll_len : ∀ (is : List Nat) (vs : List Val) (ρ ρ' : Fr), setAll is vs ρ = some ρ' → vs.length = is.length
  | [], [], _, _, _ => rfl
  | [], _ :: _, _, _, h => by cases h
  | _ :: _, [], _, _, h => by cases h
  | i :: is, a :: b, ρ, ρ', h => by
    show b.length + 1 = is.length + 1
    rw [setAll_len is b _ ρ' h]
/-- (a, b) = a tuple or a list -/
def gTL (K : PySem.W.Frag) (n : Nat) (t : TGs) : TG := fun v σ H Q => gTup K n t v σ H Q ∨ L2.gUnl K n t v σ H Q
theorem dg_tp {es : List Expr} {is : List Nat} {g : TGs} {k : Nat} (hc : X.calm = true) (t : DGs X es is g) : DG CA X (.Tuple es k pos) (.tp is) (gTL X.K is.length g) where
  pg := ⟨fun pins s σ H v u Q I r h => by
    rcases h with h | h
    · exact (pg_tup hc t.pgs t.len.1 t.len.2).run pins s σ H v u Q I r h
    · exact (L2.pg_unl hc t.pgs t.len.1 t.len.2).run pins s σ H v u Q I r h⟩
  ok := fun μ H v x ρ σ ρ' st Q R r e h q => by
    cases r with
    | @tup a vs xs hs rl => exact .inl ⟨a, xs, rfl, hs, by rw [← rl.length]; exact setAll_len is vs ρ ρ' h, t.ok μ H vs xs ρ σ ρ' Q rl e h fun σ' e' w => q σ' e' w⟩
    | @ref n a hn =>
      unfold Tg.give at h
      dsimp only at h
      split at h
      · rename_i vs hl
        obtain ⟨xs, h1, h2⟩ := R.lst hn hl
        exact .inr ⟨a, xs, rfl, h1, by rw [← h2.length]; exact setAll_len is vs ρ ρ' h, t.ok μ H vs xs ρ σ ρ' Q h2 e h fun σ' e' w => q σ' e' w⟩
      · cases h
    | _ => cases h
end
end EV

/-! ## EvStmt -/
set_option maxRecDepth 100000
set_option maxHeartbeats 4000000
/-! EvStmt: comprehensions, calls, statements, defs. -/
namespace EV
open PySem L2

abbrev WF : WX := fun _ _ _ _ => False
/-! ### list comprehensions -/
section
variable {L : Lib} {X : Cx} {W : WX} {pos : Pos}
theorem wipeF_eq (ρ : Fr) : ∀ vs : List Nat, vs.foldr (fun i q => q.set i none) ρ = wipeF ρ vs
  | [] => rfl
  | i :: vs => by
    show (vs.foldr _ ρ).set i none = (wipeF ρ vs).set i none
    rw [wipeF_eq ρ vs]
theorem RepE.wipeF {K : PySem.W.Frag} {μ : List Addr} {H : Hp} {ρ : Fr} {σ : L2.St} (r : RepE K μ H ρ σ) (vs : List Nat) : RepE K μ H (EV.wipeF ρ vs) (L2.wipe σ vs) := by
  obtain ⟨ρ', e, h⟩ := r.wipe vs
  rw [wipeF_eq] at e
  rw [← e]
  exact h
/-- a clause's tests -/
def DTs (L : Lib) (X : Cx) (W : WX) (ifs : List Expr) (x : Txo) : Prop := PTs X ifs (tT X.K L.CA W (L.ts x))
theorem dts_nil : DTs L X W [] .none := ⟨fun pins s σ H Q I h => pts_nil.run pins s σ H Q I (by
  obtain ⟨μ, ρ, st, R, E, P⟩ := h
  exact P μ H true .refl R rfl)⟩
theorem dts_one {c : Expr} {t : Tx} (h : DT L X W c t) : DTs L X W [c] (.some t) := pts_one h
theorem Post.quiet {α β : Type} {K : PySem.W.Frag} {CA : Nat → Addr} {W W' : WX} {RV : List Addr → Hp → α → β → Prop} {σ : L2.St} {μ : List Addr} {H : Hp} {Q : β → Hp → Prop} {r : Res α} (h : Post K CA W RV σ μ H Q r.quiet) : Post K CA W' RV σ μ H Q r := by
  cases r with
  | ok a st => exact h
  | exc c v st => exact h.elim
  | stuck => exact h.elim
theorem post_quiet_bind {α β γ δ : Type} {K : PySem.W.Frag} {CA : Nat → Addr} {W W' : WX} {RV : List Addr → Hp → α → β → Prop} {RU : List Addr → Hp → γ → δ → Prop} {σ σ' : L2.St} {μ : List Addr} {H : Hp} {Q : δ → Hp → Prop} {r : Res α} {g : α → Store → Res γ} (h : Post K CA W RU σ μ H Q (r.quiet.bind g)) :
    Post K CA W' RV σ' μ H (fun b H1 => ∃ μ1 a st1, Le μ H μ1 H1 ∧ Rel K CA μ1 st1 H1 ∧ RV μ1 H1 a b ∧ Post K CA W RU σ μ1 H1 Q (g a st1)) r := by
  cases r with
  | ok a st =>
    have z := Post.bind (RV := RV) (r := .ok a st) h
    exact z
  | exc c v st => exact h.elim
  | stuck => exact h.elim
theorem lc_imp {wi : TI} {g : TG} {t : Tg} {x : Ex} {it : Ir} {tx : Txo} {own : List Nat} {σ : L2.St} {H : Hp} {Q : VK} {tt : TT} {te : TE}
    (gok : ∀ μ H v x ρ σ ρ' st (Q : L2.St → Hp → Prop), Rel X.K L.CA μ st H → RepV X.K μ H v x → RepE X.K μ H ρ σ → t.give v ρ st = some ρ' → (∀ σ', RepE X.K μ H ρ' σ' → (∀ vs : List Nat, (∀ i ∈ t.slots, i ∈ vs) → wipe σ' vs = wipe σ vs) → Q σ' H) → g x σ H Q)
    (hi : ∀ σ H R, tI X.K L.CA W (L.i it) σ H R → wi σ H R) (ht : ∀ σ H Q, tT X.K L.CA WF (L.ts tx) σ H Q → tt σ H Q) (he : ∀ σ H Q, tE X.K L.CA WF (L.e x) σ H Q → te σ H Q) (hsl : ∀ i ∈ t.slots, i ∈ own)
    (h : tE X.K L.CA W (L.e (.lc x t it tx own)) σ H Q) : tLc wi g tt te own σ H Q := by
  obtain ⟨μ, ρ, st, R, E, P⟩ := h
  refine hi σ H _ ⟨μ, ρ, st, R, E, (Post.bind (RV := RWk X.K L.CA) P).imp fun J H1 h1 => ?_⟩
  obtain ⟨μ1, w, st1, l1, R1, wit, P1⟩ := h1
  intro D hD
  have R2 : Rel X.K L.CA (μ1 ++ [D]) (st1 ++ [.lst []]) (upd H1 D (.lst [])) := R1.alloc hD .nil
  have l2 : Le μ1 H1 (μ1 ++ [D]) (upd H1 D (.lst [])) := .of_new hD
  have hDi : (μ1 ++ [D])[st1.length]? = some D := alloc_at R1
  have E2 := E.mono (l1.trans l2)
  refine ⟨fun i m H2 => i + m = w.len ∧ ∃ μ2 st2, Le (μ1 ++ [D]) (upd H1 D (.lst [])) μ2 H2 ∧ Rel X.K L.CA μ2 st2 H2 ∧ Post X.K L.CA W (RVal X.K) σ μ2 H2 Q (lcTurns t.give (L.ts tx) (L.e x) w (wipeF ρ own) st1.length m i st2), ⟨w.len, by omega, μ1 ++ [D], _, .refl, R2, ?_⟩, ?_⟩
  · have P1 : Post X.K L.CA W (RVal X.K) σ μ1 H1 Q (lcTurns t.give (L.ts tx) (L.e x) w (wipeF ρ own) st1.length w.len 0 (st1 ++ [.lst []])) := P1
    cases e : lcTurns t.give (L.ts tx) (L.e x) w (wipeF ρ own) st1.length w.len 0 (st1 ++ [.lst []]) with
    | ok c s2 => rw [e] at P1; exact fun μ2 H2 d l => P1 μ2 H2 d (l2.trans l)
    | exc c v s2 => rw [e] at P1; exact fun μ2 H2 d z l => P1 μ2 H2 d z (l2.trans l)
    | stuck => rw [e] at P1; exact P1
  · rintro i m H2 ⟨hm, μ2, st2, l3, R3, P3⟩
    cases m with
    | zero =>
      unfold lcTurns at P3
      split at P3
      · rename_i hf
        refine .inl ⟨?_, P3 μ2 H2 _ .refl R3 (.ref (l3.at_ hDi))⟩
        have e : i = w.len := by omega
        rw [e]
        exact wit.stop μ2 st2 H2 (l2.trans l3) R3 hf
      · exact P3.elim
    | succ r =>
      unfold lcTurns at P3
      split at P3
      · exact P3.elim
      · rename_i v hv
        obtain ⟨go, yl⟩ := wit.go μ2 st2 H2 i v (l2.trans l3) R3 (by omega) hv
        refine .inr ⟨go, fun H' => ∃ μ2' st2', Le (μ1 ++ [D]) (upd H1 D (.lst [])) μ2' H' ∧ Rel X.K L.CA μ2' st2' H' ∧ Post X.K L.CA W (RVal X.K) σ μ2' H' Q (lcTurns t.give (L.ts tx) (L.e x) w (wipeF ρ own) st1.length r (i + 1) st2'), fun H' q => ⟨r, by omega, by omega, q⟩, fun y H3 hy => ?_⟩
        obtain ⟨l4, R4, rv⟩ := yl y H3 hy
        split at P3
        · exact P3.elim
        · rename_i ρ' hρ
          refine gok μ2 H3 v y (wipeF ρ own) (wipe σ own) ρ' st2 _ R4 rv ((E2.mono (l3.trans l4)).wipeF own) hρ fun σ' E' hw => ⟨?_, ?_⟩
          · rw [hw own hsl]
            have aux : ∀ (vs ws : List Nat) (τ : L2.St), (∀ i ∈ ws, i ∈ vs) → wipe (wipe τ ws) vs = wipe τ vs := by
              intro vs ws
              induction ws with
              | nil => intro τ _; rfl
              | cons a as ih =>
                intro τ hh
                show wipe ((wipe τ as).set a none) vs = _
                rw [wipe_set (hh a List.mem_cons_self), ih τ fun i hi => hh i (List.mem_cons_of_mem _ hi)]
            exact aux own own σ fun _ h => h
          · have P3' : Post X.K L.CA W (RVal X.K) σ μ2 H3 Q ((L.ts tx ρ' st2).quiet.bind fun b st1' => if b then (L.e x ρ' st1').quiet.bind fun y st2' => match mutAt st2' st1.length with
                | some acc => if decide (acc.length < 16777216) then lcTurns t.give (L.ts tx) (L.e x) w (wipeF ρ own) st1.length r (i + 1) (st2'.set st1.length (.lst (acc ++ [y]))) else .stuck
                | none => .stuck
              else lcTurns t.give (L.ts tx) (L.e x) w (wipeF ρ own) st1.length r (i + 1) st1') := by
              revert P3
              generalize (Res.bind (L.ts tx ρ' st2).quiet _) = rr
              intro P3
              cases rr with
              | ok c s2 => exact fun μ' H' d l => P3 μ' H' d (l4.trans l)
              | exc c v s2 => exact fun μ' H' d z l => P3 μ' H' d z (l4.trans l)
              | stuck => exact P3
            refine ht σ' H3 _ ⟨μ2, ρ', st2, R4, E', (post_quiet_bind (RV := REq Bool) P3').imp fun b H4 h4 => ?_⟩
            obtain ⟨μ4, b', st4, l5, R5, eb, P4⟩ := h4
            subst eb
            cases b' with
            | false =>
              refine iteF ?_
              exact ⟨μ4, st4, (l3.trans l4).trans l5, R5, P4⟩
            | true =>
              refine iteT ?_
              refine he σ' H4 _ ⟨μ4, ρ', st4, R5, E'.mono l5, (post_quiet_bind (RV := RVal X.K) P4).imp fun z H5 h5 => ?_⟩
              obtain ⟨μ5, u, st5, l6, R6, ru, P5⟩ := h5
              have l7 : Le (μ1 ++ [D]) (upd H1 D (.lst [])) μ5 H5 := ((l3.trans l4).trans l5).trans l6
              split at P5
              · rename_i acc hacc
                obtain ⟨xs, h1, r1⟩ := R6.mut (l7.at_ hDi) hacc
                split at P5
                · rename_i hlt
                  have hlt := of_decide_eq_true hlt
                  refine ⟨xs, h1, by rw [← r1.length, sizeLine_eq]; exact hlt, μ5, _, l7.trans (.of_write h1 (by exact True.intro)), R6.write (l7.at_ hDi) (mut_at hacc) rfl h1 (by exact True.intro) (o := .lst (xs ++ [z])) (ob := .lst (acc ++ [u])) (r1.append (.cons ru .nil)), ?_⟩
                  revert P5
                  generalize lcTurns t.give (L.ts tx) (L.e x) w (wipeF ρ own) st1.length r (i + 1) _ = rr
                  intro P5
                  have lw : Le μ5 H5 μ5 (upd H5 D (.lst (xs ++ [z]))) := .of_write h1 (by exact True.intro)
                  cases rr with
                  | ok c s2 => exact fun μ' H' d l => P5 μ' H' d (lw.trans l)
                  | exc c v s2 => exact fun μ' H' d z l => P5 μ' H' d z (lw.trans l)
                  | stuck => exact P5
                · exact P5.elim
              · exact P5.elim
/-- [elt for target in iter if ..] -/
theorem d_lc {elt tg iter : Expr} {ifs : List Expr} {scope : Scope} {own : List (Str × Nat)} {x : Ex} {it : Ir} {tx : Txo} {t : Tg} {g : TG} (hc : X.calm = true) (hN : X.N.Nodup) (hi : DI L X W tg iter it) (ok : BlkOk X.N X.env.scope scope own)
    (hg : ∀ (s : Shared) (H : Hp) (C : Addr) (cl : List (Str × Addr)) (fp : List Addr), DG L.CA (X.blk s H scope (compEnvC scope cl C X.env) fp) tg t g)
    (ht : ∀ (s : Shared) (H : Hp) (C : Addr) (cl : List (Str × Addr)) (fp : List Addr), DTs L (X.blk s H scope (compEnvC scope cl C X.env) fp) WF ifs tx)
    (he : ∀ (s : Shared) (H : Hp) (C : Addr) (cl : List (Str × Addr)) (fp : List Addr), DE L (X.blk s H scope (compEnvC scope cl C X.env) fp) WF elt x) (hsl : ∀ i ∈ t.slots, i ∈ own.map (·.2)) (hs : ∀ x, foldedSetIterable iter X.env x = pure x := by intro _; rfl) :
    DE L X W (.ListComp elt [⟨tg, iter, ifs, 0⟩] scope pos) (.lc x t it tx (own.map (·.2))) :=
  PE.imp (pe_lc (tt := tT X.K L.CA WF (L.ts tx)) (te := tE X.K L.CA WF (L.e x)) hc hN hi ok (fun s H C cl fp => (hg s H C cl fp).pg) (fun s H C cl fp => ht s H C cl fp) (fun s H C cl fp => he s H C cl fp) hs) fun σ H Q h => lc_imp (hg X.s_0 X.H_0 0 [] []).ok (fun _ _ _ h => h) (fun _ _ _ h => h) (fun _ _ _ h => h) hsl h
/-! ### calls -/
/-- what a def is to its callers -/
def spM (K : PySem.W.Frag) (CA : Nat → Addr) (n : Nat) (m : List Val → Store → Res Val) : Sp := fun vs H Q E => vs.length = n ∧ ∃ μ args st, Rel K CA μ st H ∧ RepL K μ H args vs ∧ Post K CA (fun c d _ H' => E c d H') (RVal K) [] μ H Q (m args st)
structure FnAt (L : Lib) (X : Cx) (f : Str) (id k : Nat) : Prop where
  ex : ∃ (a : Addr) (fd : FuncData) (ps : List Str), X.mg f = some (.ref a) ∧ PySem.W.keepIn X.K (.ref a) = true ∧ Binds X.K fd ps [] ∧ FnOk X.prog X.w X.K X.mg X.base (L2.CX X.prog X.w) k a fd ps (spM X.K L.CA ps.length (L.cl id)) ∧
    ∀ args st, args.length ≠ ps.length → L.cl id args st = .stuck
theorem FnAt.mono {L : Lib} {X : Cx} {f : Str} {id j k : Nat} (F : FnAt L X f id j) (h : j ≤ k) : FnAt L X f id k := by
  obtain ⟨a, fd, ps, h1, h2, h3, h4, h5⟩ := F.ex
  exact ⟨a, fd, ps, h1, h2, h3, h4.mono h, h5⟩
theorem Post.wish {α β : Type} {K : PySem.W.Frag} {CA : Nat → Addr} {W W' : WX} {RV : List Addr → Hp → α → β → Prop} {σ σ' : L2.St} {μ : List Addr} {H : Hp} {Q : β → Hp → Prop} {r : Res α} (h : Post K CA W RV σ μ H Q r) (hw : ∀ c d H', W c d σ H' → W' c d σ' H') : Post K CA W' RV σ' μ H Q r := by
  cases r with
  | ok a st => exact h
  | exc c v st => exact fun μ' H' x d l R rv hd => hw _ _ _ (h μ' H' x d l R rv hd)
  | stuck => exact h
theorem d_call {f : Str} {e : Expr} {es : List Expr} {xs : Exs} {p : Pos} {id k : Nat} (F : FnAt L X f id k) (hr : Room k X.A) (tk : Takes X W) (hg : Gl X f) (ha : DA L X W (e :: es) xs)
    (hdb : (f == ("__debug__" : Str)) = false := by decide) (he : starEach (e :: es) X.env = (false, eval e X.env) :: starEach es X.env := by rfl) (hpl : (backTo pos (starEach es X.env)).any (·.1) = false := by rfl) :
    DE L X W (.Call (.Name f p) (e :: es) [] pos) (.call id xs) := by
  obtain ⟨a, fd, ps, h1, h2, h3, h4, h5⟩ := F.ex
  refine PE.imp (pe_callSD (E := WE W) h4 hr hg h1 h2 h3 .nil (fun σ => passAt tk σ) ha hdb he hpl) fun σ H Q h => ?_
  obtain ⟨μ, ρ, st, R, E, P⟩ := h
  refine ⟨μ, ρ, st, R, E, (Post.bind (RV := RVals X.K) P).imp fun vs H1 h1 => ?_⟩
  obtain ⟨μ1, args, st1, l1, R1, rv, P1⟩ := h1
  rw [List.append_nil]
  by_cases hl : args.length = ps.length
  · exact ⟨by rw [← rv.length]; exact hl, μ1, args, st1, R1, rv, P1.wish fun c d H' q => q⟩
  · rw [h5 args st1 hl] at P1
    exact P1.elim
end
/-! ### statements -/
def PostS (K : PySem.W.Frag) (CA : Nat → Addr) (W : WX) (μ : List Addr) (H : Hp) (D : Ends) : Out → Prop
  | .next ρ st => ∀ μ' H' σ', Le μ H μ' H' → Rel K CA μ' st H' → RepE K μ' H' ρ σ' → D.nx σ' H'
  | .ret v st => ∀ μ' H' x, Le μ H μ' H' → Rel K CA μ' st H' → RepV K μ' H' v x → D.rt x H'
  | .brk ρ st => ∀ μ' H' σ', Le μ H μ' H' → Rel K CA μ' st H' → RepE K μ' H' ρ σ' → D.bk σ' H'
  | .cnt ρ st => ∀ μ' H' σ', Le μ H μ' H' → Rel K CA μ' st H' → RepE K μ' H' ρ σ' → D.ct σ' H'
  | .exc c v ρ st => ∀ μ' H' σ' x d, Le μ H μ' H' → Rel K CA μ' st H' → RepE K μ' H' ρ σ' → RepV K μ' H' v x → H' d = some (.xd [(valueF, x)]) → W (.ref (CA c)) (some d) σ' H'
  | .stuck => False
def tS (K : PySem.W.Frag) (CA : Nat → Addr) (W : WX) (f : Fr → Store → Out) : TS := fun D σ H => ∃ μ ρ st, Rel K CA μ st H ∧ RepE K μ H ρ σ ∧ PostS K CA W μ H D (f ρ st)
abbrev Lib.x (L : Lib) := ex L.cl
abbrev Lib.xs (L : Lib) := exs L.cl
def DS (L : Lib) (X : Cx) (W : WX) (s : Stmt) (x : Sx) : Prop := PS X s (tS X.K L.CA W (L.x x))
def DSs (L : Lib) (X : Cx) (W : WX) (s : List Stmt) (x : List Sx) : Prop := PSs X s (tS X.K L.CA W (L.xs x))
theorem PostS.le {K : PySem.W.Frag} {CA : Nat → Addr} {W : WX} {μ μ1 : List Addr} {H H1 : Hp} {D : Ends} {o : Out} (l : Le μ H μ1 H1) (h : PostS K CA W μ H D o) : PostS K CA W μ1 H1 D o := by
  cases o with
  | next ρ st => exact fun μ' H' σ' l' => h μ' H' σ' (l.trans l')
  | ret v st => exact fun μ' H' σ' l' => h μ' H' σ' (l.trans l')
  | brk ρ st => exact fun μ' H' σ' l' => h μ' H' σ' (l.trans l')
  | cnt ρ st => exact fun μ' H' σ' l' => h μ' H' σ' (l.trans l')
  | exc c v ρ st => exact fun μ' H' σ' x d l' => h μ' H' σ' x d (l.trans l')
  | stuck => exact h
theorem PostS.out {α β : Type} {K : PySem.W.Frag} {CA : Nat → Addr} {W : WX} {RV : List Addr → Hp → α → β → Prop} {σ : L2.St} {μ : List Addr} {H : Hp} {D : Ends} {ρ : Fr} {r : Res α} {f : α → Store → Out} (h : PostS K CA W μ H D (r.out ρ f)) (E : RepE K μ H ρ σ) :
    Post K CA W RV σ μ H (fun b H1 => ∃ μ1 a st1, Le μ H μ1 H1 ∧ Rel K CA μ1 st1 H1 ∧ RV μ1 H1 a b ∧ PostS K CA W μ1 H1 D (f a st1)) r := by
  cases r with
  | ok a st => exact fun μ' H' b l R v => ⟨μ', a, st, l, R, v, PostS.le l h⟩
  | exc c v st => exact fun μ' H' x d l R rv hd => h μ' H' σ x d l R (E.mono l) rv hd
  | stuck => exact h
section
variable {L : Lib} {X : Cx} {W : WX} {pos : Pos} {e : Expr} {x : Ex} {s : Stmt} {ss : List Stmt}
theorem dss_nil : DSs L X W [] [] := by
  refine PSs.imp pss_nil fun D σ H h => ?_
  obtain ⟨μ, ρ, st, R, E, P⟩ := h
  exact P μ H σ .refl R E
theorem dss_cons {sx : Sx} {sxs : List Sx} (h1 : DS L X W s sx) (h2 : DSs L X W ss sxs) : DSs L X W (s :: ss) (sx :: sxs) := by
  refine PSs.imp (pss_cons h1 h2) fun D σ H h => ?_
  obtain ⟨μ, ρ, st, R, E, P⟩ := h
  refine ⟨μ, ρ, st, R, E, ?_⟩
  have P : PostS X.K L.CA W μ H D (match L.x sx ρ st with | .next ρ1 st1 => L.xs sxs ρ1 st1 | o => o) := P
  cases e : L.x sx ρ st with
  | next ρ1 st1 =>
    rw [e] at P
    exact fun μ' H' σ' l R' E' => ⟨μ', ρ1, st1, R', E', P.le l⟩
  | ret v st => rw [e] at P; exact P
  | brk ρ st => rw [e] at P; exact P
  | cnt ρ st => rw [e] at P; exact P
  | exc c v ρ st => rw [e] at P; exact P
  | stuck => rw [e] at P; exact P.elim
theorem ds_never : DS L X W s .never := ⟨fun pins s' σ H D I h => by
  obtain ⟨μ, ρ, st, R, E, P⟩ := h
  exact P.elim⟩
theorem ds_pass : DS L X W (.Pass pos) .pass := by
  refine PS.imp ps_pass fun D σ H h => ?_
  obtain ⟨μ, ρ, st, R, E, P⟩ := h
  exact P μ H σ .refl R E
theorem ds_brk : DS L X W (.Break pos) .brk := by
  refine PS.imp ps_break fun D σ H h => ?_
  obtain ⟨μ, ρ, st, R, E, P⟩ := h
  exact P μ H σ .refl R E
theorem ds_cnt : DS L X W (.Continue pos) .cnt := by
  refine PS.imp ps_continue fun D σ H h => ?_
  obtain ⟨μ, ρ, st, R, E, P⟩ := h
  exact P μ H σ .refl R E
theorem ds_retn : DS L X W (.Return none pos) .retn := by
  refine PS.imp ps_retN fun D σ H h => ?_
  obtain ⟨μ, ρ, st, R, E, P⟩ := h
  exact P μ H _ .refl R .non
theorem ds_ret (h : DE L X W e x) : DS L X W (.Return (some e) pos) (.ret x) := by
  refine PS.imp (ps_ret h) fun D σ H h => ?_
  obtain ⟨μ, ρ, st, R, E, P⟩ := h
  refine ⟨μ, ρ, st, R, E, (PostS.out (RV := RVal X.K) P E).imp fun w H1 h1 => ?_⟩
  obtain ⟨μ1, v, st1, l1, R1, rv, P1⟩ := h1
  exact P1 μ1 H1 w .refl R1 rv
theorem ds_exp (h : DE L X W e x) (hs : swapsWith e none pos.line X.env = pure false := by rfl) : DS L X W (.Expr e pos) (.exp x) := by
  refine PS.imp (ps_expr h hs) fun D σ H h => ?_
  obtain ⟨μ, ρ, st, R, E, P⟩ := h
  refine ⟨μ, ρ, st, R, E, (PostS.out (RV := RVal X.K) P E).imp fun w H1 h1 => ?_⟩
  obtain ⟨μ1, v, st1, l1, R1, rv, P1⟩ := h1
  exact P1 μ1 H1 σ .refl R1 (E.mono l1)
theorem ds_ite {c : Expr} {t : Tx} {a b : List Stmt} {xa xb : List Sx} (hc : DT L X W c t) (ha : DSs L X W a xa) (hb : DSs L X W b xb) : DS L X W (.If c a b pos) (.ite t xa xb) := by
  refine PS.imp (ps_if hc ha hb) fun D σ H h => ?_
  obtain ⟨μ, ρ, st, R, E, P⟩ := h
  refine ⟨μ, ρ, st, R, E, (PostS.out (RV := REq Bool) P E).imp fun w H1 h1 => ?_⟩
  obtain ⟨μ1, v, st1, l1, R1, rv, P1⟩ := h1
  subst rv
  cases v with
  | true => exact iteT ⟨μ1, ρ, st1, R1, E.mono l1, P1⟩
  | false => exact iteF ⟨μ1, ρ, st1, R1, E.mono l1, P1⟩
theorem set_imp {te : TE} {i : Nat} {D : Ends} {σ : L2.St} {H : Hp} (hi : ∀ σ H Q, tE X.K L.CA W (L.e x) σ H Q → te σ H Q) (h : tS X.K L.CA W (L.x (.set i x)) D σ H) : tAsg te (gName i) D σ H := by
  obtain ⟨μ, ρ, st, R, E, P⟩ := h
  refine hi σ H _ ⟨μ, ρ, st, R, E, (PostS.out (RV := RVal X.K) P E).imp fun w H1 h1 => ?_⟩
  obtain ⟨μ1, v, st1, l1, R1, rv, P1⟩ := h1
  exact P1 μ1 H1 _ .refl R1 ((E.mono l1).set rv)
theorem ds_set (i : Nat) {n : Str} {pos' : Pos} (hN : X.N.Nodup) (hi : X.N[i]? = some n) (hx : Loc X.env.scope n) (hf : X.fn n = true ∨ X.env.scope.names.lookup n = some .local) (h : DE L X W e x) (hs : swapsWith e (some (.Name n pos')) pos.line X.env = pure false := by rfl) :
    DS L X W (.Assign [.Name n pos'] e pos) (.set i x) := PS.imp (ps_set hN hi hx h hs hf) fun D σ H h => set_imp (fun _ _ _ h => h) h
theorem ds_setLc (i : Nat) {n : Str} {pos' spos : Pos} {elt tg iter : Expr} {ifs : List Expr} {scope : Scope} {own : List (Str × Nat)} {it : Ir} {tx : Txo} {t : Tg} {g : TG} (hc : X.calm = true) (hN : X.N.Nodup) (hy : X.N[i]? = some n) (hyl : X.env.scope.names.lookup n = some .local)
    (hsw : swapsWith (.ListComp elt [⟨tg, iter, ifs, 0⟩] scope pos) (some (.Name n pos')) spos.line X.env = pure true) (hi : DI L X W tg iter it) (ok : BlkOk X.N X.env.scope scope own)
    (hg : ∀ (s : Shared) (H : Hp) (C : Addr) (cl : List (Str × Addr)) (fp : List Addr), DG L.CA (X.blk s H scope (compEnvC scope cl C X.env) fp) tg t g)
    (ht : ∀ (s : Shared) (H : Hp) (C : Addr) (cl : List (Str × Addr)) (fp : List Addr), DTs L (X.blk s H scope (compEnvC scope cl C X.env) fp) WF ifs tx)
    (he : ∀ (s : Shared) (H : Hp) (C : Addr) (cl : List (Str × Addr)) (fp : List Addr), DE L (X.blk s H scope (compEnvC scope cl C X.env) fp) WF elt x) (hsl : ∀ i ∈ t.slots, i ∈ own.map (·.2)) (hs : ∀ x, foldedSetIterable iter X.env x = pure x := by intro _; rfl) :
    DS L X W (.Assign [.Name n pos'] (.ListComp elt [⟨tg, iter, ifs, 0⟩] scope pos) spos) (.set i (.lc x t it tx (own.map (·.2)))) :=
  PS.imp (ps_setLc (tt := tT X.K L.CA WF (L.ts tx)) (te := tE X.K L.CA WF (L.e x)) hc hN hy hyl hsw hi ok (fun s H C cl fp => (hg s H C cl fp).pg) (fun s H C cl fp => ht s H C cl fp) (fun s H C cl fp => he s H C cl fp) hs) fun D σ H h =>
    set_imp (fun σ H Q h => lc_imp (hg X.s_0 X.H_0 0 [] []).ok (fun _ _ _ h => h) (fun _ _ _ h => h) (fun _ _ _ h => h) hsl h) h
theorem ds_unp {is : List Nat} {g : TG} {tg : Expr} (h : DE L X W e x) (hg : DG L.CA X tg (.tp is) g) (hs : swapsWithSole [tg] e pos.line X.env = pure false := by rfl) (hw : swappedStores [tg] e X.env = pure none := by rfl)
    (h1 : (assignEach [tg] X.env).map (·.2) = [assign tg X.env] := by rfl) : DS L X W (.Assign [tg] e pos) (.unp is x) := by
  refine PS.imp (ps_asg h hg.pg hs hw h1) fun D σ H h => ?_
  obtain ⟨μ, ρ, st, R, E, P⟩ := h
  refine ⟨μ, ρ, st, R, E, (PostS.out (RV := RVal X.K) P E).imp fun w H1 h1 => ?_⟩
  obtain ⟨μ1, v, st1, l1, R1, rv, P1⟩ := h1
  split at P1
  · rename_i ρ' hρ
    exact hg.ok μ1 H1 v w ρ σ ρ' st1 _ R1 rv (E.mono l1) hρ fun σ' E' _ => P1 μ1 H1 σ' .refl R1 E'
  · exact P1.elim
/-! o[i] = v -/
theorem put_rep {K : PySem.W.Frag} {μ : List Addr} {H : Hp} {kvs : List (Key × Val)} {kxs : List (Key × V)} {k : Key} {v : Val} {z : V} (h1 : kvs.map (·.1) = kxs.map (·.1)) (h2 : RepL K μ H (kvs.map (·.2)) (kxs.map (·.2))) (r : RepV K μ H v z) :
    (putKV kvs k v).map (·.1) = (putK kxs k z).map (·.1) ∧ RepL K μ H ((putKV kvs k v).map (·.2)) ((putK kxs k z).map (·.2)) := by
  have ha : (kvs.any fun kv => decide (kv.1 = k)) = (kxs.any fun kv => decide (kv.1 = k)) := by
    rw [(find_rep (k := k) h1 h2).2, valV_any]
  unfold putKV putK
  rw [ha]
  split
  · rename_i hh
    clear hh ha
    induction kvs generalizing kxs with
    | nil => cases kxs with
      | nil => exact ⟨rfl, .nil⟩
      | cons a b => simp at h1
    | cons p ps ih => cases kxs with
      | nil => simp at h1
      | cons q qs =>
        rw [List.map_cons, List.map_cons] at h1
        obtain ⟨e1, e2⟩ := List.cons.inj h1
        cases h2 with
        | cons ra rb =>
          obtain ⟨i1, i2⟩ := ih e2 rb
          rw [List.map_cons, List.map_cons, List.map_cons, List.map_cons, List.map_cons, List.map_cons, i1]
          by_cases hk : p.1 = k
          · rw [if_pos hk, if_pos (e1.symm.trans hk)]
            exact ⟨by rw [e1], .cons r i2⟩
          · rw [if_neg hk, if_neg (fun z => hk (e1.trans z))]
            exact ⟨by rw [e1], .cons ra i2⟩
  · rw [List.map_append, List.map_append, List.map_append, List.map_append, h1]
    exact ⟨rfl, h2.append (.cons r .nil)⟩
def rSetA (K : PySem.W.Frag) (CA : Nat → Addr) : TSet := fun o i v H Q => ∃ μ o' i' v' st st', Rel K CA μ st H ∧ RepV K μ H o' o ∧ RepV K μ H i' i ∧ RepV K μ H v' v ∧ setiV o' i' v' st = some st' ∧ ∀ μ' H', Le μ H μ' H' → Rel K CA μ' st' H' → Q H'
theorem set_any {CA : Nat → Addr} (hu : X.A.units + 64 < cLine) : PSet X (rSetA X.K CA) := by
  intro pins s σ H o i v ov iv u Q I ro ri rv h
  obtain ⟨μ, o', i', v', st, st', R, qo, qi, qv, e, q⟩ := h
  cases qo with
  | @ref n a hn =>
    unfold setiV at e
    dsimp only at e
    split at e
    · rename_i vs hs
      obtain ⟨xs, h1, h2⟩ := R.mut hn (show mutAt st n = some vs by unfold mutAt; rw [hs])
      cases qi with
      | int j =>
        dsimp only at e
        split at e
        · rename_i k hk
          cases e
          refine set_list pins s σ H _ _ v ov iv u Q I ro ri rv ⟨a, xs, j, k, rfl, rfl, h1, by rw [← h2.length]; exact hk, ?_⟩
          exact q μ _ (.of_write h1 (by exact True.intro)) (R.write hn (by assumption) rfl h1 (by exact True.intro) (o := .lst (xs.set k v)) (ob := .lst (vs.set k v')) (h2.set qv))
        · cases e
      | _ => cases e
    · rename_i kvs hs
      obtain ⟨kxs, h1, h2, h3⟩ := R.dct hn hs
      split at e
      · rename_i hl
        have hl := of_decide_eq_true hl
        have hlen : kvs.length = kxs.length := by simpa using congrArg List.length h2
        have dk : ∀ kk : Key, i = kV kk → st' = st.set n (.dct (putKV kvs kk v')) → wpAny (model X.prog X.w) X.A (setItem ov iv u) (fun _ s' => ∃ H', Inv X pins σ H' s' ∧ Q H') X.xe s := fun kk ei es => by
          obtain ⟨p1, p2⟩ := put_rep (k := kk) h2 h3 qv
          refine set_dict (by omega) pins s σ H _ _ v ov iv u Q I ro ri rv ⟨a, upd H a (.dK (putK kxs kk v)), rfl, ?_, ?_⟩
          · rw [ei]
            exact DPut.k h1 (by rw [sizeLine_eq]; omega)
          · rw [es] at q
            exact q μ _ (.of_write h1 (by exact True.intro)) (R.write hn (by assumption) rfl h1 (by exact True.intro) (o := .dK (putK kxs kk v)) (ob := .dct (putKV kvs kk v')) ⟨p1, p2⟩)
        cases qi with
        | int j => exact dk (.inl j) rfl (Option.some.inj e).symm
        | str z => exact dk (.inr z) rfl (Option.some.inj e).symm
        | _ => cases e
      · cases e
    · cases e
  | _ => cases e
theorem ds_seti {o i : Expr} {xo xi : Ex} {pos' : Pos} (hu : X.A.units + 64 < cLine) (ho : DE L X W o xo) (hi : DE L X W i xi) (h : DE L X W e x)
    (ha : ∀ v, assign (.Subscript o i pos') X.env v = (do let ov ← holding [v] (eval o X.env); let iv ← holding [v, ov] (eval i X.env); standAt pos'; holding [v, ov, iv] (setItem ov iv v); release [v, ov, iv] []) := by intro _; rfl)
    (hs : swapsWithSole [.Subscript o i pos'] e pos.line X.env = pure false := by rfl) (hw : swappedStores [.Subscript o i pos'] e X.env = pure none := by rfl)
    (h1 : (assignEach [.Subscript o i pos'] X.env).map (·.2) = [assign (.Subscript o i pos') X.env] := by rfl) : DS L X W (.Assign [.Subscript o i pos'] e pos) (.seti xo xi x) := by
  refine PS.imp (ps_asg h (pg_sub ho hi (set_any (CA := L.CA) hu) ha) hs hw h1) fun D σ H h => ?_
  obtain ⟨μ, ρ, st, R, E, P⟩ := h
  refine ⟨μ, ρ, st, R, E, (PostS.out (RV := RVal X.K) P E).imp fun w H1 h1 => ?_⟩
  obtain ⟨μ1, v, st1, l1, R1, rv, P1⟩ := h1
  refine ⟨μ1, ρ, st1, R1, E.mono l1, (PostS.out (RV := RVal X.K) P1 (E.mono l1)).imp fun w2 H2 h2 => ?_⟩
  obtain ⟨μ2, v2, st2, l2, R2, rv2, P2⟩ := h2
  refine ⟨μ2, ρ, st2, R2, E.mono (l1.trans l2), (PostS.out (RV := RVal X.K) P2 (E.mono (l1.trans l2))).imp fun w3 H3 h3 => ?_⟩
  obtain ⟨μ3, v3, st3, l3, R3, rv3, P3⟩ := h3
  split at P3
  · rename_i st4 e4
    exact ⟨μ3, v2, v3, v, st3, st4, R3, rv2.mono l3, rv3, rv.mono (l2.trans l3), e4, fun μ4 H4 l4 R4 => P3 μ4 H4 σ l4 R4 (E.mono (((l1.trans l2).trans l3).trans l4))⟩
  · exact P3.elim
/-! ### for -/
theorem ds_for {tg iter : Expr} {body : List Stmt} {t : Tg} {g : TG} {it : Ir} {sxs : List Sx} (hp : PassesOwn (model X.prog X.w) X.A X.env X.xe) (hc : X.calm = true) (hi : DI L X W tg iter it) (hg : DG L.CA X tg t g) (hb : DSs L X W body sxs)
    (hs : ∀ x, foldedSetIterable iter X.env x = pure x := by intro _; rfl) : DS L X W (.For tg iter body [] pos) (.loop t it sxs) := by
  refine PS.imp (ps_for hp hc hi hg.pg hb hs) fun D σ H h => ?_
  obtain ⟨μ, ρ, st, R, E, P⟩ := h
  refine ⟨μ, ρ, st, R, E, (PostS.out (RV := RWk X.K L.CA) P E).imp fun J H1 h1 => ?_⟩
  obtain ⟨μ1, w, st1, l1, R1, wit, P1⟩ := h1
  refine ⟨fun i m σ2 H2 => i + m = w.len ∧ ∃ μ2 ρ2 st2, Le μ1 H1 μ2 H2 ∧ Rel X.K L.CA μ2 st2 H2 ∧ RepE X.K μ2 H2 ρ2 σ2 ∧ PostS X.K L.CA W μ2 H2 D (forTurns t.give (L.xs sxs) w m i ρ2 st2), ⟨w.len, by omega, μ1, ρ, st1, .refl, R1, E.mono l1, P1⟩, ?_⟩
  rintro i m σ2 H2 ⟨hm, μ2, ρ2, st2, l2, R2, E2, P2⟩
  cases m with
  | zero =>
    unfold forTurns at P2
    split at P2
    · rename_i hf
      refine .inl ⟨?_, P2 μ2 H2 σ2 .refl R2 E2⟩
      have e : i = w.len := by omega
      rw [e]
      exact wit.stop μ2 st2 H2 l2 R2 hf
    · exact P2.elim
  | succ r =>
    unfold forTurns at P2
    split at P2
    · exact P2.elim
    · rename_i v hv
      obtain ⟨go, yl⟩ := wit.go μ2 st2 H2 i v l2 R2 (by omega) hv
      refine .inr ⟨go, fun σ' H' => ∃ μ' ρ' st', Le μ1 H1 μ' H' ∧ Rel X.K L.CA μ' st' H' ∧ RepE X.K μ' H' ρ' σ' ∧ PostS X.K L.CA W μ' H' D (forTurns t.give (L.xs sxs) w r (i + 1) ρ' st'), fun σ' H' q => ⟨r, by omega, by omega, q⟩, fun y H3 hy => ?_⟩
      obtain ⟨l3, R3, rv⟩ := yl y H3 hy
      split at P2
      · exact P2.elim
      · rename_i ρ' hρ
        refine hg.ok μ2 H3 v y ρ2 σ2 ρ' st2 _ R3 rv (E2.mono l3) hρ fun σ' E' _ => ?_
        refine ⟨μ2, ρ', st2, R3, E', ?_⟩
        have P3 := P2.le l3
        cases eo : L.xs sxs ρ' st2 with
        | next ρ4 st4 =>
          rw [eo] at P3
          exact fun μ4 H4 σ4 l4 R4 E4 => ⟨μ4, ρ4, st4, (l2.trans l3).trans l4, R4, E4, P3.le l4⟩
        | cnt ρ4 st4 =>
          rw [eo] at P3
          exact fun μ4 H4 σ4 l4 R4 E4 => ⟨μ4, ρ4, st4, (l2.trans l3).trans l4, R4, E4, P3.le l4⟩
        | brk ρ4 st4 => rw [eo] at P3; exact P3
        | ret v st4 => rw [eo] at P3; exact P3
        | exc c v ρ4 st4 => rw [eo] at P3; exact P3
        | stuck => rw [eo] at P3; exact P3
/-! ### for over a dict: it is locked meanwhile -/
theorem pv_ok {ρ : Fr} {st : Store} {cl : Cl} : ∀ {x : Ex} {v : Val}, pv ρ x = some v → ev cl x ρ st = .ok v st := fun {x v} h => by
  unfold pv at h
  split at h
  · rename_i i
    split at h
    · rename_i u e
      cases h
      show (match ρ[i]? with | some (some v) => Res.ok v st | _ => .stuck) = _
      rw [e]
    · cases h
  · rename_i i k
    split at h
    · rename_i vs e
      show ((match ρ[i]? with | some (some v) => Res.ok v st | _ => .stuck).bind fun v st1 => (Res.ok (Val.int k) st1).bind fun u st2 => liftO ((idxV st2 v u).map fun w => (w, st2))) = _
      rw [e]
      show liftO ((atI vs k).map fun w => (w, st)) = _
      rw [h]
      rfl
    · cases h
  · cases h
theorem ds_forD {tg iter : Expr} {body : List Stmt} {t : Tg} {g : TG} {sxs : List Sx} (hp : PassesOwn (model X.prog X.w) X.A X.env X.xe) (hc : X.calm = true) (hi : DE L X W iter x) (hg : DG L.CA X tg t g) (hb : DSs L X W body sxs)
    (hs : ∀ x, foldedSetIterable iter X.env x = pure x := by intro _; rfl) : DS L X W (.For tg iter body [] pos) (.loopd t x sxs) := by
  refine PS.imp (ps_lock (ps_for hp hc (pi_keys hi) hg.pg hb hs)) fun D σ H h => ?_
  obtain ⟨μ, ρ, st, R, E, P⟩ := h
  have P : PostS X.K L.CA W μ H D (match pv ρ x with
    | some (.ref n) => match st[n]? with
      | some (.dct kvs) => thaw n (forTurns t.give (L.xs sxs) (.tup (kvs.map fun kv => keyV kv.1)) kvs.length 0 ρ (st.set n (.frd kvs)))
      | _ => .stuck
    | _ => .stuck) := P
  split at P
  · rename_i n hpv
    split at P
    · rename_i kvs hn
      obtain ⟨a, hm, _⟩ := R.ob n _ hn
      obtain ⟨kxs, h1, h2, h3⟩ := R.dct hm hn
      refine ⟨a, .dK kxs, h1, True.intro, fun od => ?_⟩
      obtain ⟨l1, R1⟩ := R.lock od hm hn h1 h2 h3
      have hfr : (upd H a (.frz od (.dK kxs))) a = some (.frz od (.dK kxs)) := upd_same
      have hlen : kvs.length = kxs.length := by simpa using congrArg List.length h2
      refine ⟨μ, ρ, st.set n (.frd kvs), R1, E.mono l1, ?_⟩
      show Post X.K L.CA W (RVal X.K) σ μ (upd H a (.frz od (.dK kxs))) _ (ev L.cl x ρ (st.set n (.frd kvs)))
      rw [pv_ok hpv]
      intro μ' H' b l' R' rb
      cases rb with
      | ref hb' =>
      have ea : a = _ := Option.some.inj ((l'.at_ hm).symm.trans hb')
      subst ea
      have hfr' := l'.frz _ _ _ hfr
      refine ⟨a, od, rfl, .inl ⟨kxs, hfr', ?_⟩⟩
      have wit : Wit X.K L.CA μ' H' (.tup (kvs.map fun kv => keyV kv.1)) (Itk a od kxs) := wit_dct hfr' h2
      have hwl : (Wk.tup (kvs.map fun kv => keyV kv.1)).len = kvs.length := List.length_map _
      -- what the ends want, unlocked
      have fin : ∀ {o : Out} {μ2 : List Addr} {H2 : Hp}, Le μ' H' μ2 H2 → PostS X.K L.CA W μ H D (thaw n o) → PostS X.K L.CA W μ2 H2 ⟨fun σ' H' => H' a = some (.frz od (.dK kxs)) ∧ D.nx σ' (upd H' a (.dK kxs)), fun v H' => H' a = some (.frz od (.dK kxs)) ∧ D.rt v (upd H' a (.dK kxs)), fun σ' H' => H' a = some (.frz od (.dK kxs)) ∧ D.bk σ' (upd H' a (.dK kxs)), fun σ' H' => H' a = some (.frz od (.dK kxs)) ∧ D.ct σ' (upd H' a (.dK kxs))⟩ o := by
        intro o μ2 H2 l2 q
        have out : ∀ {μ3 : List Addr} {H3 : Hp} {st3 st4 : Store}, Le μ2 H2 μ3 H3 → Rel X.K L.CA μ3 st3 H3 → thawS n st3 = some st4 → H3 a = some (.frz od (.dK kxs)) ∧ Le μ H μ3 (upd H3 a (.dK kxs)) ∧ Le0 μ3 H3 μ3 (upd H3 a (.dK kxs)) ∧ Rel X.K L.CA μ3 st4 (upd H3 a (.dK kxs)) := by
          intro μ3 H3 st3 st4 l3 R3 e3
          have lall := (l'.trans l2).trans l3
          have f3 := lall.frz _ _ _ hfr
          unfold thawS at e3
          split at e3
          · rename_i kvs3 hs3
            cases e3
            have l0 : Le0 μ3 H3 μ3 (upd H3 a (.dK kxs)) := .of_unlock f3
            refine ⟨f3, ⟨(l1.trans lall).pre, fun p xs h => l0.tup p xs ((l1.trans lall).tup p xs h), (fun p ob u h => ?_), fun p F h => ?_⟩, l0, R3.unlock (lall.at_ hm) hs3 f3⟩
            · have ne : p ≠ a := fun z => by rw [z, h1] at h; cases h
              rw [upd_ne ne]
              exact lall.frz p ob u (by rw [upd_ne ne]; exact h)
            · have ne : p ≠ a := fun z => by rw [z, h1] at h; cases h
              rw [upd_ne ne]
              exact lall.ext p F (by rw [upd_ne ne]; exact h)
          · cases e3
        cases o with
        | next ρ3 st3 =>
          unfold thaw at q
          dsimp only at q
          split at q
          · rename_i st4 e4
            intro μ3 H3 σ3 l3 R3 E3
            obtain ⟨f3, l4, l0, R4⟩ := out l3 R3 e4
            exact ⟨f3, q μ3 _ σ3 l4 R4 ⟨E3.len, fun i v h => let ⟨y, hy, ry⟩ := E3.at_ i v h; ⟨y, hy, RepV.mono0 l0 ry⟩⟩⟩
          · exact q.elim
        | ret v st3 =>
          unfold thaw at q
          dsimp only at q
          split at q
          · rename_i st4 e4
            intro μ3 H3 y l3 R3 ry
            obtain ⟨f3, l4, l0, R4⟩ := out l3 R3 e4
            exact ⟨f3, q μ3 _ y l4 R4 (RepV.mono0 l0 ry)⟩
          · exact q.elim
        | brk _ _ => exact q.elim
        | cnt _ _ => exact q.elim
        | exc _ _ _ _ => exact q.elim
        | stuck => exact q.elim
      have P0 := fin .refl P
      clear P
      revert P0
      generalize (⟨fun σ' H' => H' a = some (.frz od (.dK kxs)) ∧ D.nx σ' (upd H' a (.dK kxs)), fun v H' => H' a = some (.frz od (.dK kxs)) ∧ D.rt v (upd H' a (.dK kxs)), fun σ' H' => H' a = some (.frz od (.dK kxs)) ∧ D.bk σ' (upd H' a (.dK kxs)), fun σ' H' => H' a = some (.frz od (.dK kxs)) ∧ D.ct σ' (upd H' a (.dK kxs))⟩ : Ends) = D2
      intro P0
      refine ⟨fun i m σ2 H2 => i + m = kvs.length ∧ ∃ μ2 ρ2 st2, Le μ' H' μ2 H2 ∧ Rel X.K L.CA μ2 st2 H2 ∧ RepE X.K μ2 H2 ρ2 σ2 ∧ PostS X.K L.CA W μ2 H2 D2 (forTurns t.give (L.xs sxs) (.tup (kvs.map fun kv => keyV kv.1)) m i ρ2 st2), ⟨kvs.length, by omega, μ', ρ, _, .refl, R', (E.mono l1).mono l', P0⟩, ?_⟩
      rintro i m σ2 H2 ⟨hm2, μ2, ρ2, st2, l2, R2, E2, P2⟩
      cases m with
      | zero =>
        unfold forTurns at P2
        split at P2
        · rename_i hf
          refine .inl ⟨?_, P2 μ2 H2 σ2 .refl R2 E2⟩
          have e : i = (Wk.tup (kvs.map fun kv => keyV kv.1)).len := by rw [hwl]; omega
          rw [e]
          exact wit.stop μ2 st2 H2 l2 R2 hf
        · exact P2.elim
      | succ r =>
        unfold forTurns at P2
        split at P2
        · exact P2.elim
        · rename_i v hv
          obtain ⟨go, yl⟩ := wit.go μ2 st2 H2 i v l2 R2 (by rw [hwl]; omega) hv
          refine .inr ⟨go, fun σ' H3 => ∃ μ3 ρ3 st3, Le μ' H' μ3 H3 ∧ Rel X.K L.CA μ3 st3 H3 ∧ RepE X.K μ3 H3 ρ3 σ' ∧ PostS X.K L.CA W μ3 H3 D2 (forTurns t.give (L.xs sxs) (.tup (kvs.map fun kv => keyV kv.1)) r (i + 1) ρ3 st3), fun σ' H' q => ⟨r, by omega, by omega, q⟩, fun y H3 hy => ?_⟩
          obtain ⟨l3, R3, rv⟩ := yl y H3 hy
          split at P2
          · exact P2.elim
          · rename_i ρ' hρ
            refine hg.ok μ2 H3 v y ρ2 σ2 ρ' st2 _ R3 rv (E2.mono l3) hρ fun σ' E' _ => ?_
            refine ⟨μ2, ρ', st2, R3, E', ?_⟩
            have P3 := P2.le l3
            cases eo : L.xs sxs ρ' st2 with
            | next ρ4 st4 =>
              rw [eo] at P3
              exact fun μ4 H4 σ4 l4 R4 E4 => ⟨μ4, ρ4, st4, (l2.trans l3).trans l4, R4, E4, P3.le l4⟩
            | cnt ρ4 st4 =>
              rw [eo] at P3
              exact fun μ4 H4 σ4 l4 R4 E4 => ⟨μ4, ρ4, st4, (l2.trans l3).trans l4, R4, E4, P3.le l4⟩
            | brk ρ4 st4 => rw [eo] at P3; exact P3
            | ret v st4 => rw [eo] at P3; exact P3
            | exc c v ρ4 st4 => rw [eo] at P3; exact P3
            | stuck => rw [eo] at P3; exact P3
    · exact P.elim
  · exact P.elim
end
/-! ### a def -/
section
variable {L : Lib} {P : Program} {w : World} {K : PySem.W.Frag} {mg : Str → Option Value} {base : Heap}
theorem fn_ok {name qual : Str} {st : Stmt} {f : Addr} {fd : FuncData} {N ps : List Str} {k : Nat} {sxs : List Sx} {m : List Val → Store → Res Val} (F : Fun K name qual st f fd) (S : FnScope N ps (defScope st))
    (hm : ∀ args s, m args s = if args.length = ps.length then runB L.cl N.length sxs args s else .stuck)
    (hb : ∀ (cdv : Value) (A : Around) (outer : List Env) (s : Shared) (H : Hp) (E : XK), Room k (A.deeper (PyProof.Rows.envOfC qual (defScope st) s.heap.objs.size f cdv)) →
      DSs L (cxOf (L2.CX P w) P w K mg base N qual (defScope st) f cdv A outer s H E) (fun c d _ H => E c d H) (defBody st) sxs) :
    FnOk P w K mg base (L2.CX P w) (k + 1) f fd ps (spM K L.CA ps.length m) := by
  refine F.okX S (fun vs H Q E h => h.1) fun cdv A outer s H vs Q E hr h => ⟨_, hb cdv A outer s H E hr, ?_⟩
  obtain ⟨hl, μ, args, st', R, rv, q⟩ := h
  refine ⟨μ, args.map some ++ List.replicate (N.length - args.length) none, st', R, ?_, ?_⟩
  · have e1 := rv.length
    refine ⟨?_, fun i v h => ?_⟩
    · unfold L2.start
      rw [List.length_append, List.length_append, List.length_map, List.length_map, List.length_replicate, List.length_replicate, e1]
    · unfold L2.start
      by_cases hi : i < args.length
      · rw [List.getElem?_append_left (by simpa using hi), List.getElem?_map] at h
        cases e : args[i]? with
        | none => rw [e] at h; cases h
        | some u =>
          rw [e] at h
          cases h
          obtain ⟨y, hy, r⟩ := rv.get e
          exact ⟨y, by rw [List.getElem?_append_left (by simp; omega), List.getElem?_map, hy]; rfl, r⟩
      · rw [List.getElem?_append_right (by simpa using hi), List.getElem?_replicate] at h
        split at h <;> cases h
  · rw [hm, if_pos (by rw [rv.length]; exact hl)] at q
    unfold runB at q
    have q : Post K L.CA (fun c d _ H' => E c d H') (RVal K) [] μ H Q (match L.xs sxs (args.map some ++ List.replicate (N.length - args.length) none) st' with
      | .next _ st => .ok .non st
      | .ret v st => .ok v st
      | .exc c v _ st => .exc c v st
      | _ => .stuck) := q
    show PostS K L.CA (fun c d _ H => E c d H) μ H { nx := fun _ H' => Q .non H', rt := Q } (L.xs sxs (args.map some ++ List.replicate (N.length - args.length) none) st')
    cases eo : L.xs sxs (args.map some ++ List.replicate (N.length - args.length) none) st' with
    | next ρ st => rw [eo] at q; exact fun μ' H' σ' l R' E' => q μ' H' _ l R' .non
    | ret v st => rw [eo] at q; exact q
    | exc c v ρ st => rw [eo] at q; exact fun μ' H' σ' x d l R' _ rv hd => q μ' H' x d l R' rv hd
    | brk ρ st => rw [eo] at q; exact q.elim
    | cnt ρ st => rw [eo] at q; exact q.elim
    | stuck => rw [eo] at q; exact q.elim
end
end EV

/-! ## EvBlt -/
set_option maxRecDepth 100000
set_option maxHeartbeats 4000000
/-! EvBlt: built-in functions and methods. -/
namespace EV
open PySem L2

section
variable {K : PySem.W.Frag} {CA : Nat → Addr} {μ : List Addr} {H : Hp} {st : Store}
theorem ints_rep : ∀ {vs : List Val} {xs : List V} {ns : List Int}, RepL K μ H vs xs → intsOf vs = some ns → xs = ns.map V.int ∧ vs = ns.map Val.int
  | _, _, _, .nil, e => by cases e; exact ⟨rfl, rfl⟩
  | _, _, _, .cons h t, e => by
    cases h <;> first
      | (cases e; done)
      | (obtain ⟨ns, h1, rfl⟩ := Option.map_eq_some_iff.mp e
         obtain ⟨e1, e2⟩ := ints_rep t h1
         exact ⟨by rw [e1]; rfl, by rw [e2]; rfl⟩)
theorem bools_rep : ∀ {vs : List Val} {xs : List V} {ns : List Bool}, RepL K μ H vs xs → boolsOf vs = some ns → xs = ns.map V.bl
  | _, _, _, .nil, e => by cases e; rfl
  | _, _, _, .cons h t, e => by
    cases h <;> first
      | (cases e; done)
      | (obtain ⟨ns, h1, rfl⟩ := Option.map_eq_some_iff.mp e
         rw [bools_rep t h1]; rfl)
theorem strs_rep : ∀ {vs : List Val} {xs : List V} {ns : List Str}, RepL K μ H vs xs → strsOf vs = some ns → xs = ns.map V.str
  | _, _, _, .nil, e => by cases e; rfl
  | _, _, _, .cons h t, e => by
    cases h <;> first
      | (cases e; done)
      | (obtain ⟨ns, h1, rfl⟩ := Option.map_eq_some_iff.mp e
         rw [strs_rep t h1]; rfl)
theorem reps_int : ∀ ns : List Int, RepL K μ H (ns.map Val.int) (ns.map V.int)
  | [] => .nil
  | n :: ns => .cons (.int n) (reps_int ns)
theorem reps_str : ∀ ns : List Str, RepL K μ H (ns.map Val.str) (ns.map V.str)
  | [] => .nil
  | n :: ns => .cons (.str n) (reps_str ns)
/-- sorted lists of one content are one -/
theorem sort_uniq {α : Type} {le : α → α → Bool} (anti : ∀ a b, le a b = true → le b a = true → a = b) : ∀ {l m : List α}, l.Pairwise (fun a b => le a b = true) → m.Pairwise (fun a b => le a b = true) → l.Perm m → l = m
  | [], m, _, _, p => (List.Perm.eq_nil p.symm).symm
  | x :: l, m, hl, hm, p => by
    cases m with
    | nil => exact absurd p.length_eq (by simp)
    | cons y m =>
      have e : x = y := by
        rcases List.mem_cons.mp (p.mem_iff.mp (List.mem_cons_self (a := x) (l := l))) with e | h1
        · exact e
        · rcases List.mem_cons.mp (p.mem_iff.mpr (List.mem_cons_self (a := y) (l := m))) with e | h2
          · exact e.symm
          · exact anti x y ((List.pairwise_cons.mp hl).1 y h2) ((List.pairwise_cons.mp hm).1 x h1)
      subst e
      rw [sort_uniq anti (List.pairwise_cons.mp hl).2 (List.pairwise_cons.mp hm).2 p.cons_inv]
theorem sortI_uniq {ns ms : List Int} (p : ms.Perm ns) (h : ms.Pairwise (· ≤ ·)) : ms = sortI ns := by
  refine sort_uniq (le := fun a b => decide (a ≤ b)) (fun a b h1 h2 => ?_) (h.imp fun h => decide_eq_true h) ?_ (p.trans (List.mergeSort_perm ns _).symm)
  · have := of_decide_eq_true h1
    have := of_decide_eq_true h2
    omega
  · exact List.pairwise_mergeSort (fun a b c h1 h2 => by simp at *; omega) (fun a b => by simp; omega) ns
theorem leS_total (a b : Str) : (leS a b || leS b a) = true := by
  unfold leS
  rw [Bool.or_eq_true, Bool.not_eq_true', Bool.not_eq_true', decide_eq_false_iff_not, decide_eq_false_iff_not]
  by_cases h : a.cps.toList < b.cps.toList
  · exact .inl (List.lt_asymm h)
  · exact .inr h
theorem leS_trans (a b c : Str) (h1 : leS a b = true) (h2 : leS b c = true) : leS a c = true := by
  unfold leS at *
  rw [Bool.not_eq_true', decide_eq_false_iff_not] at *
  exact fun h => absurd (List.le_trans (List.not_lt.mp h1) (List.not_lt.mp h2)) (List.not_le.mpr h)
theorem leS_anti (a b : Str) (h1 : leS a b = true) (h2 : leS b a = true) : a = b := by
  unfold leS at *
  rw [Bool.not_eq_true', decide_eq_false_iff_not] at *
  have e := List.le_antisymm (List.not_lt.mp h1) (List.not_lt.mp h2)
  cases a; cases b
  simp at e
  rw [e]
theorem risingS_pw : ∀ (zs : List Str) (p : Str), PyProof.Rows.risingS p zs = true → (p :: zs).Pairwise (fun a b => leS a b = true)
  | [], p, _ => List.pairwise_cons.mpr ⟨fun _ h => by simp at h, .nil⟩
  | x :: r, p, h => by
    have h : (!Spec.ltCps x.cps.toList p.cps.toList && PyProof.Rows.risingS x r) = true := h
    rw [Bool.and_eq_true] at h
    have ih := risingS_pw r x h.2
    have h1 : leS p x = true := by
      unfold leS
      rw [← PyProof.Rows.ltCps_eq]
      exact h.1
    refine List.pairwise_cons.mpr ⟨fun y hy => ?_, ih⟩
    rcases List.mem_cons.mp hy with e | e
    · rw [e]; exact h1
    · exact leS_trans p x y h1 ((List.pairwise_cons.mp ih).1 y e)
theorem sortedS_pw : ∀ {zs : List Str}, PyProof.Rows.sortedS zs = true → zs.Pairwise (fun a b => leS a b = true)
  | [], _ => .nil
  | x :: r, h => risingS_pw r x h
theorem sortS_uniq {ns ms : List Str} (p : ms.Perm ns) (h : PyProof.Rows.sortedS ms = true) : ms = sortS ns :=
  sort_uniq leS_anti (sortedS_pw h) (List.pairwise_mergeSort leS_trans leS_total ns) (p.trans (List.mergeSort_perm ns _).symm)
theorem keys_rep : ∀ {ks : List Key} {zs : List Str}, keysS ks = some zs → ks = zs.map Sum.inr
  | [], _, e => by cases e; rfl
  | .inl i :: ks, _, e => by cases e
  | .inr x :: ks, _, e => by
    obtain ⟨ns, h1, rfl⟩ := Option.map_eq_some_iff.mp e
    rw [keys_rep h1]; rfl
theorem keyV_rep (k : Key) : RepV K μ H (keyV k) (kV k) := by cases k <;> constructor
theorem keyVs_rep : ∀ ks : List Key, RepL K μ H (ks.map keyV) (ks.map kV)
  | [] => .nil
  | k :: ks => .cons (keyV_rep k) (keyVs_rep ks)
end
/-- a built-in function on values, over the store -/
def rB (K : PySem.W.Frag) (CA : Nat → Addr) (o : List Val → Store → Option (Val × Store)) : List V → Hp → VK → Prop := fun xs H Q => ∃ μ vs st, Rel K CA μ st H ∧ RepL K μ H vs xs ∧ PostO K CA μ H Q (o vs st)
theorem Rel.seq1 {K : PySem.W.Frag} {CA : Nat → Addr} {μ : List Addr} {H : Hp} {st : Store} (R : Rel K CA μ st H) {n : Nat} {a : Addr} {ws : List Val} (hn : μ[n]? = some a) (h : st[n]? = some (.lst ws) ∨ st[n]? = some (.fro ws)) : ∃ xs, SqL K H a xs ∧ RepL K μ H ws xs := by
  rcases h with h | h
  · exact R.lst hn (by unfold lstAt; rw [h])
  · exact R.lst hn (by unfold lstAt; rw [h])
section
variable {X : Cx} {CA : Nat → Addr}
theorem blt_len (hx : True) : CallR X (.builtin "len") (rB X.K CA (bltV .len)) := by
  intro pins s σ H xs us Q I r h
  obtain ⟨μ, vs, st, R, rv, q⟩ := h
  cases rv with
  | nil => exact q.elim
  | cons hv ht => cases ht with
    | cons _ _ => cases hv <;> exact q.elim
    | nil => cases hv with
      | str z =>
        have q : PostO X.K CA μ H Q (if lineOk z.length then some (.int z.length, st) else none) := q
        split at q
        · rename_i hl
          exact call_len_str pins s σ H _ us Q I r ⟨z, rfl, line_le hl, q.val R (.int _)⟩
        · exact q.elim
      | @tup a ws xs h1 h2 => exact call_len_seq pins s σ H _ us Q I r ⟨a, xs, rfl, .inr h1, by have z := q.val R (w := .int ws.length) (.int _); rw [h2.length] at z; exact z⟩
      | @ref n a hn =>
        unfold bltV at q
        dsimp only at q
        split at q
        · rename_i ws ho
          obtain ⟨xs, h1, h2⟩ := R.seq1 hn (.inl ho)
          exact call_len_seq pins s σ H _ us Q I r ⟨a, xs, rfl, .inl h1, by have z := q.val R (w := .int ws.length) (.int _); rw [h2.length] at z; exact z⟩
        · rename_i ws ho
          obtain ⟨xs, h1, h2⟩ := R.seq1 hn (.inr ho)
          exact call_len_seq pins s σ H _ us Q I r ⟨a, xs, rfl, .inl h1, by have z := q.val R (w := .int ws.length) (.int _); rw [h2.length] at z; exact z⟩
        · rename_i kvs ho
          obtain ⟨kxs, h1, h2, h3⟩ := R.dct hn ho
          have e : kvs.length = kxs.length := by simpa using congrArg List.length h2
          exact call_lenD pins s σ H _ us Q I r ⟨a, kxs, rfl, h1, by have z := q.val R (w := .int kvs.length) (.int _); rw [e] at z; exact z⟩
        · exact q.elim
      | _ => exact q.elim
theorem blt_int : CallR X (.type "int") (rB X.K CA (bltV .int)) := by
  intro pins s σ H xs us Q I r h
  obtain ⟨μ, vs, st, R, rv, q⟩ := h
  cases rv with
  | nil => exact q.elim
  | cons hv ht => cases ht with
    | cons _ _ => cases hv <;> exact q.elim
    | nil => cases hv with
      | int i => exact call_int1 pins s σ H _ us Q I r (.inl ⟨i, rfl, q.val R (.int _)⟩)
      | bl b => exact call_int1 pins s σ H _ us Q I r (.inr ⟨b, rfl, q.val R (.int _)⟩)
      | _ => exact q.elim
theorem blt_str : CallR X (.type "str") (rB X.K CA (bltV .str)) := by
  intro pins s σ H xs us Q I r h
  obtain ⟨μ, vs, st, R, rv, q⟩ := h
  cases rv with
  | nil => exact q.elim
  | cons hv ht => cases ht with
    | cons _ _ => cases hv <;> exact q.elim
    | nil => cases hv with
      | int i =>
        have q : PostO X.K CA μ H Q (if decide (i.natAbs.log2 < 1920) then some (.str (toString i), st) else none) := q
        split at q
        · rename_i hl
          exact call_str_int pins s σ H _ us Q I r ⟨i, rfl, of_decide_eq_true hl, q.val R (.str _)⟩
        · exact q.elim
      | str z => exact SkE.call_str_str pins s σ H _ us Q I r ⟨z, rfl, q.val R (.str _)⟩
      | _ => exact q.elim
theorem foldl_max : ∀ (ns : List Int) (n : Int), (ns.foldl (fun a b => if b > a then b else a) n ∈ n :: ns) ∧ ∀ y ∈ n :: ns, y ≤ ns.foldl (fun a b => if b > a then b else a) n
  | [], n => ⟨by simp, fun y h => by simp at h; simp [h]⟩
  | m :: ns, n => by
    obtain ⟨h1, h2⟩ := foldl_max ns (if m > n then m else n)
    rw [List.foldl_cons]
    refine ⟨?_, fun y hy => ?_⟩
    · rcases List.mem_cons.mp h1 with e | e
      · rw [e]
        split
        · simp
        · simp
      · exact List.mem_cons_of_mem _ (List.mem_cons_of_mem _ e)
    · have hz := h2 _ List.mem_cons_self
      rcases List.mem_cons.mp hy with e | e
      · rw [e]; revert hz; split <;> intro hz <;> omega
      · rcases List.mem_cons.mp e with e | e
        · rw [e]; revert hz; split <;> intro hz <;> omega
        · exact h2 y (List.mem_cons_of_mem _ e)
theorem foldl_min : ∀ (ns : List Int) (n : Int), (ns.foldl (fun a b => if b < a then b else a) n ∈ n :: ns) ∧ ∀ y ∈ n :: ns, ns.foldl (fun a b => if b < a then b else a) n ≤ y
  | [], n => ⟨by simp, fun y h => by simp at h; simp [h]⟩
  | m :: ns, n => by
    obtain ⟨h1, h2⟩ := foldl_min ns (if m < n then m else n)
    rw [List.foldl_cons]
    refine ⟨?_, fun y hy => ?_⟩
    · rcases List.mem_cons.mp h1 with e | e
      · rw [e]
        split
        · simp
        · simp
      · exact List.mem_cons_of_mem _ (List.mem_cons_of_mem _ e)
    · have hz := h2 _ List.mem_cons_self
      rcases List.mem_cons.mp hy with e | e
      · rw [e]; revert hz; split <;> intro hz <;> omega
      · rcases List.mem_cons.mp e with e | e
        · rw [e]; revert hz; split <;> intro hz <;> omega
        · exact h2 y (List.mem_cons_of_mem _ e)
theorem blt_max (hc : X.calm = true) : CallR X (.builtin "max") (rB X.K CA (bltV .max)) := by
  intro pins s σ H xs us Q I r h
  obtain ⟨μ, vs, st, R, rv, q⟩ := h
  cases rv with
  | nil => exact q.elim
  | cons hv ht => cases ht with
    | nil => cases hv with
      | @ref n a hn =>
        unfold bltV at q
        dsimp only at q
        split at q
        · rename_i ws hl
          obtain ⟨xs, h1, h2⟩ := R.lst hn hl
          split at q
          · rename_i ns hns
            obtain ⟨rfl, _⟩ := ints_rep h2 hns
            cases ns with
            | nil => exact q.elim
            | cons i ns =>
              refine cr_max hc pins s σ H _ us Q I r ⟨a, i :: ns, rfl, h1, Nat.succ_pos _, fun m hm hy => ?_⟩
              obtain ⟨m1, m2⟩ := foldl_max ns i
              have e : m = ns.foldl (fun a b => if b > a then b else a) i := Int.le_antisymm (m2 m hm) (hy _ m1)
              rw [e]
              exact PostO.val (w := .int _) R q (.int _)
          · exact q.elim
        · exact q.elim
      | _ => exact q.elim
    | cons hv2 ht => cases ht with
      | nil => cases hv with
        | int i => cases hv2 with
          | int j => exact call_max2 hc pins s σ H _ us Q I r ⟨i, j, rfl, q.val R (.int _)⟩
          | _ => exact q.elim
        | _ => exact q.elim
      | cons _ _ => cases hv <;> first | exact q.elim | (cases hv2 <;> exact q.elim)
theorem blt_min (hc : X.calm = true) : CallR X (.builtin "min") (rB X.K CA (bltV .min)) := by
  intro pins s σ H xs us Q I r h
  obtain ⟨μ, vs, st, R, rv, q⟩ := h
  cases rv with
  | nil => exact q.elim
  | cons hv ht => cases ht with
    | nil => cases hv with
      | @ref n a hn =>
        unfold bltV at q
        dsimp only at q
        split at q
        · rename_i ws hl
          obtain ⟨xs, h1, h2⟩ := R.lst hn hl
          split at q
          · rename_i ns hns
            obtain ⟨rfl, _⟩ := ints_rep h2 hns
            cases ns with
            | nil => exact q.elim
            | cons i ns =>
              refine cr_min hc pins s σ H _ us Q I r ⟨a, i :: ns, rfl, h1, Nat.succ_pos _, fun m hm hy => ?_⟩
              obtain ⟨m1, m2⟩ := foldl_min ns i
              have e : m = ns.foldl (fun a b => if b < a then b else a) i := Int.le_antisymm (hy _ m1) (m2 m hm)
              rw [e]
              exact PostO.val (w := .int _) R q (.int _)
          · exact q.elim
        · exact q.elim
      | _ => exact q.elim
    | cons hv2 ht => cases ht with
      | nil => cases hv with
        | int i => cases hv2 with
          | int j => exact call_min2 hc pins s σ H _ us Q I r ⟨i, j, rfl, q.val R (.int _)⟩
          | _ => exact q.elim
        | _ => exact q.elim
      | cons _ _ => cases hv <;> first | exact q.elim | (cases hv2 <;> exact q.elim)
theorem blt_abs : CallR X (.builtin "abs") (rB X.K CA (bltV .abs)) := by
  intro pins s σ H xs us Q I r h
  obtain ⟨μ, vs, st, R, rv, q⟩ := h
  cases rv with
  | nil => exact q.elim
  | cons hv ht => cases ht with
    | cons _ _ => cases hv <;> exact q.elim
    | nil => cases hv with
      | int i => exact call_abs pins s σ H _ us Q I r ⟨i, rfl, q.val R (.int _)⟩
      | _ => exact q.elim
theorem blt_all (hc : X.calm = true) : CallR X (.builtin "all") (rB X.K CA (bltV .all)) := by
  intro pins s σ H xs us Q I r h
  obtain ⟨μ, vs, st, R, rv, q⟩ := h
  cases rv with
  | nil => exact q.elim
  | cons hv ht => cases ht with
    | cons _ _ => cases hv <;> exact q.elim
    | nil => cases hv with
      | @ref n a hn =>
        unfold bltV at q
        dsimp only at q
        split at q
        · rename_i ws hl
          obtain ⟨xs, h1, h2⟩ := R.lst hn hl
          cases e : boolsOf ws with
          | none => rw [e] at q; exact q.elim
          | some bs =>
            rw [e] at q
            have z := bools_rep h2 e
            subst z
            exact cr_all hc pins s σ H _ us Q I r ⟨a, bs, rfl, h1, PostO.val (w := .bl _) R q (.bl _)⟩
        · exact q.elim
      | _ => exact q.elim
theorem blt_any (hc : X.calm = true) : CallR X (.builtin "any") (rB X.K CA (bltV .any)) := by
  intro pins s σ H xs us Q I r h
  obtain ⟨μ, vs, st, R, rv, q⟩ := h
  cases rv with
  | nil => exact q.elim
  | cons hv ht => cases ht with
    | cons _ _ => cases hv <;> exact q.elim
    | nil => cases hv with
      | @ref n a hn =>
        unfold bltV at q
        dsimp only at q
        split at q
        · rename_i ws hl
          obtain ⟨xs, h1, h2⟩ := R.lst hn hl
          cases e : boolsOf ws with
          | none => rw [e] at q; exact q.elim
          | some bs =>
            rw [e] at q
            have z := bools_rep h2 e
            subst z
            exact cr_any hc pins s σ H _ us Q I r ⟨a, bs, rfl, h1, PostO.val (w := .bl _) R q (.bl _)⟩
        · exact q.elim
      | _ => exact q.elim
theorem blt_sum (hc : X.calm = true) : CallR X (.builtin "sum") (rB X.K CA (bltV .sum)) := by
  intro pins s σ H xs us Q I r h
  obtain ⟨μ, vs, st, R, rv, q⟩ := h
  cases rv with
  | nil => exact q.elim
  | cons hv ht => cases ht with
    | cons _ _ => cases hv <;> exact q.elim
    | nil => cases hv with
      | @ref n a hn =>
        unfold bltV at q
        dsimp only at q
        split at q
        · rename_i ws hl
          obtain ⟨xs, h1, h2⟩ := R.lst hn hl
          cases e : intsOf ws with
          | none => rw [e] at q; exact q.elim
          | some bs =>
            rw [e] at q
            obtain ⟨z, _⟩ := ints_rep h2 e
            subst z
            exact cr_sum hc pins s σ H _ us Q I r ⟨a, bs, rfl, h1, PostO.val (w := .int _) R q (.int _)⟩
        · exact q.elim
      | _ => exact q.elim
theorem blt_list (hc : X.calm = true) : CallR X (.type "list") (rB X.K CA (bltV .list)) := by
  intro pins s σ H xs us Q I r h
  obtain ⟨μ, vs, st, R, rv, q⟩ := h
  cases rv with
  | nil => exact q.elim
  | cons hv ht => cases ht with
    | cons _ _ => cases hv <;> exact q.elim
    | nil => cases hv with
      | @tup a ws xs h1 h2 => exact call_list_of pins s σ H _ us Q I r ⟨a, xs, rfl, .inr h1, fun l hl => q.new R (ho := .lst xs) hl h2⟩
      | @ref n a hn =>
        unfold bltV at q
        dsimp only at q
        split at q
        · rename_i ws ho
          obtain ⟨xs, h1, h2⟩ := R.seq1 hn (.inl ho)
          exact call_list_of pins s σ H _ us Q I r ⟨a, xs, rfl, .inl h1, fun l hl => q.new R (ho := .lst xs) hl h2⟩
        · rename_i ws ho
          obtain ⟨xs, h1, h2⟩ := R.seq1 hn (.inr ho)
          exact call_list_of pins s σ H _ us Q I r ⟨a, xs, rfl, .inl h1, fun l hl => q.new R (ho := .lst xs) hl h2⟩
        · rename_i kvs ho
          obtain ⟨kxs, h1, h2, h3⟩ := R.dct hn ho
          refine call_listD hc pins s σ H _ us Q I r ⟨a, kxs, rfl, .inl h1, fun l hl => q.new R (ho := .lst (kxs.map fun kv => kV kv.1)) hl ?_⟩
          have e1 : (kvs.map fun kv => keyV kv.1) = (kvs.map (·.1)).map keyV := by rw [List.map_map]; rfl
          have e2 : (kxs.map fun kv => kV kv.1) = (kxs.map (·.1)).map kV := by rw [List.map_map]; rfl
          show RepL X.K μ H (kvs.map fun kv => keyV kv.1) (kxs.map fun kv => kV kv.1)
          rw [e1, e2, h2]
          exact keyVs_rep _
        · exact q.elim
      | _ => exact q.elim
theorem blt_tuple : CallR X (.type "tuple") (rB X.K CA (bltV .tuple)) := by
  intro pins s σ H xs us Q I r h
  obtain ⟨μ, vs, st, R, rv, q⟩ := h
  cases rv with
  | nil => exact q.elim
  | cons hv ht => cases ht with
    | cons _ _ => cases hv <;> exact q.elim
    | nil => cases hv with
      | @tup a ws xs h1 h2 => exact call_tuple_of pins s σ H _ us Q I r ⟨a, xs, rfl, .inr ⟨h1, q.val R (.tup h1 h2)⟩⟩
      | @ref n a hn =>
        unfold bltV at q
        dsimp only at q
        split at q
        · rename_i ws hl
          obtain ⟨xs, h1, h2⟩ := R.lst hn hl
          exact call_tuple_of pins s σ H _ us Q I r ⟨a, xs, rfl, .inl ⟨h1, fun l hl => q.newTup R hl h2⟩⟩
        · exact q.elim
      | _ => exact q.elim
theorem blt_dict : CallR X (.type "dict") (rB X.K CA (bltV .dict)) := by
  intro pins s σ H xs us Q I r h
  obtain ⟨μ, vs, st, R, rv, q⟩ := h
  cases rv with
  | nil => exact q.elim
  | cons hv ht => cases ht with
    | cons _ _ => cases hv <;> exact q.elim
    | nil => cases hv with
      | @ref n a hn =>
        unfold bltV at q
        dsimp only at q
        split at q
        · rename_i kvs ho
          obtain ⟨kxs, h1, h2, h3⟩ := R.dct hn ho
          exact call_dictD pins s σ H _ us Q I r ⟨a, kxs, rfl, .inl h1, fun l hl => q.new R (ho := .dK kxs) hl ⟨h2, h3⟩⟩
        · exact q.elim
      | _ => exact q.elim
/-! isinstance -/
def tyN : Ty → String
  | .int => "int" | .bool => "bool" | .str => "str" | .list => "list" | .tuple => "tuple" | .dict => "dict"
def tyA : Ty → Str
  | .int => "int" | .bool => "bool" | .str => "str" | .list => "list" | .tuple => "tuple" | .dict => "dict"
theorem kit_tys (t T : Ty) : kitB (tyN t) (tyN T) = some (decide (t = T) || (decide (t = .bool) && decide (T = .int))) := by
  cases t <;> cases T <;> decide +kernel
theorem kit_non (T : Ty) : kitB "NoneType" (tyN T) = some false := by cases T <;> decide +kernel
theorem ty_rep {K : PySem.W.Frag} {μ : List Addr} {H : Hp} {st : Store} (R : Rel K CA μ st H) {v : Val} {x : V} {t : Ty} (r : RepV K μ H v x) (h : tyOf st v = some t) : TyX K H x (.type (tyN t)) := by
  cases r with
  | non => cases h
  | bl b => cases h; exact .base (.bl b)
  | int b => cases h; exact .base (.int b)
  | str b => cases h; exact .base (.str b)
  | @tup a ws xs h1 h2 =>
    cases h
    rcases h1 with (h1 | ⟨o, h1⟩) | ⟨o, its, n, h1, h2, _⟩
    · exact .base (.tup h1)
    · exact .fTuple h1
    · exact .kTuple h1 h2
  | @ref n a hn =>
    unfold tyOf at h
    dsimp only at h
    split at h
    · rename_i ws ho
      cases h
      obtain ⟨xs, h1, h2⟩ := R.mut hn (show mutAt st n = some ws by unfold mutAt; rw [ho])
      exact .base (.lst h1)
    · rename_i kvs ho
      cases h
      obtain ⟨kxs, h1, h2, h3⟩ := R.dct hn ho
      exact .base (.dK h1)
    · cases h
theorem isi_ok (T : Ty) : CallR X (.builtin "isinstance") (fun xs H Q => ∃ μ v x st b, xs = [x, .ty (tyN T)] ∧ Rel X.K CA μ st H ∧ RepV X.K μ H v x ∧ isiV T st v = some b ∧ Q (.bl b) H) := by
  intro pins s σ H xs us Q I r h
  obtain ⟨μ, v, x, st, b, rfl, R, rv, e, q⟩ := h
  by_cases hn : v = .non
  · subst hn
    cases rv
    cases e
    exact call_isi pins s σ H _ us Q I r ⟨_, _, _, _, _, rfl, .ty _, .base .non, kit_ty (kit_non T), q⟩
  · have e : (tyOf st v).map (fun t => decide (t = T) || (decide (t = .bool) && decide (T = .int))) = some b := by
      cases v <;> first | exact e | exact absurd rfl hn
    obtain ⟨t, ht, rfl⟩ := Option.map_eq_some_iff.mp e
    exact call_isi pins s σ H _ us Q I r ⟨_, _, _, _, _, rfl, .ty _, ty_rep R rv ht, kit_ty (kit_tys t T), q⟩
end

/-! ### sorted -/
section
variable {X : Cx} {CA : Nat → Addr}
/-- pairs, as they may stand (tracked or written) -/
theorem sortedPO' : CallR X (.builtin "sorted") (fun vs H Q => ∃ (a : Addr) (xs : List V) (k : V → Int × Int), vs = [V.ref a] ∧ SqL X.K H a xs ∧ (∀ x ∈ xs, ∃ t, x = V.ref t ∧ SqT X.K H t [.int (k x).1, .int (k x).2]) ∧
    ∀ ys p, SrtO.Srtd (ltP k) ys → SrtO.Stb (ltP k) ys xs → H p = none → Q (.ref p) (upd H p (.lst ys))) := by
  intro pins sh sg Hh args vals Post Iv rel ⟨A, zs, key, eA, seq, prs, fin⟩
  subst eA
  obtain ⟨items, relI, isl, small⟩ := Iv.list seq
  obtain ⟨one, eOne, isA⟩ := vals1 rel
  have eA2 : one = Value.ref A := isA
  rw [eOne, eA2]
  have bk := refs_back relI fun z hz => (prs z hz).elim fun t ht => ⟨t, ht.1⟩
  have pair : ∀ v ∈ items, Srt.IsPair sh.heap v (key (backV v)).1 (key (backV v)).2 := fun v hv => by
    obtain ⟨t, et⟩ := bk.2 v hv
    subst et
    have inZ : backV (Value.ref t) ∈ zs := bk.1 ▸ List.mem_map_of_mem hv
    obtain ⟨t', eT, sq⟩ := prs _ inZ
    have eT2 : t = t' := V.ref.inj eT
    subst eT2
    obtain ⟨its2, relP, ⟨ob, atO, clsO, ep, dat⟩, _⟩ := Iv.tuple sq
    obtain ⟨w1, w2, eW, ⟨k1, e1⟩, ⟨k2, e2⟩⟩ := vals2 relP
    subst eW; subst e1; subst e2
    exact ⟨t, ob, k1, k2, ep, rfl, atO, clsO, dat⟩
  refine SrtO.sorted_pairsO (k := fun v => key (backV v)) isl.isList (relI.length ▸ small) pair fun hp D res srt stb keep freeD made => ?_
  have refs := fun u (hu : u ∈ res) => bk.2 u (stb.perm.subset hu)
  have stbV : SrtO.Stb (ltP key) (res.map backV) zs := bk.1.symm ▸ SrtO.Stb.map (ltP_swo key) backV stb
  obtain ⟨ep, made⟩ := made
  exact ⟨.ref D, upd Hh D (.lst (res.map backV)), Iv.laid (t' := sh.toks) keep freeD ⟨stbV.len ▸ small, res, ep, vals_back refs, made⟩, rfl, fin _ D (SrtO.srtd_map srt) stbV (Iv.hok.fresh freeD)⟩
theorem pairs_shape {K : PySem.W.Frag} {μ : List Addr} {H : Hp} : ∀ {vs : List Val} {xs : List V} {ps : List (Int × Int)}, RepL K μ H vs xs → pairsOf vs = some ps →
    vs = ps.map (fun p => Val.tup [.int p.1, .int p.2]) ∧ xs.length = ps.length ∧ ∀ (i : Nat) (x : V) (p : Int × Int), xs[i]? = some x → ps[i]? = some p → ∃ t, x = .ref t ∧ SqT K H t [.int p.1, .int p.2]
  | _, _, _, .nil, e => by cases e; exact ⟨rfl, rfl, fun i x p h => by simp at h⟩
  | _, _, ps, .cons h t, e => by
    cases h with
    | @tup a ws ys h1 h2 =>
      cases h2 with
      | nil => cases e
      | cons r1 t1 =>
        cases t1 with
        | nil => cases r1 <;> cases e
        | cons r2 t2 =>
          cases t2 with
          | cons _ _ => cases r1 <;> first | (cases e; done) | (cases r2 <;> (cases e; done))
          | nil =>
            cases r1 with
            | int i =>
              cases r2 with
              | int j =>
                obtain ⟨ns, q1, rfl⟩ := Option.map_eq_some_iff.mp e
                obtain ⟨i1, i2, i3⟩ := pairs_shape t q1
                refine ⟨by rw [i1]; rfl, by rw [List.length_cons, List.length_cons, i2], fun m x p hx hp => ?_⟩
                cases m with
                | zero => cases hx; cases hp; exact ⟨a, rfl, h1⟩
                | succ m => exact i3 m x p (by simpa using hx) (by simpa using hp)
              | _ => cases e
            | _ => cases e
    | _ => cases e
theorem leP_total (a b : Int × Int) : (leP a b || leP b a) = true := by
  unfold leP
  simp only [Bool.or_eq_true, decide_eq_true_eq]
  omega
theorem leP_trans (a b c : Int × Int) (h1 : leP a b = true) (h2 : leP b c = true) : leP a c = true := by
  unfold leP at *
  simp only [decide_eq_true_eq] at *
  omega
theorem leP_anti (a b : Int × Int) (h1 : leP a b = true) (h2 : leP b a = true) : a = b := by
  unfold leP at *
  simp only [decide_eq_true_eq] at *
  exact Prod.ext (by omega) (by omega)
theorem rep_pairs {K : PySem.W.Frag} {μ : List Addr} {H : Hp} : ∀ {ys : List V} {ps : List (Int × Int)}, ys.length = ps.length → (∀ (i : Nat) (x : V) (p : Int × Int), ys[i]? = some x → ps[i]? = some p → ∃ t, x = .ref t ∧ SqT K H t [.int p.1, .int p.2]) →
    RepL K μ H (ps.map (fun p => Val.tup [.int p.1, .int p.2])) ys
  | [], [], _, _ => .nil
  | [], _ :: _, e, _ => by simp at e
  | _ :: _, [], e, _ => by simp at e
  | y :: ys, p :: ps, e, h => by
    obtain ⟨t, rfl, ht⟩ := h 0 y p rfl rfl
    exact .cons (.tup ht (.cons (.int _) (.cons (.int _) .nil))) (rep_pairs (by simpa using e) fun i x q hx hq => h (i + 1) x q (by simpa using hx) (by simpa using hq))
open Classical in
theorem blt_sorted (hc : X.calm = true) : CallR X (.builtin "sorted") (rB X.K CA (bltV .sorted)) := by
  intro pins s σ H xs us Q I r h
  obtain ⟨μ, vs, st, R, rv, q⟩ := h
  cases rv with
  | nil => exact q.elim
  | cons hv ht => cases ht with
    | cons _ _ => cases hv <;> exact q.elim
    | nil => cases hv with
      | @ref n a hn =>
        have seq : ∀ (ws : List Val) (xs : List V), SqL X.K H a xs → RepL X.K μ H ws xs → PostO X.K CA μ H Q (match sortV ws with | some us => alloc st (.lst us) | none => none) → wpAny (model X.prog X.w) X.A (call (.builtin "sorted") us) (EP X pins σ Q) X.xe s := fun ws xs h1 h2 q => by
          unfold sortV at q
          cases e1 : intsOf ws with
          | some ns =>
            rw [e1] at q
            obtain ⟨rfl, _⟩ := ints_rep h2 e1
            refine cr_sortedI pins s σ H _ us Q I r ⟨a, ns, rfl, h1, fun ns' p hp hs hn => ?_⟩
            rw [sortI_uniq hp hs]
            exact PostO.new R (o := .lst ((sortI ns).map .int)) (ho := .lst ((sortI ns).map .int)) hn q (reps_int _)
          | none =>
            rw [e1] at q
            dsimp only at q
            cases e2 : strsOf ws with
            | some zs =>
              rw [e2] at q
              dsimp only at q
              by_cases hl : zs.length < 64
              · rw [if_pos (decide_eq_true hl)] at q
                have z := strs_rep h2 e2
                subst z
                refine cr_sortedS pins s σ H _ us Q I r ⟨a, zs, rfl, h1, hl, fun ys p hp hs hn => ?_⟩
                rw [sortS_uniq hp hs]
                exact PostO.new R (o := .lst ((sortS zs).map .str)) (ho := .lst ((sortS zs).map .str)) hn q (reps_str _)
              · rw [if_neg (by simpa using hl)] at q
                exact q.elim
            | none =>
              rw [e2] at q
              dsimp only at q
              cases e3 : pairsOf ws with
              | none => rw [e3] at q; exact q.elim
              | some ps =>
                rw [e3] at q
                obtain ⟨i1, i2, i3⟩ := pairs_shape h2 e3
                -- the key of an item: the pair that stands at its place
                have key : ∃ k : V → Int × Int, ∀ (i : Nat) (x : V) (p : Int × Int), xs[i]? = some x → ps[i]? = some p → k x = p := by
                  refine ⟨fun x => if h : ∃ (i : Nat) (p : Int × Int), xs[i]? = some x ∧ ps[i]? = some p then h.choose_spec.choose else (0, 0), fun i x p hx hp => ?_⟩
                  have hh : ∃ (i : Nat) (p : Int × Int), xs[i]? = some x ∧ ps[i]? = some p := ⟨i, p, hx, hp⟩
                  dsimp only
                  rw [dif_pos hh]
                  obtain ⟨g1, g2⟩ := hh.choose_spec.choose_spec
                  obtain ⟨t, rfl, t1⟩ := i3 i x p hx hp
                  obtain ⟨t', et, t2⟩ := i3 _ _ _ g1 g2
                  cases et
                  have z := I.tuple_inj t1 t2
                  simp only [List.cons.injEq, V.int.injEq, and_true] at z
                  exact Prod.ext z.1.symm z.2.symm
                obtain ⟨k, hk⟩ := key
                have hxk : xs.map k = ps := by
                  refine List.ext_getElem? fun i => ?_
                  rw [List.getElem?_map]
                  cases ex : xs[i]? with
                  | none =>
                    have := List.getElem?_eq_none_iff.mp ex
                    exact (List.getElem?_eq_none (by omega)).symm
                  | some x =>
                    have hi : i < ps.length := by rw [← i2]; exact (List.getElem?_eq_some_iff.mp ex).1
                    rw [List.getElem?_eq_getElem hi]
                    exact congrArg some (hk i x _ ex (List.getElem?_eq_getElem hi))
                have hxs : ∀ x ∈ xs, ∃ t, x = V.ref t ∧ SqT X.K H t [.int (k x).1, .int (k x).2] := fun x hx => by
                  obtain ⟨i, hi, e⟩ := List.mem_iff_getElem.mp hx
                  have hi' : i < ps.length := by rw [← i2]; exact hi
                  have ex : xs[i]? = some x := by rw [List.getElem?_eq_getElem hi, e]
                  have z := hk i x _ ex (List.getElem?_eq_getElem hi')
                  rw [z]
                  exact i3 i x _ ex (List.getElem?_eq_getElem hi')
                refine sortedPO' pins s σ H _ us Q I r ⟨a, xs, k, rfl, h1, hxs, fun ys p hs hb hn => ?_⟩
                have hys : ys.map k = sortP ps := by
                  refine sort_uniq leP_anti ?_ (List.pairwise_mergeSort leP_trans leP_total ps) ?_
                  · rw [List.pairwise_map]
                    refine hs.imp fun {x y} h => ?_
                    have z := SrtO.lexB_no.mp h
                    unfold leP
                    simp only [decide_eq_true_eq]
                    omega
                  · rw [← hxk]
                    exact (hb.perm.map k).trans (List.mergeSort_perm _ _).symm
                refine PostO.new R (o := .lst ((sortP ps).map fun p => .tup [.int p.1, .int p.2])) (ho := .lst ys) hn q ?_
                show RepL X.K μ H _ ys
                refine rep_pairs (by rw [← hys, List.length_map]) fun i x p hx hp => ?_
                rw [← hys, List.getElem?_map, hx] at hp
                cases hp
                exact hxs x (hb.perm.mem_iff.mp (List.mem_of_getElem? hx))
        unfold bltV at q
        dsimp only at q
        split at q
        · rename_i ws ho
          obtain ⟨xs, h1, h2⟩ := R.seq1 hn (.inl ho)
          exact seq ws xs h1 h2 q
        · rename_i ws ho
          obtain ⟨xs, h1, h2⟩ := R.seq1 hn (.inr ho)
          exact seq ws xs h1 h2 q
        · rename_i kvs ho
          obtain ⟨kxs, h1, h2, h3⟩ := R.dct hn ho
          split at q
          · rename_i ks hk
            have z := keys_rep hk
            by_cases hl : ks.length < 64
            · rw [if_pos (decide_eq_true hl)] at q
              refine call_sortedD hc pins s σ H _ us Q I r ⟨a, kxs, ks, rfl, .inl h1, by rw [← h2]; exact z, hl, fun ys p hp hs hn => ?_⟩
              rw [sortS_uniq hp hs]
              exact PostO.new R (o := .lst ((sortS ks).map .str)) (ho := .lst ((sortS ks).map .str)) hn q (reps_str _)
            · rw [if_neg (by simpa using hl)] at q
              exact q.elim
          · exact q.elim
        · exact q.elim
      | _ => exact q.elim
end
/-! ### methods -/
section
variable {X : Cx} {CA : Nat → Addr}
def rM (K : PySem.W.Frag) (CA : Nat → Addr) (m : Mf) : V → List V → Hp → VK → Prop := fun x xs H Q => ∃ μ v vs st, Rel K CA μ st H ∧ RepV K μ H v x ∧ RepL K μ H vs xs ∧ PostO K CA μ H Q (mthV m v vs st)
theorem mth_append : MtR X "list.append" (rM X.K CA .append) := by
  intro pins s σ H x xs v us Q I rx rxs h
  obtain ⟨μ, v', vs, st, R, rv, rvs, q⟩ := h
  cases rv with
  | @ref n a hn => cases rvs with
    | nil => exact q.elim
    | cons h1 t => cases t with
      | cons _ _ => exact q.elim
      | nil =>
        unfold mthV at q
        dsimp only at q
        split at q
        · rename_i ws hw
          obtain ⟨ys, g1, g2⟩ := R.mut hn hw
          split at q
          · rename_i hl
            have hl := of_decide_eq_true hl
            refine mt_append pins s σ H _ _ v us Q I rx rxs ⟨a, ys, _, rfl, rfl, g1, by rw [← g2.length, sizeLine_eq]; exact hl, ?_⟩
            exact q μ _ _ (.of_write g1 (by exact True.intro)) (R.write hn (mut_at (by assumption)) rfl g1 (by exact True.intro) (o := .lst (ys ++ [_])) (ob := .lst (ws ++ [_])) (g2.append (.cons h1 .nil))) .non
          · exact q.elim
        · exact q.elim
  | _ => exact q.elim
theorem RepL.erase {K : PySem.W.Frag} {μ : List Addr} {H : Hp} {vs : List Val} {xs : List V} {k : Nat} (r : RepL K μ H vs xs) : RepL K μ H (vs.eraseIdx k) (xs.eraseIdx k) := by
  rw [List.eraseIdx_eq_take_drop_succ, List.eraseIdx_eq_take_drop_succ]
  exact (r.take _).append (r.drop _)
theorem RepL.init {K : PySem.W.Frag} {μ : List Addr} {H : Hp} {vs : List Val} {xs : List V} (r : RepL K μ H vs xs) : RepL K μ H vs.dropLast xs.dropLast := by
  rw [List.dropLast_eq_take, List.dropLast_eq_take, r.length]
  exact r.take _
theorem mth_pop : MtR X "list.pop" (rM X.K CA .pop) := by
  intro pins s σ H x xs v us Q I rx rxs h
  obtain ⟨μ, v', vs, st, R, rv, rvs, q⟩ := h
  cases rv with
  | @ref n a hn =>
    cases rvs with
    | nil =>
      unfold mthV at q
      dsimp only at q
      split at q
      · rename_i ws hw
        obtain ⟨ys, g1, g2⟩ := R.mut hn hw
        split at q
        · rename_i y hy
          obtain ⟨z, hz, rz⟩ := g2.get hy
          refine mt_pop pins s σ H _ _ v us Q I rx rxs ⟨a, ys, z, rfl, rfl, g1, by rw [← g2.length]; exact hz, ?_⟩
          exact q μ _ _ (.of_write g1 (by exact True.intro)) (R.write hn (mut_at (by assumption)) rfl g1 (by exact True.intro) (o := .lst ys.dropLast) (ob := .lst ws.dropLast) g2.init) (rz.mono (.of_write g1 (by exact True.intro)))
        · exact q.elim
      · exact q.elim
    | cons h1 t => cases t with
      | cons _ _ => cases h1 <;> exact q.elim
      | nil => cases h1 with
        | int i =>
          unfold mthV at q
          dsimp only at q
          split at q
          · rename_i ws hw
            obtain ⟨ys, g1, g2⟩ := R.mut hn hw
            split at q
            · rename_i k hk
              split at q
              · rename_i y hy
                split at q
                · rename_i hb
                  have hb := of_decide_eq_true hb
                  obtain ⟨z, hz, rz⟩ := g2.get hy
                  refine mt_popAt pins s σ H _ _ v us Q I rx rxs ⟨a, ys, i, k, z, rfl, rfl, g1, hb.1, hb.2, by rw [← g2.length]; exact hk, hz, ?_⟩
                  exact q μ _ _ (.of_write g1 (by exact True.intro)) (R.write hn (mut_at (by assumption)) rfl g1 (by exact True.intro) (o := .lst (ys.eraseIdx k)) (ob := .lst (ws.eraseIdx k)) g2.erase) (rz.mono (.of_write g1 (by exact True.intro)))
                · exact q.elim
              · exact q.elim
            · exact q.elim
          · exact q.elim
        | _ => exact q.elim
  | _ => exact q.elim
theorem mth_join : MtR X "str.join" (rM X.K CA .join) := by
  intro pins s σ H x xs v us Q I rx rxs h
  obtain ⟨μ, v', vs, st, R, rv, rvs, q⟩ := h
  cases rv with
  | str z => cases rvs with
    | nil => exact q.elim
    | cons h1 t => cases t with
      | cons _ _ => cases h1 <;> exact q.elim
      | nil => cases h1 with
        | @ref n a hn =>
          unfold mthV at q
          dsimp only at q
          split at q
          · rename_i ws hw
            obtain ⟨ys, g1, g2⟩ := R.lst hn hw
            split at q
            · rename_i zs hz
              have e := strs_rep g2 hz
              subst e
              split at q
              · rename_i hl
                exact mt_join pins s σ H _ _ v us Q I rx rxs ⟨z, a, zs, rfl, rfl, .inl g1, of_decide_eq_true hl, q.val R (.str _)⟩
              · exact q.elim
            · exact q.elim
          · exact q.elim
        | _ => exact q.elim
  | _ => exact q.elim
end
/-! ### the rules -/
section
variable {L : Lib} {X : Cx} {W : WX} {e o : Expr} {es : List Expr} {x y : Ex} {xs : Exs} {pos p : Pos}
theorem d_bltB {f : Bf} {id : String} {n : Str} (hc : CallR X (.builtin id) (rB X.K L.CA (bltV f))) (hg : Gl X n) (hm : X.mg n = none) (hv : bootBuiltins n = some (.builtin id)) (ha : DA L X W (e :: es) xs) (hn : n ≠ "__name__" := by decide) (hdb : (n == ("__debug__" : Str)) = false := by decide)
    (he : starEach (e :: es) X.env = (false, eval e X.env) :: starEach es X.env := by rfl) (hpl : (backTo pos (starEach es X.env)).any (·.1) = false := by rfl) : DE L X W (.Call (.Name n p) (e :: es) [] pos) (.blt f xs) := by
  refine PE.imp (pe_callB hc hg hm hv ha hn hdb he hpl) fun σ H Q h => ?_
  obtain ⟨μ, ρ, st, R, E, P⟩ := h
  refine ⟨μ, ρ, st, R, E, (Post.bind (RV := RVals X.K) P).imp fun ws H1 h1 => ?_⟩
  obtain ⟨μ1, vs, st1, l1, R1, rv, P1⟩ := h1
  exact ⟨μ1, vs, st1, R1, rv, P1.o⟩
theorem d_bltT {f : Bf} {T : String} {n : Str} (hc : CallR X (.type T) (rB X.K L.CA (bltV f))) (hg : Gl X n) (hm : X.mg n = none) (hv : bootBuiltins n = some (.type T)) (ha : DA L X W (e :: es) xs) (hn : n ≠ "__name__" := by decide) (hdb : (n == ("__debug__" : Str)) = false := by decide)
    (he : starEach (e :: es) X.env = (false, eval e X.env) :: starEach es X.env := by rfl) (hpl : (backTo pos (starEach es X.env)).any (·.1) = false := by rfl) : DE L X W (.Call (.Name n p) (e :: es) [] pos) (.blt f xs) := by
  refine PE.imp (pe_callTy hc hg hm hv ha hn hdb he hpl) fun σ H Q h => ?_
  obtain ⟨μ, ρ, st, R, E, P⟩ := h
  refine ⟨μ, ρ, st, R, E, (Post.bind (RV := RVals X.K) P).imp fun ws H1 h1 => ?_⟩
  obtain ⟨μ1, vs, st1, l1, R1, rv, P1⟩ := h1
  exact ⟨μ1, vs, st1, R1, rv, P1.o⟩
theorem d_isi {p2 : Pos} (T : Ty) (hg : Gl X "isinstance") (hm : X.mg "isinstance" = none) (hgT : Gl X (tyA T)) (hmT : X.mg (tyA T) = none) (ha : DE L X W e x) (hv : bootBuiltins "isinstance" = some (.builtin "isinstance")) (hvT : bootBuiltins (tyA T) = some (.type (tyN T)))
    (hdT : tyA T ≠ "__name__") (hdT2 : (tyA T == ("__debug__" : Str)) = false)
    (he : starEach [e, .Name (tyA T) p2] X.env = (false, eval e X.env) :: starEach [.Name (tyA T) p2] X.env := by rfl) (hpl : (backTo pos (starEach [.Name (tyA T) p2] X.env)).any (·.1) = false := by rfl) :
    DE L X W (.Call (.Name "isinstance" p) [e, .Name (tyA T) p2] [] pos) (.blt (.isi T) (.cons x .nil)) := by
  refine PE.imp (pe_callB (isi_ok (CA := L.CA) T) hg hm hv (pa_cons ha (pa_cons (pe_bltn hgT hmT hvT (show RelV (.ty (tyN T)) (.type (tyN T)) from rfl) hdT hdT2) pa_nil (by rfl)) he) (by decide) (by decide) he hpl) fun σ H Q h => ?_
  obtain ⟨μ, ρ, st, R, E, P⟩ := h
  have ee : L.e (.blt (.isi T) (.cons x .nil)) ρ st = (L.e x ρ st).bind fun v st1 => liftO (bltV (.isi T) [v] st1) := by
    show ((ev L.cl x ρ st).bind fun v st1 => Res.bind (.ok [] st1) fun vs st2 => .ok (v :: vs) st2).bind _ = (ev L.cl x ρ st).bind _
    generalize ev L.cl x ρ st = r
    cases r <;> rfl
  rw [ee] at P
  refine ⟨μ, ρ, st, R, E, (Post.bind (RV := RVal X.K) P).imp fun w H1 h1 => ?_⟩
  obtain ⟨μ1, v, st1, l1, R1, rv, P1⟩ := h1
  have q := P1.o
  unfold bltV at q
  dsimp only at q
  cases e1 : isiV T st1 v with
  | none => rw [e1] at q; exact q.elim
  | some b => rw [e1] at q; exact ⟨μ1, v, w, st1, b, rfl, R1, rv, e1, PostO.val (w := .bl b) R1 q (.bl b)⟩
theorem d_append {apos : Pos} (ho : DE L X W o x) (ha : DA L X W (e :: es) xs) (hbase : attributeBase o "append" X.env (eval o X.env) = eval o X.env := by rfl)
    (hfew : ((backTo pos (starEach (e :: es) X.env)).all (fun x => !x.1) && (backToKw pos (keywordEach [] X.env)).all (fun x => x.1.isSome) && decide ((e :: es).length + ([] : List Keyword).length + (if ([] : List Keyword).isEmpty then 0 else 1) < 30)) = true := by rfl)
    (hline : (apos.endLine == pos.line) = true := by rfl) (hs : starEach (e :: es) X.env = (false, eval e X.env) :: starEach es X.env := by rfl) (hplain : (backTo pos (starEach es X.env)).any (·.1) = false := by rfl) :
    DE L X W (.Call (.Attribute o "append" apos) (e :: es) [] pos) (.mth .append x xs) := by
  refine PE.imp (pe_bm PySem.F.plainAttrs_list PySem.F.slot_list_append PySem.F.type_list_append (mth_append (CA := L.CA)) ho ha hbase hfew hline hs hplain) fun σ H Q h => ?_
  obtain ⟨μ, ρ, st, R, E, P⟩ := h
  refine ⟨μ, ρ, st, R, E, (Post.bind (RV := RVal X.K) P).imp fun w H1 h1 => ?_⟩
  obtain ⟨μ1, v, st1, l1, R1, rv, P1⟩ := h1
  split at P1
  · rename_i hr
    cases rv with
    | @ref n a hn =>
      obtain ⟨ws, hw⟩ := Option.isSome_iff_exists.mp hr
      obtain ⟨ys, g1, g2⟩ := R1.mut hn hw
      refine ⟨.inl ⟨rfl, ys, .of g1⟩, ?_⟩
      refine ⟨μ1, ρ, st1, R1, E.mono l1, (Post.bind (RV := RVals X.K) P1).imp fun zs H2 h2 => ?_⟩
      obtain ⟨μ2, vs, st2, l2, R2, rvs, P2⟩ := h2
      exact ⟨μ2, _, vs, st2, R2, .ref (l2.at_ hn), rvs, P2.o⟩
    | _ => cases hr
  · exact P1.elim
theorem d_pop1 {apos : Pos} (ho : DE L X W o x) (ha : DA L X W (e :: es) xs) (hbase : attributeBase o "pop" X.env (eval o X.env) = eval o X.env := by rfl)
    (hfew : ((backTo pos (starEach (e :: es) X.env)).all (fun x => !x.1) && (backToKw pos (keywordEach [] X.env)).all (fun x => x.1.isSome) && decide ((e :: es).length + ([] : List Keyword).length + (if ([] : List Keyword).isEmpty then 0 else 1) < 30)) = true := by rfl)
    (hline : (apos.endLine == pos.line) = true := by rfl) (hs : starEach (e :: es) X.env = (false, eval e X.env) :: starEach es X.env := by rfl) (hplain : (backTo pos (starEach es X.env)).any (·.1) = false := by rfl) :
    DE L X W (.Call (.Attribute o "pop" apos) (e :: es) [] pos) (.mth .pop x xs) := by
  refine PE.imp (pe_bm PySem.F.plainAttrs_list PySem.F.slot_list_pop PySem.F.type_list_pop (mth_pop (CA := L.CA)) ho ha hbase hfew hline hs hplain) fun σ H Q h => ?_
  obtain ⟨μ, ρ, st, R, E, P⟩ := h
  refine ⟨μ, ρ, st, R, E, (Post.bind (RV := RVal X.K) P).imp fun w H1 h1 => ?_⟩
  obtain ⟨μ1, v, st1, l1, R1, rv, P1⟩ := h1
  split at P1
  · rename_i hr
    cases rv with
    | @ref n a hn =>
      obtain ⟨ws, hw⟩ := Option.isSome_iff_exists.mp hr
      obtain ⟨ys, g1, g2⟩ := R1.mut hn hw
      refine ⟨.inl ⟨rfl, ys, .of g1⟩, ?_⟩
      refine ⟨μ1, ρ, st1, R1, E.mono l1, (Post.bind (RV := RVals X.K) P1).imp fun zs H2 h2 => ?_⟩
      obtain ⟨μ2, vs, st2, l2, R2, rvs, P2⟩ := h2
      exact ⟨μ2, _, vs, st2, R2, .ref (l2.at_ hn), rvs, P2.o⟩
    | _ => cases hr
  · exact P1.elim
theorem d_pop0 {apos : Pos} (ho : DE L X W o x) (hbase : attributeBase o "pop" X.env (eval o X.env) = eval o X.env := by rfl) (hline : (apos.endLine == pos.line) = true := by rfl) :
    DE L X W (.Call (.Attribute o "pop" apos) [] [] pos) (.mth .pop x .nil) := by
  refine PE.imp (pe_bm0 PySem.F.plainAttrs_list PySem.F.slot_list_pop PySem.F.type_list_pop (mth_pop (CA := L.CA)) ho hbase hline) fun σ H Q h => ?_
  obtain ⟨μ, ρ, st, R, E, P⟩ := h
  refine ⟨μ, ρ, st, R, E, (Post.bind (RV := RVal X.K) P).imp fun w H1 h1 => ?_⟩
  obtain ⟨μ1, v, st1, l1, R1, rv, P1⟩ := h1
  split at P1
  · rename_i hr
    cases rv with
    | @ref n a hn =>
      obtain ⟨ws, hw⟩ := Option.isSome_iff_exists.mp hr
      obtain ⟨ys, g1, g2⟩ := R1.mut hn hw
      exact ⟨.inl ⟨rfl, ys, .of g1⟩, μ1, _, [], st1, R1, .ref hn, .nil, Post.o (W := W) (σ := σ) P1⟩
    | _ => cases hr
  · exact P1.elim
theorem d_join {apos : Pos} (ho : DE L X W o x) (ha : DE L X W e y) (hs : starEach [e] X.env = [(false, eval e X.env)] := by rfl) (hbase : attributeBase o "join" X.env (eval o X.env) = eval o X.env := by rfl) (hline : (apos.endLine == pos.line) = true := by rfl) :
    DE L X W (.Call (.Attribute o "join" apos) [e] [] pos) (.mth .join x (.cons y .nil)) := by
  refine PE.imp (pe_join ho ha hs hbase hline) fun σ H Q h => ?_
  obtain ⟨μ, ρ, st, R, E, P⟩ := h
  refine ⟨μ, ρ, st, R, E, (Post.bind (RV := RVal X.K) P).imp fun w H1 h1 => ?_⟩
  obtain ⟨μ1, v, st1, l1, R1, rv, P1⟩ := h1
  split at P1
  · rename_i hr
    cases rv with
    | str z =>
      refine ⟨⟨z, rfl⟩, ?_⟩
      have P1 : Post X.K L.CA W (RVal X.K) σ μ1 H1 Q ((L.es (.cons y .nil) ρ st1).bind fun vs st2 => liftO (mthV .join (.str z) vs st2)) := P1
      have ee : L.es (.cons y .nil) ρ st1 = (L.e y ρ st1).bind fun v st1 => .ok [v] st1 := by
        show ((ev L.cl y ρ st1).bind fun v st1 => Res.bind (.ok [] st1) fun vs st2 => .ok (v :: vs) st2) = (ev L.cl y ρ st1).bind _
        generalize ev L.cl y ρ st1 = r
        cases r <;> rfl
      rw [ee] at P1
      have P2 : Post X.K L.CA W (RVal X.K) σ μ1 H1 Q ((L.e y ρ st1).bind fun v st2 => liftO (mthV .join (.str z) [v] st2)) := by
        cases h : L.e y ρ st1 with
        | ok a s => rw [h] at P1; exact P1
        | exc c a s => rw [h] at P1; exact P1
        | stuck => rw [h] at P1; exact P1
      refine ⟨μ1, ρ, st1, R1, E.mono l1, (Post.bind (RV := RVal X.K) P2).imp fun u H2 h2 => ?_⟩
      obtain ⟨μ2, v2, st2, l2, R2, rv2, P3⟩ := h2
      have q := P3.o
      cases rv2 with
      | @ref n a hn =>
        unfold mthV at q
        dsimp only at q
        split at q
        · rename_i ws hw
          obtain ⟨ys, g1, g2⟩ := R2.lst hn hw
          split at q
          · rename_i zs hz
            have e := strs_rep g2 hz
            subst e
            split at q
            · rename_i hl
              exact ⟨z, a, zs, rfl, rfl, .inl g1, of_decide_eq_true hl, q.val R2 (.str _)⟩
            · exact q.elim
          · exact q.elim
        · exact q.elim
      | _ => exact q.elim
    | _ => cases hr
  · exact P1.elim
end
end EV

/-! ## EvMore -/
set_option maxRecDepth 100000
set_option maxHeartbeats 4000000
/-! EvMore: tables of the top, calls by keyword, raise, try. -/
namespace EV
open PySem L2

/-! ### a table of the top -/
def flB : Val → Value → Bool
  | .non, .none => true
  | .bl a, .bool b => a == b
  | .int a, .int b _ => decide (a = b)
  | .str a, .str b _ => decide (a = b)
  | _, _ => false
def flV : Val → V
  | .bl a => .bl a
  | .int i => .int i
  | .str x => .str x
  | _ => .non
theorem flB_ok {K : PySem.W.Frag} {v : Val} {u : Value} (h : flB v u = true) : RelV (flV v) u ∧ ∀ μ H, RepV K μ H v (flV v) := by
  cases v <;> cases u <;> first
    | exact nomatch (show false = true from h)
    | skip
  · exact ⟨rfl, fun _ _ => .non⟩
  · rename_i a b
    have e : a = b := eq_of_beq h
    subst e
    exact ⟨rfl, fun _ _ => .bl _⟩
  · rename_i i j t
    have e : i = j := of_decide_eq_true h
    subst e
    exact ⟨⟨t, rfl⟩, fun _ _ => .int _⟩
  · rename_i i j t
    have e : i = j := of_decide_eq_true h
    subst e
    exact ⟨⟨t, rfl⟩, fun _ _ => .str _⟩
def flsB : List Val → List Value → Bool
  | [], [] => true
  | v :: vs, u :: us => flB v u && flsB vs us
  | _, _ => false
theorem flsB_ok {K : PySem.W.Frag} : ∀ {vs : List Val} {us : List Value}, flsB vs us = true → Vals (vs.map flV) us ∧ ∀ μ H, RepL K μ H vs (vs.map flV)
  | [], [], _ => ⟨.nil, fun _ _ => .nil⟩
  | [], _ :: _, h => by cases h
  | _ :: _, [], h => by cases h
  | v :: vs, u :: us, h => by
    obtain ⟨h1, h2⟩ := Bool.and_eq_true_iff.mp (show (flB v u && flsB vs us) = true from h)
    obtain ⟨a1, a2⟩ := flB_ok (K := K) h1
    obtain ⟨b1, b2⟩ := flsB_ok (K := K) h2
    exact ⟨.cons a1 b1, fun μ H => .cons (a2 μ H) (b2 μ H)⟩
/-- a constant as the top has made it: flat, or a tuple of flat ones -/
def cvB (K : PySem.W.Frag) (v : Val) (u : Value) : Bool := match v with
  | .tup vs => (match u with
    | .ref t => (match K.lookup t with
      | some ⟨.type c, _, .seq its _, _⟩ => decide (c = "tuple") && (decide (its.size ≤ sizeLine) && flsB vs its.toList)
      | _ => false)
    | _ => false)
  | v => flB v u
theorem cvB_ok {K : PySem.W.Frag} {v : Val} {u : Value} (h : cvB K v u = true) : ∃ x, RelV x u ∧ ∀ μ H, RepV K μ H v x := by
  cases v with
  | tup vs =>
    cases u with
    | ref t =>
      have h1 : (match K.lookup t with
        | some ⟨.type c, _, .seq its _, _⟩ => decide (c = "tuple") && (decide (its.size ≤ sizeLine) && flsB vs its.toList)
        | _ => false) = true := h
      cases q : K.lookup t with
      | none => rw [q] at h1; cases h1
      | some o =>
        obtain ⟨oc, od, dt, osl⟩ := o
        rw [q] at h1
        cases oc with
        | type c =>
          cases dt with
          | seq its n =>
            obtain ⟨z1, z⟩ := Bool.and_eq_true_iff.mp (show (decide (c = "tuple") && (decide (its.size ≤ sizeLine) && flsB vs its.toList)) = true from h1)
            obtain ⟨z2, z3⟩ := Bool.and_eq_true_iff.mp z
            obtain ⟨r1, r2⟩ := flsB_ok (K := K) z3
            exact ⟨.ref t, rfl, fun μ H => .tup (.inr ⟨_, its, n, q, congrArg Value.type (of_decide_eq_true z1), rfl, of_decide_eq_true z2, r1⟩) (r2 μ H)⟩
          | _ => cases h1
        | _ => cases dt <;> cases h1
    | _ => cases h
  | non => exact ⟨_, flB_ok (K := K) (v := .non) (u := u) h⟩
  | bl k => exact ⟨_, flB_ok (K := K) (v := .bl k) (u := u) h⟩
  | int k => exact ⟨_, flB_ok (K := K) (v := .int k) (u := u) h⟩
  | str k => exact ⟨_, flB_ok (K := K) (v := .str k) (u := u) h⟩
  | ref k => exact ⟨_, flB_ok (K := K) (v := .ref k) (u := u) h⟩
def entB (K : PySem.W.Frag) : List (Str × Val) → List DictEntry → Bool
  | [], [] => true
  | (k, v) :: r, e :: es => (match e.key with
    | .str x _ => decide (x = k)
    | _ => false) && (cvB K v e.val && entB K r es)
  | _, _ => false
def tabB (K : PySem.W.Frag) (x : Str) (kvs : List (Str × Val)) : Bool := match K.lookup (He.ga K x) with
  | some ⟨_, _, .dict es _, _⟩ => entB K kvs es.toList
  | _ => false
theorem ent_ok {K : PySem.W.Frag} : ∀ {kvs : List (Str × Val)} {es : List DictEntry}, entB K kvs es = true → ∀ z : Str, (match kvs.lookup z with
    | some v => ∃ e, es.find? (·.key.isStr z) = some e ∧ cvB K v e.val = true
    | none => es.find? (·.key.isStr z) = none) ∧ es.any (·.refKey) = false
  | [], [], _, z => ⟨rfl, rfl⟩
  | [], _ :: _, h, _ => by cases h
  | _ :: _, [], h, _ => by cases h
  | (k, v) :: r, e :: es, h, z => by
    obtain ⟨h1, h2⟩ := Bool.and_eq_true_iff.mp (show ((match e.key with
      | .str x _ => decide (x = k)
      | _ => false) && (cvB K v e.val && entB K r es)) = true from h)
    obtain ⟨h3, h4⟩ := Bool.and_eq_true_iff.mp h2
    obtain ⟨i1, i2⟩ := ent_ok h4 z
    cases ek : e.key with
    | str x t =>
      rw [ek] at h1
      have ex : x = k := of_decide_eq_true h1
      subst ex
      have er : e.refKey = false := by unfold DictEntry.refKey; rw [ek]
      refine ⟨?_, by rw [List.any_cons, er, i2]; rfl⟩
      by_cases c : z = x
      · subst c
        have e1 : ((z, v) :: r).lookup z = some v := by simp [List.lookup]
        have e2 : e.key.isStr z = true := by rw [ek]; simp [Value.isStr]
        rw [e1]
        exact ⟨e, by rw [List.find?_cons, e2], h3⟩
      · have e1 : ((x, v) :: r).lookup z = r.lookup z := by
          have : (z == x) = false := by simpa using c
          simp [List.lookup, this]
        have e2 : e.key.isStr z = false := by rw [ek]; simpa [Value.isStr] using fun q : x = z => c q.symm
        rw [e1, List.find?_cons, e2]
        exact i1
    | _ => rw [ek] at h1; cases h1
structure TabAt (X : Cx) (x : Str) (kvs : List (Str × Val)) : Prop where
  ex : ∃ D es n, X.mg x = some (.ref D) ∧ KDict X.K X.w D es n ∧ ∀ z, match kvs.lookup z with
    | some v => ∃ u y, PySem.W.nsIn X.K D z = some (some u) ∧ RelV y u ∧ ∀ μ H, RepV X.K μ H v y
    | none => PySem.W.nsIn X.K D z = some none
theorem tab_of {X : Cx} {x : Str} {kvs : List (Str × Val)} {es : Array DictEntry} {n : Nat} (hm : X.mg x = some (.ref (He.ga X.K x))) (D : KDict X.K X.w (He.ga X.K x) es n) (h : tabB X.K x kvs = true) : TabAt X x kvs := by
  refine ⟨_, es, n, hm, D, fun z => ?_⟩
  have h1 : entB X.K kvs es.toList = true := by
    unfold tabB at h
    rw [D.at_] at h
    exact h
  obtain ⟨i1, i2⟩ := ent_ok h1 z
  cases e : kvs.lookup z with
  | some v =>
    rw [e] at i1
    obtain ⟨en, f1, f2⟩ := i1
    obtain ⟨y, r1, r2⟩ := cvB_ok f2
    refine ⟨en.val, y, ?_, r1, r2⟩
    unfold PySem.W.nsIn
    rw [D.at_]
    dsimp only
    rw [f1]
  | none =>
    rw [e] at i1
    show PySem.W.nsIn X.K (He.ga X.K x) z = some none
    unfold PySem.W.nsIn
    rw [D.at_]
    dsimp only
    rw [show es.toList.find? (·.key.isStr z) = none from i1]
    dsimp only
    rw [i2]
    rfl
section
variable {L : Lib} {X : Cx} {W : WX} {a b e : Expr} {es : List Expr} {x y : Ex} {xs : Exs} {pos p : Pos} {n : Str} {kvs : List (Str × Val)}
/-- a constant of the top: flat, or a tuple of flat ones -/
def ConAt (X : Cx) (x : Str) (v : Val) : Prop := ∃ u y, X.mg x = some u ∧ RelV y u ∧ ∀ μ H, RepV X.K μ H v y
theorem con_of {X : Cx} {x : Str} {v : Val} {u : Value} (hm : X.mg x = some u) (h : cvB X.K v u = true) : ConAt X x v := by
  obtain ⟨y, h1, h2⟩ := cvB_ok h
  exact ⟨u, y, hm, h1, h2⟩
theorem d_cst {v : Val} (T : ConAt X n v) (hg : Gl X n) (hd : (n == ("__debug__" : Str)) = false := by decide) : DE L X W (.Name n p) (.con v) := by
  obtain ⟨u, y, hm, h1, h2⟩ := T
  refine PE.imp (pe_glob (v := y) hg hm h1 hd) fun σ H Q h => ?_
  obtain ⟨μ, ρ, st, R, E, P⟩ := h
  exact P μ H y .refl R (h2 μ H)
theorem d_tab (T : TabAt X n kvs) (hg : Gl X n) (hb : DE L X W b y) (hd : (n == ("__debug__" : Str)) = false := by decide) (hs : PlainIx b := by intro _ _; rfl) : DE L X W (.Subscript (.Name n p) b pos) (.tab kvs y) := by
  obtain ⟨D, es, m, hm, KD, ht⟩ := T.ex
  refine PE.imp (pe_ix ix_kdict (pe_glob (v := .ref D) hg hm rfl hd) hb hs) fun σ H Q h => ?_
  obtain ⟨μ, ρ, st, R, E, P⟩ := h
  refine (show tE X.K L.CA W (L.e y) σ H _ from ⟨μ, ρ, st, R, E, (Post.bind (RV := RVal X.K) P).imp fun w H1 h1 => ?_⟩)
  obtain ⟨μ1, v, st1, l1, R1, rv, P1⟩ := h1
  cases rv with
  | str z =>
    have q := ht z
    dsimp only at P1
    cases ez : kvs.lookup z with
    | none => rw [ez] at P1; exact P1.elim
    | some u =>
      rw [ez] at P1 q
      obtain ⟨u', y', n1, r1, rp⟩ := q
      exact ⟨D, z, y', rfl, rfl, ⟨es, m, u', KD.at_, KD.lit, n1, r1⟩, P1 μ1 H1 y' .refl R1 (rp μ1 H1)⟩
  | _ => exact P1.elim
theorem d_tin (T : TabAt X n kvs) (hg : Gl X n) (ha : DE L X W a x) (hd : (n == ("__debug__" : Str)) = false := by decide) (hm : behindInMarks .In (.Name n p) = false := by rfl) : DE L X W (.Compare a [.In] [.Name n p] pos) (.tin false kvs x) := by
  obtain ⟨D, es, m, hg2, KD, ht⟩ := T.ex
  refine PE.imp (pe_cmpR (op_in_kd KD) ha (pe_glob (v := .ref D) hg hg2 rfl hd) hm) fun σ H Q h => ?_
  obtain ⟨μ, ρ, st, R, E, P⟩ := h
  refine (show tE X.K L.CA W (L.e x) σ H _ from ⟨μ, ρ, st, R, E, (Post.bind (RV := RVal X.K) P).imp fun w H1 h1 => ?_⟩)
  obtain ⟨μ1, v, st1, l1, R1, rv, P1⟩ := h1
  cases rv with
  | str z =>
    have q := ht z
    have P2 : Post X.K L.CA W (RVal X.K) σ μ1 H1 Q (.ok (.bl (false != (kvs.lookup z).isSome)) st1) := P1
    have P3 := P2 μ1 H1 (.bl (false != (kvs.lookup z).isSome)) .refl R1 (.bl _)
    cases ez : kvs.lookup z with
    | none => rw [ez] at P3 q; exact ⟨z, none, rfl, rfl, q, P3⟩
    | some u =>
      rw [ez] at P3 q
      obtain ⟨u', y', n1, r1, rp⟩ := q
      exact ⟨z, some u', rfl, rfl, n1, P3⟩
  | _ => exact P1.elim
theorem d_tnotin (T : TabAt X n kvs) (hg : Gl X n) (ha : DE L X W a x) (hd : (n == ("__debug__" : Str)) = false := by decide) (hm : behindInMarks .NotIn (.Name n p) = false := by rfl) : DE L X W (.Compare a [.NotIn] [.Name n p] pos) (.tin true kvs x) := by
  obtain ⟨D, es, m, hg2, KD, ht⟩ := T.ex
  refine PE.imp (pe_cmpR (op_notIn_kd KD) ha (pe_glob (v := .ref D) hg hg2 rfl hd) hm) fun σ H Q h => ?_
  obtain ⟨μ, ρ, st, R, E, P⟩ := h
  refine (show tE X.K L.CA W (L.e x) σ H _ from ⟨μ, ρ, st, R, E, (Post.bind (RV := RVal X.K) P).imp fun w H1 h1 => ?_⟩)
  obtain ⟨μ1, v, st1, l1, R1, rv, P1⟩ := h1
  cases rv with
  | str z =>
    have q := ht z
    have P2 : Post X.K L.CA W (RVal X.K) σ μ1 H1 Q (.ok (.bl (true != (kvs.lookup z).isSome)) st1) := P1
    have P3 := P2 μ1 H1 (.bl (true != (kvs.lookup z).isSome)) .refl R1 (.bl _)
    cases ez : kvs.lookup z with
    | none => rw [ez] at P3 q; exact ⟨z, none, rfl, rfl, q, P3⟩
    | some u =>
      rw [ez] at P3 q
      obtain ⟨u', y', n1, r1, rp⟩ := q
      exact ⟨z, some u', rfl, rfl, n1, P3⟩
  | _ => exact P1.elim
theorem d_dnew : DE L X W (.Dict [] [] pos) .dnew := by
  refine PE.imp pe_dnewK fun σ H Q h => ?_
  obtain ⟨μ, ρ, st, R, E, P⟩ := h
  intro p hp
  exact P (μ ++ [p]) (upd H p (.dK [])) (.ref p) (.of_new hp) (R.alloc hp (o := .dK []) (ob := .dct []) ⟨rfl, .nil⟩) (.ref (alloc_at R))
theorem d_rev {k : Nat} {p1 p2 p3 : Pos} (ha : DE L X W a x) : DE L X W (.Subscript a (.Slice none none (some (.UnaryOp .USub (.Constant (.int 1) k p1) p2)) p3) pos) (.rev x) := by
  refine PE.imp (pe_revL ha) fun σ H Q h => ?_
  obtain ⟨μ, ρ, st, R, E, P⟩ := h
  refine (show tE X.K L.CA W (L.e x) σ H _ from ⟨μ, ρ, st, R, E, (Post.bind (RV := RVal X.K) P).imp fun w H1 h1 => ?_⟩)
  obtain ⟨μ1, v, st1, l1, R1, rv, P1⟩ := h1
  have q := P1.o
  cases rv with
  | @ref n a hn =>
    unfold revV at q
    dsimp only at q
    split at q
    · rename_i vs hl
      obtain ⟨ws, h1, h2⟩ := R1.lst hn hl
      exact ⟨a, ws, rfl, h1, fun p hp => q.new R1 (ho := .lst ws.reverse) hp h2.reverse⟩
    · exact q.elim
  | _ => exact q.elim
end
/-! ### a call by keywords, in the parameters' order -/
structure FnAtK (L : Lib) (X : Cx) (f : Str) (id k : Nat) (ks : List Str) : Prop where
  ex : ∃ (a : Addr) (fd : FuncData) (ps : List Str), X.mg f = some (.ref a) ∧ PySem.W.keepIn X.K (.ref a) = true ∧ KBn X.K fd ps 0 ks (fun us ws => us ++ ws) (fun vs zs => vs ++ zs) ∧ ks.length = ps.length ∧ FnOk X.prog X.w X.K X.mg X.base (L2.CX X.prog X.w) k a fd ps (spM X.K L.CA ps.length (L.cl id)) ∧
    ∀ args st, args.length ≠ ps.length → L.cl id args st = .stuck
/-- the keywords' values -/
def DK (L : Lib) (X : Cx) (W : WX) (kws : List Keyword) (x : Exs) : Prop := PK X kws (tA X.K L.CA W (L.es x))
theorem PK.imp {X : Cx} {kws : List Keyword} {t t' : TA} (h : PK X kws t) (hi : ∀ σ H Q, t' σ H Q → t σ H Q) : PK X kws t' := ⟨fun pos pins s σ H Q I q => h.run pos pins s σ H Q I (hi σ H Q q)⟩
section
variable {L : Lib} {X : Cx} {W : WX} {a b e : Expr} {kws : List Keyword} {x y : Ex} {xs : Exs} {pos p kpos : Pos} {f : Str}
theorem dk_nil : DK L X W [] .nil := by
  refine PK.imp pk_nil fun σ H Q h => ?_
  obtain ⟨μ, ρ, st, R, E, P⟩ := h
  exact P μ H [] .refl R .nil
theorem dk_cons {nm : Option Str} (ha : DE L X W e x) (hr : DK L X W kws xs) : DK L X W (⟨nm, e, kpos⟩ :: kws) (.cons x xs) := by
  refine PK.imp (pk_cons ha hr) fun σ H Q h => ?_
  obtain ⟨μ, ρ, st, R, E, P⟩ := h
  refine ⟨μ, ρ, st, R, E, (Post.bind (RV := RVal X.K) P).imp fun w H1 h1 => ?_⟩
  obtain ⟨μ1, v, st1, l1, R1, rv, P1⟩ := h1
  refine ⟨μ1, ρ, st1, R1, E.mono l1, (Post.bind (RV := RVals X.K) P1).imp fun ws H2 h2 => ?_⟩
  obtain ⟨μ2, vs, st2, l2, R2, rvs, P2⟩ := h2
  exact P2 μ2 H2 _ .refl R2 (.cons (rv.mono l2) rvs)
theorem d_callK {W0 : XK} {ks : List Str} {id k : Nat} (F : FnAtK L X f id k ks) (hr : Room k X.A) (tk : Takes X (fun c d _ H => W0 c d H)) (hg : Gl X f) (hkw : DK L X (fun c d _ H => W0 c d H) kws xs)
    (hall : (backToKw pos (keywordEach kws X.env)).all (·.1.isSome) = true := by rfl) (hks : (backToKw pos (keywordEach kws X.env)).filterMap (·.1) = ks := by rfl) (hdb : (f == ("__debug__" : Str)) = false := by decide) (hpl : ((backTo pos (starEach [] X.env)).any (·.1) || (backToKw pos (keywordEach kws X.env)).any (·.1.isNone)) = false := by rfl) :
    DE L X (fun c d _ H => W0 c d H) (.Call (.Name f p) [] kws pos) (.call id xs) := by
  obtain ⟨fa, fd, ps, hm, kp, hb, hkl, hF, hs⟩ := F.ex
  have hx : Passes (L2.CX X.prog X.w) X W0 := passes_call tk fun _ _ _ _ h => h
  have key : PE X (.Call (.Name f p) [] kws pos) (tCallN 0 ks.length (spM X.K L.CA ps.length (L.cl id)) (fun vs zs => vs ++ zs) W0 tNil (tA X.K L.CA (fun c d _ H => W0 c d H) (L.es xs))) := by
    refine ⟨fun pins s σ H Q I h => wpAny_Call_Name_kw (ld_glob I hg hm ?_ hdb)⟩
    refine PySem.W.callWith_KW0 (h₀ := X.base) I.ok.mod.kin kp hall (thn (hkw.run pos pins s σ H _ I h) fun ws s2 ⟨zs, H2, I2, rz, m1, m2, q⟩ => ⟨I2.kIn, ?_⟩) hpl
    rw [hks]; exact run_fnN (vs := []) (us := []) hF hr hb hx I2 .nil rz rfl m2 q
  refine PE.imp key fun σ H Q h => ?_
  obtain ⟨μ, ρ, st, R, E, P⟩ := h
  show tA X.K L.CA (fun c d _ H => W0 c d H) (L.es xs) σ H _
  refine ⟨μ, ρ, st, R, E, (Post.bind (RV := RVals X.K) P).imp fun vs H1 h1 => ?_⟩
  obtain ⟨μ1, args, st1, l1, R1, rv, P1⟩ := h1
  by_cases hl : args.length = ps.length
  · exact ⟨rfl, by rw [← rv.length, hl, hkl], by rw [← hl, rv.length]; rfl, μ1, args, st1, R1, rv, P1.wish fun c d H' q => q⟩
  · rw [hs args st1 hl] at P1
    exact P1.elim
end
/-! ### a call by keywords, in another order -/
theorem RepL.perm {K : PySem.W.Frag} {μ : List Addr} {H : Hp} {vs : List Val} {xs : List V} (h : RepL K μ H vs xs) : ∀ perm : List Nat, RepL K μ H (permL perm vs) (permL perm xs)
  | [] => .nil
  | i :: perm => by
    have ih := RepL.perm h perm
    unfold permL at ih ⊢
    rw [List.filterMap_cons, List.filterMap_cons]
    cases e : vs[i]? with
    | none =>
      have e2 : xs[i]? = none := by
        rw [List.getElem?_eq_none_iff] at e ⊢
        rw [← h.length]
        exact e
      rw [e2]
      exact ih
    | some v =>
      obtain ⟨x, e2, r⟩ := h.get e
      rw [e2]
      exact .cons r ih
theorem Vals.perm {xs : List V} {us : List Value} (h : Vals xs us) : ∀ perm : List Nat, Vals (permL perm xs) (permL perm us)
  | [] => .nil
  | i :: perm => by
    have ih := Vals.perm h perm
    unfold permL at ih ⊢
    rw [List.filterMap_cons, List.filterMap_cons]
    cases e : xs[i]? with
    | none =>
      rw [h.none_of e]
      exact ih
    | some v =>
      obtain ⟨x, e2, r⟩ := h.get e
      rw [e2]
      exact .cons r ih
/-- how many arguments (none where a star stands) -/
def numE : Exs → Option Nat
  | .nil => some 0
  | .cons _ es => (numE es).map (· + 1)
  | .star _ _ => none
theorem evs_num {cl : Cl} : ∀ {xs : Exs} {n : Nat}, numE xs = some n → ∀ (ρ : Fr) (st st' : Store) (vs : List Val), evs cl xs ρ st = .ok vs st' → vs.length = n
  | .nil, n, h, ρ, st, st', vs, e => by cases h; cases e; rfl
  | .cons x xs, n, h, ρ, st, st', vs, e => by
    unfold numE at h
    cases hn : numE xs with
    | none => rw [hn] at h; cases h
    | some k =>
      rw [hn] at h
      cases h
      have e : (ev cl x ρ st).bind (fun v st1 => (evs cl xs ρ st1).bind fun vs st2 => .ok (v :: vs) st2) = .ok vs st' := e
      cases e1 : ev cl x ρ st with
      | stuck => rw [e1] at e; cases e
      | exc _ _ _ => rw [e1] at e; cases e
      | ok v st1 =>
        rw [e1] at e
        have e : (evs cl xs ρ st1).bind (fun vs st2 => .ok (v :: vs) st2) = .ok vs st' := e
        cases e2 : evs cl xs ρ st1 with
        | stuck => rw [e2] at e; cases e
        | exc _ _ _ => rw [e2] at e; cases e
        | ok ws st2 =>
          rw [e2] at e
          cases e
          rw [List.length_cons, evs_num hn ρ st1 _ ws e2]
  | .star _ _, n, h, _, _, _, _, _ => by cases h
structure FnAtP (L : Lib) (X : Cx) (f : Str) (id k : Nat) (ks : List Str) (perm : List Nat) : Prop where
  ex : ∃ (a : Addr) (fd : FuncData) (ps : List Str), X.mg f = some (.ref a) ∧ PySem.W.keepIn X.K (.ref a) = true ∧ KBn X.K fd ps 0 ks (fun us ws => permL perm (us ++ ws)) (fun vs zs => permL perm (vs ++ zs)) ∧ FnOk X.prog X.w X.K X.mg X.base (L2.CX X.prog X.w) k a fd ps (spM X.K L.CA ps.length (L.cl id)) ∧
    ∀ args st, args.length ≠ ps.length → L.cl id args st = .stuck
section
variable {L : Lib} {X : Cx} {kws : List Keyword} {xs : Exs} {pos p : Pos} {f : Str}
theorem d_callP {W0 : XK} {ks : List Str} {perm : List Nat} {id k : Nat} (F : FnAtP L X f id k ks perm) (hr : Room k X.A) (tk : Takes X (fun c d _ H => W0 c d H)) (hg : Gl X f) (hkw : DK L X (fun c d _ H => W0 c d H) kws xs)
    (hlen : ∀ (ρ : Fr) (st st' : Store) (vs : List Val), L.es xs ρ st = .ok vs st' → vs.length = ks.length)
    (hall : (backToKw pos (keywordEach kws X.env)).all (·.1.isSome) = true := by rfl) (hks : (backToKw pos (keywordEach kws X.env)).filterMap (·.1) = ks := by rfl) (hdb : (f == ("__debug__" : Str)) = false := by decide) (hpl : ((backTo pos (starEach [] X.env)).any (·.1) || (backToKw pos (keywordEach kws X.env)).any (·.1.isNone)) = false := by rfl) :
    DE L X (fun c d _ H => W0 c d H) (.Call (.Name f p) [] kws pos) (.callp id perm xs) := by
  obtain ⟨fa, fd, ps, hm, kp, hb, hF, hs⟩ := F.ex
  have hx : Passes (L2.CX X.prog X.w) X W0 := passes_call tk fun _ _ _ _ h => h
  have key : PE X (.Call (.Name f p) [] kws pos) (tCallN 0 ks.length (spM X.K L.CA ps.length (L.cl id)) (fun vs zs => permL perm (vs ++ zs)) W0 tNil (tA X.K L.CA (fun c d _ H => W0 c d H) (L.es xs))) := by
    refine ⟨fun pins s σ H Q I h => wpAny_Call_Name_kw (ld_glob I hg hm ?_ hdb)⟩
    refine PySem.W.callWith_KW0 (h₀ := X.base) I.ok.mod.kin kp hall (thn (hkw.run pos pins s σ H _ I h) fun ws s2 ⟨zs, H2, I2, rz, m1, m2, q⟩ => ⟨I2.kIn, ?_⟩) hpl
    rw [hks]; exact run_fnN (vs := []) (us := []) hF hr hb hx I2 .nil rz rfl m2 q
  refine PE.imp key fun σ H Q h => ?_
  obtain ⟨μ, ρ, st, R, E, P⟩ := h
  show tA X.K L.CA (fun c d _ H => W0 c d H) (L.es xs) σ H _
  refine ⟨μ, ρ, st, R, E, ?_⟩
  have P : Post X.K L.CA (fun c d _ H => W0 c d H) (RVal X.K) σ μ H Q ((L.es xs ρ st).bind fun vs st1 => L.cl id (permL perm vs) st1) := P
  cases e : L.es xs ρ st with
  | stuck => rw [e] at P; exact P.elim
  | exc c v st' => rw [e] at P; exact P
  | ok args0 st0 =>
    have hlen0 := hlen ρ st st0 args0 e
    rw [e] at P
    intro μ1 H1 vs l1 R1 rv
    have P1 : Post X.K L.CA (fun c d _ H => W0 c d H) (RVal X.K) σ μ H Q (L.cl id (permL perm args0) st0) := P
    have P2 : Post X.K L.CA (fun c d _ H => W0 c d H) (RVal X.K) σ μ1 H1 Q (L.cl id (permL perm args0) st0) := by
      revert P1
      generalize L.cl id (permL perm args0) st0 = r
      intro P1
      cases r with
      | ok c s2 => exact fun μ2 H2 d l => P1 μ2 H2 d (l1.trans l)
      | exc c v s2 => exact fun μ2 H2 d z l => P1 μ2 H2 d z (l1.trans l)
      | stuck => exact P1
    by_cases hl : (permL perm args0).length = ps.length
    · exact ⟨rfl, by rw [← rv.length]; exact hlen0, by show (permL perm vs).length = ps.length; rw [← (RepL.perm rv perm).length]; exact hl, μ1, permL perm args0, st0, R1, RepL.perm rv perm, P2.wish fun c d H' q => q⟩
    · rw [hs _ st0 hl] at P2
      exact P2.elim
end
end EV

/-! ## EvSet -/
set_option maxRecDepth 100000
set_option maxHeartbeats 4000000
/-! EvSet: a set comprehension of whole numbers and texts, its length. -/
namespace EV
open PySem L2

theorem setK0 {P : Program} {w : World} {h : Heap} : Heap.SetOf (mixKind P w) (h.push { cls := .type "set", data := .set #[] 0 (SetTable.fresh 0 0 !w.params.followText "set-order") }) h.objs.size (fun _ => false) 0 := by
  obtain ⟨o, es, ep, t, h1, h2, h3, _, _, h6, h7, h8⟩ := (PpSet.setB_fresh (h := h) w).setOf (P := P)
  have e : es = #[] := Array.eq_empty_of_size_eq_zero h8
  subst e
  exact ⟨o, #[], ep, t, h1, h2, h3, (fun e he => absurd he List.not_mem_nil), (fun k => Iff.intro (fun z => by cases z) (fun ⟨_, z, _⟩ => absurd z List.not_mem_nil)), h6, h7, h8⟩
/-- what a set comprehension wants: as tLc, but each new thing is a key -/
def tScK (P : Program) (w : World) (wi : TI) (g : TG) (tt : TT) (te : TE) (vs : List Nat) : TE := fun σ H Q => wi σ H fun J H1 => ∀ D, H1 D = none → ∃ W : Nat → Nat → Hp → Prop, (∃ m, W 0 m (upd H1 D (SetK P w D (fun _ => false) 0))) ∧
  ∀ i m H, W i m H → (J.stop i H ∧ Q (.ref D) H) ∨ (J.go i H ∧ ∃ Nx : Hp → Prop, (∀ H', Nx H' → ∃ m', m' < m ∧ W (i + 1) m' H') ∧ ∀ x H', J.yld i H x H' → g x (wipe σ vs) H' fun σ2 H2 => wipe σ2 vs = wipe σ vs ∧ tt σ2 H2 fun b H3 =>
    if b = true then te σ2 H3 fun y H4 => ∃ (c : Key) (S : Key → Bool) (n : Nat), y = kV c ∧ H4 D = some (SetK P w D S n) ∧ n + 1 < scanBound ∧ Nx (upd H4 D (SetK P w D (fun j => S j || decide (j = c)) (if S c = true then n else n + 1))) else Nx H3)
theorem addK_ok {X : Cx} {pins : List (Addr × Obj)} {σ : St} {H : Hp} {s : Shared} {E : Value → Shared → Prop} {D : Addr} {S : Key → Bool} {n : Nat} {c : Key} {u : Value} {Q : Value → Shared → Prop} (I : L2.Inv X pins σ H s) (hD : H D = some (SetK X.prog X.w D S n)) (hb : n + 1 < scanBound) (ru : RelV (kV c) u) (hx : ∀ v s, X.xe v s → E v s)
    (h : ∀ s', L2.Inv X pins σ (upd H D (SetK X.prog X.w D (fun j => S j || decide (j = c)) (if S c = true then n else n + 1))) s' → ∀ v, Q v s') : wpAny (model X.prog X.w) X.A (call (.builtin "set.add") [.ref D, u]) Q E s := by
  have z := mt_saddK (X := X) pins s σ H (.ref D) [kV c] (.ref D) [u] (fun _ H' => H' = upd H D (SetK X.prog X.w D (fun j => S j || decide (j = c)) (if S c = true then n else n + 1))) I rfl (.cons ru .nil) ⟨D, c, S, n, rfl, rfl, hD, hb, rfl⟩
  refine wpAny_mono z ?_ ?_
  · rintro v s' ⟨v', H', I', rv, rfl⟩
    exact h s' I' v
  · exact fun v s' q => hx v s' q
section
variable {X : Cx} {elt tg iter : Expr} {ifs : List Expr} {scope : Scope} {own : List (Str × Nat)} {pos pos' : Pos} {wi : TI} {g : TG} {tt : TT} {te : TE}
theorem scK_core {pins : List (Addr × Obj)} {s : Shared} {σ : St} {H : Hp} {Q : VK} {use : Option (Value → Sem Unit)} {Qf : Value → Shared → Prop} (hc : X.calm = true) (hN : X.N.Nodup) (I : L2.Inv X pins σ H s) (hi : PI X tg iter wi) (ok : BlkOk X.N X.env.scope scope own)
    (hg : ∀ (s : Shared) (H : Hp) (C : Addr) (cl : List (Str × Addr)) (fp : List Addr), PG (X.blk s H scope (compEnvC scope cl C X.env) fp) tg g)
    (ht : ∀ (s : Shared) (H : Hp) (C : Addr) (cl : List (Str × Addr)) (fp : List Addr), PTs (X.blk s H scope (compEnvC scope cl C X.env) fp) ifs tt)
    (he : ∀ (s : Shared) (H : Hp) (C : Addr) (cl : List (Str × Addr)) (fp : List Addr), PE (X.blk s H scope (compEnvC scope cl C X.env) fp) elt te)
    (hs : ∀ x : Value, foldedSetIterable iter X.env x = pure x) (h : tScK X.prog X.w wi g tt te (own.map (·.2)) σ H Q)
    (hR : ∀ (D C : Addr) (s' : Shared) (m : Str → Option Value) (H' : Hp), L2.Inv X pins σ H' s' → Q (.ref D) H' → s'.heap.Ns C m → FpOk X pins H' C → compPost (model X.prog X.w) X.A X.xe use Qf (.ref D) C (.ok .next) s') :
    wpAny (model X.prog X.w) X.A (comprehension (.SetComp elt [⟨tg, iter, ifs, 0⟩] scope pos) scope X.env pos' (newSet (.type "set")) false (eval iter X.env) use) Qf X.xe s := by
  refine wpAny_comprehension_free rfl hs (closure_ok fun y hy e => (ok.free y hy e).elim (fun k => I.ok.has y.1 (.inl k)) fun k => I.ok.has y.1 (.inr k)) ok.kind (fun y hy e => by rw [ok.uniq y hy, e]) (thn (hi.run pins s σ H _ I h) fun xv s1 hx => thn hx fun itv s2 h2 => ?_)
  obtain ⟨it, fp, tn, J, H2, e, I2, T, st2, f2, q⟩ := h2
  subst e
  refine PpSet.newSet_ok (newEnv_comp ?_)
  have hDn := HOk.fresh I2.hok (Nat.le_refl s2.heap.objs.size)
  obtain ⟨W, ⟨m0, w0⟩, turn⟩ := q _ hDn
  have I3 := Inv.laid I2 (t' := s2.toks) (fun b o e => Heap.get?_push_of_some _ e) (Nat.le_refl _) (setK_new (P := X.prog) (H := upd H2 s2.heap.objs.size (SetK X.prog X.w s2.heap.objs.size (fun _ => false) 0)) (setK0 (P := X.prog) (w := X.w) (h := s2.heap)))
  generalize hS3 : ({ heap := s2.heap.push { cls := .type "set", data := .set #[] 0 (SetTable.fresh 0 0 !X.w.params.followText "set-order") }, gens := s2.gens, drawn := s2.drawn, toks := s2.toks, os := s2.os } : Shared) = s3 at I3
  have h3 : s3.heap = s2.heap.push { cls := .type "set", data := .set #[] 0 (SetTable.fresh 0 0 !X.w.params.followText "set-order") } := by rw [← hS3]
  generalize hD : s2.heap.objs.size = D at *
  generalize hH3 : upd H2 D (SetK X.prog X.w D (fun _ => false) 0) = H3 at *
  have f3 : ∀ b ∈ fp, FpOk X pins H3 b ∧ b < s3.heap.objs.size := fun b hb => by
    obtain ⟨o, e, _⟩ := T.obj 0 s2.heap st2 b hb
    have hlt : b < D := Nat.lt_of_lt_of_eq (Heap.lt_size e) hD
    refine ⟨⟨?_, (f2 b hb).2⟩, ?_⟩
    · rw [← hH3, upd_ne (Nat.ne_of_lt hlt)]
      exact (f2 b hb).1
    · rw [h3, Heap.size_push, hD]
      exact Nat.lt_succ_of_lt hlt
  have st3 := T.keep 0 s2.heap s3.heap st2 fun b _ o e => by rw [h3]; exact Heap.get?_push_of_some _ e
  have I4 := block_start I3 ok hN f3
  have pg := hg s3 H3 s3.heap.objs.size (cellsFrom (s3.heap.objs.size + 1) scope.names (cloFrom X.env.cells scope.names [])) fp
  have pt := ht s3 H3 s3.heap.objs.size (cellsFrom (s3.heap.objs.size + 1) scope.names (cloFrom X.env.cells scope.names [])) fp
  have pe := he s3 H3 s3.heap.objs.size (cellsFrom (s3.heap.objs.size + 1) scope.names (cloFrom X.env.cells scope.names [])) fp
  have cL : (compEnvC scope (cellsFrom (s3.heap.objs.size + 1) scope.names (cloFrom X.env.cells scope.names [])) s3.heap.objs.size X.env).locals = s3.heap.objs.size := rfl
  show codeAny (model X.prog X.w) X.A (Code.compStart (.SetComp elt [⟨tg, iter, ifs, 0⟩] scope pos) 0 (.ref it) (.ref D) (compEnvC scope (cellsFrom (s3.heap.objs.size + 1) scope.names (cloFrom X.env.cells scope.names [])) s3.heap.objs.size X.env)) (compPost (model X.prog X.w) X.A X.xe use Qf (.ref D) s3.heap.objs.size) { heap := pushCells (s3.heap.push { cls := .type "dict", data := .dict #[] }) scope.names, gens := s3.gens, drawn := s3.drawn, toks := s3.toks, os := s3.os }
  generalize hce : compEnvC scope (cellsFrom (s3.heap.objs.size + 1) scope.names (cloFrom X.env.cells scope.names [])) s3.heap.objs.size X.env = ce at *
  generalize hs4 : ({ heap := pushCells (s3.heap.push { cls := .type "dict", data := .dict #[] }) scope.names, gens := s3.gens, drawn := s3.drawn, toks := s3.toks, os := s3.os } : Shared) = s4 at I4
  have nfp : ∀ b ∈ fp, H3 b = none := fun b hb => (f3 b hb).1.1
  have st4 : tn 0 s4.heap := T.keep 0 s3.heap s4.heap st3 fun b _ o e => by
    rw [← hs4]
    exact pushCells_keeps scope.names _ b o (Heap.get?_push_of_some _ e)
  have stat : ∀ {σ' : St} {H' : Hp} {s' : Shared}, L2.Inv (X.blk s3 H3 scope ce fp) [] σ' H' s' → (∀ b ∈ fp, H' b = none) → ∀ b ∈ fp, FpOk (X.blk s3 H3 scope ce fp) [] H' b := fun I' hn b hb => ⟨hn b hb, (I'.ok.exf b hb).1, I'.ok.exfs b hb, .inl hb, fun x c e => (I'.ok.exf b hb).2 x c e, fun p hp => absurd (show p ∈ ([] ++ [] : List _) from hp) (by simp)⟩
  have loop := PpSet.compLoopS_any (prog := X.prog) (w := X.w) (A := X.A) (env := ce) (elt := elt) (target := tg) (iter := iter) (ifs := ifs) (scope := scope) (pos := pos) (it := .ref it) (acc := .ref D) (R := compPost (model X.prog X.w) X.A X.xe use Qf (.ref D) s3.heap.objs.size)
    (fun n s' => ∃ i H', L2.Inv (X.blk s3 H3 scope ce fp) [] (wipe σ (own.map (·.2))) H' s' ∧ tn i s'.heap ∧ (∀ b ∈ fp, H' b = none) ∧ W i n H') ?_ m0 (s := s4) ⟨0, H3, I4, st4, nfp, w0⟩
  · exact PpSet.codeAny_compStart_set loop (T.self X.A 0 s4 _ _ st4 loop)
  rintro n s5 ⟨i, H5, I5, st5, n5, w5⟩
  rcases turn i n H5 w5 with ⟨stop, qq⟩ | ⟨go, Nx, hNx, step⟩
  · have td := T.done (X.blk s3 H3 scope ce fp) rfl rfl rfl hc i [] s5 (wipe σ (own.map (·.2))) H5 (fun _ _ => False) I5 (stat I5 n5) st5 stop
    refine thnF td ?_
    rintro r s6 ⟨rfl, I6⟩
    have I7 := Inv.call' I3 I6.os I6.base I6.hok I6.bare fun b hb => ⟨(f3 b hb).1.2.2.2.1, (f3 b hb).1.2.1, (f3 b hb).1.2.2.2.2.1, (f3 b hb).1.2.2.2.2.2⟩
    have nC : H5 s3.heap.objs.size = none := by rw [← cL]; exact I6.free
    obtain ⟨m, hn, _⟩ := I6.loc
    exact hR D s3.heap.objs.size s6 m H5 I7 qq (by rw [← cL]; exact hn) (Inv.fpOk I3 (Nat.le_refl _) nC)
  · have ti := T.item (X.blk s3 H3 scope ce fp) rfl rfl rfl hc i [] s5 (wipe σ (own.map (·.2))) H5 (fun _ _ => False) I5 (stat I5 n5) st5 go
    refine thnF ti ?_
    rintro r s6 ⟨u, rfl, h6⟩
    refine thnF h6 ?_
    rintro _ s7 ⟨x, H7, I7, r7, y7, st7, n7⟩
    have I7' := Inv.pinned I7 (stat I7 n7) (T.obj (i + 1) s7.heap st7)
    refine thnF (pg.run ([] ++ pinsAt fp s7.heap) s7 (wipe σ (own.map (·.2))) H7 x u _ I7' r7 (step x H7 y7)) ?_
    rintro _ s8 ⟨σ8, H8, I8, hw8, q8⟩
    refine thnF (pt.run ([] ++ pinsAt fp s7.heap) s8 σ8 H8 _ I8 q8) ?_
    rintro b s9 ⟨H9, I9, q9⟩
    have fin : ∀ {s' : Shared} {H' : Hp}, L2.Inv (X.blk s3 H3 scope ce fp) ([] ++ pinsAt fp s7.heap) σ8 H' s' → Nx H' → ∃ m, m < n ∧ ∃ i H', L2.Inv (X.blk s3 H3 scope ce fp) [] (wipe σ (own.map (·.2))) H' s' ∧ tn i s'.heap ∧ (∀ b ∈ fp, H' b = none) ∧ W i m H' := fun {s' H'} I' nx => by
      obtain ⟨m', hm, w'⟩ := hNx H' nx
      have pin' : ∀ b ∈ fp, ∀ o, s7.heap.get? b = some o → s'.heap.get? b = some o ∧ H' b = none := fun b hb o e =>
        let z := I'.pin (b, o) (List.mem_append_right (X.blk s3 H3 scope ce fp).pn (List.mem_append_right [] (mem_pinsAt hb e)))
        ⟨z.1, z.2.1⟩
      have hl : (wipe σ (own.map (·.2))).length = σ8.length := by rw [← hw8, wipe_length]
      refine ⟨m', hm, i + 1, H', Inv.weak (Inv.unpinned I') hl (fun j v e => (wipe_some (by rw [hw8]; exact e)).1), T.keep (i + 1) s7.heap s'.heap st7 fun b hb o e => (pin' b hb o e).1, fun b hb => ?_, w'⟩
      obtain ⟨o, e, _⟩ := T.obj (i + 1) s7.heap st7 b hb
      exact (pin' b hb o e).2
    cases b with
    | false =>
      rw [if_neg Bool.false_ne_true] at q9 ⊢
      exact fin I9 q9
    | true =>
      rw [if_pos rfl] at q9 ⊢
      refine thnF (pe.run ([] ++ pinsAt fp s7.heap) s9 σ8 H9 _ I9 q9) ?_
      rintro z s10 ⟨_, H10, I10, r10, c, S0, n0, rfl, hD10, hb10, nx⟩
      exact addK_ok (X := X.blk s3 H3 scope ce fp) I10 hD10 hb10 r10 (fun v s q => q.elim) fun s11 I11 _ => fin I11 nx
theorem pe_scK (hc : X.calm = true) (hN : X.N.Nodup) (hi : PI X tg iter wi) (ok : BlkOk X.N X.env.scope scope own)
    (hg : ∀ (s : Shared) (H : Hp) (C : Addr) (cl : List (Str × Addr)) (fp : List Addr), PG (X.blk s H scope (compEnvC scope cl C X.env) fp) tg g)
    (ht : ∀ (s : Shared) (H : Hp) (C : Addr) (cl : List (Str × Addr)) (fp : List Addr), PTs (X.blk s H scope (compEnvC scope cl C X.env) fp) ifs tt)
    (he : ∀ (s : Shared) (H : Hp) (C : Addr) (cl : List (Str × Addr)) (fp : List Addr), PE (X.blk s H scope (compEnvC scope cl C X.env) fp) elt te)
    (hs : ∀ x : Value, foldedSetIterable iter X.env x = pure x := by intro _; rfl) : PE X (.SetComp elt [⟨tg, iter, ifs, 0⟩] scope pos) (tScK X.prog X.w wi g tt te (own.map (·.2))) := by
  refine ⟨fun pins s σ H Q I h => ?_⟩
  rw [PpSet.eval_SetComp]
  refine scK_core hc hN I hi ok hg ht he hs h ?_
  rintro D C s' m H' I' q hn ⟨f0, f1, f2, f3, f4, f5⟩
  exact ⟨m, hn, fun h'' sb => ⟨.ref D, H', Inv.turned I' (fun b o hb e => (sb.2 b hb).trans e) f0 f1 f3 f4 f5, rfl, q⟩⟩
end
theorem call_lenK {X : Cx} : CallR X (.builtin "len") fun xs H Q => ∃ (a : Addr) (S : Key → Bool) (n : Nat), xs = [.ref a] ∧ H a = some (SetK X.prog X.w a S n) ∧ Q (.int (n : Int)) H := by
  rintro pins s σ H _ us Q I r ⟨a, S, n, rfl, hD, q⟩
  cases r with
  | cons h t => cases t with
    | nil =>
      rename_i u
      have h : u = .ref a := h
      subst h
      obtain ⟨o, es, ep, t, h1, h2, h3, _, _, h6, h7, rfl⟩ := setK_get I hD
      refine call_len_set h1 h2 h3 h7 (by have : scanBound ≤ 2 ^ 63 := by decide
                                          omega) ?_
      exact ⟨.int _, H, Inv.tok I _, ⟨_, rfl⟩, q⟩
end EV
namespace EV
open PySem L2
theorem hasK_add (ks : List Key) (c k : Key) : hasK (EV.addK ks c) k = (hasK ks k || decide (k = c)) := by
  unfold EV.addK
  by_cases hc : hasK ks c = true
  · rw [if_pos hc]
    by_cases hk : k = c
    · subst hk; rw [hc]; rfl
    · rw [decide_eq_false hk, Bool.or_false]
  · rw [if_neg hc]
    unfold hasK
    rw [List.any_append]
    congr 1
    show (decide (c = k) || false) = _
    rw [Bool.or_false]
    exact decide_eq_decide.mpr ⟨Eq.symm, Eq.symm⟩
theorem Le.upd_fresh {μ μ' : List Addr} {H H' : Hp} {D : Addr} {o : HO} (l : Le μ H μ' H') (h : H D = none) : Le μ H μ' (upd H' D o) := by
  refine ⟨l.pre, fun a xs q => ?_, fun a ob u q => by rw [upd_ne (ne_of_none q h)]; exact l.frz a ob u q, fun a F q => by rw [upd_ne (ne_of_none q h)]; exact l.ext a F q⟩
  have ne : a ≠ D := by
    rcases q with q | ⟨ob, q⟩
    · exact ne_of_none q h
    · exact ne_of_none q h
  rcases l.tup a xs q with z | ⟨ob, z⟩
  · exact .inl (by rw [upd_ne ne]; exact z)
  · exact .inr ⟨ob, by rw [upd_ne ne]; exact z⟩
theorem post_quiet_at {α β γ δ : Type} {K : PySem.W.Frag} {CA : Nat → Addr} {W W' : WX} {RV : List Addr → Hp → α → β → Prop} {RU : List Addr → Hp → γ → δ → Prop} {σ σ' : L2.St} {μ1 μ : List Addr} {H1 H : Hp} {Q : δ → Hp → Prop} {QQ : β → Hp → Prop} {r : Res α} {g : α → Store → Res γ}
    (h : Post K CA W RU σ μ1 H1 Q (r.quiet.bind g)) (k : ∀ a st', Post K CA W RU σ μ1 H1 Q (g a st') → ∀ μ' H' b, Le μ H μ' H' → Rel K CA μ' st' H' → RV μ' H' a b → QQ b H') : Post K CA W' RV σ' μ H QQ r := by
  cases r with
  | ok a st => exact fun μ' H' b l R v => k a st h μ' H' b l R v
  | exc c v st => exact h.elim
  | stuck => exact h.elim
section
variable {L : Lib} {X : Cx} {W : WX} {pos : Pos}
theorem sc_imp {wi : TI} {g : TG} {t : Tg} {x : Ex} {it : Ir} {tx : Txo} {own : List Nat} {σ : L2.St} {H : Hp} {Q : VK} {tt : TT} {te : TE}
    (gok : ∀ μ H v x ρ σ ρ' st (Q : L2.St → Hp → Prop), Rel X.K L.CA μ st H → RepV X.K μ H v x → RepE X.K μ H ρ σ → t.give v ρ st = some ρ' → (∀ σ', RepE X.K μ H ρ' σ' → (∀ vs : List Nat, (∀ i ∈ t.slots, i ∈ vs) → wipe σ' vs = wipe σ vs) → Q σ' H) → g x σ H Q)
    (hi : ∀ σ H R, tI X.K L.CA W (L.i it) σ H R → wi σ H R) (ht : ∀ σ H Q, tT X.K L.CA WF (L.ts tx) σ H Q → tt σ H Q) (he : ∀ σ H Q, tE X.K L.CA WF (L.e x) σ H Q → te σ H Q) (hsl : ∀ i ∈ t.slots, i ∈ own)
    (h : tE X.K L.CA W (L.e (.lsc x t it tx own)) σ H Q) : tScK X.prog X.w wi g tt te own σ H fun y H' => ∃ (a : Addr) (S : Key → Bool) (n : Nat), [y] = [V.ref a] ∧ H' a = some (SetK X.prog X.w a S n) ∧ Q (.int (n : Int)) H' := by
  obtain ⟨μ, ρ, st, R, E, P⟩ := h
  refine hi σ H _ ⟨μ, ρ, st, R, E, (Post.bind (RV := RWk X.K L.CA) P).imp fun J H1 h1 => ?_⟩
  obtain ⟨μ1, w, st1, l1, R1, wit, P1⟩ := h1
  intro D hD
  have P1 : Post X.K L.CA W (RVal X.K) σ μ1 H1 Q (scTurns t.give (L.ts tx) (L.e x) w (wipeF ρ own) w.len 0 st1 []) := P1
  refine ⟨fun i m H2 => i + m = w.len ∧ ∃ μ2 st2 ks, Le μ1 H1 μ2 H2 ∧ H2 D = some (SetK X.prog X.w D (fun k => hasK ks k) ks.length) ∧ Rel X.K L.CA μ2 st2 H2 ∧ Post X.K L.CA W (RVal X.K) σ μ1 H1 Q (scTurns t.give (L.ts tx) (L.e x) w (wipeF ρ own) m i st2 ks), ⟨w.len, by omega, μ1, st1, [], Le.of_fresh hD, upd_same, R1.beside hD, P1⟩, ?_⟩
  rintro i m H2 ⟨hm, μ2, st2, ks, l2, hD2, R2, P2⟩
  cases m with
  | zero =>
    unfold scTurns at P2
    split at P2
    · rename_i hf
      have e : i = w.len := by omega
      refine .inl ⟨?_, D, _, ks.length, rfl, hD2, P2 μ2 H2 _ l2 R2 (.int _)⟩
      rw [e]
      exact wit.stop μ2 st2 H2 l2 R2 hf
    · exact P2.elim
  | succ r =>
    unfold scTurns at P2
    split at P2
    · exact P2.elim
    · rename_i v hv
      obtain ⟨go, yl⟩ := wit.go μ2 st2 H2 i v l2 R2 (by omega) hv
      refine .inr ⟨go, fun H' => ∃ μ2' st2' ks', Le μ1 H1 μ2' H' ∧ H' D = some (SetK X.prog X.w D (fun k => hasK ks' k) ks'.length) ∧ Rel X.K L.CA μ2' st2' H' ∧ Post X.K L.CA W (RVal X.K) σ μ1 H1 Q (scTurns t.give (L.ts tx) (L.e x) w (wipeF ρ own) r (i + 1) st2' ks'), fun H' q => ⟨r, by omega, by omega, q⟩, fun y H3 hy => ?_⟩
      obtain ⟨l3, R3, rv⟩ := yl y H3 hy
      have hD3 := l3.ext _ _ hD2
      split at P2
      · exact P2.elim
      · rename_i ρ' hρ
        refine gok μ2 H3 v y (wipeF ρ own) (wipe σ own) ρ' st2 _ R3 rv ((E.mono ((l1.trans l2).trans l3)).wipeF own) hρ fun σ' E' hw => ⟨?_, ?_⟩
        · rw [hw own hsl]
          have aux : ∀ (vs ws : List Nat) (τ : L2.St), (∀ i ∈ ws, i ∈ vs) → wipe (wipe τ ws) vs = wipe τ vs := by
            intro vs ws
            induction ws with
            | nil => intro τ _; rfl
            | cons a as ih =>
              intro τ hh
              show wipe ((wipe τ as).set a none) vs = _
              rw [wipe_set (hh a List.mem_cons_self), ih τ fun i hi => hh i (List.mem_cons_of_mem _ hi)]
          exact aux own own σ fun _ h => h
        · refine ht σ' H3 _ ⟨μ2, ρ', st2, R3, E', post_quiet_at (RV := REq Bool) P2 ?_⟩
          intro b st3 P3 μ4 H4 b' l4 R4 eb
          subst eb
          have hD4 := l4.ext _ _ hD3
          cases b with
          | false => exact iteF ⟨μ4, st3, ks, (l2.trans l3).trans l4, hD4, R4, P3⟩
          | true =>
            refine iteT ?_
            refine he σ' H4 _ ⟨μ4, ρ', st3, R4, E'.mono l4, post_quiet_at (RV := RVal X.K) P3 ?_⟩
            intro u st5 P5 μ5 H5 z l5 R5 ru
            have hD5 := l5.ext _ _ hD4
            have l6 := ((l2.trans l3).trans l4).trans l5
            have key : ∀ c : Key, z = kV c → Post X.K L.CA W (RVal X.K) σ μ1 H1 Q (if decide (ks.length + 1 < 4096) then scTurns t.give (L.ts tx) (L.e x) w (wipeF ρ own) r (i + 1) st5 (EV.addK ks c) else .stuck) → ∃ (c : Key) (S : Key → Bool) (n : Nat), z = kV c ∧ H5 D = some (SetK X.prog X.w D S n) ∧ n + 1 < scanBound ∧ ∃ μ2' st2' ks', Le μ1 H1 μ2' (upd H5 D (SetK X.prog X.w D (fun j => S j || decide (j = c)) (if S c = true then n else n + 1))) ∧ upd H5 D (SetK X.prog X.w D (fun j => S j || decide (j = c)) (if S c = true then n else n + 1)) D = some (SetK X.prog X.w D (fun k => hasK ks' k) ks'.length) ∧ Rel X.K L.CA μ2' st2' (upd H5 D (SetK X.prog X.w D (fun j => S j || decide (j = c)) (if S c = true then n else n + 1))) ∧ Post X.K L.CA W (RVal X.K) σ μ1 H1 Q (scTurns t.give (L.ts tx) (L.e x) w (wipeF ρ own) r (i + 1) st2' ks') := fun c ec P6 => by
              split at P6
              · rename_i hl
                have hl := of_decide_eq_true hl
                refine ⟨c, _, ks.length, ec, hD5, Nat.lt_of_lt_of_le hl (Nat.le_refl _), μ5, st5, _, l6.upd_fresh hD, ?_, R5.ext hD5, P6⟩
                rw [upd_same]
                have e1 : (fun j => hasK ks j || decide (j = c)) = fun k => hasK (EV.addK ks c) k := funext fun k => (hasK_add ks c k).symm
                have e2 : (if hasK ks c = true then ks.length else ks.length + 1) = (EV.addK ks c).length := by
                  unfold EV.addK
                  by_cases hc : hasK ks c = true
                  · rw [if_pos hc, if_pos hc]
                  · rw [if_neg hc, if_neg hc, List.length_append]; rfl
                rw [e1, e2]
              · exact P6.elim
            cases ru with
            | int j => exact key (.inl j) rfl P5
            | str s => exact key (.inr s) rfl P5
            | _ => exact P5.elim
/-- len({elt for target in iter if ..}) -/
theorem d_lsc {elt tg iter : Expr} {ifs : List Expr} {scope : Scope} {own : List (Str × Nat)} {x : Ex} {it : Ir} {tx : Txo} {t : Tg} {g : TG} {p pos2 : Pos} (hgl : Gl X "len") (hml : X.mg "len" = none) (hc : X.calm = true) (hN : X.N.Nodup) (hi : DI L X W tg iter it) (ok : BlkOk X.N X.env.scope scope own)
    (hg : ∀ (s : Shared) (H : Hp) (C : Addr) (cl : List (Str × Addr)) (fp : List Addr), DG L.CA (X.blk s H scope (compEnvC scope cl C X.env) fp) tg t g)
    (ht : ∀ (s : Shared) (H : Hp) (C : Addr) (cl : List (Str × Addr)) (fp : List Addr), DTs L (X.blk s H scope (compEnvC scope cl C X.env) fp) WF ifs tx)
    (he : ∀ (s : Shared) (H : Hp) (C : Addr) (cl : List (Str × Addr)) (fp : List Addr), DE L (X.blk s H scope (compEnvC scope cl C X.env) fp) WF elt x) (hsl : ∀ i ∈ t.slots, i ∈ own.map (·.2)) (hs : ∀ x, foldedSetIterable iter X.env x = pure x := by intro _; rfl)
    (hse : starEach [.SetComp elt [⟨tg, iter, ifs, 0⟩] scope pos] X.env = (false, eval (.SetComp elt [⟨tg, iter, ifs, 0⟩] scope pos) X.env) :: starEach [] X.env := by rfl) (hpl : (backTo pos2 (starEach [] X.env)).any (·.1) = false := by rfl) :
    DE L X W (.Call (.Name "len" p) [.SetComp elt [⟨tg, iter, ifs, 0⟩] scope pos] [] pos2) (.lsc x t it tx (own.map (·.2))) := by
  refine PE.imp (pe_callB call_lenK hgl hml (by rfl) (pa_cons (pe_scK (tt := tT X.K L.CA WF (L.ts tx)) (te := tE X.K L.CA WF (L.e x)) hc hN hi ok (fun s H C cl fp => (hg s H C cl fp).pg) (fun s H C cl fp => ht s H C cl fp) (fun s H C cl fp => he s H C cl fp) hs) pa_nil hse) (by decide) (by decide) hse hpl) fun σ H Q h => ?_
  exact sc_imp (X := X) (L := L) (Q := Q) (hg X.s_0 X.H_0 0 [] []).ok (fun _ _ _ h => h) (fun _ _ _ h => h) (fun _ _ _ h => h) hsl h
end
end EV

/-! ## EvDic -/
set_option maxRecDepth 100000
set_option maxHeartbeats 4000000
/-! EvDic: dict comprehensions, dicts written out. -/
namespace EV
open PySem L2
theorem wipe2 : ∀ (vs ws : List Nat) (τ : L2.St), (∀ i ∈ ws, i ∈ vs) → wipe (wipe τ ws) vs = wipe τ vs := by
  intro vs ws
  induction ws with
  | nil => intro τ _; rfl
  | cons a as ih =>
    intro τ hh
    show wipe ((wipe τ as).set a none) vs = _
    rw [wipe_set (hh a List.mem_cons_self), ih τ fun i hi => hh i (List.mem_cons_of_mem _ hi)]
theorem key_rep {K : PySem.W.Frag} {μ : List Addr} {H : Hp} {v : Val} {x : V} {k : Key} (r : RepV K μ H v x) (h : keyOf v = some k) : x = kV k := by
  cases r <;> cases h <;> rfl
section
variable {L : Lib} {X : Cx} {W : WX} {pos : Pos}
theorem dc_imp {wi : TI} {g : TG} {t : Tg} {kx vx : Ex} {it : Ir} {tx : Txo} {own : List Nat} {σ : L2.St} {H : Hp} {Q : VK} {tt : TT} {tk tv : TE}
    (gok : ∀ μ H v x ρ σ ρ' st (Q : L2.St → Hp → Prop), Rel X.K L.CA μ st H → RepV X.K μ H v x → RepE X.K μ H ρ σ → t.give v ρ st = some ρ' → (∀ σ', RepE X.K μ H ρ' σ' → (∀ vs : List Nat, (∀ i ∈ t.slots, i ∈ vs) → wipe σ' vs = wipe σ vs) → Q σ' H) → g x σ H Q)
    (hi : ∀ σ H R, tI X.K L.CA W (L.i it) σ H R → wi σ H R) (ht : ∀ σ H Q, tT X.K L.CA WF (L.ts tx) σ H Q → tt σ H Q) (hk : ∀ σ H Q, tE X.K L.CA WF (L.e kx) σ H Q → tk σ H Q) (hv : ∀ σ H Q, tE X.K L.CA WF (L.e vx) σ H Q → tv σ H Q) (hsl : ∀ i ∈ t.slots, i ∈ own)
    (h : tE X.K L.CA W (L.e (.dc kx vx t it tx own)) σ H Q) : tDc wi g tt tk tv own σ H Q := by
  obtain ⟨μ, ρ, st, R, E, P⟩ := h
  refine hi σ H _ ⟨μ, ρ, st, R, E, (Post.bind (RV := RWk X.K L.CA) P).imp fun J H1 h1 => ?_⟩
  obtain ⟨μ1, w, st1, l1, R1, wit, P1⟩ := h1
  intro D hD
  have R2 : Rel X.K L.CA (μ1 ++ [D]) (st1 ++ [.dct []]) (upd H1 D (.dK [])) := R1.alloc hD (o := .dK []) (ob := .dct []) ⟨rfl, .nil⟩
  have l2 : Le μ1 H1 (μ1 ++ [D]) (upd H1 D (.dK [])) := .of_new hD
  have hDi : (μ1 ++ [D])[st1.length]? = some D := alloc_at R1
  have E2 := E.mono (l1.trans l2)
  have P1 : Post X.K L.CA W (RVal X.K) σ μ1 H1 Q (dcTurns t.give (L.ts tx) (L.e kx) (L.e vx) w (wipeF ρ own) st1.length w.len 0 (st1 ++ [.dct []])) := P1
  refine ⟨fun i m H2 => i + m = w.len ∧ ∃ μ2 st2, Le (μ1 ++ [D]) (upd H1 D (.dK [])) μ2 H2 ∧ Rel X.K L.CA μ2 st2 H2 ∧ Post X.K L.CA W (RVal X.K) σ μ1 H1 Q (dcTurns t.give (L.ts tx) (L.e kx) (L.e vx) w (wipeF ρ own) st1.length m i st2), ⟨w.len, by omega, μ1 ++ [D], _, .refl, R2, P1⟩, ?_⟩
  rintro i m H2 ⟨hm, μ2, st2, l3, R3, P3⟩
  cases m with
  | zero =>
    unfold dcTurns at P3
    split at P3
    · rename_i hf
      have e : i = w.len := by omega
      refine .inl ⟨?_, P3 μ2 H2 _ (l2.trans l3) R3 (.ref (l3.at_ hDi))⟩
      rw [e]
      exact wit.stop μ2 st2 H2 (l2.trans l3) R3 hf
    · exact P3.elim
  | succ r =>
    unfold dcTurns at P3
    split at P3
    · exact P3.elim
    · rename_i v hv1
      obtain ⟨go, yl⟩ := wit.go μ2 st2 H2 i v (l2.trans l3) R3 (by omega) hv1
      refine .inr ⟨go, fun H' => ∃ μ2' st2', Le (μ1 ++ [D]) (upd H1 D (.dK [])) μ2' H' ∧ Rel X.K L.CA μ2' st2' H' ∧ Post X.K L.CA W (RVal X.K) σ μ1 H1 Q (dcTurns t.give (L.ts tx) (L.e kx) (L.e vx) w (wipeF ρ own) st1.length r (i + 1) st2'), fun H' q => ⟨r, by omega, by omega, q⟩, fun y H3 hy => ?_⟩
      obtain ⟨l4, R4, rv⟩ := yl y H3 hy
      split at P3
      · exact P3.elim
      · rename_i ρ' hρ
        refine gok μ2 H3 v y (wipeF ρ own) (wipe σ own) ρ' st2 _ R4 rv ((E2.mono (l3.trans l4)).wipeF own) hρ fun σ' E' hw => ⟨?_, ?_⟩
        · rw [hw own hsl]
          exact wipe2 own own σ fun _ h => h
        · refine ht σ' H3 _ ⟨μ2, ρ', st2, R4, E', post_quiet_at (RV := REq Bool) P3 ?_⟩
          intro b st3 P4 μ4 H4 b' l5 R5 eb
          subst eb
          cases b with
          | false => exact iteF ⟨μ4, st3, (l3.trans l4).trans l5, R5, P4⟩
          | true =>
            refine iteT ?_
            refine hk σ' H4 _ ⟨μ4, ρ', st3, R5, E'.mono l5, post_quiet_at (RV := RVal X.K) P4 ?_⟩
            intro u st5 P5 μ5 H5 z l6 R6 ru
            refine hv σ' H5 _ ⟨μ5, ρ', st5, R6, E'.mono (l5.trans l6), post_quiet_at (RV := RVal X.K) P5 ?_⟩
            intro u2 st6 P6 μ6 H6 z2 l7 R7 ru2
            have l8 : Le (μ1 ++ [D]) (upd H1 D (.dK [])) μ6 H6 := (((l3.trans l4).trans l5).trans l6).trans l7
            split at P6
            · rename_i k hk1
              have ez := key_rep ru hk1
              split at P6
              · rename_i kvs hst
                obtain ⟨kxs, h1, h2, h3⟩ := R7.dct (l8.at_ hDi) hst
                split at P6
                · rename_i hlt
                  have hlt := of_decide_eq_true hlt
                  obtain ⟨p1, p2⟩ := put_rep (k := k) h2 h3 ru2
                  have e1 : kvs.length = kxs.length := by simpa using congrArg List.length h2
                  exact ⟨kxs, k, ez, h1, by rw [← e1, sizeLine_eq]; exact hlt, μ6, _, l8.trans (.of_write h1 (by exact True.intro)), R7.write (l8.at_ hDi) hst rfl h1 (by exact True.intro) (o := .dK (putK kxs k z2)) (ob := .dct (putKV kvs k u2)) ⟨p1, p2⟩, P6⟩
                · exact P6.elim
              · exact P6.elim
            · exact P6.elim
/-- {k: v for target in iter if ..} -/
theorem d_dc {kx vx tg iter : Expr} {ifs : List Expr} {scope : Scope} {own : List (Str × Nat)} {x y : Ex} {it : Ir} {tx : Txo} {t : Tg} {g : TG} (hc : X.calm = true) (hN : X.N.Nodup) (hi : DI L X W tg iter it) (ok : BlkOk X.N X.env.scope scope own)
    (hg : ∀ (s : Shared) (H : Hp) (C : Addr) (cl : List (Str × Addr)) (fp : List Addr), DG L.CA (X.blk s H scope (compEnvC scope cl C X.env) fp) tg t g)
    (ht : ∀ (s : Shared) (H : Hp) (C : Addr) (cl : List (Str × Addr)) (fp : List Addr), DTs L (X.blk s H scope (compEnvC scope cl C X.env) fp) WF ifs tx)
    (hk : ∀ (s : Shared) (H : Hp) (C : Addr) (cl : List (Str × Addr)) (fp : List Addr), DE L (X.blk s H scope (compEnvC scope cl C X.env) fp) WF kx x)
    (hv : ∀ (s : Shared) (H : Hp) (C : Addr) (cl : List (Str × Addr)) (fp : List Addr), DE L (X.blk s H scope (compEnvC scope cl C X.env) fp) WF vx y) (hsl : ∀ i ∈ t.slots, i ∈ own.map (·.2)) (hs : ∀ x, foldedSetIterable iter X.env x = pure x := by intro _; rfl) :
    DE L X W (.DictComp kx vx [⟨tg, iter, ifs, 0⟩] scope pos) (.dc x y t it tx (own.map (·.2))) :=
  PE.imp (pe_dc (tt := tT X.K L.CA WF (L.ts tx)) (tk := tE X.K L.CA WF (L.e x)) (tv := tE X.K L.CA WF (L.e y)) hc hN hi ok (fun s H C cl fp => (hg s H C cl fp).pg) (fun s H C cl fp => ht s H C cl fp) (fun s H C cl fp => hk s H C cl fp) (fun s H C cl fp => hv s H C cl fp) hs) fun σ H Q h => dc_imp (hg X.s_0 X.H_0 0 [] []).ok (fun _ _ _ h => h) (fun _ _ _ h => h) (fun _ _ _ h => h) (fun _ _ _ h => h) hsl h
end
/-- pairs written out, the keys texts -/
def DD (L : Lib) (X : Cx) (W : WX) (pos : Pos) (keys : List (Option Expr)) (values : List Expr) (ks : List Str) (es : Exs) : Prop := ∃ trs, PPs X pos keys values trs ∧ ∀ σ H (F : List (V × V) → Hp → Prop), tA X.K L.CA W (L.es es) σ H (fun zs H' => F ((ks.map V.str).zip zs) H') → tPairs trs σ H F
theorem merge_rep {K : PySem.W.Frag} {μ : List Addr} {H : Hp} : ∀ (ks : List Key) {vs : List Val} {zs : List V} {kvs : List (Key × Val)} {kxs : List (Key × V)}, RepL K μ H vs zs → kvs.map (·.1) = kxs.map (·.1) → RepL K μ H (kvs.map (·.2)) (kxs.map (·.2)) →
    (mergeKV kvs (ks.zip vs)).map (·.1) = (mergeK kxs (ks.zip zs)).map (·.1) ∧ RepL K μ H ((mergeKV kvs (ks.zip vs)).map (·.2)) ((mergeK kxs (ks.zip zs)).map (·.2))
  | [], _, _, _, _, _, h1, h2 => ⟨h1, h2⟩
  | k :: ks, _, _, _, _, .nil, h1, h2 => ⟨h1, h2⟩
  | k :: ks, _, _, _, _, .cons r rs, h1, h2 => by
    obtain ⟨p1, p2⟩ := put_rep (k := k) h1 h2 r
    exact merge_rep ks rs p1 p2
section
variable {L : Lib} {X : Cx} {W : WX} {pos : Pos}
theorem dd_nil : DD L X W pos [] [] [] .nil := by
  refine ⟨[], pps_nil, fun σ H F h => ?_⟩
  obtain ⟨μ, ρ, st, R, E, P⟩ := h
  exact P μ H [] .refl R .nil
theorem dd_cons {k : Str} {j : Nat} {p : Pos} {e : Expr} {x : Ex} {keys : List (Option Expr)} {values : List Expr} {ks : List Str} {es : Exs} (ha : DE L X W e x) (hr : DD L X W pos keys values ks es) : DD L X W pos (some (.Constant (.str k) j p) :: keys) (e :: values) (k :: ks) (.cons x es) := by
  obtain ⟨trs, h1, h2⟩ := hr
  refine ⟨(tC (.str k), tE X.K L.CA W (L.e x)) :: trs, pps_cons pe_str ha h1, fun σ H F h => ?_⟩
  obtain ⟨μ, ρ, st, R, E, P⟩ := h
  show tE X.K L.CA W (L.e x) σ H fun y H2 => tPairs trs σ H2 fun ps H3 => F ((.str k, y) :: ps) H3
  refine ⟨μ, ρ, st, R, E, (Post.bind (RV := RVal X.K) P).imp fun w H1 h1 => ?_⟩
  obtain ⟨μ1, v, st1, l1, R1, rv, P1⟩ := h1
  refine h2 σ H1 _ ⟨μ1, ρ, st1, R1, E.mono l1, (Post.bind (RV := RVals X.K) P1).imp fun ws H2 h2 => ?_⟩
  obtain ⟨μ2, vs, st2, l2, R2, rvs, P2⟩ := h2
  exact P2 μ2 H2 _ .refl R2 (.cons (rv.mono l2) rvs)
/-- {'a': x, ..} -/
theorem d_disp {keys : List (Option Expr)} {values : List Expr} {ks : List Str} {es : Exs} (h : DD L X W pos keys values ks es) (hall : keys.all (·.isSome) = true := by rfl) (hl : keys.length = values.length := by rfl) (h0 : keys ≠ [] := by intro z; cases z) (h15 : keys.length ≤ 15 := by decide) : DE L X W (.Dict keys values pos) (.disp ks es) := by
  obtain ⟨trs, h1, h2⟩ := h
  refine PE.imp (pe_disp h1 hall hl h0 h15) fun σ H Q h => ?_
  obtain ⟨μ, ρ, st, R, E, P⟩ := h
  intro p hp
  have l : Le μ H (μ ++ [p]) (upd H p (.dK [])) := .of_new hp
  have R1 : Rel X.K L.CA (μ ++ [p]) (st ++ [.dct []]) (upd H p (.dK [])) := R.alloc hp (o := .dK []) (ob := .dct []) ⟨rfl, .nil⟩
  have hpi : (μ ++ [p])[st.length]? = some p := alloc_at R
  refine h2 σ _ _ ⟨μ ++ [p], ρ, st ++ [.dct []], R1, E.mono l, ?_⟩
  have P : Post X.K L.CA W (RVal X.K) σ μ H Q ((L.es es ρ (st ++ [.dct []])).bind fun vs st1 => match st1[st.length]? with
    | some (.dct []) => if decide (vs.length = ks.length ∧ ks.length ≤ 15) then .ok (.ref st.length) (st1.set st.length (.dct (mergeKV [] ((ks.map Sum.inr).zip vs)))) else .stuck
    | _ => .stuck) := P
  cases e : L.es es ρ (st ++ [.dct []]) with
  | stuck => rw [e] at P; exact P
  | exc c v st1 => rw [e] at P; exact fun μ' H' x d l' R' rv hd => P μ' H' x d (l.trans l') R' rv hd
  | ok vs st1 =>
    rw [e] at P
    intro μ2 H2 zs l2 R2 rvs
    have P : Post X.K L.CA W (RVal X.K) σ μ H Q (match st1[st.length]? with
      | some (.dct []) => if decide (vs.length = ks.length ∧ ks.length ≤ 15) then .ok (.ref st.length) (st1.set st.length (.dct (mergeKV [] ((ks.map Sum.inr).zip vs)))) else .stuck
      | _ => .stuck) := P
    split at P
    · rename_i hst
      split at P
      · rename_i hlen
        have hlen := of_decide_eq_true hlen
        obtain ⟨kxs, g1, g2, g3⟩ := R2.dct (l2.at_ hpi) hst
        have ek : kxs = [] := by
          cases kxs with
          | nil => rfl
          | cons a b => simp at g2
        subst ek
        have ezl : zs.length = ks.length := by rw [← rvs.length]; exact hlen.1
        obtain ⟨m1, m2⟩ := merge_rep (ks.map Sum.inr) (kvs := []) (kxs := []) rvs rfl .nil
        refine ⟨g1, (ks.map Sum.inr).zip zs, ?_, ?_, ?_⟩
        · rw [List.zip_map_left, List.zip_map_left, List.map_map]
          rfl
        · rw [List.length_zip, List.length_map]
          omega
        · exact P μ2 _ (.ref p) (l.trans (l2.trans (.of_write g1 (by exact True.intro)))) (R2.write (l2.at_ hpi) hst rfl g1 (by exact True.intro) (o := .dK (mergeK [] ((ks.map Sum.inr).zip zs))) (ob := .dct (mergeKV [] ((ks.map Sum.inr).zip vs))) ⟨m1, m2⟩) (.ref (l2.at_ hpi))
      · exact P.elim
    · exact P.elim
/-- d.get(k, x) -/
theorem d_get {o e f : Expr} {x y z : Ex} {apos : Pos} (hu : X.A.units + 64 < cLine) (ho : DE L X W o x) (he : DE L X W e y) (hf : DE L X W f z) (m : M2 X o "get" apos e f pos := by exact ⟨rfl, rfl, rfl, rfl⟩) : DE L X W (.Call (.Attribute o "get" apos) [e, f] [] pos) (.get x y z) := by
  refine PE.imp (pe_dget2 (by omega) ho he hf m) fun σ H Q h => ?_
  obtain ⟨μ, ρ, st, R, E, P⟩ := h
  refine ⟨μ, ρ, st, R, E, (Post.bind (RV := RVal X.K) P).imp fun w H1 h1 => ?_⟩
  obtain ⟨μ1, v, st1, l1, R1, rv, P1⟩ := h1
  split at P1
  · rename_i n
    split at P1
    · rename_i kv0 hn
      cases rv with
      | @ref _ a ha =>
        obtain ⟨kx0, g1, g2, g3⟩ := R1.dct ha hn
        refine ⟨a, rfl, .inl ⟨_, .inl g1⟩, μ1, ρ, st1, R1, E.mono l1, (Post.bind (RV := RVal X.K) P1).imp fun w2 H2 h2 => ?_⟩
        obtain ⟨μ2, v2, st2, l2, R2, rv2, P2⟩ := h2
        refine ⟨μ2, ρ, st2, R2, E.mono (l1.trans l2), (Post.bind (RV := RVal X.K) P2).imp fun w3 H3 h3 => ?_⟩
        obtain ⟨μ3, v3, st3, l3, R3, rv3, P3⟩ := h3
        split at P3
        · rename_i kvs hn3
          split at P3
          · rename_i kk hk
            obtain ⟨kxs, k1, k2, k3⟩ := R3.dct ((l2.trans l3).at_ ha) hn3
            have ek := key_rep rv2 hk
            subst ek
            obtain ⟨f1, f2⟩ := find_rep (k := kk) k2 k3
            refine ⟨_, DGet.k (k := kk) k1, ?_⟩
            cases ev : (kvs.find? fun kv => decide (kv.1 = kk)).map (·.2) with
            | some u =>
              rw [ev] at P3
              obtain ⟨b, hb, rb⟩ := f1 u ev
              rw [hb]
              exact P3 μ3 H3 b .refl R3 rb
            | none =>
              rw [ev] at P3
              have hno : valV kxs kk = none := by
                rw [← Option.isNone_iff_eq_none, ← Option.not_isSome, ← f2]
                have q : kvs.find? (fun kv => decide (kv.1 = kk)) = none := Option.map_eq_none_iff.mp ev
                rw [List.find?_eq_none] at q
                simpa using q
              rw [hno]
              exact P3 μ3 H3 w3 .refl R3 rv3
          · exact P3.elim
        · exact P3.elim
    · exact P1.elim
  · exact P1.elim
/-- while -/
theorem ds_wh {c : Expr} {body : List Stmt} {n : Nat} {tx : Tx} {sxs : List Sx} (hp : PassesOwn (model X.prog X.w) X.A X.env X.xe) (hc : DT L X W c tx) (hb : DSs L X W body sxs) : DS L X W (.While c body [] pos) (.wh n tx sxs) := by
  refine PS.imp (ps_while hp hc hb) fun D σ H h => ?_
  obtain ⟨μ, ρ, st, R, E, P⟩ := h
  have P : PostS X.K L.CA W μ H D (whTurns (L.t tx) (L.xs sxs) n ρ st) := P
  refine ⟨fun m σ2 H2 => ∃ μ2 ρ2 st2, Rel X.K L.CA μ2 st2 H2 ∧ RepE X.K μ2 H2 ρ2 σ2 ∧ PostS X.K L.CA W μ2 H2 D (whTurns (L.t tx) (L.xs sxs) m ρ2 st2), ⟨n, μ, ρ, st, R, E, P⟩, ?_⟩
  rintro m σ2 H2 ⟨μ2, ρ2, st2, R2, E2, P2⟩
  cases m with
  | zero => exact P2.elim
  | succ r =>
    unfold whTurns at P2
    refine ⟨μ2, ρ2, st2, R2, E2, ?_⟩
    cases ec : L.t tx ρ2 st2 with
    | stuck => rw [ec] at P2; exact P2.elim
    | exc d v s1 =>
      rw [ec] at P2
      exact fun μ' H' x dd l R' rv hd => P2 μ' H' σ2 x dd l R' (E2.mono l) rv hd
    | ok k s1 =>
      rw [ec] at P2
      intro μ3 H3 b l3 R3 eb
      subst eb
      cases k with
      | false => exact iteF (P2 μ3 H3 σ2 l3 R3 (E2.mono l3))
      | true =>
        refine iteT ⟨fun σ' H' => ∃ μ' ρ' st', Rel X.K L.CA μ' st' H' ∧ RepE X.K μ' H' ρ' σ' ∧ PostS X.K L.CA W μ' H' D (whTurns (L.t tx) (L.xs sxs) r ρ' st'), fun σ' H' q => ⟨r, by omega, q⟩, μ3, ρ2, s1, R3, E2.mono l3, ?_⟩
        have P3 := P2.le l3
        dsimp only at P3
        rw [if_pos rfl] at P3
        cases eo : L.xs sxs ρ2 s1 with
        | next ρ4 st4 =>
          rw [eo] at P3
          exact fun μ4 H4 σ4 l4 R4 E4 => ⟨μ4, ρ4, st4, R4, E4, P3.le l4⟩
        | cnt ρ4 st4 =>
          rw [eo] at P3
          exact fun μ4 H4 σ4 l4 R4 E4 => ⟨μ4, ρ4, st4, R4, E4, P3.le l4⟩
        | brk ρ4 st4 => rw [eo] at P3; exact P3
        | ret v st4 => rw [eo] at P3; exact P3
        | exc d v ρ4 st4 => rw [eo] at P3; exact P3
        | stuck => rw [eo] at P3; exact P3.elim
end
section
variable {L : Lib} {X : Cx} {W : WX} {e : Expr} {x y : Ex}
/-- an expression while a dict is locked -/
theorem d_lock (h : DE L X W e y) : DE L X W e (.lockd x y) := by
  refine PE.imp (pe_lock h) fun σ H Q hh => ?_
  obtain ⟨μ, ρ, st, R, E, P⟩ := hh
  have P : Post X.K L.CA W (RVal X.K) σ μ H Q (match pv2 ρ st x with
    | some (.ref n) => match st[n]? with
      | some (.dct kvs) => thawR n (ev L.cl y ρ (st.set n (.frd kvs)))
      | _ => .stuck
    | _ => .stuck) := P
  split at P
  · rename_i n hpv
    split at P
    · rename_i kvs hn
      obtain ⟨a, hm, _⟩ := R.ob n _ hn
      obtain ⟨kxs, h1, h2, h3⟩ := R.dct hm hn
      refine ⟨a, .dK kxs, h1, True.intro, fun od => ?_⟩
      obtain ⟨l1, R1⟩ := R.lock od hm hn h1 h2 h3
      have hfr : (upd H a (.frz od (.dK kxs))) a = some (.frz od (.dK kxs)) := upd_same
      refine ⟨μ, ρ, st.set n (.frd kvs), R1, E.mono l1, ?_⟩
      show Post X.K L.CA W (RVal X.K) σ μ (upd H a (.frz od (.dK kxs))) _ (ev L.cl y ρ (st.set n (.frd kvs)))
      cases eo : ev L.cl y ρ (st.set n (.frd kvs)) with
      | exc c v s2 => rw [eo] at P; exact P.elim
      | stuck => rw [eo] at P; exact P.elim
      | ok v st3 =>
        rw [eo] at P
        unfold thawR at P
        dsimp only at P
        split at P
        · rename_i st4 e4
          intro μ3 H3 z l3 R3 rz
          have f3 := l3.frz _ _ _ hfr
          unfold thawS at e4
          split at e4
          · rename_i kvs3 hs3
            cases e4
            have l0 : Le0 μ3 H3 μ3 (upd H3 a (.dK kxs)) := .of_unlock f3
            have R4 := R3.unlock (l3.at_ hm) hs3 f3
            refine ⟨f3, P μ3 _ z ⟨(l1.trans l3).pre, fun p xs h => l0.tup p xs ((l1.trans l3).tup p xs h), (fun p ob u h => ?_), fun p F h => ?_⟩ R4 (RepV.mono0 l0 rz)⟩
            · have ne : p ≠ a := fun z => by rw [z, h1] at h; cases h
              rw [upd_ne ne]
              exact l3.frz p ob u (by rw [upd_ne ne]; exact h)
            · have ne : p ≠ a := fun z => by rw [z, h1] at h; cases h
              rw [upd_ne ne]
              exact l3.ext p F (by rw [upd_ne ne]; exact h)
          · cases e4
        · exact P.elim
    · exact P.elim
  · exact P.elim
end
end EV

/-! ## EvIns -/
set_option maxRecDepth 100000
set_option maxHeartbeats 4000000
/-! EvIns: instances of own classes: fields, methods, properties, new ones. -/
namespace EV
open PySem L2
section
variable {K : PySem.W.Frag} {CA : Nat → Addr} {μ : List Addr} {st : Store} {H : Hp}
theorem lookup_rep {fs : List (Str × Val)} {gs : List (Str × V)} {f : Str} (h1 : fs.map (·.1) = gs.map (·.1)) (h2 : RepL K μ H (fs.map (·.2)) (gs.map (·.2))) : (∀ v, fs.lookup f = some v → ∃ x, gs.lookup f = some x ∧ RepV K μ H v x) ∧ (fs.lookup f = none → gs.lookup f = none) := by
  induction fs generalizing gs with
  | nil => cases gs with
    | nil => exact ⟨fun v h => (by cases h), fun _ => rfl⟩
    | cons a b => simp at h1
  | cons p ps ih => cases gs with
    | nil => simp at h1
    | cons q qs =>
      obtain ⟨a, v0⟩ := p
      obtain ⟨b, x0⟩ := q
      rw [List.map_cons, List.map_cons] at h1
      injection h1 with e1 e2
      have e1 : a = b := e1
      subst e1
      cases h2 with
      | cons r rs =>
        rw [List.lookup_cons, List.lookup_cons]
        cases q : f == a with
        | true => exact ⟨fun v h => (by cases h; exact ⟨x0, rfl, r⟩), fun h => (by cases h)⟩
        | false => exact ih e2 rs
theorem putF_rep {f : Str} {v : Val} {x : V} (r : RepV K μ H v x) : ∀ {fs : List (Str × Val)} {gs : List (Str × V)}, fs.map (·.1) = gs.map (·.1) → RepL K μ H (fs.map (·.2)) (gs.map (·.2)) →
    (putFV f v fs).map (·.1) = (putF f x gs).map (·.1) ∧ RepL K μ H ((putFV f v fs).map (·.2)) ((putF f x gs).map (·.2))
  | [], [], _, _ => ⟨rfl, .cons r .nil⟩
  | [], _ :: _, h1, _ => by simp at h1
  | _ :: _, [], h1, _ => by simp at h1
  | (a, v0) :: ps, (b, x0) :: qs, h1, h2 => by
    rw [List.map_cons, List.map_cons] at h1
    injection h1 with e1 e2
    have e1 : a = b := e1
    subst e1
    cases h2 with
    | cons r0 rs =>
      unfold putFV putF
      by_cases c : a = f
      · rw [if_pos c, if_pos c]
        exact ⟨by rw [List.map_cons, List.map_cons, e2], .cons r rs⟩
      · rw [if_neg c, if_neg c]
        obtain ⟨i1, i2⟩ := putF_rep r e2 rs
        exact ⟨by rw [List.map_cons, List.map_cons, i1], .cons r0 i2⟩
theorem Rel.insR (R : Rel K CA μ st H) {c n : Nat} {a : Addr} {fs : List (Str × Val)} (hm : μ[n]? = some a) (h : st[n]? = some (.ins c fs)) : ∃ dx gs, H a = some (.ins (CA c) dx gs) ∧ fs.map (·.1) = gs.map (·.1) ∧ RepL K μ H (fs.map (·.2)) (gs.map (·.2)) := by
  obtain ⟨ho, e1, e2⟩ := R.real hm h rfl
  cases ho with
  | ins C dx gs =>
    obtain ⟨h1, h2, h3⟩ := (show C = CA c ∧ fs.map (·.1) = gs.map (·.1) ∧ RepL K μ H (fs.map (·.2)) (gs.map (·.2)) from e2)
    subst h1
    exact ⟨dx, gs, e1, h2, h3⟩
  | _ => exact (show False from e2).elim
theorem insAt_some {c : Nat} {v : Val} {fs : List (Str × Val)} (h : insAt c v st = some fs) : ∃ n, v = .ref n ∧ st[n]? = some (.ins c fs) := by
  unfold insAt at h
  split at h
  · rename_i n
    split at h
    · rename_i c' fs' hn
      split at h
      · rename_i e
        cases h
        subst e
        exact ⟨n, rfl, hn⟩
      · cases h
    · cases h
  · cases h
end
section
variable {L : Lib} {X : Cx} {W : WX} {pos : Pos} {o e : Expr} {es : List Expr} {x y : Ex} {xs : Exs} {c : Nat} {f m : Str}
theorem d_fld (C : Cls X.K (L.CA c)) (na : NoAttr X.K (L.CA c) f) (ho : DE L X W o x) (hb : attributeBase o f X.env (eval o X.env) = eval o X.env := by rfl) : DE L X W (.Attribute o f pos) (.fld c x f) := by
  refine PE.imp (pe_fld ho hb) fun σ H Q h => ?_
  obtain ⟨μ, ρ, st, R, E, P⟩ := h
  refine ⟨μ, ρ, st, R, E, (Post.bind (RV := RVal X.K) P).imp fun w H1 h1 => ?_⟩
  obtain ⟨μ1, v, st1, l1, R1, rv, P1⟩ := h1
  split at P1
  · rename_i fs hfs
    obtain ⟨n, rfl, hn⟩ := insAt_some hfs
    cases rv with
    | ref ha =>
      obtain ⟨dx, gs, g1, g2, g3⟩ := R1.insR ha hn
      split at P1
      · rename_i w hw
        obtain ⟨z, hz, rz⟩ := (lookup_rep g2 g3).1 w hw
        exact ⟨_, _, dx, gs, z, rfl, g1, C, na, hz, P1 μ1 H1 z .refl R1 rz⟩
      · exact P1.elim
  · exact P1.elim
/-- o.f = e -/
theorem ds_setf {pos' : Pos} (C : Cls X.K (L.CA c)) (na : NoAttr X.K (L.CA c) f) (ho : DE L X W o x) (h : DE L X W e y) (hs : swapsWith e (some (.Attribute o f pos')) pos.line X.env = pure false := by rfl) : DS L X W (.Assign [.Attribute o f pos'] e pos) (.setf c x f y) := by
  refine PS.imp (ps_fld ho h hs) fun D σ H h => ?_
  obtain ⟨μ, ρ, st, R, E, P⟩ := h
  refine ⟨μ, ρ, st, R, E, (PostS.out (RV := RVal X.K) P E).imp fun w H1 h1 => ?_⟩
  obtain ⟨μ1, v, st1, l1, R1, rv, P1⟩ := h1
  refine ⟨μ1, ρ, st1, R1, E.mono l1, (PostS.out (RV := RVal X.K) P1 (E.mono l1)).imp fun w2 H2 h2 => ?_⟩
  obtain ⟨μ2, v2, st2, l2, R2, rv2, P2⟩ := h2
  split at P2
  · rename_i n
    split at P2
    · rename_i fs hfs
      obtain ⟨n', en, hn⟩ := insAt_some hfs
      cases en
      cases rv2 with
      | ref ha =>
        obtain ⟨dx, gs, g1, g2, g3⟩ := R2.insR ha hn
        split at P2
        · rename_i hl
          have hl := of_decide_eq_true hl
          have el : fs.length = gs.length := by simpa using congrArg List.length g2
          obtain ⟨p1, p2⟩ := putF_rep (f := f) (rv.mono l2) g2 g3
          exact ⟨_, _, dx, gs, rfl, g1, C, na, by omega, P2 μ2 _ σ (.of_write g1 (by exact True.intro)) (R2.write ha hn rfl g1 (by exact True.intro) (o := .ins (L.CA c) dx (putF f w gs)) (ob := .ins c (putFV f v fs)) ⟨rfl, p1, p2⟩) (E.mono ((l1.trans l2).trans (.of_write g1 (by exact True.intro))))⟩
        · exact P2.elim
    · exact P2.elim
  · exact P2.elim
/-- a def of a class, as its callers see it -/
def DefAt (L : Lib) (X : Cx) (fa : Addr) (id k : Nat) : Prop := ∃ (fd : FuncData) (ps : List Str), Binds X.K fd ps [] ∧ FnOk X.prog X.w X.K X.mg X.base (L2.CX X.prog X.w) k fa fd ps (spM X.K L.CA ps.length (L.cl id)) ∧ ∀ args st, args.length ≠ ps.length → L.cl id args st = .stuck
theorem sp_quiet {K : PySem.W.Frag} {CA : Nat → Addr} {n : Nat} {m : List Val → Store → Res Val} {vs : List V} {H : Hp} {Q : VK} {μ : List Addr} {args : List Val} {st : Store} {σ : L2.St} (hl : args.length = n) (R : Rel K CA μ st H) (r : RepL K μ H args vs) (P : Post K CA WF (RVal K) σ μ H Q (m args st).quiet) :
    spM K CA n m vs H Q fun _ _ _ => False := by
  refine ⟨by rw [← r.length]; exact hl, μ, args, st, R, r, ?_⟩
  cases e : m args st with
  | ok a s1 => rw [e] at P; exact P
  | exc c v s1 => rw [e] at P; exact P.elim
  | stuck => rw [e] at P; exact P.elim
theorem Post.toF {α β : Type} {K : PySem.W.Frag} {CA : Nat → Addr} {W : WX} {RV : List Addr → Hp → α → β → Prop} {σ : L2.St} {μ : List Addr} {H : Hp} {Q : β → Hp → Prop} {r : Res α} (h : Post K CA W RV σ μ H Q r.quiet) : Post K CA WF RV σ μ H Q r.quiet := by
  cases r with
  | ok a st => exact h
  | exc c v st => exact h.elim
  | stuck => exact h.elim
/-- C(..) -/
theorem d_mk {n : Str} {fa : Addr} {id k : Nat} {p : Pos} (F : DefAt L X fa id k) (M : Mk X.K (L.CA c) fa) (hr : Room (k + 1) X.A) (tk : Takes X W) (hg : Gl X n) (hm : X.mg n = some (.ref (L.CA c))) (ha : DA L X W (e :: es) xs)
    (hdb : (n == ("__debug__" : Str)) = false := by decide) (he : starEach (e :: es) X.env = (false, eval e X.env) :: starEach es X.env := by rfl) (hpl : (backTo pos (starEach es X.env)).any (·.1) = false := by rfl) :
    DE L X W (.Call (.Name n p) (e :: es) [] pos) (.mk c id xs) := by
  obtain ⟨fd, ps, h1, h2, h3⟩ := F
  refine PE.imp (pe_make (E := fun _ _ _ => False) M h2 hr hg hm h1 .nil (passes_call tk fun _ _ _ _ h => h.elim) ha hdb he hpl) fun σ H Q h => ?_
  obtain ⟨μ, ρ, st, R, E, P⟩ := h
  refine ⟨μ, ρ, st, R, E, (Post.bind (RV := RVals X.K) P).imp fun vs H1 h1 => ?_⟩
  obtain ⟨μ1, args, st1, l1, R1, rv, P1⟩ := h1
  intro xa dx hx hdx ne
  rw [List.append_nil]
  have hx' : (upd H1 dx (.own xa)) xa = none := by rw [upd_ne (Ne.symm ne)]; exact hx
  have R2 := (R1.beside (o := .own xa) hdx).alloc hx' (o := .ins (L.CA c) dx []) (ob := .ins c []) ⟨rfl, rfl, .nil⟩
  have l2 : Le μ1 H1 (μ1 ++ [xa]) (upd (upd H1 dx (.own xa)) xa (.ins (L.CA c) dx [])) := (Le.of_fresh hdx).trans (.of_new hx')
  by_cases hl : (Val.ref st1.length :: args).length = ps.length
  · refine sp_quiet (σ := σ) (μ := μ1 ++ [xa]) (args := .ref st1.length :: args) (st := st1 ++ [.ins c []]) hl R2 (.cons (.ref (alloc_at R1)) (rv.mono l2)) ?_
    have P1 : Post X.K L.CA W (RVal X.K) σ μ1 H1 Q ((L.cl id (.ref st1.length :: args) (st1 ++ [.ins c []])).quiet.bind fun v st2 => match v with
      | .non => .ok (.ref st1.length) st2
      | _ => .stuck) := P1
    generalize L.cl id (.ref st1.length :: args) (st1 ++ [.ins c []]) = rr at P1
    refine Post.toF (W := W) ?_
    cases rr with
    | ok a s2 =>
      intro μ' H' b l R' r
      cases r with
      | non => exact ⟨rfl, P1 μ' H' _ (l2.trans l) R' (.ref (l.at_ (alloc_at R1)))⟩
      | _ => exact P1.elim
    | exc c v s2 => exact P1.elim
    | stuck => exact P1.elim
  · have e := h3 (.ref st1.length :: args) (st1 ++ [.ins c []]) hl
    have P1 : Post X.K L.CA W (RVal X.K) σ μ1 H1 Q ((L.cl id (.ref st1.length :: args) (st1 ++ [.ins c []])).quiet.bind fun v st2 => match v with
      | .non => .ok (.ref st1.length) st2
      | _ => .stuck) := P1
    rw [e] at P1
    exact P1.elim
/-- o.m(..) -/
theorem d_meth {apos : Pos} {fa : Addr} {id k : Nat} {pl : Sem Bool} (F : DefAt L X fa id k) (C : Cls X.K (L.CA c)) (M : Meth X.K (L.CA c) m fa) (hr : Room k X.A) (tk : Takes X W) (ho : DE L X W o x) (ha : DA L X W (e :: es) xs)
    (he : starEach (e :: es) X.env = (false, eval e X.env) :: starEach es X.env := by rfl) (hpl : (backTo pos (starEach es X.env)).any (·.1) = false := by rfl)
    (hev : eval ((o.Attribute m apos).Call (e :: es) [] pos) X.env = (do
      let ov ← eval o X.env
      standAt apos.atName
      let __x ← holding [ov] (getMethod ov m pl)
      match __x with
        | (f, first) => callWith pos f first (backTo pos (starEach (e :: es) X.env)) (backToKw pos (keywordEach [] X.env))) := by rfl) :
    DE L X W (.Call (.Attribute o m apos) (e :: es) [] pos) (.meth c id m x xs) := by
  obtain ⟨fd, ps, h1, h2, h3⟩ := F
  refine PE.imp (pe_meth (E := fun _ _ _ => False) ho C M h2 hr h1 .nil (passes_call tk fun _ _ _ _ h => h.elim) ha he hpl hev) fun σ H Q h => ?_
  obtain ⟨μ, ρ, st, R, E, P⟩ := h
  refine ⟨μ, ρ, st, R, E, (Post.bind (RV := RVal X.K) P).imp fun w H1 h1 => ?_⟩
  obtain ⟨μ1, v, st1, l1, R1, rv, P1⟩ := h1
  split at P1
  · rename_i fs hfs
    obtain ⟨n, rfl, hn⟩ := insAt_some hfs
    cases rv with
    | ref hA =>
      obtain ⟨dx, gs, g1, g2, g3⟩ := R1.insR hA hn
      split at P1
      · rename_i hno
        have hno : fs.lookup m = none := Option.isNone_iff_eq_none.mp hno
        refine ⟨_, dx, gs, rfl, g1, (lookup_rep (μ := μ1) g2 g3).2 hno, μ1, ρ, st1, R1, E.mono l1, (Post.bind (RV := RVals X.K) P1).imp fun vs H2 h2 => ?_⟩
        obtain ⟨μ2, args, st2, l2, R2, rvs, P2⟩ := h2
        rw [List.append_nil]
        by_cases hl : (Val.ref n :: args).length = ps.length
        · exact sp_quiet (σ := σ) hl R2 (.cons (.ref (l2.at_ hA)) rvs) (Post.toF P2)
        · rw [h3 _ _ hl] at P2
          exact P2.elim
      · exact P1.elim
  · exact P1.elim
/-- a property's value -/
theorem d_prop {fa pa : Addr} {id k : Nat} (F : DefAt L X fa id k) (C : Cls X.K (L.CA c)) (M : PropOf X.K (L.CA c) f pa fa) (hr : Room (k + 1) X.A) (ho : DE L X W o x) (hb : attributeBase o f X.env (eval o X.env) = eval o X.env := by rfl) : DE L X W (.Attribute o f pos) (.prop c id x) := by
  obtain ⟨fd, ps, h1, h2, h3⟩ := F
  refine PE.imp (pe_prop (E := fun _ _ _ => False) ho C M h2 hr h1 .nil (passes_call takes_none5 fun _ _ _ _ h => h) hb) fun σ H Q h => ?_
  obtain ⟨μ, ρ, st, R, E, P⟩ := h
  refine ⟨μ, ρ, st, R, E, (Post.bind (RV := RVal X.K) P).imp fun w H1 h1 => ?_⟩
  obtain ⟨μ1, v, st1, l1, R1, rv, P1⟩ := h1
  split at P1
  · rename_i fs hfs
    obtain ⟨n, rfl, hn⟩ := insAt_some hfs
    cases rv with
    | ref hA =>
      obtain ⟨dx, gs, g1, g2, g3⟩ := R1.insR hA hn
      refine ⟨_, dx, gs, rfl, g1, ?_⟩
      by_cases hl : [Val.ref n].length = ps.length
      · exact sp_quiet (σ := σ) hl R1 (.cons (.ref hA) .nil) (Post.toF P1)
      · rw [h3 _ _ hl] at P1
        exact P1.elim
  · exact P1.elim
end
end EV

/-! ## EvExc -/
set_option maxRecDepth 100000
set_option maxHeartbeats 4000000
/-! EvExc: raise of own errors (whose __init__ keeps the value), try with one clause without a name. -/
namespace EV
open PySem L2

/-- what __init__ of the errors promises -/
def spErr (K : PySem.W.Frag) : Sp := fun vs H Q _ => ∃ (a C : Addr) (y : V), vs = [.ref a, y] ∧ OexC K C ∧ PySem.W.findIn K (.ref C) valueF = some none ∧ H a = some (exo a C none) ∧
  ∀ dx, H dx = none → dx ≠ a → Q .non (upd (upd H dx (exd dx [(valueF, y)])) a (exo a C (some dx)))
/-- an error's class -/
structure ErrAt (L : Lib) (X : Cx) (x : Str) (c : Nat) : Prop where
  ex : ∃ (fI : Addr) (fd : FuncData), OexC X.K (L.CA c) ∧ PySem.W.findIn X.K (.ref (L.CA c)) "__init__" = some (some (.ref fI)) ∧ PySem.W.typeIn X.K (.ref fI) = some (.type "function") ∧ PySem.W.findIn X.K (.ref (L.CA c)) valueF = some none ∧
    FnOk X.prog X.w X.K X.mg X.base (L2.CX X.prog X.w) 1 fI fd ["self", "value"] (spErr X.K) ∧ Binds X.K fd ["self", "value"] [] ∧ X.mg x = some (.ref (L.CA c))
section
variable {L : Lib} {X : Cx} {W : WX} {e : Expr} {x : Ex} {pos pos' p np : Pos} {n : Str} {c : Nat}
theorem del_back {H : Hp} {a d : Addr} {o1 o2 o3 o4 : HO} (ha : H a = none) (ne : d ≠ a) : upd (del (upd (upd (upd H a o1) d o2) a o3) a) d o4 = upd H d o4 := by
  funext b
  by_cases hb : b = d
  · subst hb; rw [upd_same, upd_same]
  · rw [upd_ne hb, upd_ne hb]
    by_cases hc : b = a
    · subst hc; rw [del_same, ha]
    · rw [del_ne hc, upd_ne hc, upd_ne hb, upd_ne hc]
theorem ds_rais (T : ErrAt L X n c) (hr : Room 2 X.A) (hc : X.calm = true) (tk : Takes X W) (hg : Gl X n) (h : DE L X W e x) (hs : starEach [e] X.env = (false, eval e X.env) :: starEach [] X.env := by rfl)
    (hdb : (n == ("__debug__" : Str)) = false := by decide) (hpl : (backTo pos (starEach [] X.env)).any (·.1) = false := by rfl) :
    DS L X W (.Raise (some (.Call (.Name n p) [e] [] pos)) none pos') (.rais c x) := by
  obtain ⟨fI, fd, TC, iC, tI, noN, F1, hb, hm⟩ := T.ex
  refine PS.imp (ps_raise hc tk (pmk_oex (dvs := []) (ds := []) (sp := spErr X.K) TC iC tI F1 hr hb .nil (passes_call (E := fun _ _ _ => False) tk fun _ _ _ _ h => h.elim) hg hm (da_cons h da_nil hs) (hdb := hdb) (he := hs) (hpl := hpl))) fun D σ H h => ?_
  obtain ⟨μ, ρ, st, R, E, P⟩ := h
  have P : PostS X.K L.CA W μ H D ((L.e x ρ st).out ρ fun v st1 => .exc c v ρ st1) := P
  refine ⟨μ, ρ, st, R, E, ?_⟩
  have P2 := PostS.out (RV := RVal X.K) P E
  show Post X.K L.CA W (RVals X.K) σ μ H _ ((L.e x ρ st).bind fun v st1 => .ok [v] st1)
  cases eo : L.e x ρ st with
  | stuck => rw [eo] at P2; exact P2.elim
  | exc c1 v1 st1 => rw [eo] at P2; exact P2
  | ok v st1 =>
    rw [eo] at P2
    intro μ1 H1 vs l1 R1 rvs
    cases rvs with
    | @cons _ w _ ws rv t =>
      cases t
      obtain ⟨μ2, a2, st2, l2, R2, rv2, P3⟩ := P2 μ1 H1 w l1 R1 rv
      refine ⟨(show 1 ≤ 1000 by decide), fun a ha => ⟨a, L.CA c, w, rfl, TC, noN, upd_same, fun dx hdx ne => ⟨rfl, dx, [(valueF, w)], upd_same, by rw [upd_ne ne]; exact upd_same, by rw [upd_ne ne] at hdx; exact hdx, ?_⟩⟩⟩
      rw [upd_ne ne] at hdx
      rw [del_back ha ne]
      exact P3 μ2 _ σ w dx (.of_fresh hdx) (R2.beside hdx) ((E.mono l2).mono (.of_fresh hdx)) (rv2.mono (.of_fresh hdx)) upd_same
/-- try: .. except C: .. -/
theorem ds_tryo {body suite : List Stmt} {b₀ : Stmt} {sb ss : List Sx} {hs ns : List Nat} (hst : X.stack = X.env :: X.outer) (hf : X.env.frame = some X.env.locals) (hN : Names X n (.ref (L.CA c))) (tk : Takes X W)
    (hy : ∀ d ∈ hs, PySem.W.exmOne X.K (.ref (L.CA d)) (.ref (L.CA c)) = some true) (hn : ∀ d ∈ ns, PySem.W.exmOne X.K (.ref (L.CA d)) (.ref (L.CA c)) = some false)
    (hb : ∀ (W' : WX) (pn : List (Addr × Obj)) (xe : Value → Shared → Prop), Takes (X.tr pn xe) W' → PassesOwn (model X.prog X.w) X.A X.env xe → DSs L (X.tr pn xe) W' body sb)
    (hsu : ∀ (a : Addr) (oe : Obj) (pn : List (Addr × Obj)), DSs L (X.suite a pn) W (b₀ :: suite) ss) :
    DS L X W (.Try body [.ExceptHandler (some (.Name n np)) none (b₀ :: suite) pos'] [] [] pos) (.tryo sb hs ns ss) := by
  refine PS.imp (ps_try_only (tb := fun W' => tS X.K L.CA W' (L.xs sb)) (ts := fun _ _ _ => tS X.K L.CA W (L.xs ss)) (Wout := W) hst hf hN tk (fun W' pn xe t1 t2 => hb W' pn xe t1 t2) (fun a oe cls d pn _ _ => hsu a oe _)) fun D σ H h => ?_
  obtain ⟨μ, ρ, st, R, E, P⟩ := h
  refine ⟨μ, ρ, st, R, E, ?_⟩
  have P : PostS X.K L.CA W μ H D (match L.xs sb ρ st with
    | .exc c v ρ1 st1 => if hs.contains c then L.xs ss ρ1 st1 else if ns.contains c then .exc c v ρ1 st1 else .stuck
    | o => o) := P
  cases eo : L.xs sb ρ st with
  | exc c1 v ρ1 st1 =>
    rw [eo] at P
    dsimp only at P
    intro μ' H' σ' x d l R' E' rv hd
    by_cases h1 : hs.contains c1
    · rw [if_pos h1] at P
      exact ⟨true, hy c1 (List.contains_iff_mem.mp h1), fun _ a _ => ⟨μ', ρ1, st1, R', E', P.le l⟩, (fun z => by cases z)⟩
    · rw [if_neg h1] at P
      by_cases h2 : ns.contains c1
      · rw [if_pos h2] at P
        exact ⟨false, hn c1 (List.contains_iff_mem.mp h2), (fun z => by cases z), fun _ => P μ' H' σ' x d l R' E' rv hd⟩
      · rw [if_neg h2] at P
        exact P.elim
  | next ρ1 st1 => rw [eo] at P; exact P
  | ret v st1 => rw [eo] at P; exact P
  | brk ρ1 st1 => rw [eo] at P; exact P
  | cnt ρ1 st1 => rw [eo] at P; exact P
  | stuck => rw [eo] at P; exact P
end
/-- the errors' __init__ -/
theorem err_init {P : Program} {w : World} {K : PySem.W.Frag} {mg : Str → Option Value} {base : Heap} {qual : Str} {params : Arguments} {scope : Scope} {f : Addr} {fd : FuncData} {p1 p2 p3 p4 : Pos}
    (F : FunD K "__init__" qual params [.Assign [.Attribute (.Name "self" p1) "value" p2] (.Name "value" p3) p4] scope [] [] f fd) (S : FnScope ["self", "value"] ["self", "value"] scope) :
    FnOk P w K mg base (L2.CX P w) 1 f fd ["self", "value"] (spErr K) := by
  refine F.ok S (fun vs H Q E h => ?_) (fun cdv A outer s H vs Q E hr h => ?_)
  · obtain ⟨a, C, y, rfl, _⟩ := h
    rfl
  · obtain ⟨a, C, y, rfl, T, hno, ha, k⟩ := h
    have v0 : Vis scope "self" := by
      rcases S.par "self" (by simp) with h | h
      · exact .inl h
      · exact .inr (.inl h)
    have v1 : Vis scope "value" := by
      rcases S.par "value" (by simp) with h | h
      · exact .inl h
      · exact .inr (.inl h)
    refine ⟨_, pss_one (ps_ost (pe_var (i := 0) rfl v0 (by decide)) (pe_var (i := 1) rfl v1 (by decide))), ?_⟩
    refine ⟨y, rfl, .ref a, rfl, a, C, rfl, T, hno, .inl ⟨ha, fun dx h1 h2 => k dx h1 h2⟩⟩
end EV

/-! ## EvNot -/
set_option maxRecDepth 100000
set_option maxHeartbeats 4000000
/-! EvNot: not as a value; the built-ins' values; contexts. -/
namespace EV
open PySem L2
theorem tru_rep {K : PySem.W.Frag} {CA : Nat → Addr} {μ : List Addr} {st : Store} {H : Hp} {v : Val} {w : V} {k : Bool} (R1 : Rel K CA μ st H) (rv : RepV K μ H v w) (ek : truV st v = some k) : TruV K w H k := by
  cases rv with
  | non => cases ek; rfl
  | bl b => cases ek; rfl
  | int i => cases ek; rfl
  | str z =>
    have e : (if lineOk z.length then some ((z.length : Int) != 0) else none) = some k := ek
    split at e
    · rename_i hl
      cases e
      exact ⟨line_le hl, rfl⟩
    · cases e
  | @tup p vs ws h r =>
    cases ek
    exact .inr (.inl ⟨ws, h, by rw [isEmpty_rep r]⟩)
  | @ref n p hn =>
    unfold truV at ek
    dsimp only at ek
    split at ek
    · rename_i vs ho
      cases ek
      obtain ⟨ws, h1, h2⟩ := R1.lst hn (show lstAt st n = some vs by unfold lstAt; rw [ho])
      exact .inl ⟨ws, h1, by rw [isEmpty_rep h2]⟩
    · rename_i vs ho
      cases ek
      obtain ⟨ws, h1, h2⟩ := R1.lst hn (show lstAt st n = some vs by unfold lstAt; rw [ho])
      exact .inl ⟨ws, h1, by rw [isEmpty_rep h2]⟩
    · rename_i kvs ho
      cases ek
      obtain ⟨kxs, h1, h2, h3⟩ := R1.dct hn ho
      refine .inr (.inr ⟨kxs, h1, ?_⟩)
      have z : kvs.length = kxs.length := by simpa using congrArg List.length h2
      cases kvs <;> cases kxs <;> first | rfl | simp at z
    · cases ek
section
variable {L : Lib} {X : Cx} {W : WX} {a : Expr} {x : Ex} {pos : Pos}
theorem d_not (ha : DE L X W a x) : DE L X W (.UnaryOp .Not a pos) (.not (.val x)) := by
  refine PE.imp (pe_notT ha) fun σ H Q h => ?_
  obtain ⟨μ, ρ, st, R, E, P⟩ := h
  have P : Post X.K L.CA W (RVal X.K) σ μ H Q (((L.e x ρ st).bind fun v st1 => match truV st1 v with
    | some b => .ok b st1
    | none => .stuck).bind fun b st1 => .ok (.bl (!b)) st1) := P
  have P2 : Post X.K L.CA W (RVal X.K) σ μ H Q ((L.e x ρ st).bind fun v st1 => match truV st1 v with
    | some b => .ok (.bl (!b)) st1
    | none => .stuck) := by
    cases e : L.e x ρ st with
    | ok v s =>
      rw [e] at P
      show Post X.K L.CA W (RVal X.K) σ μ H Q (match truV s v with
        | some b => .ok (.bl (!b)) s
        | none => .stuck)
      cases e2 : truV s v with
      | some b =>
        have P : Post X.K L.CA W (RVal X.K) σ μ H Q ((match truV s v with
          | some b => .ok b s
          | none => .stuck : Res Bool).bind fun b st1 => .ok (.bl (!b)) st1) := P
        rw [e2] at P; exact P
      | none =>
        have P : Post X.K L.CA W (RVal X.K) σ μ H Q ((match truV s v with
          | some b => .ok b s
          | none => .stuck : Res Bool).bind fun b st1 => .ok (.bl (!b)) st1) := P
        rw [e2] at P; exact P
    | exc c v s => rw [e] at P; exact P
    | stuck => rw [e] at P; exact P
  refine (show tE X.K L.CA W (L.e x) σ H _ from ⟨μ, ρ, st, R, E, (Post.bind (RV := RVal X.K) P2).imp fun w H1 h1 => ?_⟩)
  obtain ⟨μ1, v, st1, l1, R1, rv, P1⟩ := h1
  cases e : truV st1 v with
  | none => rw [e] at P1; exact P1.elim
  | some k => rw [e] at P1; exact ⟨k, tru_rep R1 rv e, P1 μ1 H1 _ .refl R1 (.bl _)⟩
end
section
variable {L : Lib} {X : Cx} {W : WX} {a : Expr} {x : Ex} {pos p : Pos} {n : Str} {kvs : List (Str × Val)}
theorem tin_bl (neg : Bool) (ρ : Fr) (st : Store) (v : Val) (st' : Store) (h : L.e (.tin neg kvs x) ρ st = .ok v st') : ∃ k, v = .bl k := by
  obtain ⟨v1, st1, h1, h⟩ := bind_ok h
  cases v1 with
  | str z => cases h; exact ⟨_, rfl⟩
  | _ => cases h
theorem dt_tin (T : TabAt X n kvs) (hg : Gl X n) (ha : DE L X W a x) (hd : (n == ("__debug__" : Str)) = false := by decide) (hm : behindInMarks .In (.Name n p) = false := by rfl) : DT L X W (.Compare a [.In] [.Name n p] pos) (.val (.tin false kvs x)) := by
  obtain ⟨D, es, m, hg2, KD, ht⟩ := T.ex
  refine PT.imp (pt_cmpR (op_in_kd KD) ha (pe_glob (v := .ref D) hg hg2 rfl hd) hm) fun σ H Q h => tst_imp (f := L.e (.tin false kvs x)) (fun σ H Q h => ?_) (tin_bl false) h
  obtain ⟨μ, ρ, st, R, E, P⟩ := h
  refine (show tE X.K L.CA W (L.e x) σ H _ from ⟨μ, ρ, st, R, E, (Post.bind (RV := RVal X.K) P).imp fun w H1 h1 => ?_⟩)
  obtain ⟨μ1, v, st1, l1, R1, rv, P1⟩ := h1
  cases rv with
  | str z =>
    have q := ht z
    have P2 : Post X.K L.CA W (RVal X.K) σ μ1 H1 Q (.ok (.bl (false != (kvs.lookup z).isSome)) st1) := P1
    have P3 := P2 μ1 H1 (.bl (false != (kvs.lookup z).isSome)) .refl R1 (.bl _)
    cases ez : kvs.lookup z with
    | none => rw [ez] at P3 q; exact ⟨z, none, rfl, rfl, q, P3⟩
    | some u =>
      rw [ez] at P3 q
      obtain ⟨u', y', n1, r1, rp⟩ := q
      exact ⟨z, some u', rfl, rfl, n1, P3⟩
  | _ => exact P1.elim
theorem dt_tnotin (T : TabAt X n kvs) (hg : Gl X n) (ha : DE L X W a x) (hd : (n == ("__debug__" : Str)) = false := by decide) (hm : behindInMarks .NotIn (.Name n p) = false := by rfl) : DT L X W (.Compare a [.NotIn] [.Name n p] pos) (.val (.tin true kvs x)) := by
  obtain ⟨D, es, m, hg2, KD, ht⟩ := T.ex
  refine PT.imp (pt_cmpR (op_notIn_kd KD) ha (pe_glob (v := .ref D) hg hg2 rfl hd) hm) fun σ H Q h => tst_imp (f := L.e (.tin true kvs x)) (fun σ H Q h => ?_) (tin_bl true) h
  obtain ⟨μ, ρ, st, R, E, P⟩ := h
  refine (show tE X.K L.CA W (L.e x) σ H _ from ⟨μ, ρ, st, R, E, (Post.bind (RV := RVal X.K) P).imp fun w H1 h1 => ?_⟩)
  obtain ⟨μ1, v, st1, l1, R1, rv, P1⟩ := h1
  cases rv with
  | str z =>
    have q := ht z
    have P2 : Post X.K L.CA W (RVal X.K) σ μ1 H1 Q (.ok (.bl (true != (kvs.lookup z).isSome)) st1) := P1
    have P3 := P2 μ1 H1 (.bl (true != (kvs.lookup z).isSome)) .refl R1 (.bl _)
    cases ez : kvs.lookup z with
    | none => rw [ez] at P3 q; exact ⟨z, none, rfl, rfl, q, P3⟩
    | some u =>
      rw [ez] at P3 q
      obtain ⟨u', y', n1, r1, rp⟩ := q
      exact ⟨z, some u', rfl, rfl, n1, P3⟩
  | _ => exact P1.elim
end
theorem bb_len : bootBuiltins "len" = some (.builtin "len") := by first | rfl | decide +kernel | kernel_rfl
theorem bb_max : bootBuiltins "max" = some (.builtin "max") := by first | rfl | decide +kernel | kernel_rfl
theorem bb_min : bootBuiltins "min" = some (.builtin "min") := by first | rfl | decide +kernel | kernel_rfl
theorem bb_abs : bootBuiltins "abs" = some (.builtin "abs") := by first | rfl | decide +kernel | kernel_rfl
theorem bb_all : bootBuiltins "all" = some (.builtin "all") := by first | rfl | decide +kernel | kernel_rfl
theorem bb_any : bootBuiltins "any" = some (.builtin "any") := by first | rfl | decide +kernel | kernel_rfl
theorem bb_sum : bootBuiltins "sum" = some (.builtin "sum") := by first | rfl | decide +kernel | kernel_rfl
theorem bb_sorted : bootBuiltins "sorted" = some (.builtin "sorted") := by first | rfl | decide +kernel | kernel_rfl
theorem bb_isinstance : bootBuiltins "isinstance" = some (.builtin "isinstance") := by first | rfl | decide +kernel | kernel_rfl
theorem bb_int : bootBuiltins "int" = some (.type "int") := by first | rfl | decide +kernel | kernel_rfl
theorem bb_str : bootBuiltins "str" = some (.type "str") := by first | rfl | decide +kernel | kernel_rfl
theorem bb_list : bootBuiltins "list" = some (.type "list") := by first | rfl | decide +kernel | kernel_rfl
theorem bb_tuple : bootBuiltins "tuple" = some (.type "tuple") := by first | rfl | decide +kernel | kernel_rfl
theorem bb_dict : bootBuiltins "dict" = some (.type "dict") := by first | rfl | decide +kernel | kernel_rfl
theorem bb_ty (T : Ty) : bootBuiltins (tyA T) = some (.type (tyN T)) := by cases T <;> first | rfl | decide +kernel | kernel_rfl
theorem ne_ty (T : Ty) : tyA T ≠ "__name__" := by cases T <;> decide
theorem nd_ty (T : Ty) : (tyA T == ("__debug__" : Str)) = false := by cases T <;> decide
/-- what of the world a context has -/
def On (X : Cx) (P : Program) (w : World) (K : PySem.W.Frag) (mg : Str → Option Value) (base : Heap) : Prop := X.prog = P ∧ X.w = w ∧ X.K = K ∧ X.mg = mg ∧ X.base = base
end EV

/-! ## EvHead -/
set_option maxRecDepth 100000
set_option maxHeartbeats 4000000
/-! EvHead: from the head's facts to the contexts' ones; the law's end. -/
namespace EV
open PySem L2

/-! ### the errors' classes -/
def oexB (K : PySem.W.Frag) (x : Str) : Bool := match K.lookup (He.ga K x) with
  | some ⟨.type t, _, .cls cd, sl⟩ => (match cd.mro, sl.toList with
    | .ref c :: bm, [_, _, _, _, some (.builtin n), _] => decide (t = "type") && (decide (c = He.ga K x) && (decide (n = "ValueError.__new__") && (!cd.hasDel && (cd.hasDict && PySem.HandSPX.refsVE bm))))
    | _, _ => false)
  | _ => false
theorem oexB_ok {K : PySem.W.Frag} {x : Str} (q : oexB K x = true) : ∃ nm q N bs bm sn sub ab col dd k0 k1 k2 k3 k5, K.lookup (He.ga K x) = some (excClassObj nm q (He.ga K x) N bs bm true sn sub ab col dd k0 k1 k2 k3 k5 "ValueError.__new__") ∧ PySem.HandSPX.refsVE bm = true := by
  unfold oexB at q
  split at q
  · rename_i t dd cd sl ho
    split at q
    · rename_i c bm k0 k1 k2 k3 n k5 hm hs
      simp only [Bool.and_eq_true, decide_eq_true_eq, Bool.not_eq_true'] at q
      obtain ⟨e1, e2, e3, e4, e5, e6⟩ := q
      obtain ⟨nm, bs, chain, ns, qn, hd, sn, sub, ab, col, fin⟩ := cd
      dsimp only at hm e4 e5
      subst hm e4 e5 e1 e3
      obtain ⟨l⟩ := sl
      dsimp only at hs
      subst hs
      rw [e2] at ho
      exact ⟨nm, qn, ns, bs, bm, sn, sub, ab, col, dd, k0, k1, k2, k3, k5, ho, e6⟩
    · cases q
  · cases q
def errB (K : PySem.W.Frag) (x : Str) : Bool := oexB K x && (He.eqO (PySem.W.findIn K (.ref (He.ga K x)) "__setattr__") (some (some (.builtin "object.__setattr__"))) &&
  (decide (PySem.W.subIn K (.ref (He.ga K x)) (.type "BaseException") = some true) && (decide (PySem.W.typeIn K (.ref (He.ga K x)) = some (.type "type")) && (PySem.W.keepIn K (.ref (He.ga K x)) &&
  (He.eqO (PySem.W.findIn K (.ref (He.ga K x)) "__init__") (some (some (.ref (He.ma K (He.ga K x) "__init__")))) && (decide (PySem.W.typeIn K (.ref (He.ma K (He.ga K x) "__init__")) = some (.type "function")) &&
  He.eqO (PySem.W.findIn K (.ref (He.ga K x)) valueF) (some none)))))))
structure ErrK (K : PySem.W.Frag) (x : Str) : Prop where
  oex : OexC K (He.ga K x)
  ini : PySem.W.findIn K (.ref (He.ga K x)) "__init__" = some (some (.ref (He.ma K (He.ga K x) "__init__")))
  tyI : PySem.W.typeIn K (.ref (He.ma K (He.ga K x) "__init__")) = some (.type "function")
  noV : PySem.W.findIn K (.ref (He.ga K x)) valueF = some none
theorem errB_ok {K : PySem.W.Frag} {x : Str} (h : errB K x = true) : ErrK K x := by
  unfold errB at h
  simp only [Bool.and_eq_true, decide_eq_true_eq] at h
  obtain ⟨h1, h2, h3, h4, h5, h6, h7, h8⟩ := h
  exact ⟨⟨oexB_ok h1, He.eqO_ok h2, h3, h4, h5⟩, He.eqO_ok h6, h7, He.eqO_ok h8⟩
/-! ### a def at a level -/
def defD (at_ : Str × Option Str) (name qual : Str) (st : Stmt) : He.DefD := ⟨at_, name, qual, defArgs st, defBody st, defScope st, [], []⟩
section
variable {P : Program} {w : World} {K : PySem.W.Frag} {mg : Str → Option Value} {base : Heap}
/-- what a def's body gives its callers -/
theorem fn_okD {L : Lib} {name qual : Str} {st : Stmt} {f : Addr} {fd : FuncData} {N ps : List Str} {k : Nat} {sxs : List Sx} {m : List Val → Store → Res Val} (F : FunD K name qual (defArgs st) (defBody st) (defScope st) [] [] f fd) (S : FnScope N ps (defScope st))
    (hm : ∀ args s, m args s = if args.length = ps.length then runB L.cl N.length sxs args s else .stuck)
    (hb : ∀ (cdv : Value) (A : Around) (outer : List Env) (s : Shared) (H : Hp) (E : XK), Room k (A.deeper (PyProof.Rows.envOfC qual (defScope st) s.heap.objs.size f cdv)) →
      DSs L (cxOf (L2.CX P w) P w K mg base N qual (defScope st) f cdv A outer s H E) (fun c d _ H => E c d H) (defBody st) sxs) :
    FnOk P w K mg base (L2.CX P w) (k + 1) f fd ps (spM K L.CA ps.length m) := by
  refine F.ok S (fun vs H Q E h => h.1) fun cdv A outer s H vs Q E hr h => ⟨_, hb cdv A outer s H E hr, ?_⟩
  obtain ⟨hl, μ, args, st', R, rv, q⟩ := h
  refine ⟨μ, args.map some ++ List.replicate (N.length - args.length) none, st', R, ?_, ?_⟩
  · have e1 := rv.length
    refine ⟨?_, fun i v h => ?_⟩
    · unfold L2.start
      rw [List.length_append, List.length_append, List.length_map, List.length_map, List.length_replicate, List.length_replicate, e1]
    · unfold L2.start
      by_cases hi : i < args.length
      · rw [List.getElem?_append_left (by simpa using hi), List.getElem?_map] at h
        cases e : args[i]? with
        | none => rw [e] at h; cases h
        | some u =>
          rw [e] at h
          cases h
          obtain ⟨y, hy, r⟩ := rv.get e
          exact ⟨y, by rw [List.getElem?_append_left (by simp; omega), List.getElem?_map, hy]; rfl, r⟩
      · rw [List.getElem?_append_right (by simpa using hi), List.getElem?_replicate] at h
        split at h <;> cases h
  · rw [hm, if_pos (by rw [rv.length]; exact hl)] at q
    unfold runB at q
    have q : Post K L.CA (fun c d _ H' => E c d H') (RVal K) [] μ H Q (match L.xs sxs (args.map some ++ List.replicate (N.length - args.length) none) st' with
      | .next _ st => .ok .non st
      | .ret v st => .ok v st
      | .exc c v _ st => .exc c v st
      | _ => .stuck) := q
    show PostS K L.CA (fun c d _ H => E c d H) μ H { nx := fun _ H' => Q .non H', rt := Q } (L.xs sxs (args.map some ++ List.replicate (N.length - args.length) none) st')
    cases eo : L.xs sxs (args.map some ++ List.replicate (N.length - args.length) none) st' with
    | next ρ st => rw [eo] at q; exact fun μ' H' σ' l R' E' => q μ' H' _ l R' .non
    | ret v st => rw [eo] at q; exact q
    | exc c v ρ st => rw [eo] at q; exact fun μ' H' σ' x d l R' _ rv hd => q μ' H' x d l R' rv hd
    | brk ρ st => rw [eo] at q; exact q.elim
    | cnt ρ st => rw [eo] at q; exact q.elim
    | stuck => rw [eo] at q; exact q.elim
/-- keywords in an order: the places of the parameters among them -/
def KeyB (f : Str) (ps : List Str) (st : Stmt) (ks : List Str) (perm : List Nat) : Prop := ∀ (kV doc pm : Value) (an : Option Addr) (cdv ct : Value) (us : List Value), us.length = ks.length → bindArgs (PySem.W.fnOf f f (defArgs st) (defBody st) (defScope st) .none kV doc pm an cdv ct) ⟨[], ks.zip us⟩ = pure (ps.zip (permL perm us))
/-- a def at a level, as its callers want it -/
structure FnG (P : Program) (w : World) (K : PySem.W.Frag) (mg : Str → Option Value) (base : Heap) (CA : Nat → Addr) (f : Str) (ps : List Str) (k : Nat) (m : List Val → Store → Res Val) (st : Stmt) : Prop where
  ex : ∃ (a : Addr) (fd : FuncData), mg f = some (.ref a) ∧ PySem.W.keepIn K (.ref a) = true ∧ Binds K fd ps [] ∧ KBn K fd ps 0 ps (fun us ws => us ++ ws) (fun vs zs => vs ++ zs) ∧ FnOk P w K mg base (L2.CX P w) k a fd ps (spM K CA ps.length m) ∧
    ∀ ks perm, KeyB f ps st ks perm → KBn K fd ps 0 ks (fun us ws => permL perm (us ++ ws)) (fun vs zs => permL perm (vs ++ zs))
theorem FnG.atP {L : Lib} {f : Str} {ps : List Str} {k id : Nat} {sm : Stmt} (F : FnG P w K mg base L.CA f ps k (L.cl id) sm) (hs : ∀ args st, args.length ≠ ps.length → L.cl id args st = .stuck) {ks : List Str} {perm : List Nat} (hk : KeyB f ps sm ks perm) : ∀ X : Cx, On X P w K mg base → FnAtP L X f id k ks perm := by
  rintro X ⟨rfl, rfl, rfl, rfl, rfl⟩
  obtain ⟨a, fd, h1, h2, h3, h4, h5, h6⟩ := F.ex
  exact ⟨a, fd, ps, h1, h2, h6 ks perm hk, h5, hs⟩
theorem FnG.at_ {L : Lib} {f : Str} {ps : List Str} {k id : Nat} {sm : Stmt} (F : FnG P w K mg base L.CA f ps k (L.cl id) sm) (hs : ∀ args st, args.length ≠ ps.length → L.cl id args st = .stuck) : ∀ X : Cx, On X P w K mg base → FnAt L X f id k := by
  rintro X ⟨rfl, rfl, rfl, rfl, rfl⟩
  obtain ⟨a, fd, h1, h2, h3, h4, h5, _⟩ := F.ex
  exact ⟨a, fd, ps, h1, h2, h3, h5, hs⟩
theorem FnG.atK {L : Lib} {f : Str} {ps : List Str} {k id : Nat} {sm : Stmt} (F : FnG P w K mg base L.CA f ps k (L.cl id) sm) (hs : ∀ args st, args.length ≠ ps.length → L.cl id args st = .stuck) : ∀ X : Cx, On X P w K mg base → FnAtK L X f id k ps := by
  rintro X ⟨rfl, rfl, rfl, rfl, rfl⟩
  obtain ⟨a, fd, h1, h2, h3, h4, h5, _⟩ := F.ex
  exact ⟨a, fd, ps, h1, h2, h4, rfl, h5, hs⟩
theorem spM_stuck {K : PySem.W.Frag} {CA : Nat → Addr} {n : Nat} {m : List Val → Store → Res Val} (hm : ∀ args s, m args s = .stuck) {vs : List V} {H : Hp} {Q : VK} {E : XK} (h : spM K CA n m vs H Q E) : False := by
  obtain ⟨_, μ, args, st, _, _, q⟩ := h
  rw [hm] at q
  exact q
/-- the def's way to be called, and its promise at any level above a body -/
structure FnB (K : PySem.W.Frag) (mg : Str → Option Value) (f : Str) (ps : List Str) (st : Stmt) (a : Addr) (fd : FuncData) : Prop where
  gl : mg f = some (.ref a)
  F : FunD K f f (defArgs st) (defBody st) (defScope st) [] [] a fd
  b : Binds K fd ps []
  kb : KBn K fd ps 0 ps (fun us ws => us ++ ws) (fun vs zs => vs ++ zs)
  bA : ∀ (s : Shared) (us : List Value), us.length = ps.length → BindsTo s fd ⟨us, []⟩ (ps.zip us)
theorem FnB.kbp {f : Str} {ps : List Str} {st : Stmt} {a : Addr} {fd : FuncData} (B : FnB K mg f ps st a fd) (ks : List Str) (perm : List Nat) (hk : KeyB f ps st ks perm) : KBn K fd ps 0 ks (fun us ws => permL perm (us ++ ws)) (fun vs zs => permL perm (vs ++ zs)) := by
  refine ⟨fun s us ws _ h1 h2 => ?_, fun r1 r2 => Vals.perm (r1.append r2) perm⟩
  obtain ⟨_, _, dV, k1, k2, k3, k4, k5, k6, _, rfl, _, _, hD, _⟩ := B.F.ex
  have e : us = [] := List.length_eq_zero_iff.mp h1
  subst e
  rcases hD with ⟨_, rfl⟩ | ⟨z, _⟩
  · rw [List.nil_append]
    exact .of_eq (hk k1 k2 k3 k4 k5 k6 ws h2)
  · exact absurd rfl z
theorem FnG.zero {CA : Nat → Addr} {f : Str} {ps N : List Str} {st : Stmt} {a : Addr} {fd : FuncData} {m : List Val → Store → Res Val} {k : Nat} (B : FnB K mg f ps st a fd) (S : FnScope N ps (defScope st)) (hm : ∀ args s, m args s = .stuck) : FnG P w K mg base CA f ps (k + 1) m st :=
  ⟨a, fd, B.gl, B.F.kp, B.b, B.kb, B.F.ok S (fun vs H Q E h => h.1) (fun cdv A outer s H vs Q E hr h => (spM_stuck hm h).elim), B.kbp⟩
theorem FnG.succ {L : Lib} {f : Str} {ps N : List Str} {st : Stmt} {a : Addr} {fd : FuncData} {k : Nat} {sxs : List Sx} {m : List Val → Store → Res Val} (B : FnB K mg f ps st a fd) (S : FnScope N ps (defScope st))
    (hm : ∀ args s, m args s = if args.length = ps.length then runB L.cl N.length sxs args s else .stuck)
    (hb : ∀ (cdv : Value) (A : Around) (outer : List Env) (s : Shared) (H : Hp) (E : XK), Room k (A.deeper (PyProof.Rows.envOfC f (defScope st) s.heap.objs.size a cdv)) →
      DSs L (cxOf (L2.CX P w) P w K mg base N f (defScope st) a cdv A outer s H E) (fun c d _ H => E c d H) (defBody st) sxs) : FnG P w K mg base L.CA f ps (k + 1) m st :=
  ⟨a, fd, B.gl, B.F.kp, B.b, B.kb, fn_okD B.F S hm hb, B.kbp⟩
/-- the way to be called, out of bindArgs -/
theorem fnB_of {f : Str} {ps : List Str} {st : Stmt} {a : Addr} {fd : FuncData} (gl : mg f = some (.ref a)) (F : FunD K f f (defArgs st) (defBody st) (defScope st) [] [] a fd)
    (h : ∀ (kV doc pm : Value) (an : Option Addr) (cdv ct : Value) (us : List Value), us.length = ps.length → bindArgs (PySem.W.fnOf f f (defArgs st) (defBody st) (defScope st) .none kV doc pm an cdv ct) ⟨us, []⟩ = pure (ps.zip us))
    (hk : ∀ (kV doc pm : Value) (an : Option Addr) (cdv ct : Value) (us : List Value), us.length = ps.length → bindArgs (PySem.W.fnOf f f (defArgs st) (defBody st) (defScope st) .none kV doc pm an cdv ct) ⟨[], ps.zip us⟩ = pure (ps.zip us)) : FnB K mg f ps st a fd := by
  refine ⟨gl, F, F.bindsN h, ⟨fun s us ws _ h1 h2 => ?_, fun r1 r2 => r1.append r2⟩, fun s us hl => F.bindsA h s us hl⟩
  obtain ⟨_, _, dV, k1, k2, k3, k4, k5, k6, _, rfl, _, _, hD, _⟩ := F.ex
  have e : us = [] := List.length_eq_zero_iff.mp h1
  subst e
  rcases hD with ⟨_, rfl⟩ | ⟨z, _⟩
  · rw [List.nil_append]
    exact .of_eq (hk k1 k2 k3 k4 k5 k6 ws h2)
  · exact absurd rfl z
end
/-! ### methods -/
/-- a method's def -/
structure FmB (K : PySem.W.Frag) (name qual : Str) (ps : List Str) (st : Stmt) (a : Addr) (fd : FuncData) : Prop where
  F : FunD K name qual (defArgs st) (defBody st) (defScope st) [] [] a fd
  b : Binds K fd ps []
/-- a method at a level -/
def FmG (P : Program) (w : World) (K : PySem.W.Frag) (mg : Str → Option Value) (base : Heap) (CA : Nat → Addr) (a : Addr) (ps : List Str) (k : Nat) (m : List Val → Store → Res Val) : Prop :=
  ∃ fd : FuncData, Binds K fd ps [] ∧ FnOk P w K mg base (L2.CX P w) k a fd ps (spM K CA ps.length m)
section
variable {P : Program} {w : World} {K : PySem.W.Frag} {mg : Str → Option Value} {base : Heap}
theorem fmB_of {name qual : Str} {ps : List Str} {st : Stmt} {a : Addr} {fd : FuncData} (F : FunD K name qual (defArgs st) (defBody st) (defScope st) [] [] a fd)
    (h : ∀ (kV doc pm : Value) (an : Option Addr) (cdv ct : Value) (us : List Value), us.length = ps.length → bindArgs (PySem.W.fnOf name qual (defArgs st) (defBody st) (defScope st) .none kV doc pm an cdv ct) ⟨us, []⟩ = pure (ps.zip us)) : FmB K name qual ps st a fd := ⟨F, F.bindsN h⟩
theorem FmG.zero {CA : Nat → Addr} {name qual : Str} {ps N : List Str} {st : Stmt} {a : Addr} {fd : FuncData} {m : List Val → Store → Res Val} {k : Nat} (B : FmB K name qual ps st a fd) (S : FnScope N ps (defScope st)) (hm : ∀ args s, m args s = .stuck) : FmG P w K mg base CA a ps (k + 1) m :=
  ⟨fd, B.b, B.F.ok S (fun vs H Q E h => h.1) (fun cdv A outer s H vs Q E hr h => (spM_stuck hm h).elim)⟩
theorem FmG.succ {L : Lib} {name qual : Str} {ps N : List Str} {st : Stmt} {a : Addr} {fd : FuncData} {k : Nat} {sxs : List Sx} {m : List Val → Store → Res Val} (B : FmB K name qual ps st a fd) (S : FnScope N ps (defScope st))
    (hm : ∀ args s, m args s = if args.length = ps.length then runB L.cl N.length sxs args s else .stuck)
    (hb : ∀ (cdv : Value) (A : Around) (outer : List Env) (s : Shared) (H : Hp) (E : XK), Room k (A.deeper (PyProof.Rows.envOfC qual (defScope st) s.heap.objs.size a cdv)) →
      DSs L (cxOf (L2.CX P w) P w K mg base N qual (defScope st) a cdv A outer s H E) (fun c d _ H => E c d H) (defBody st) sxs) : FmG P w K mg base L.CA a ps (k + 1) m :=
  ⟨fd, B.b, fn_okD B.F S hm hb⟩
theorem FmG.at_ {L : Lib} {a : Addr} {ps : List Str} {k id : Nat} (F : FmG P w K mg base L.CA a ps k (L.cl id)) (hs : ∀ args st, args.length ≠ ps.length → L.cl id args st = .stuck) : ∀ X : Cx, On X P w K mg base → DefAt L X a id k := by
  rintro X ⟨rfl, rfl, rfl, rfl, rfl⟩
  obtain ⟨fd, h1, h2⟩ := F
  exact ⟨fd, ps, h1, h2, hs⟩
end
/-! ### properties -/
/-- where a class's property stands, its getter -/
def pAd (K : PySem.W.Frag) (p : Str × Str) : Addr := He.ma K (He.ga K p.1) p.2
def gAd (K : PySem.W.Frag) (p : Str × Str) : Addr := match PySem.W.recIn K (pAd K p) "property" with
  | some (.ref g :: _) => g
  | _ => 0
def fnP (K : PySem.W.Frag) (p : Str × Str) : He.FnW := match K.lookup (gAd K p) with
  | some ⟨_, _, .func fd, _⟩ => some (fd.name, fd.qualname, fd.params, fd.body, fd.scope, fd.globals, fd.closure, fd.builtins)
  | _ => none
structure PrD where
  at_ : Str × Str
  name : Str
  qual : Str
  st : Stmt
def PrD.val (d : PrD) : He.FnW := some (d.name, d.qual, defArgs d.st, .stmts (defBody d.st), defScope d.st, mainGlobals, [], builtinsNs)
def propB (K : PySem.W.Frag) (p : Str × Str) (qual : Str) : Bool := He.eqO (PySem.W.findIn K (.ref (He.ga K p.1)) p.2) (some (some (.ref (pAd K p)))) && (He.eqO (PySem.W.specialIn K (.ref (pAd K p)) "__get__") (some (some (.builtin "property.__get__"))) &&
  (decide (PySem.W.takesIn K (.ref (pAd K p)) = some true) && ((match PySem.W.recIn K (pAd K p) "property" with
    | some (.ref _ :: _) => true
    | _ => false) && (PySem.W.keepIn K (.ref (gAd K p)) && (match K.lookup (gAd K p) with
  | some ⟨_, _, .func fd, _⟩ => PySem.W.codeIn K fd.code qual && (He.dflB K fd.defaults [] && He.kwdB K fd.kwdefaults [])
  | _ => false)))))
theorem prop_of {K : PySem.W.Frag} {p : Str × Str} {qual : Str} (h : propB K p qual = true) : PropOf K (He.ga K p.1) p.2 (pAd K p) (gAd K p) := by
  unfold propB at h
  simp only [Bool.and_eq_true, decide_eq_true_eq] at h
  obtain ⟨h1, h2, h3, h4, h5, h6⟩ := h
  refine ⟨He.eqO_ok h1, He.eqO_ok h2, h3, ?_⟩
  unfold gAd
  split at h4
  · rename_i g rest e
    exact ⟨rest, by rw [e]⟩
  · cases h4
theorem propD_of {K : PySem.W.Frag} {d : PrD} (h : propB K d.at_ d.qual = true) (e : fnP K d.at_ = d.val) : ∃ fd, FunD K d.name d.qual (defArgs d.st) (defBody d.st) (defScope d.st) [] [] (gAd K d.at_) fd := by
  unfold propB at h
  simp only [Bool.and_eq_true, decide_eq_true_eq] at h
  obtain ⟨h1, h2, h3, h4, kp, c2⟩ := h
  unfold fnP at e
  cases q : K.lookup (gAd K d.at_) with
  | none =>
    rw [q] at c2
    cases c2
  | some o =>
    obtain ⟨oc, od, dt, osl⟩ := o
    rw [q] at c2 e
    cases dt with
    | func fd =>
      obtain ⟨n1, n2, n3, n4, n5, n6, n7, n8, n9, n10, n11, n12, n13, n14, n15⟩ := fd
      have e2 : (some (n1, n2, n3, n4, n5, n6, n7, n15) : He.FnW) = some (d.name, d.qual, defArgs d.st, .stmts (defBody d.st), defScope d.st, mainGlobals, [], builtinsNs) := e
      simp only [Option.some.injEq, Prod.mk.injEq] at e2
      obtain ⟨h1, h2, h3, h4, h5, h6, h7, h8⟩ := e2
      subst h1 h2 h3 h4 h5 h6 h7 h8
      have c3 : PySem.W.codeIn K n13 d.qual = true ∧ He.dflB K n8 [] = true ∧ He.kwdB K n9 [] = true := by simpa only [Bool.and_eq_true] using c2
      obtain ⟨k1, k3, k4⟩ := c3
      exact ⟨_, ⟨oc, od, n8, n9, n10, n11, n12, n13, n14, osl, rfl, q, k1, He.dflB_ok k3, He.kwdB_ok k4⟩, kp⟩
    | _ => cases c2
/-- the head's facts with the properties' getters -/
abbrev AlP : Type := He.AlX × List He.FnW
def obsP (n : Nat) (fa : List He.Fa) (fn : List He.DefD) (ts : List He.Tab) (ex : PySem.W.Frag → Bool) (pr : List PrD) (g : Addr → Option Obj) : AlP := (He.obsX n fa fn ts [] ex g, pr.map fun d => fnP (He.frT g (He.asD g n)) d.at_)
def hookP (n : Nat) (fa : List He.Fa) (fn : List He.DefD) (ts : List He.Tab) (ex : PySem.W.Frag → Bool) (pr : List PrD) : PySem.W.Hook where
  α := AlP
  obs := fun s => obsP n fa fn ts ex pr s.heap.get?
  val := fun w => (He.valX fn ts w, pr.map PrD.val)
  says := fun w h => ∃ K : PySem.W.Frag, K.In h ∧ He.SaysX fa fn ts [] ex w h K ∧ pr.map (fun d => fnP K d.at_) = pr.map PrD.val
  of := fun _ _ e => ⟨_, He.frT_in, He.saysX_of (congrArg (fun z : AlP => z.1) e), congrArg (fun z : AlP => z.2) e⟩
  keeps := fun _ _ _ ⟨K, hK, c, c2⟩ k => ⟨K, PySem.W.Frag.In.keeps hK k, ⟨c.t, c.more, c.hd, c.out, fun p hp => k _ _ (c.empty p hp)⟩, c2⟩
theorem obsP_eq {n : Nat} {fa : List He.Fa} {fn : List He.DefD} {ts : List He.Tab} {ex : PySem.W.Frag → Bool} {pr : List PrD} {g : Addr → Option Obj} {s : Shared} (h : ∀ a, g a = s.heap.get? a) : obsP n fa fn ts ex pr g = (hookP n fa fn ts ex pr).obs s := by
  have e : g = s.heap.get? := funext h
  rw [e] <;> rfl
theorem prs_at {K : PySem.W.Frag} {pr : List PrD} (h : pr.map (fun d => fnP K d.at_) = pr.map PrD.val) (i : Nat) {d : PrD} (e : pr[i]? = some d) : fnP K d.at_ = d.val := by
  have e2 : (pr.map fun d => fnP K d.at_)[i]? = (pr.map PrD.val)[i]? := by rw [h]
  rw [List.getElem?_map, List.getElem?_map, e] at e2
  exact Option.some.inj e2
/-- an error's class, at a context -/
theorem err_at {P : Program} {w : World} {K : PySem.W.Frag} {mg : Str → Option Value} {base : Heap} {L : Lib} {x : Str} {c : Nat} {qual : Str} {params : Arguments} {scope : Scope} {fd : FuncData} {p1 p2 p3 p4 : Pos} (E : ErrK K x) (hc : L.CA c = He.ga K x) (hm : mg x = some (.ref (He.ga K x)))
    (F : FunD K "__init__" qual params [.Assign [.Attribute (.Name "self" p1) "value" p2] (.Name "value" p3) p4] scope [] [] (He.ma K (He.ga K x) "__init__") fd) (S : FnScope ["self", "value"] ["self", "value"] scope)
    (h : ∀ (kV doc pm : Value) (an : Option Addr) (cdv ct : Value) (us : List Value), us.length = 2 → bindArgs (PySem.W.fnOf "__init__" qual params [.Assign [.Attribute (.Name "self" p1) "value" p2] (.Name "value" p3) p4] scope .none kV doc pm an cdv ct) ⟨us, []⟩ = pure ((["self", "value"] : List Str).zip us)) :
    ∀ X : Cx, On X P w K mg base → ErrAt L X x c := by
  rintro X ⟨rfl, rfl, rfl, rfl, rfl⟩
  exact ⟨_, fd, by rw [hc]; exact E.oex, by rw [hc]; exact E.ini, E.tyI, by rw [hc]; exact E.noV, err_init F S, F.bindsN h, by rw [hc]; exact hm⟩
/-! ### the law's end -/
theorem law_sp {K : PySem.W.Frag} {CA : Nat → Addr} {m : List Val → Store → Res Val} {a : Addr} {ns : List Int} {H : Hp} (hO : L2.Only H) (hS : SqL K H a (ns.map V.int)) (hl : ∃ st, m [.ref 0] [.fro (ns.map .int)] = .ok (.bl true) st) :
    spM K CA 1 m [.ref a] H (fun v _ => v = .bl true) fun _ _ _ => False := by
  obtain ⟨st, e⟩ := hl
  have hF : SqF K H a (ns.map V.int) := by
    rcases hS with (h | ⟨ob, h⟩) | h
    · rcases hO a with z | ⟨o, xs, z⟩ <;> (rw [z] at h; cases h)
    · exact .inl ⟨ob, h⟩
    · exact .inr h
  refine ⟨rfl, [a], [.ref 0], [.fro (ns.map .int)], ⟨rfl, ?_, ?_⟩, .cons (.ref rfl) .nil, ?_⟩
  · intro i j b o u ei ej si sj fo fu
    match i, j with
    | 0, 0 => rfl
    | 0, j + 1 => cases ej
    | i + 1, _ => cases ei
  · intro n o h
    match n with
    | 0 => cases h; exact ⟨a, rfl, .inr ⟨_, _, rfl, hF, .ints ns⟩⟩
    | n + 1 => cases h
  · rw [e]
    intro μ' H' b l R rb
    cases rb
    rfl
open PySem.Spec PyProof.Rows in
/-- the walk of a law over the head of k_head -/
theorem law_endK {l : PySem.W.OpenLaw} {n k : Nat} {q : Program} {loose : List Str} {XP : (Str → Option Value) → Heap → Prop} {YP : World → Heap → Prop} {d : DefRec} {K : Params → PySem.W.Frag} {x : Str} (CA : PySem.W.Frag → Nat → Addr) (m : List Val → Store → Res Val) (hr : Room k callerA) (hn : l.most = some n) (hdf : d.params.defaults = []) (hn2 : n ≤ sizeLine)
    (hY : ∀ (w : World) (h : Heap), YP w h → (K w.params).In h) (hl : ∀ ns : List Int, ns.length ≤ n → ∃ st, m [.ref 0] [.fro (ns.map .int)] = .ok (.bl true) st)
    (F : ∀ (w : World) (mg : Str → Option Value) (fa : Addr) (h : Heap), (K w.params).In h → h.Ns mainGlobals mg → mg d.name = some (.ref fa) → ∃ fd : FuncData, (∀ (s : Shared) (u : Value), BindsTo s fd ⟨[u], []⟩ [(x, u)]) ∧
      ∀ base : Heap, FnOk l.prog w (K w.params) mg base (L2.CX l.prog w) k fa fd [x] (spM (K w.params) (CA (K w.params)) 1 m)) : PySem.W.WalkO q loose XP YP l.row.toRowW d [] (fun f vs => PySem.call f vs) := by
  refine L2.walk_of (x := x) (K := K) (CX := fun w => L2.CX l.prog w) (sp := fun w => spM (K w.params) (CA (K w.params)) 1 m) hn hn2 hdf hr hY (fun w mg fa h X G e => ?_) (fun w H a ns hl2 hO hS => law_sp hO hS (hl ns hl2)) ?_
  · obtain ⟨fd, h1, h2⟩ := F w mg fa h X G e
    exact ⟨fd, h1, fun base _ _ => h2 base⟩
  · rintro w H s e s' ⟨_, _, _, _, _, _, _, _, _, _, _, _, z⟩
    exact z
open PySem.Spec PyProof.Rows in
/-- the walk of a law whose defs may let errors of their own out -/
theorem law_end {l : PySem.W.OpenLaw} {n k : Nat} {q : Program} {loose : List Str} {XP : (Str → Option Value) → Heap → Prop} {YP : World → Heap → Prop} {d : DefRec} {x : Str} (hr : Room k callerA) (hn : l.most = some n) (hdf : d.params.defaults = []) (hn2 : n ≤ sizeLine)
    (F : ∀ (w : World) (mg : Str → Option Value) (fa : Addr) (h : Heap), YP w h → h.Ns mainGlobals mg → mg d.name = some (.ref fa) → ∃ (K : PySem.W.Frag) (fd : FuncData) (sp : Sp), K.In h ∧ (∀ (s : Shared) (u : Value), BindsTo s fd ⟨[u], []⟩ [(x, u)]) ∧
      (∀ (H : Hp) (a : Addr) (ns : List Int), ns.length ≤ n → L2.Only H → SqL K H a (ns.map V.int) → sp [.ref a] H (fun v _ => v = .bl true) (fun _ _ _ => False)) ∧ (∀ base : Heap, K.In base → base.Ns mainGlobals mg → FnOk l.prog w K mg base (L2.CX l.prog w) k fa fd [x] sp)) : PySem.W.WalkO q loose XP YP l.row.toRowW d [] (fun f vs => PySem.call f vs) := by
  refine Att.attach_call hn hdf (fun w s₀ s₁ mg mb fa o pm cd doc a vs ns G Y ho hd hcd hm hob hi hle hgen => ?_)
  obtain ⟨K, fd, sp, inK, bd, hs, ok⟩ := F w mg fa _ Y G.T.g hm
  refine law_call inK G.T.g G.T.b G.T.builtins G.T.nolimit hgen hob hi (Nat.le_trans hle hn2) hr ok bd (fun H h1 h2 => hs H a ns hle h1 h2) ?_
  rintro H e s' ⟨_, _, _, _, _, _, _, _, _, _, _, _, z⟩
  exact z
end EV

/-! ## EvWp -/
set_option maxRecDepth 100000
set_option maxHeartbeats 4000000
/-! EvWp: what a run comes to, by what stands behind it. -/
namespace EV
open PySem L2

@[irreducible] def wr {α : Type} (r : Res α) (Q : α → Store → Prop) (X : Nat → Val → Store → Prop) : Prop := match r with
  | .ok a st => Q a st
  | .exc c v st => X c v st
  | .stuck => False
structure En where
  nx : Fr → Store → Prop
  rt : Val → Store → Prop
  bk : Fr → Store → Prop
  ct : Fr → Store → Prop
  ec : Nat → Val → Fr → Store → Prop
@[irreducible] def wo (o : Out) (D : En) : Prop := match o with
  | .next ρ st => D.nx ρ st
  | .ret v st => D.rt v st
  | .brk ρ st => D.bk ρ st
  | .cnt ρ st => D.ct ρ st
  | .exc c v ρ st => D.ec c v ρ st
  | .stuck => False
abbrev noX : Nat → Val → Store → Prop := fun _ _ _ => False
section
variable {α β : Type} {r : Res α} {f : α → Store → Res β} {a : α} {st : Store} {ρ : Fr}
theorem wr_bind {Q : β → Store → Prop} {X : Nat → Val → Store → Prop} : wr (r.bind f) Q X = wr r (fun a st => wr (f a st) Q X) X := by cases r <;> (with_unfolding_all rfl)
theorem wr_quiet {Q : α → Store → Prop} {X : Nat → Val → Store → Prop} : wr r.quiet Q X = wr r Q noX := by cases r <;> (with_unfolding_all rfl)
theorem wr_ok {Q : α → Store → Prop} {X : Nat → Val → Store → Prop} : wr (.ok a st) Q X = Q a st := by with_unfolding_all exact id rfl
theorem wr_exc {Q : α → Store → Prop} {X : Nat → Val → Store → Prop} {c : Nat} {v : Val} : wr (.exc c v st) Q X = X c v st := by with_unfolding_all exact id rfl
theorem wr_stuck {Q : α → Store → Prop} {X : Nat → Val → Store → Prop} : wr (.stuck : Res α) Q X = False := by with_unfolding_all exact id rfl
theorem wr_some {Q : α → Store → Prop} {X : Nat → Val → Store → Prop} : wr (liftO (some (a, st))) Q X = Q a st := by with_unfolding_all exact id rfl
theorem wr_none {Q : α → Store → Prop} {X : Nat → Val → Store → Prop} : wr (liftO (none : Option (α × Store))) Q X = False := by with_unfolding_all exact id rfl
theorem wr_mono {Q Q' : α → Store → Prop} {X X' : Nat → Val → Store → Prop} (h : wr r Q X) (hq : ∀ a st, Q a st → Q' a st) (hx : ∀ c v st, X c v st → X' c v st) : wr r Q' X' := by
  cases r with
  | ok a st => with_unfolding_all exact hq _ _ h
  | exc c v st => with_unfolding_all exact hx _ _ _ h
  | stuck => with_unfolding_all exact h
theorem wr_imp {Q Q' : α → Store → Prop} {X : Nat → Val → Store → Prop} (h : wr r Q noX) (hq : ∀ a st, Q a st → Q' a st) : wr r Q' X := wr_mono h hq fun _ _ _ z => z.elim
theorem wr_of {v : α} {st' : Store} {Q : α → Store → Prop} {X : Nat → Val → Store → Prop} (e : r = .ok v st') (h : Q v st') : wr r Q X := by rw [e]; with_unfolding_all exact h
theorem wr_ex {Q : α → Store → Prop} (h : wr r Q noX) : ∃ v st', r = .ok v st' ∧ Q v st' := by
  cases r with
  | ok a st => with_unfolding_all exact ⟨a, st, rfl, h⟩
  | exc c v st => with_unfolding_all exact (show False from h).elim
  | stuck => with_unfolding_all exact (show False from h).elim
theorem wo_out {g : α → Store → Out} {D : En} : wo (r.out ρ g) D = wr r (fun a st => wo (g a st) D) (fun c v st => D.ec c v ρ st) := by cases r <;> (with_unfolding_all rfl)
theorem wo_next {D : En} : wo (.next ρ st) D = D.nx ρ st := by with_unfolding_all exact id rfl
theorem wo_ret {D : En} {v : Val} : wo (.ret v st) D = D.rt v st := by with_unfolding_all exact id rfl
theorem wo_brk {D : En} : wo (.brk ρ st) D = D.bk ρ st := by with_unfolding_all exact id rfl
theorem wo_cnt {D : En} : wo (.cnt ρ st) D = D.ct ρ st := by with_unfolding_all exact id rfl
theorem wo_exc {D : En} {c : Nat} {v : Val} : wo (.exc c v ρ st) D = D.ec c v ρ st := by with_unfolding_all exact id rfl
theorem wo_mono {o : Out} {D D' : En} (h : wo o D) (h1 : ∀ ρ st, D.nx ρ st → D'.nx ρ st) (h2 : ∀ v st, D.rt v st → D'.rt v st) (h3 : ∀ ρ st, D.bk ρ st → D'.bk ρ st) (h4 : ∀ ρ st, D.ct ρ st → D'.ct ρ st) (h5 : ∀ c v ρ st, D.ec c v ρ st → D'.ec c v ρ st) : wo o D' := by
  cases o with
  | next ρ st => with_unfolding_all exact h1 _ _ h
  | ret v st => with_unfolding_all exact h2 _ _ h
  | brk ρ st => with_unfolding_all exact h3 _ _ h
  | cnt ρ st => with_unfolding_all exact h4 _ _ h
  | exc c v ρ st => with_unfolding_all exact h5 _ _ _ _ h
  | stuck => with_unfolding_all exact h
theorem wo_ite {p : Prop} [Decidable p] {a b : Out} {D : En} : wo (if p then a else b) D = if p then wo a D else wo b D := by split <;> (with_unfolding_all rfl)
theorem wr_ite {p : Prop} [Decidable p] {a b : Res α} {Q : α → Store → Prop} {X : Nat → Val → Store → Prop} : wr (if p then a else b) Q X = if p then wr a Q X else wr b Q X := by split <;> (with_unfolding_all rfl)
theorem wr_lift_ite {p : Prop} [Decidable p] {a b : Option (α × Store)} {Q : α → Store → Prop} {X : Nat → Val → Store → Prop} : wr (liftO (if p then a else b)) Q X = if p then wr (liftO a) Q X else wr (liftO b) Q X := by split <;> (with_unfolding_all rfl)
end
/-! ### the evaluator's rows -/
section
variable {cl : Cl} {ρ : Fr} {st : Store} {D : En} {Q : Val → Store → Prop} {X : Nat → Val → Store → Prop} {a b c : Ex} {t u : Tx} {es : Exs}
theorem w_var {i : Nat} {v : Val} (h : ρ[i]? = some (some v)) : ev cl (.var i) ρ st = .ok v st := by
  show (match ρ[i]? with | some (some v) => Res.ok v st | _ => .stuck) = _
  rw [h]
theorem w_con {v : Val} : wr (ev cl (.con v) ρ st) Q X = Q v st := by with_unfolding_all exact id rfl
theorem w_bin {o : BOp} : wr (ev cl (.bin o a b) ρ st) Q X = wr (ev cl a ρ st) (fun v st1 => wr (ev cl b ρ st1) (fun u st2 => wr (liftO (binV o v u st2)) Q X) X) X := by
  show wr ((ev cl a ρ st).bind _) Q X = _; rw [wr_bind]; simp only [wr_bind]
  all_goals first | done | (with_unfolding_all rfl)
theorem w_neg : wr (ev cl (.neg a) ρ st) Q X = wr (ev cl a ρ st) (fun v st1 => wr (liftO ((negV v).map fun w => (w, st1))) Q X) X := by
  show wr ((ev cl a ρ st).bind _) Q X = _; rw [wr_bind]
  all_goals first | done | (with_unfolding_all rfl)
theorem w_not : wr (ev cl (.not t) ρ st) Q X = wr (evT cl t ρ st) (fun b st1 => Q (.bl (!b)) st1) X := by
  show wr ((evT cl t ρ st).bind _) Q X = _; rw [wr_bind]; all_goals first | done | (with_unfolding_all rfl)
theorem w_and : wr (ev cl (.and a b) ρ st) Q X = wr (ev cl a ρ st) (fun v st1 => wr (match v with | .bl true => ev cl b ρ st1 | .bl false => .ok (.bl false) st1 | _ => .stuck) Q X) X := by
  show wr ((ev cl a ρ st).bind _) Q X = _; rw [wr_bind]; all_goals first | done | (with_unfolding_all rfl)
theorem w_or : wr (ev cl (.or a b) ρ st) Q X = wr (ev cl a ρ st) (fun v st1 => wr (match v with | .bl true => .ok (.bl true) st1 | .bl false => ev cl b ρ st1 | _ => .stuck) Q X) X := by
  show wr ((ev cl a ρ st).bind _) Q X = _; rw [wr_bind]; all_goals first | done | (with_unfolding_all rfl)
theorem w_cmp {o : COp} : wr (ev cl (.cmp o a b) ρ st) Q X = wr (ev cl a ρ st) (fun v st1 => wr (ev cl b ρ st1) (fun u st2 => wr (liftO ((cmpV o v u st2).map fun k => (Val.bl k, st2))) Q X) X) X := by
  show wr ((ev cl a ρ st).bind _) Q X = _; rw [wr_bind]; simp only [wr_bind]
  all_goals first | done | (with_unfolding_all rfl)
theorem w_chain {o o' : COp} : wr (ev cl (.chain o o' a b c) ρ st) Q X = wr (ev cl a ρ st) (fun v st1 => wr (ev cl b ρ st1) (fun u st2 => wr (match cmpV o v u st2 with
    | some true => (ev cl c ρ st2).bind fun w st3 => liftO ((cmpV o' u w st3).map fun k => (Val.bl k, st3))
    | some false => .ok (.bl false) st2
    | none => .stuck) Q X) X) X := by
  show wr ((ev cl a ρ st).bind _) Q X = _; rw [wr_bind]; simp only [wr_bind]
  all_goals first | done | (with_unfolding_all rfl)
theorem w_ife : wr (ev cl (.ife t a b) ρ st) Q X = wr (evT cl t ρ st) (fun k st1 => if k then wr (ev cl a ρ st1) Q X else wr (ev cl b ρ st1) Q X) X := by
  show wr ((evT cl t ρ st).bind _) Q X = _; rw [wr_bind]; simp only [wr_ite]
  all_goals first | done | (with_unfolding_all rfl)
theorem w_call {f : Nat} : wr (ev cl (.call f es) ρ st) Q X = wr (evs cl es ρ st) (fun vs st1 => wr (cl f vs st1) Q X) X := by
  show wr ((evs cl es ρ st).bind _) Q X = _; rw [wr_bind]
  all_goals first | done | (with_unfolding_all rfl)
theorem w_callp {f : Nat} {perm : List Nat} : wr (ev cl (.callp f perm es) ρ st) Q X = wr (evs cl es ρ st) (fun vs st1 => wr (cl f (permL perm vs) st1) Q X) X := by
  show wr ((evs cl es ρ st).bind _) Q X = _; rw [wr_bind]
  all_goals first | done | (with_unfolding_all rfl)
theorem w_star {Q : List Val → Store → Prop} : wr (evs cl (.star a es) ρ st) Q X = wr (ev cl a ρ st) (fun v st1 => wr (match seqOf st1 v with | some ws => (evs cl es ρ st1).bind fun vs st2 => .ok (ws ++ vs) st2 | none => .stuck) Q X) X := by
  show wr ((ev cl a ρ st).bind _) Q X = _; rw [wr_bind]
  all_goals first | done | (with_unfolding_all rfl)
theorem w_ikeys {Q : Wk → Store → Prop} : wr (evI cl (.keys a) ρ st) Q X = wr (ev cl a ρ st) (fun v st1 => wr (match v with | .ref n => (match st1[n]? with | some (.frd kvs) => .ok (.tup (kvs.map fun kv => keyV kv.1)) st1 | _ => .stuck) | _ => .stuck) Q X) X := by
  show wr ((ev cl a ρ st).bind _) Q X = _; rw [wr_bind]
  all_goals first | done | (with_unfolding_all rfl)
theorem w_blt {f : Bf} : wr (ev cl (.blt f es) ρ st) Q X = wr (evs cl es ρ st) (fun vs st1 => wr (liftO (bltV f vs st1)) Q X) X := by
  show wr ((evs cl es ρ st).bind _) Q X = _; rw [wr_bind]
  all_goals first | done | (with_unfolding_all rfl)
theorem w_mth {m : Mf} : wr (ev cl (.mth m a es) ρ st) Q X = wr (ev cl a ρ st) (fun v st1 => if rcv m v st1 then wr (evs cl es ρ st1) (fun vs st2 => wr (liftO (mthV m v vs st2)) Q X) X else False) X := by
  show wr ((ev cl a ρ st).bind _) Q X = _; rw [wr_bind]; simp only [wr_ite, wr_bind, wr_stuck]
  all_goals first | done | (with_unfolding_all rfl)
theorem w_idx : wr (ev cl (.idx a b) ρ st) Q X = wr (ev cl a ρ st) (fun v st1 => wr (ev cl b ρ st1) (fun u st2 => wr (liftO ((idxV st2 v u).map fun w => (w, st2))) Q X) X) X := by
  show wr ((ev cl a ρ st).bind _) Q X = _; rw [wr_bind]; simp only [wr_bind]
  all_goals first | done | (with_unfolding_all rfl)
theorem w_slc {l h : Exo} : wr (ev cl (.slc a l h) ρ st) Q X = wr (ev cl a ρ st) (fun v st1 => wr (evo cl l ρ st1) (fun l st2 => wr (evo cl h ρ st2) (fun h st3 => wr (liftO (slcV v l h st3)) Q X) X) X) X := by
  show wr ((ev cl a ρ st).bind _) Q X = _; rw [wr_bind]; simp only [wr_bind]
  all_goals first | done | (with_unfolding_all rfl)
theorem w_lst : wr (ev cl (.lst es) ρ st) Q X = wr (evs cl es ρ st) (fun vs st1 => wr (liftO (allocL st1 vs)) Q X) X := by
  show wr ((evs cl es ρ st).bind _) Q X = _; rw [wr_bind]
  all_goals first | done | (with_unfolding_all rfl)
theorem w_tup : wr (ev cl (.tup es) ρ st) Q X = wr (evs cl es ρ st) (fun vs st1 => if lineOk vs.length then Q (.tup vs) st1 else False) X := by
  show wr ((evs cl es ρ st).bind _) Q X = _; rw [wr_bind]; simp only [wr_ite, wr_ok, wr_stuck]
  all_goals first | done | (with_unfolding_all rfl)
theorem w_tab {kvs : List (Str × Val)} : wr (ev cl (.tab kvs a) ρ st) Q X = wr (ev cl a ρ st) (fun v st1 => wr (match v with
    | .str z => (match kvs.lookup z with | some u => .ok u st1 | none => .stuck)
    | _ => .stuck) Q X) X := by
  show wr ((ev cl a ρ st).bind _) Q X = _; rw [wr_bind]
  all_goals first | done | (with_unfolding_all rfl)
theorem w_tin {neg : Bool} {kvs : List (Str × Val)} : wr (ev cl (.tin neg kvs a) ρ st) Q X = wr (ev cl a ρ st) (fun v st1 => wr (match v with
    | .str z => .ok (.bl (neg != (kvs.lookup z).isSome)) st1
    | _ => .stuck) Q X) X := by
  show wr ((ev cl a ρ st).bind _) Q X = _; rw [wr_bind]
  all_goals first | done | (with_unfolding_all rfl)
theorem w_dnew : wr (ev cl .dnew ρ st) Q X = Q (.ref st.length) (st ++ [.dct []]) := by with_unfolding_all exact id rfl
theorem w_rev : wr (ev cl (.rev a) ρ st) Q X = wr (ev cl a ρ st) (fun v st1 => wr (liftO (revV v st1)) Q X) X := by
  show wr ((ev cl a ρ st).bind _) Q X = _; rw [wr_bind]
  all_goals first | done | (with_unfolding_all rfl)
theorem w_lc {tg : Tg} {it : Ir} {ifs : Txo} {own : List Nat} : wr (ev cl (.lc a tg it ifs own) ρ st) Q X = wr (evI cl it ρ st) (fun w st1 => wr (lcTurns tg.give (evTs cl ifs) (ev cl a) w (wipeF ρ own) st1.length w.len 0 (st1 ++ [.lst []])) Q X) X := by
  show wr ((evI cl it ρ st).bind _) Q X = _; rw [wr_bind]
  all_goals first | done | (with_unfolding_all rfl)
theorem w_lsc {tg : Tg} {it : Ir} {ifs : Txo} {own : List Nat} : wr (ev cl (.lsc a tg it ifs own) ρ st) Q X = wr (evI cl it ρ st) (fun w st1 => wr (scTurns tg.give (evTs cl ifs) (ev cl a) w (wipeF ρ own) w.len 0 st1 []) Q X) X := by
  show wr ((evI cl it ρ st).bind _) Q X = _; rw [wr_bind]
  all_goals first | done | (with_unfolding_all rfl)
theorem w_dc {tg : Tg} {it : Ir} {ifs : Txo} {own : List Nat} : wr (ev cl (.dc a b tg it ifs own) ρ st) Q X = wr (evI cl it ρ st) (fun w st1 => wr (dcTurns tg.give (evTs cl ifs) (ev cl a) (ev cl b) w (wipeF ρ own) st1.length w.len 0 (st1 ++ [.dct []])) Q X) X := by
  show wr ((evI cl it ρ st).bind _) Q X = _; rw [wr_bind]
  all_goals first | done | (with_unfolding_all rfl)
theorem w_disp {ks : List Str} : wr (ev cl (.disp ks es) ρ st) Q X = wr (evs cl es ρ (st ++ [.dct []])) (fun vs st1 => wr (match st1[st.length]? with
    | some (.dct []) => if decide (vs.length = ks.length ∧ ks.length ≤ 15) then Res.ok (Val.ref st.length) (st1.set st.length (.dct (mergeKV [] ((ks.map Sum.inr).zip vs)))) else .stuck
    | _ => .stuck) Q X) X := by
  show wr ((evs cl es ρ (st ++ [.dct []])).bind _) Q X = _; rw [wr_bind]
  all_goals first | done | (with_unfolding_all rfl)
theorem w_get {d : Ex} : wr (ev cl (.get a b d) ρ st) Q X = wr (ev cl a ρ st) (fun v st1 => wr (match v with
    | .ref n => (match st1[n]? with
      | some (.dct _) => (ev cl b ρ st1).bind fun y st2 => (ev cl d ρ st2).bind fun z st3 => match st3[n]? with
        | some (.dct kvs) => (match keyOf y with
          | some kk => Res.ok (((kvs.find? fun kv => decide (kv.1 = kk)).map (·.2)).getD z) st3
          | none => .stuck)
        | _ => .stuck
      | _ => .stuck)
    | _ => .stuck) Q X) X := by
  show wr ((ev cl a ρ st).bind _) Q X = _; rw [wr_bind]
  all_goals first | done | (with_unfolding_all rfl)
theorem w_fld {c : Nat} {f : Str} : wr (ev cl (.fld c a f) ρ st) Q X = wr (ev cl a ρ st) (fun v st1 => wr (match insAt c v st1 with
    | some fs => (match fs.lookup f with
      | some w => Res.ok w st1
      | none => .stuck)
    | none => .stuck) Q X) X := by
  show wr ((ev cl a ρ st).bind _) Q X = _; rw [wr_bind]
  all_goals first | done | (with_unfolding_all rfl)
theorem w_mk {c id : Nat} : wr (ev cl (.mk c id es) ρ st) Q X = wr (evs cl es ρ st) (fun vs st1 => wr (cl id (.ref st1.length :: vs) (st1 ++ [.ins c []])) (fun v st2 => v = .non ∧ Q (.ref st1.length) st2) noX) X := by
  have key : ∀ (v : Val) (n : Nat) (s : Store), wr (match v with | .non => Res.ok (Val.ref n) s | _ => .stuck) Q X = (v = .non ∧ Q (.ref n) s) := by
    intro v n s
    cases v
    case non => rw [show (match Val.non with | .non => Res.ok (Val.ref n) s | _ => .stuck) = Res.ok (Val.ref n) s from rfl, wr_ok]; exact propext ⟨fun h => ⟨rfl, h⟩, fun h => h.2⟩
    all_goals exact propext ⟨fun h => by with_unfolding_all exact (show False from h).elim, fun h => by cases h.1⟩
  show wr ((evs cl es ρ st).bind _) Q X = _
  rw [wr_bind]
  congr 1
  funext vs st1
  show wr ((cl id (.ref st1.length :: vs) (st1 ++ [.ins c []])).quiet.bind _) Q X = _
  rw [wr_bind, wr_quiet]
  congr 1
  funext v st2
  exact key v st1.length st2
theorem w_meth {c id : Nat} {m : Str} : wr (ev cl (.meth c id m a es) ρ st) Q X = wr (ev cl a ρ st) (fun v st1 => wr (match insAt c v st1 with
    | some fs => if (fs.lookup m).isNone then (evs cl es ρ st1).bind fun vs st2 => (cl id (v :: vs) st2).quiet else .stuck
    | none => .stuck) Q X) X := by
  show wr ((ev cl a ρ st).bind _) Q X = _; rw [wr_bind]
  all_goals first | done | (with_unfolding_all rfl)
theorem w_prop {c id : Nat} : wr (ev cl (.prop c id a) ρ st) Q X = wr (ev cl a ρ st) (fun v st1 => wr (match insAt c v st1 with
    | some _ => (cl id [v] st1).quiet
    | none => .stuck) Q X) X := by
  show wr ((ev cl a ρ st).bind _) Q X = _; rw [wr_bind]
  all_goals first | done | (with_unfolding_all rfl)
theorem w_nil {Q : List Val → Store → Prop} : wr (evs cl .nil ρ st) Q X = Q [] st := by with_unfolding_all exact id rfl
theorem w_cons {Q : List Val → Store → Prop} : wr (evs cl (.cons a es) ρ st) Q X = wr (ev cl a ρ st) (fun v st1 => wr (evs cl es ρ st1) (fun vs st2 => Q (v :: vs) st2) X) X := by
  show wr ((ev cl a ρ st).bind _) Q X = _; rw [wr_bind]; simp only [wr_bind, wr_ok]
  all_goals first | done | (with_unfolding_all rfl)
theorem w_onone {Q : Option Int → Store → Prop} : wr (evo cl .none ρ st) Q X = Q none st := by with_unfolding_all exact id rfl
theorem w_osome {Q : Option Int → Store → Prop} : wr (evo cl (.some a) ρ st) Q X = wr (ev cl a ρ st) (fun v st1 => wr (match v with | .int i => .ok (some i) st1 | _ => .stuck) Q X) X := by
  show wr ((ev cl a ρ st).bind _) Q X = _; rw [wr_bind]
  all_goals first | done | (with_unfolding_all rfl)
theorem w_tnone {Q : Bool → Store → Prop} : wr (evTs cl .none ρ st) Q X = Q true st := by with_unfolding_all exact id rfl
theorem w_tsome {Q : Bool → Store → Prop} : wr (evTs cl (.some t) ρ st) Q X = wr (evT cl t ρ st) Q X := by with_unfolding_all exact id rfl
theorem w_tnot {Q : Bool → Store → Prop} : wr (evT cl (.not t) ρ st) Q X = wr (evT cl t ρ st) (fun b st1 => Q (!b) st1) X := by
  show wr ((evT cl t ρ st).bind _) Q X = _; rw [wr_bind]; all_goals first | done | (with_unfolding_all rfl)
theorem w_tand {Q : Bool → Store → Prop} : wr (evT cl (.and t u) ρ st) Q X = wr (evT cl t ρ st) (fun k st1 => if k then wr (evT cl u ρ st1) Q X else Q false st1) X := by
  show wr ((evT cl t ρ st).bind _) Q X = _; rw [wr_bind]; simp only [wr_ite, wr_ok]
  all_goals first | done | (with_unfolding_all rfl)
theorem w_tor {Q : Bool → Store → Prop} : wr (evT cl (.or t u) ρ st) Q X = wr (evT cl t ρ st) (fun k st1 => if k then Q true st1 else wr (evT cl u ρ st1) Q X) X := by
  show wr ((evT cl t ρ st).bind _) Q X = _; rw [wr_bind]; simp only [wr_ite, wr_ok]
  all_goals first | done | (with_unfolding_all rfl)
theorem w_tval {Q : Bool → Store → Prop} : wr (evT cl (.val a) ρ st) Q X = wr (ev cl a ρ st) (fun v st1 => wr (match truV st1 v with | some b => .ok b st1 | none => .stuck) Q X) X := by
  show wr ((ev cl a ρ st).bind _) Q X = _; rw [wr_bind]
  all_goals first | done | (with_unfolding_all rfl)
theorem w_iex {Q : Wk → Store → Prop} : wr (evI cl (.ex a) ρ st) Q X = wr (ev cl a ρ st) (fun v st1 => wr (match wkOf st1 v with | some w => .ok w st1 | none => .stuck) Q X) X := by
  show wr ((ev cl a ρ st).bind _) Q X = _; rw [wr_bind]
  all_goals first | done | (with_unfolding_all rfl)
theorem w_irng1 {Q : Wk → Store → Prop} : wr (evI cl (.rng1 a) ρ st) Q X = wr (ev cl a ρ st) (fun v st1 => wr (match v with | .int j => if rngOk j then .ok (.rng 0 j.toNat) st1 else .stuck | _ => .stuck) Q X) X := by
  show wr ((ev cl a ρ st).bind _) Q X = _; rw [wr_bind]
  all_goals first | done | (with_unfolding_all rfl)
theorem w_irng2 {Q : Wk → Store → Prop} : wr (evI cl (.rng2 a b) ρ st) Q X = wr (ev cl a ρ st) (fun v st1 => wr (ev cl b ρ st1) (fun u st2 => wr (match v, u with | .int i, .int j => if rngOk i && rngOk j then .ok (.rng i (j - i).toNat) st2 else .stuck | _, _ => .stuck) Q X) X) X := by
  show wr ((ev cl a ρ st).bind _) Q X = _; rw [wr_bind]; simp only [wr_bind]
  all_goals first | done | (with_unfolding_all rfl)
theorem w_irng3 {Q : Wk → Store → Prop} : wr (evI cl (.rng3 a b c) ρ st) Q X = wr (ev cl a ρ st) (fun v st1 => wr (ev cl b ρ st1) (fun u st2 => wr (ev cl c ρ st2) (fun w st3 => wr (match v, u, w with
    | .int i, .int j, .int c => if decide (c ≠ 0 ∧ c.natAbs < 1073741824 ∧ 0 ≤ Builtin.Range.rangeSize i j c) && Builtin.Range.small i j c then .ok (.rngc i c (Builtin.Range.rangeSize i j c).toNat) st3 else .stuck
    | _, _, _ => .stuck) Q X) X) X) X := by
  show wr ((ev cl a ρ st).bind _) Q X = _; rw [wr_bind]; simp only [wr_bind]
  all_goals first | done | (with_unfolding_all rfl)
theorem w_izip {Q : Wk → Store → Prop} : wr (evI cl (.zip2 a b) ρ st) Q X = wr (ev cl a ρ st) (fun v st1 => wr (ev cl b ρ st1) (fun u st2 => wr (match zipOf st2 v u with | some w => .ok w st2 | none => .stuck) Q X) X) X := by
  show wr ((ev cl a ρ st).bind _) Q X = _; rw [wr_bind]; simp only [wr_bind]
  all_goals first | done | (with_unfolding_all rfl)
/-! statements -/
theorem w_run {n : Nat} {body : List Sx} {vs : List Val} : wr (runB cl n body vs st) Q X = wo (exs cl body (vs.map some ++ List.replicate (n - vs.length) none) st) ⟨fun _ st => Q .non st, Q, fun _ _ => False, fun _ _ => False, fun c v _ st => X c v st⟩ := by
  unfold runB
  cases exs cl body (vs.map some ++ List.replicate (n - vs.length) none) st <;> (with_unfolding_all rfl)
theorem w_snil : wo (exs cl [] ρ st) D = D.nx ρ st := by with_unfolding_all exact id rfl
theorem w_scons {s : Sx} {ss : List Sx} : wo (exs cl (s :: ss) ρ st) D = wo (ex cl s ρ st) { D with nx := fun ρ1 st1 => wo (exs cl ss ρ1 st1) D } := by
  show wo (match ex cl s ρ st with | .next ρ1 st1 => exs cl ss ρ1 st1 | o => o) D = _
  cases ex cl s ρ st <;> (with_unfolding_all rfl)
theorem w_set {i : Nat} : wo (ex cl (.set i a) ρ st) D = wr (ev cl a ρ st) (fun v st1 => D.nx (ρ.set i (some v)) st1) (fun c v st => D.ec c v ρ st) := by
  show wo ((ev cl a ρ st).out ρ _) D = _; rw [wo_out]; all_goals first | done | (with_unfolding_all rfl)
theorem w_unp {is : List Nat} : wo (ex cl (.unp is a) ρ st) D = wr (ev cl a ρ st) (fun v st1 => wo (match (Tg.tp is).give v ρ st1 with | some ρ' => .next ρ' st1 | none => .stuck) D) (fun c v st => D.ec c v ρ st) := by
  show wo ((ev cl a ρ st).out ρ _) D = _; rw [wo_out]
  all_goals first | done | (with_unfolding_all rfl)
theorem w_seti : wo (ex cl (.seti a b c) ρ st) D = wr (ev cl c ρ st) (fun v st1 => wr (ev cl a ρ st1) (fun u st2 => wr (ev cl b ρ st2) (fun w st3 => wo (match setiV u w v st3 with | some st4 => .next ρ st4 | none => .stuck) D) (fun c v st => D.ec c v ρ st)) (fun c v st => D.ec c v ρ st)) (fun c v st => D.ec c v ρ st) := by
  show wo ((ev cl c ρ st).out ρ _) D = _; rw [wo_out]; simp only [wo_out]
  all_goals first | done | (with_unfolding_all rfl)
theorem w_wh {n : Nat} {c : Tx} {bd : List Sx} : wo (ex cl (.wh n c bd) ρ st) D = wo (whTurns (evT cl c) (exs cl bd) n ρ st) D := by with_unfolding_all rfl
theorem wh_succ {c : Fr → Store → Res Bool} {bd : Fr → Store → Out} {n : Nat} : wo (whTurns c bd (n + 1) ρ st) D = wr (c ρ st) (fun k st1 => if k = true then wo (bd ρ st1) { D with nx := fun ρ2 st2 => wo (whTurns c bd n ρ2 st2) D, ct := fun ρ2 st2 => wo (whTurns c bd n ρ2 st2) D, bk := D.nx } else D.nx ρ st1) (fun c v st => D.ec c v ρ st) := by
  show wo (match c ρ st with
    | .ok k st1 => if k then (match bd ρ st1 with
        | .next ρ2 st2 => whTurns c bd n ρ2 st2
        | .cnt ρ2 st2 => whTurns c bd n ρ2 st2
        | .brk ρ2 st2 => .next ρ2 st2
        | o => o) else .next ρ st1
    | .exc d v st1 => .exc d v ρ st1
    | .stuck => .stuck) D = _
  cases c ρ st with
  | ok k st1 => cases k with
    | true =>
      rw [wr_ok, if_pos rfl]
      dsimp only
      rw [if_pos rfl]
      cases bd ρ st1 <;> with_unfolding_all rfl
    | false => with_unfolding_all rfl
  | exc d v st1 => with_unfolding_all rfl
  | stuck => with_unfolding_all rfl
theorem w_setf {c : Nat} {f : Str} : wo (ex cl (.setf c a f b) ρ st) D = wr (ev cl b ρ st) (fun v st1 => wr (ev cl a ρ st1) (fun u st2 => wo (match u with
    | .ref n => (match insAt c u st2 with
      | some fs => if decide (fs.length < 1000) then Out.next ρ (st2.set n (.ins c (putFV f v fs))) else .stuck
      | none => .stuck)
    | _ => .stuck) D) (fun c v st => D.ec c v ρ st)) (fun c v st => D.ec c v ρ st) := by
  show wo ((ev cl b ρ st).out ρ _) D = _; rw [wo_out]; simp only [wo_out]
  all_goals first | done | (with_unfolding_all rfl)
theorem w_exp : wo (ex cl (.exp a) ρ st) D = wr (ev cl a ρ st) (fun _ st1 => D.nx ρ st1) (fun c v st => D.ec c v ρ st) := by
  show wo ((ev cl a ρ st).out ρ _) D = _; rw [wo_out]; all_goals first | done | (with_unfolding_all rfl)
theorem w_ret : wo (ex cl (.ret a) ρ st) D = wr (ev cl a ρ st) (fun v st1 => D.rt v st1) (fun c v st => D.ec c v ρ st) := by
  show wo ((ev cl a ρ st).out ρ _) D = _; rw [wo_out]; all_goals first | done | (with_unfolding_all rfl)
theorem w_retn : wo (ex cl .retn ρ st) D = D.rt .non st := by with_unfolding_all exact id rfl
theorem w_pass : wo (ex cl .pass ρ st) D = D.nx ρ st := by with_unfolding_all exact id rfl
theorem w_ifs {p q : List Sx} : wo (ex cl (.ite t p q) ρ st) D = wr (evT cl t ρ st) (fun k st1 => if k then wo (exs cl p ρ st1) D else wo (exs cl q ρ st1) D) (fun c v st => D.ec c v ρ st) := by
  show wo ((evT cl t ρ st).out ρ _) D = _; rw [wo_out]; simp only [wo_ite]
  all_goals first | done | (with_unfolding_all rfl)
theorem w_loop {tg : Tg} {it : Ir} {body : List Sx} : wo (ex cl (.loop tg it body) ρ st) D = wr (evI cl it ρ st) (fun w st1 => wo (forTurns tg.give (exs cl body) w w.len 0 ρ st1) D) (fun c v st => D.ec c v ρ st) := by
  show wo ((evI cl it ρ st).out ρ _) D = _; rw [wo_out]
  all_goals first | done | (with_unfolding_all rfl)
theorem w_loopd {tg : Tg} {body : List Sx} {n : Nat} {kvs : List (Key × Val)} (h1 : pv ρ a = some (.ref n)) (h2 : st[n]? = some (.dct kvs))
    (h : wo (forTurns tg.give (exs cl body) (.tup (kvs.map fun kv => keyV kv.1)) kvs.length 0 ρ (st.set n (.frd kvs))) ⟨fun ρ' st' => ∃ kvs', st'[n]? = some (.frd kvs') ∧ D.nx ρ' (st'.set n (.dct kvs')), fun v st' => ∃ kvs', st'[n]? = some (.frd kvs') ∧ D.rt v (st'.set n (.dct kvs')), fun _ _ => False, fun _ _ => False, fun _ _ _ _ => False⟩) :
    wo (ex cl (.loopd tg a body) ρ st) D := by
  have e : ex cl (.loopd tg a body) ρ st = (match pv ρ a with
    | some (.ref n) => match st[n]? with
      | some (.dct kvs) => thaw n (forTurns tg.give (exs cl body) (.tup (kvs.map fun kv => keyV kv.1)) kvs.length 0 ρ (st.set n (.frd kvs)))
      | _ => .stuck
    | _ => .stuck) := rfl
  rw [e, h1]
  dsimp only
  rw [h2]
  dsimp only
  revert h
  generalize forTurns tg.give (exs cl body) (.tup (kvs.map fun kv => keyV kv.1)) kvs.length 0 ρ (st.set n (.frd kvs)) = o
  intro h
  cases o with
  | next ρ' st' =>
    obtain ⟨kvs', h3, h4⟩ : ∃ kvs', st'[n]? = some (.frd kvs') ∧ D.nx ρ' (st'.set n (.dct kvs')) := by with_unfolding_all exact h
    have et : thawS n st' = some (st'.set n (.dct kvs')) := by unfold thawS; rw [h3]
    show wo (match thawS n st' with | some st' => .next ρ' st' | none => .stuck) D
    rw [et]
    with_unfolding_all exact h4
  | ret v st' =>
    obtain ⟨kvs', h3, h4⟩ : ∃ kvs', st'[n]? = some (.frd kvs') ∧ D.rt v (st'.set n (.dct kvs')) := by with_unfolding_all exact h
    have et : thawS n st' = some (st'.set n (.dct kvs')) := by unfold thawS; rw [h3]
    show wo (match thawS n st' with | some st' => .ret v st' | none => .stuck) D
    rw [et]
    with_unfolding_all exact h4
  | brk _ _ => exact False.elim (by with_unfolding_all exact h)
  | cnt _ _ => exact False.elim (by with_unfolding_all exact h)
  | exc _ _ _ _ => exact False.elim (by with_unfolding_all exact h)
  | stuck => exact False.elim (by with_unfolding_all exact h)
theorem w_rais {k : Nat} : wo (ex cl (.rais k a) ρ st) D = wr (ev cl a ρ st) (fun v st1 => D.ec k v ρ st1) (fun c v st => D.ec c v ρ st) := by
  show wo ((ev cl a ρ st).out ρ _) D = _; rw [wo_out]; all_goals first | done | (with_unfolding_all rfl)
theorem w_try {body suite : List Sx} {hs ns : List Nat} : wo (ex cl (.tryo body hs ns suite) ρ st) D = wo (exs cl body ρ st) { D with ec := fun c v ρ1 st1 => if hs.contains c then wo (exs cl suite ρ1 st1) D else if ns.contains c then D.ec c v ρ1 st1 else False } := by
  have e : ex cl (.tryo body hs ns suite) ρ st = (match exs cl body ρ st with
    | .exc c v ρ1 st1 => if hs.contains c then exs cl suite ρ1 st1 else if ns.contains c then .exc c v ρ1 st1 else .stuck
    | o => o) := rfl
  rw [e]
  cases exs cl body ρ st with
  | exc c v ρ1 st1 =>
    with_unfolding_all show wo (if hs.contains c then exs cl suite ρ1 st1 else if ns.contains c then .exc c v ρ1 st1 else .stuck) D = (if hs.contains c then wo (exs cl suite ρ1 st1) D else if ns.contains c then D.ec c v ρ1 st1 else False)
    rw [wo_ite, wo_ite]
    (with_unfolding_all rfl)
  | _ => (with_unfolding_all rfl)
end
/-! ### loops -/
section
variable {cl : Cl} {ρ : Fr} {st : Store} {D : En}
theorem fT_zero {g : Val → Fr → Store → Option Fr} {body : Fr → Store → Out} {w : Wk} {i : Nat} : forTurns g body w 0 i ρ st = if w.fits st then .next ρ st else .stuck := rfl
theorem fT_succ {g : Val → Fr → Store → Option Fr} {body : Fr → Store → Out} {w : Wk} {r i : Nat} {v : Val} {ρ' : Fr} (h1 : w.item st i = some v) (h2 : g v ρ st = some ρ') : forTurns g body w (r + 1) i ρ st = (match body ρ' st with
    | .next ρ2 st2 => forTurns g body w r (i + 1) ρ2 st2
    | .cnt ρ2 st2 => forTurns g body w r (i + 1) ρ2 st2
    | .brk ρ2 st2 => .next ρ2 st2
    | o => o) := by
  have e : forTurns g body w (r + 1) i ρ st = (match w.item st i with
    | none => .stuck
    | some v => match g v ρ st with
      | none => .stuck
      | some ρ' => match body ρ' st with
        | .next ρ2 st2 => forTurns g body w r (i + 1) ρ2 st2
        | .cnt ρ2 st2 => forTurns g body w r (i + 1) ρ2 st2
        | .brk ρ2 st2 => .next ρ2 st2
        | o => o) := rfl
  rw [e, h1]
  show (match g v ρ st with
      | none => Out.stuck
      | some ρ' => match body ρ' st with
        | .next ρ2 st2 => forTurns g body w r (i + 1) ρ2 st2
        | .cnt ρ2 st2 => forTurns g body w r (i + 1) ρ2 st2
        | .brk ρ2 st2 => .next ρ2 st2
        | o => o) = _
  rw [h2]
theorem for_of {g : Val → Fr → Store → Option Fr} {body : Fr → Store → Out} {w : Wk} {n : Nat} (hw : w.len = n) (I : Nat → Fr → Store → Prop) (hs : ∀ i ρ st, i < n → I i ρ st → ∃ v ρ', w.item st i = some v ∧ g v ρ st = some ρ' ∧ wo (body ρ' st) { D with nx := I (i + 1), ct := I (i + 1), bk := D.nx })
    (hd : ∀ ρ st, I n ρ st → w.fits st = true ∧ D.nx ρ st) (r : Nat) : ∀ (i : Nat) (ρ : Fr) (st : Store), i + r = n → I i ρ st → wo (forTurns g body w r i ρ st) D := by
  induction r with
  | zero =>
    intro i ρ st e h
    have e' : i = n := by omega
    subst e'
    obtain ⟨h1, h2⟩ := hd ρ st h
    rw [fT_zero, if_pos h1]
    with_unfolding_all exact h2
  | succ r ih =>
    intro i ρ st e h
    obtain ⟨v, ρ', h1, h2, h3⟩ := hs i ρ st (by omega) h
    rw [fT_succ h1 h2]
    revert h3
    generalize body ρ' st = o
    intro h3
    cases o with
    | next ρ2 st2 => with_unfolding_all exact ih (i + 1) ρ2 st2 (by omega) h3
    | cnt ρ2 st2 => with_unfolding_all exact ih (i + 1) ρ2 st2 (by omega) h3
    | brk ρ2 st2 => with_unfolding_all exact h3
    | ret v st2 => with_unfolding_all exact h3
    | exc c v ρ2 st2 => with_unfolding_all exact h3
    | stuck => with_unfolding_all exact h3
theorem for_rng {g : Val → Fr → Store → Option Fr} {body : Fr → Store → Out} {lo : Int} {n : Nat} (I : Nat → Fr → Store → Prop) (h0 : I 0 ρ st) (hs : ∀ i ρ st, i < n → I i ρ st → ∃ ρ', g (.int (lo + (i : Int))) ρ st = some ρ' ∧ wo (body ρ' st) { D with nx := I (i + 1), ct := I (i + 1), bk := D.nx })
    (hd : ∀ ρ st, I n ρ st → D.nx ρ st) : wo (forTurns g body (.rng lo n) n 0 ρ st) D :=
  for_of (w := .rng lo n) (n := n) rfl I (fun i ρ st hi h => let ⟨ρ', h1, h2⟩ := hs i ρ st hi h; ⟨_, ρ', rfl, h1, h2⟩) (fun ρ st h => ⟨rfl, hd ρ st h⟩) n 0 ρ st (Nat.zero_add n) h0
theorem for_tup {g : Val → Fr → Store → Option Fr} {body : Fr → Store → Out} {vs : List Val} (I : Nat → Fr → Store → Prop) (h0 : I 0 ρ st) (hs : ∀ i v ρ st, vs[i]? = some v → I i ρ st → ∃ ρ', g v ρ st = some ρ' ∧ wo (body ρ' st) { D with nx := I (i + 1), ct := I (i + 1), bk := D.nx })
    (hd : ∀ ρ st, I vs.length ρ st → D.nx ρ st) : wo (forTurns g body (.tup vs) vs.length 0 ρ st) D :=
  for_of (w := .tup vs) (n := vs.length) rfl I (fun i ρ st hi h => by
    have e : vs[i]? = some vs[i] := List.getElem?_eq_getElem hi
    obtain ⟨ρ', h1, h2⟩ := hs i _ ρ st e h
    exact ⟨_, ρ', e, h1, h2⟩) (fun ρ st h => ⟨rfl, hd ρ st h⟩) vs.length 0 ρ st (Nat.zero_add _) h0
theorem item_lst {m k i : Nat} {vs : List Val} {v : Val} (hk : vs.length = k) (hl : lstAt st m = some vs) (e : vs[i]? = some v) : (Wk.lst m k).item st i = some v := by
  show (match lstAt st m with | some vs => if vs.length = k then vs[i]? else none | none => none) = _
  rw [hl]
  show (if vs.length = k then vs[i]? else none) = _
  rw [if_pos hk, e]
theorem fits_lst {m k : Nat} {vs : List Val} (hk : vs.length = k) (hl : lstAt st m = some vs) : (Wk.lst m k).fits st = true := by
  show (match lstAt st m with | some vs => decide (vs.length = k) | none => false) = true
  rw [hl]
  exact decide_eq_true hk
theorem for_lst {g : Val → Fr → Store → Option Fr} {body : Fr → Store → Out} {m k : Nat} (vs : List Val) (hk : vs.length = k) (I : Nat → Fr → Store → Prop) (h0 : I 0 ρ st) (hl : ∀ i ρ st, I i ρ st → lstAt st m = some vs)
    (hs : ∀ i v ρ st, vs[i]? = some v → I i ρ st → ∃ ρ', g v ρ st = some ρ' ∧ wo (body ρ' st) { D with nx := I (i + 1), ct := I (i + 1), bk := D.nx }) (hd : ∀ ρ st, I k ρ st → D.nx ρ st) : wo (forTurns g body (.lst m k) k 0 ρ st) D :=
  for_of (w := .lst m k) (n := k) rfl I (fun i ρ st hi h => by
    have e : vs[i]? = some (vs[i]'(by rw [hk]; exact hi)) := List.getElem?_eq_getElem (by rw [hk]; exact hi)
    obtain ⟨ρ', h1, h2⟩ := hs i _ ρ st e h
    exact ⟨_, ρ', item_lst hk (hl i ρ st h) e, h1, h2⟩) (fun ρ st h => ⟨fits_lst hk (hl k ρ st h), hd ρ st h⟩) k 0 ρ st (Nat.zero_add _) h0
theorem lT_zero {g : Val → Fr → Store → Option Fr} {tt : Fr → Store → Res Bool} {el : Fr → Store → Res Val} {w : Wk} {Dx i : Nat} : lcTurns g tt el w ρ Dx 0 i st = if w.fits st then .ok (.ref Dx) st else .stuck := rfl
theorem lT_succ {g : Val → Fr → Store → Option Fr} {tt : Fr → Store → Res Bool} {el : Fr → Store → Res Val} {w : Wk} {Dx r i : Nat} {v : Val} {ρ' : Fr} (h1 : w.item st i = some v) (h2 : g v ρ st = some ρ') : lcTurns g tt el w ρ Dx (r + 1) i st =
    (tt ρ' st).quiet.bind fun b st1 => if b then (el ρ' st1).quiet.bind fun y st2 => match mutAt st2 Dx with
      | some acc => if decide (acc.length < 16777216) then lcTurns g tt el w ρ Dx r (i + 1) (st2.set Dx (.lst (acc ++ [y]))) else .stuck
      | none => .stuck
    else lcTurns g tt el w ρ Dx r (i + 1) st1 := by
  have e : lcTurns g tt el w ρ Dx (r + 1) i st = (match w.item st i with
    | none => .stuck
    | some v => match g v ρ st with
      | none => .stuck
      | some ρ' => (tt ρ' st).quiet.bind fun b st1 => if b then (el ρ' st1).quiet.bind fun y st2 => match mutAt st2 Dx with
          | some acc => if decide (acc.length < 16777216) then lcTurns g tt el w ρ Dx r (i + 1) (st2.set Dx (.lst (acc ++ [y]))) else .stuck
          | none => .stuck
        else lcTurns g tt el w ρ Dx r (i + 1) st1) := rfl
  rw [e, h1]
  show (match g v ρ st with
      | none => Res.stuck
      | some ρ' => (tt ρ' st).quiet.bind fun b st1 => if b then (el ρ' st1).quiet.bind fun y st2 => match mutAt st2 Dx with
          | some acc => if decide (acc.length < 16777216) then lcTurns g tt el w ρ Dx r (i + 1) (st2.set Dx (.lst (acc ++ [y]))) else .stuck
          | none => .stuck
        else lcTurns g tt el w ρ Dx r (i + 1) st1) = _
  rw [h2]
/-- a comprehension: the invariant of turn, store, what is gathered -/
theorem lc_of {g : Val → Fr → Store → Option Fr} {tt : Fr → Store → Res Bool} {el : Fr → Store → Res Val} {w : Wk} {n Dx : Nat} {Q : Val → Store → Prop} {X : Nat → Val → Store → Prop} (hw : w.len = n) (I : Nat → Store → List Val → Prop)
    (hs : ∀ i st acc, i < n → I i st acc → ∃ v ρ', w.item st i = some v ∧ g v ρ st = some ρ' ∧ wr (tt ρ' st) (fun b st1 => if b = true then wr (el ρ' st1) (fun y st2 => mutAt st2 Dx = some acc ∧ acc.length < 16777216 ∧ I (i + 1) (st2.set Dx (.lst (acc ++ [y]))) (acc ++ [y])) noX else I (i + 1) st1 acc) noX)
    (hd : ∀ st acc, I n st acc → w.fits st = true ∧ Q (.ref Dx) st) (r : Nat) : ∀ (i : Nat) (st : Store) (acc : List Val), i + r = n → I i st acc → wr (lcTurns g tt el w ρ Dx r i st) Q X := by
  induction r with
  | zero =>
    intro i st acc e h
    have e' : i = n := by omega
    subst e'
    obtain ⟨h1, h2⟩ := hd st acc h
    rw [lT_zero, if_pos h1]
    with_unfolding_all exact h2
  | succ r ih =>
    intro i st acc e h
    obtain ⟨v, ρ', h1, h2, h3⟩ := hs i st acc (by omega) h
    rw [lT_succ h1 h2, wr_bind, wr_quiet]
    refine wr_mono h3 (fun b st1 q => ?_) fun _ _ _ z => z.elim
    cases b with
    | false => exact ih (i + 1) st1 acc (by omega) q
    | true =>
      show wr ((el ρ' st1).quiet.bind _) Q X
      rw [wr_bind, wr_quiet]
      refine wr_mono (show wr (el ρ' st1) _ noX from q) (fun y st2 q2 => ?_) fun _ _ _ z => z.elim
      obtain ⟨q3, q4, q5⟩ := q2
      rw [q3]
      show wr (if decide (acc.length < 16777216) = true then _ else _) Q X
      rw [if_pos (decide_eq_true q4)]
      exact ih (i + 1) _ _ (by omega) q5
end
/-! ### stores -/
section
variable {st0 st st' : Store} {n : Nat} {o : Ob}
theorem pre_rfl : st <+: st := List.prefix_refl _
theorem pre_app (h : st0 <+: st) (x : Store) : st0 <+: st ++ x := h.trans (List.prefix_append _ _)
theorem pre_at (h : st0 <+: st) (e : st0[n]? = some o) : st[n]? = some o := by
  obtain ⟨t, rfl⟩ := h
  rw [List.getElem?_append_left (List.getElem?_eq_some_iff.mp e).1]
  exact e
theorem pre_lst {vs : List Val} (h : st0 <+: st) (e : lstAt st0 n = some vs) : lstAt st n = some vs := by
  unfold lstAt at e ⊢
  cases q : st0[n]? with
  | none => rw [q] at e; cases e
  | some o => rw [q] at e; rw [pre_at h q]; exact e
theorem pre_set (h : st0 <+: st) (hn : st0.length ≤ n) : st0 <+: st.set n o := by
  obtain ⟨t, rfl⟩ := h
  rw [List.set_append_right _ _ hn]
  exact List.prefix_append _ _
theorem pre_len (h : st0 <+: st) : st0.length ≤ st.length := h.length_le
theorem at_new : (st ++ [o])[st.length]? = some o := by rw [List.getElem?_append_right (Nat.le_refl _), Nat.sub_self]; rfl
theorem at_set (h : n < st.length) : (st.set n o)[n]? = some o := List.getElem?_set_self h
theorem mut_new {vs : List Val} : mutAt (st ++ [.lst vs]) st.length = some vs := by unfold mutAt; rw [at_new]
theorem mut_set {vs ws : List Val} (h : mutAt st n = some vs) : mutAt (st.set n (.lst ws)) n = some ws := by
  unfold mutAt at h ⊢
  cases q : st[n]? with
  | none => rw [q] at h; cases h
  | some o => rw [at_set (List.getElem?_eq_some_iff.mp q).1]
theorem mut_lst {vs : List Val} (h : mutAt st n = some vs) : lstAt st n = some vs := by
  unfold mutAt at h; unfold lstAt
  cases q : st[n]? with
  | none => rw [q] at h; cases h
  | some o => rw [q] at h; cases o <;> first | exact h | cases h
theorem mut_pre {vs : List Val} (h : st0 <+: st) (e : mutAt st0 n = some vs) : mutAt st n = some vs := by
  unfold mutAt at e ⊢
  cases q : st0[n]? with
  | none => rw [q] at e; cases e
  | some o => rw [q] at e; rw [pre_at h q]; exact e
theorem mut_lt {vs : List Val} (h : mutAt st n = some vs) : n < st.length := by
  unfold mutAt at h
  cases q : st[n]? with
  | none => rw [q] at h; cases h
  | some o => exact (List.getElem?_eq_some_iff.mp q).1
theorem lst_lt {vs : List Val} (h : lstAt st n = some vs) : n < st.length := by
  unfold lstAt at h
  cases q : st[n]? with
  | none => rw [q] at h; cases h
  | some o => exact (List.getElem?_eq_some_iff.mp q).1
end
section
variable {g : Val → Fr → Store → Option Fr} {tt : Fr → Store → Res Bool} {el kx vx : Fr → Store → Res Val} {w : Wk} {ρ : Fr} {n Dx : Nat} {Q : Val → Store → Prop} {X : Nat → Val → Store → Prop}
/-- a set comprehension's length: the invariant of turn, store, keys -/
theorem sc_of (hw : w.len = n) (I : Nat → Store → List Key → Prop)
    (hs : ∀ i st ks, i < n → I i st ks → ∃ v ρ', w.item st i = some v ∧ g v ρ st = some ρ' ∧ wr (tt ρ' st) (fun b st1 => if b = true then wr (el ρ' st1) (fun y st2 => ∃ c, keyOf y = some c ∧ ks.length + 1 < 4096 ∧ I (i + 1) st2 (addK ks c)) noX else I (i + 1) st1 ks) noX)
    (hd : ∀ st ks, I n st ks → w.fits st = true ∧ Q (.int ks.length) st) (r : Nat) : ∀ (i : Nat) (st : Store) (ks : List Key), i + r = n → I i st ks → wr (scTurns g tt el w ρ r i st ks) Q X := by
  induction r with
  | zero =>
    intro i st ks e h
    have e' : i = n := by omega
    subst e'
    obtain ⟨h1, h2⟩ := hd st ks h
    show wr (if w.fits st then Res.ok (Val.int ks.length) st else .stuck) Q X
    rw [if_pos h1, wr_ok]
    exact h2
  | succ r ih =>
    intro i st ks e h
    obtain ⟨v, ρ', h1, h2, h3⟩ := hs i st ks (by omega) h
    unfold scTurns
    rw [h1]
    dsimp only
    rw [h2]
    dsimp only
    rw [wr_bind, wr_quiet]
    refine wr_mono h3 (fun b st1 q => ?_) fun _ _ _ z => z.elim
    cases b with
    | false => exact ih (i + 1) st1 ks (by omega) q
    | true =>
      rw [if_pos rfl]
      rw [if_pos rfl] at q
      rw [wr_bind, wr_quiet]
      refine wr_mono q (fun y st2 q2 => ?_) fun _ _ _ z => z.elim
      obtain ⟨c, hc, hl, hI⟩ := q2
      cases y with
      | int j =>
        cases hc
        dsimp only
        rw [if_pos (decide_eq_true hl)]
        exact ih (i + 1) st2 _ (by omega) hI
      | str z =>
        cases hc
        dsimp only
        rw [if_pos (decide_eq_true hl)]
        exact ih (i + 1) st2 _ (by omega) hI
      | _ => cases hc
/-- a dict comprehension: the invariant of turn, store, pairs -/
theorem dc_of (hw : w.len = n) (I : Nat → Store → List (Key × Val) → Prop)
    (hs : ∀ i st kvs, i < n → I i st kvs → ∃ v ρ', w.item st i = some v ∧ g v ρ st = some ρ' ∧ wr (tt ρ' st) (fun b st1 => if b = true then wr (kx ρ' st1) (fun y st2 => wr (vx ρ' st2) (fun z st3 => ∃ c, keyOf y = some c ∧ st3[Dx]? = some (.dct kvs) ∧ kvs.length < 16777216 ∧ I (i + 1) (st3.set Dx (.dct (putKV kvs c z))) (putKV kvs c z)) noX) noX else I (i + 1) st1 kvs) noX)
    (hd : ∀ st kvs, I n st kvs → w.fits st = true ∧ Q (.ref Dx) st) (r : Nat) : ∀ (i : Nat) (st : Store) (kvs : List (Key × Val)), i + r = n → I i st kvs → wr (dcTurns g tt kx vx w ρ Dx r i st) Q X := by
  induction r with
  | zero =>
    intro i st kvs e h
    have e' : i = n := by omega
    subst e'
    obtain ⟨h1, h2⟩ := hd st kvs h
    show wr (if w.fits st then Res.ok (Val.ref Dx) st else .stuck) Q X
    rw [if_pos h1, wr_ok]
    exact h2
  | succ r ih =>
    intro i st kvs e h
    obtain ⟨v, ρ', h1, h2, h3⟩ := hs i st kvs (by omega) h
    unfold dcTurns
    rw [h1]
    dsimp only
    rw [h2]
    dsimp only
    rw [wr_bind, wr_quiet]
    refine wr_mono h3 (fun b st1 q => ?_) fun _ _ _ z => z.elim
    cases b with
    | false => exact ih (i + 1) st1 kvs (by omega) q
    | true =>
      rw [if_pos rfl]
      rw [if_pos rfl] at q
      rw [wr_bind, wr_quiet]
      refine wr_mono q (fun y st2 q2 => ?_) fun _ _ _ z => z.elim
      rw [wr_bind, wr_quiet]
      refine wr_mono q2 (fun z st3 q3 => ?_) fun _ _ _ z => z.elim
      obtain ⟨c, hc, hD, hl, hI⟩ := q3
      rw [hc]
      dsimp only
      rw [hD]
      dsimp only
      rw [if_pos (decide_eq_true hl)]
      exact ih (i + 1) _ _ (by omega) hI
/-- a while: the invariant of the turns that are left at most -/
theorem wh_of {c : Fr → Store → Res Bool} {bd : Fr → Store → Out} {D : En} (I : Nat → Fr → Store → Prop)
    (hs : ∀ m ρ st, I m ρ st → wr (c ρ st) (fun k st1 => if k = true then wo (bd ρ st1) { D with nx := fun ρ2 st2 => ∃ m', m' < m ∧ I m' ρ2 st2, ct := fun ρ2 st2 => ∃ m', m' < m ∧ I m' ρ2 st2, bk := D.nx } else D.nx ρ st1) (fun c v st => D.ec c v ρ st)) :
    ∀ (n m : Nat) (ρ : Fr) (st : Store), m < n → I m ρ st → wo (whTurns c bd n ρ st) D
  | 0, m, ρ, st, h, _ => absurd h (Nat.not_lt_zero m)
  | n + 1, m, ρ, st, h, hI => by
    rw [wh_succ]
    refine wr_mono (hs m ρ st hI) (fun k st1 q => ?_) fun _ _ _ z => z
    cases k with
    | false => exact q
    | true =>
      rw [if_pos rfl] at q ⊢
      refine wo_mono q ?_ (fun _ _ z => z) (fun _ _ z => z) ?_ fun _ _ _ _ z => z
      · rintro ρ2 st2 ⟨m', h1, h2⟩
        exact wh_of I hs n m' ρ2 st2 (by omega) h2
      · rintro ρ2 st2 ⟨m', h1, h2⟩
        exact wh_of I hs n m' ρ2 st2 (by omega) h2
end
end EV

/-! ## EvWs -/
set_option maxRecDepth 100000
set_option maxHeartbeats 4000000
namespace EV
open PySem L2
section
variable {cl : Cl} {ρ : Fr} {st : Store} {Q : Val → Store → Prop} {X : Nat → Val → Store → Prop} {i j : Int} {n : Nat} {vs : List Val}
theorem w_varM {i : Nat} : wr (ev cl (.var i) ρ st) Q X = (match ρ[i]? with | some (some v) => Q v st | _ => False) := by
  show wr (match ρ[i]? with | some (some v) => Res.ok v st | _ => .stuck) Q X = _
  cases ρ[i]? with
  | none => with_unfolding_all rfl
  | some o => cases o <;> (with_unfolding_all rfl)
theorem wr_match_bl {k : Bool} {a b : Res Val} : wr (match (Val.bl k) with | .bl true => a | .bl false => b | _ => .stuck) Q X = if k = true then wr a Q X else wr b Q X := by cases k <;> (with_unfolding_all rfl)
/-! operations on numbers, bools -/
theorem o_add : binV .add (.int i) (.int j) st = some (.int (i + j), st) := id rfl
theorem o_sub : binV .sub (.int i) (.int j) st = some (.int (i - j), st) := id rfl
theorem o_mul : binV .mul (.int i) (.int j) st = if mulOk i j then some (.int (i * j), st) else none := id rfl
theorem o_fdiv : binV .fdiv (.int i) (.int j) st = if decide (0 < j ∧ j.natAbs.log2 < 9000) then some (.int (i / j), st) else none := id rfl
theorem o_mod : binV .mod (.int i) (.int j) st = if decide (0 < j) then some (.int (i % j), st) else none := id rfl
theorem o_pow : binV .pow (.int i) (.int j) st = if decide (0 ≤ j ∧ j ≤ 1000000 ∧ i.natAbs < 2 ^ 64) then some (.int (i ^ j.toNat), st) else none := id rfl
theorem o_neg : negV (.int i) = some (.int (-i)) := id rfl
theorem o_lt : cmpV .lt (.int i) (.int j) st = some (decide (i < j)) := id rfl
theorem o_le : cmpV .le (.int i) (.int j) st = some (decide (i ≤ j)) := id rfl
theorem o_gt : cmpV .gt (.int i) (.int j) st = some (decide (j < i)) := id rfl
theorem o_ge : cmpV .ge (.int i) (.int j) st = some (decide (j ≤ i)) := id rfl
theorem o_eq : cmpV .eq (.int i) (.int j) st = some (i == j) := id rfl
theorem o_ne : cmpV .ne (.int i) (.int j) st = some (!(i == j)) := id rfl
theorem o_eqs {x y : Str} : cmpV .eq (.str x) (.str y) st = some (x == y) := id rfl
theorem o_nes {x y : Str} : cmpV .ne (.str x) (.str y) st = some (!(x == y)) := id rfl
theorem o_tbl {b : Bool} : truV st (.bl b) = some b := id rfl
theorem o_int : bltV .int [.int i] st = some (.int i, st) := id rfl
theorem o_len (h : lstAt st n = some vs) : bltV .len [.ref n] st = some (.int vs.length, st) := by
  unfold lstAt at h
  show (match st[n]? with
    | some (.lst ws) => some (Val.int ws.length, st)
    | some (.fro ws) => some (Val.int ws.length, st)
    | some (.dct kvs) => some (.int kvs.length, st)
    | _ => none) = _
  cases e : st[n]? with
  | none => rw [e] at h; cases h
  | some o => rw [e] at h; cases o <;> first | (cases h; rfl) | cases h
theorem o_idx (h : lstAt st n = some vs) : idxV st (.ref n) (.int i) = atI vs i := by
  show (match lstAt st n with
      | some vs => atI vs i
      | none => _) = _
  rw [h]
theorem o_app {u : Val} (h : mutAt st n = some vs) : mthV .append (.ref n) [u] st = if decide (vs.length < 16777216) then some (.non, st.set n (.lst (vs ++ [u]))) else none := by
  show (match mutAt st n with
    | some ws => if decide (ws.length < 16777216) then some (Val.non, st.set n (.lst (ws ++ [u]))) else none
    | none => none) = _
  rw [h]
theorem o_isB {a b : Bool} : cmpV .isN (.bl a) (.bl b) st = some (a == b) := id rfl
theorem o_notB {a b : Bool} : cmpV .notN (.bl a) (.bl b) st = some (!(a == b)) := id rfl
theorem o_pop1 {i : Int} {k : Nat} {y : Val} (h : mutAt st n = some vs) (hk : seqIndex? i vs.length = some k) (hy : vs[k]? = some y) (hi : -2 ^ 63 ≤ i ∧ i < 2 ^ 63) : mthV .pop (.ref n) [.int i] st = some (y, st.set n (.lst (vs.eraseIdx k))) := by
  show (match mutAt st n with
    | some ws => match seqIndex? i ws.length with
      | some k => match ws[k]? with
        | some y => if decide (-2 ^ 63 ≤ i ∧ i < 2 ^ 63) then some (y, st.set n (.lst (ws.eraseIdx k))) else none
        | none => none
      | none => none
    | none => none) = _
  rw [h]
  dsimp only
  rw [hk]
  dsimp only
  rw [hy]
  dsimp only
  rw [if_pos (decide_eq_true hi)]
theorem o_rpop (h : mutAt st n = some vs) : rcv .pop (.ref n) st = true := by
  show (mutAt st n).isSome = true
  rw [h]; rfl
theorem o_rapp (h : mutAt st n = some vs) : rcv .append (.ref n) st = true := by
  show (mutAt st n).isSome = true
  rw [h]; rfl
theorem o_lst : allocL st vs = if lineOk vs.length then some (.ref st.length, st ++ [.lst vs]) else none := id rfl
theorem mulOk_l (h : -(2 ^ 64) < i ∧ i < 2 ^ 64) : mulOk i j = true := by unfold mulOk; rw [decide_eq_true h]; rfl
theorem mulOk_r (h : -(2 ^ 64) < j ∧ j < 2 ^ 64) : mulOk i j = true := by unfold mulOk; rw [decide_eq_true h, Bool.or_true]; rfl
theorem ix_at {ns : List Int} {k : Nat} {z : Int} (h : ns[k]? = some z) : atI (ns.map Val.int) (k : Int) = some (.int z) := by
  exact atI_nat (by rw [List.getElem?_map, h]; rfl)
end
theorem o_rng1 {cl : Cl} {ρ : Fr} {st : Store} {j : Int} {Q : Wk → Store → Prop} {X : Nat → Val → Store → Prop} : wr (match (Val.int j) with | .int j => if rngOk j then Res.ok (Wk.rng 0 j.toNat) st else .stuck | _ => .stuck) Q X = if rngOk j then Q (.rng 0 j.toNat) st else False := by
  show wr (if rngOk j then Res.ok (Wk.rng 0 j.toNat) st else .stuck) Q X = _
  rw [wr_ite]; with_unfolding_all rfl
theorem rng_ok {j : Int} (h : -(2 ^ 62) ≤ j ∧ j < 2 ^ 62) : rngOk j = true := decide_eq_true h
theorem fd_ok {j : Int} (h : 0 < j) (h2 : j < 2 ^ 62) : 0 < j ∧ j.natAbs.log2 < 9000 := by
  refine ⟨h, ?_⟩
  have e : j.natAbs < 2 ^ 62 := by omega
  have e0 : j.natAbs ≠ 0 := by omega
  have z : j.natAbs.log2 < 62 := (Nat.log2_lt e0).mpr e
  omega
theorem give_nm {i : Nat} {v : Val} {ρ : Fr} {st : Store} : (Tg.nm i).give v ρ st = some (ρ.set i (some v)) := id rfl
theorem len_rng {lo : Int} {k : Nat} : (Wk.rng lo k).len = k := id rfl
theorem len_lst {m k : Nat} : (Wk.lst m k).len = k := id rfl
theorem len_tup {vs : List Val} : (Wk.tup vs).len = vs.length := id rfl
theorem c_na10 : Int.natAbs 10 = 10 := id rfl
theorem w_cut {cl : Cl} {ρ : Fr} {st : Store} {D : En} {s : Sx} {ss : List Sx} (P : Fr → Store → Prop) (h : wo (ex cl s ρ st) { D with nx := P }) (k : ∀ ρ st, P ρ st → wo (exs cl ss ρ st) D) : wo (exs cl (s :: ss) ρ st) D := by
  rw [w_scons]
  exact wo_mono h k (fun _ _ z => z) (fun _ _ z => z) (fun _ _ z => z) fun _ _ _ _ z => z
theorem c_pow {k : Int} (h : 0 ≤ k ∧ k ≤ 1000000) : (0 ≤ k ∧ k ≤ 1000000 ∧ Int.natAbs 10 < 2 ^ 64) = True := by
  simp [h.1, h.2]
theorem c_180 : mulOk (10 ^ 60) (10 ^ 60) = true ∧ mulOk (10 ^ 60 * 10 ^ 60) (10 ^ 60) = true := by decide +kernel
end EV

/-! ## EvLim -/
set_option maxRecDepth 10000
set_option maxHeartbeats 400000
/-! EvLim: what lists of ints, written with + and *, come to. -/
namespace EV
open PySem L2
/-- an expression's int, by the frame alone -/
def inE (ρ : Fr) : Ex → Option Int
  | .con (.int i) => some i
  | .var i => match ρ[i]? with
    | some (some (.int k)) => some k
    | _ => none
  | .bin o a b => match inE ρ a, inE ρ b with
    | some i, some j => match o with
      | .add => some (i + j)
      | .sub => some (i - j)
      | .mul => if mulOk i j then some (i * j) else none
      | .pow => if decide (0 ≤ j ∧ j ≤ 1000000 ∧ i.natAbs < 2 ^ 64) then some (i ^ j.toNat) else none
      | _ => none
    | _, _ => none
  | .neg a => match inE ρ a with
    | some i => some (-i)
    | none => none
  | _ => none
def insE (ρ : Fr) : Exs → Option (List Int)
  | .nil => some []
  | .cons e es => match inE ρ e, insE ρ es with
    | some i, some is => some (i :: is)
    | _, _ => none
  | .star _ _ => none
def lsE (ρ : Fr) : Ex → Option (List Int)
  | .lst es => match insE ρ es with
    | some is => if lineOk is.length then some is else none
    | none => none
  | .bin .add a b => match lsE ρ a, lsE ρ b with
    | some xs, some ys => if lineOk (xs.length + ys.length) then some (xs ++ ys) else none
    | _, _ => none
  | .bin .mul a b => match lsE ρ a, inE ρ b with
    | some xs, some k => if decide (-(2 ^ 63) ≤ k ∧ k < 2 ^ 63) && lineOk (xs.length * k.toNat) then some (List.replicate k.toNat xs).flatten else none
    | _, _ => none
  | _ => none
section
variable {cl : Cl} {ρ : Fr} {st : Store}
theorem inE_ok : ∀ (e : Ex) {i : Int}, inE ρ e = some i → ev cl e ρ st = .ok (.int i) st
  | .con v, i, h => by
    cases v <;> first | (cases h; rfl) | cases h
  | .var k, i, h => by
    unfold inE at h
    show (match ρ[k]? with | some (some v) => Res.ok v st | _ => .stuck) = _
    split at h
    · rename_i e
      cases h
      rw [e]
    · cases h
  | .bin o a b, i, h => by
    unfold inE at h
    show (ev cl a ρ st).bind (fun v st1 => (ev cl b ρ st1).bind fun u st2 => liftO (binV o v u st2)) = _
    split at h
    · rename_i x y ea eb
      rw [inE_ok a ea]
      show (ev cl b ρ st).bind (fun u st2 => liftO (binV o (.int x) u st2)) = _
      rw [inE_ok b eb]
      show liftO (binV o (.int x) (.int y) st) = _
      cases o with
      | add => cases h; rfl
      | sub => cases h; rfl
      | mul =>
        rw [o_mul]
        have h : (if mulOk x y = true then some (x * y) else none) = some i := h
        split at h
        · rename_i hm
          cases h
          rw [if_pos hm]
          rfl
        · cases h
      | pow =>
        rw [o_pow]
        have h : (if decide (0 ≤ y ∧ y ≤ 1000000 ∧ x.natAbs < 2 ^ 64) = true then some (x ^ y.toNat) else none) = some i := h
        split at h
        · rename_i hm
          cases h
          rw [if_pos hm]
          rfl
        · cases h
      | fdiv => cases h
      | mod => cases h
    · cases h
  | .neg a, i, h => by
    unfold inE at h
    show (ev cl a ρ st).bind (fun v st1 => liftO ((negV v).map fun w => (w, st1))) = _
    split at h
    · rename_i x ea
      cases h
      rw [inE_ok a ea]
      rfl
    · cases h
  | .not _, _, h => by cases h
  | .and _ _, _, h => by cases h
  | .or _ _, _, h => by cases h
  | .cmp _ _ _, _, h => by cases h
  | .chain _ _ _ _ _, _, h => by cases h
  | .ife _ _ _, _, h => by cases h
  | .call _ _, _, h => by cases h
  | .callp _ _ _, _, h => by cases h
  | .tab _ _, _, h => by cases h
  | .tin _ _ _, _, h => by cases h
  | .dnew, _, h => by cases h
  | .rev _, _, h => by cases h
  | .blt _ _, _, h => by cases h
  | .mth _ _ _, _, h => by cases h
  | .fld _ _ _, _, h => by cases h
  | .mk _ _ _, _, h => by cases h
  | .meth _ _ _ _ _, _, h => by cases h
  | .prop _ _ _, _, h => by cases h
  | .lsc _ _ _ _ _, _, h => by cases h
  | .dc _ _ _ _ _ _, _, h => by cases h
  | .disp _ _, _, h => by cases h
  | .lockd _ _, _, h => by cases h
  | .get _ _ _, _, h => by cases h
  | .idx _ _, _, h => by cases h
  | .slc _ _ _, _, h => by cases h
  | .lst _, _, h => by cases h
  | .tup _, _, h => by cases h
  | .lc _ _ _ _ _, _, h => by cases h
  | .never, _, h => by cases h
theorem insE_ok : ∀ (es : Exs) {is : List Int}, insE ρ es = some is → evs cl es ρ st = .ok (is.map .int) st
  | .nil, is, h => by cases h; rfl
  | .cons e es, is, h => by
    unfold insE at h
    show (ev cl e ρ st).bind (fun v st1 => (evs cl es ρ st1).bind fun vs st2 => .ok (v :: vs) st2) = _
    split at h
    · rename_i x y ea eb
      cases h
      rw [inE_ok e ea]
      show (evs cl es ρ st).bind (fun vs st2 => .ok (Val.int x :: vs) st2) = _
      rw [insE_ok es eb]
      rfl
    · cases h
  | .star _ _, is, h => by cases h
theorem o_cat {n m : Nat} {xs ys : List Val} (h : mutAt st n = some xs) (k : mutAt st m = some ys) (hl : lineOk (xs.length + ys.length) = true) : binV .add (.ref n) (.ref m) st = some (.ref st.length, st ++ [.lst (xs ++ ys)]) := by
  show (match mutAt st n, mutAt st m with
    | some xs, some ys => allocL st (xs ++ ys)
    | _, _ => none) = _
  rw [h, k]
  show (if lineOk (xs ++ ys).length = true then _ else none) = _
  rw [List.length_append, if_pos hl]
  rfl
theorem o_rep {n : Nat} {vs : List Val} {k : Int} (h : mutAt st n = some vs) (hk : (decide (-(2 ^ 63) ≤ k ∧ k < 2 ^ 63) && lineOk (vs.length * k.toNat)) = true) : binV .mul (.ref n) (.int k) st = some (.ref st.length, st ++ [.lst (List.replicate k.toNat vs).flatten]) := by
  show (match mutAt st n with
    | some xs => if decide (-(2 ^ 63) ≤ k ∧ k < 2 ^ 63) && lineOk (xs.length * k.toNat) then alloc st (.lst (List.replicate k.toNat xs).flatten) else none
    | none => none) = _
  rw [h]
  show (if (decide (-(2 ^ 63) ≤ k ∧ k < 2 ^ 63) && lineOk (vs.length * k.toNat)) = true then _ else none) = _
  rw [if_pos hk]
  rfl
theorem rep_map (n : Nat) (xs : List Int) : (List.replicate n (xs.map Val.int)).flatten = ((List.replicate n xs).flatten).map Val.int := by
  induction n with
  | zero => rfl
  | succ n ih => rw [List.replicate_succ, List.replicate_succ, List.flatten_cons, List.flatten_cons, List.map_append, ih]
/-- what is laid: a new list of these ints -/
def NewL (st : Store) (xs : List Int) : Val → Store → Prop := fun v st' => st <+: st' ∧ ∃ m : Nat, v = .ref m ∧ st.length ≤ m ∧ mutAt st' m = some (xs.map .int)
theorem lsE_ok : ∀ (e : Ex) {st : Store} {xs : List Int}, lsE ρ e = some xs → wr (ev cl e ρ st) (NewL st xs) noX
  | .lst es, st, xs, h => by
    unfold lsE at h
    split at h
    · rename_i is ea
      split at h
      · rename_i hl
        cases h
        rw [w_lst, insE_ok es ea, wr_ok, o_lst, List.length_map, if_pos hl, wr_some]
        exact ⟨pre_app pre_rfl _, _, rfl, Nat.le_refl _, mut_new⟩
      · cases h
    · cases h
  | .bin .add a b, st, xs, h => by
    unfold lsE at h
    split at h
    · rename_i ys zs ea eb
      split at h
      · rename_i hl
        cases h
        rw [w_bin]
        refine wr_imp (lsE_ok a ea) ?_
        rintro _ s1 ⟨p1, n, rfl, hn, h1⟩
        refine wr_imp (lsE_ok b eb) ?_
        rintro _ s2 ⟨p2, m, rfl, hm, h2⟩
        rw [o_cat (mut_pre p2 h1) h2 (by rw [List.length_map, List.length_map]; exact hl), wr_some]
        refine ⟨pre_app (p1.trans p2) _, _, rfl, (pre_len (p1.trans p2)), ?_⟩
        rw [List.map_append]
        exact mut_new
      · cases h
    · cases h
  | .bin .mul a b, st, xs, h => by
    unfold lsE at h
    split at h
    · rename_i ys k ea eb
      split at h
      · rename_i hl
        cases h
        rw [w_bin]
        refine wr_imp (lsE_ok a ea) ?_
        rintro _ s1 ⟨p1, n, rfl, hn, h1⟩
        rw [inE_ok b eb, wr_ok, o_rep h1 (by rw [List.length_map]; exact hl), wr_some]
        refine ⟨pre_app p1 _, _, rfl, pre_len p1, ?_⟩
        rw [rep_map]
        exact mut_new
      · cases h
    · cases h
  | .bin .sub _ _, _, _, h => by cases h
  | .bin .fdiv _ _, _, _, h => by cases h
  | .bin .mod _ _, _, _, h => by cases h
  | .bin .pow _ _, _, _, h => by cases h
  | .con _, _, _, h => by cases h
  | .var _, _, _, h => by cases h
  | .neg _, _, _, h => by cases h
  | .not _, _, _, h => by cases h
  | .and _ _, _, _, h => by cases h
  | .or _ _, _, _, h => by cases h
  | .cmp _ _ _, _, _, h => by cases h
  | .chain _ _ _ _ _, _, _, h => by cases h
  | .ife _ _ _, _, _, h => by cases h
  | .call _ _, _, _, h => by cases h
  | .callp _ _ _, _, _, h => by cases h
  | .tab _ _, _, _, h => by cases h
  | .tin _ _ _, _, _, h => by cases h
  | .dnew, _, _, h => by cases h
  | .rev _, _, _, h => by cases h
  | .blt _ _, _, _, h => by cases h
  | .mth _ _ _, _, _, h => by cases h
  | .fld _ _ _, _, _, h => by cases h
  | .mk _ _ _, _, _, h => by cases h
  | .meth _ _ _ _ _, _, _, h => by cases h
  | .prop _ _ _, _, _, h => by cases h
  | .lsc _ _ _ _ _, _, _, h => by cases h
  | .dc _ _ _ _ _ _, _, _, h => by cases h
  | .disp _ _, _, _, h => by cases h
  | .lockd _ _, _, _, h => by cases h
  | .get _ _ _, _, _, h => by cases h
  | .idx _ _, _, _, h => by cases h
  | .slc _ _ _, _, _, h => by cases h
  | .tup _, _, _, h => by cases h
  | .lc _ _ _ _ _, _, _, h => by cases h
  | .never, _, _, h => by cases h
end
section
variable {cl : Cl} {ρ : Fr} {st : Store}
theorem lsE_add {a b : Ex} {xs ys : List Int} (h : lsE ρ a = some xs) (k : lsE ρ b = some ys) (hl : xs.length + ys.length ≤ 16777216) : lsE ρ (.bin .add a b) = some (xs ++ ys) := by
  show (match lsE ρ a, lsE ρ b with
    | some xs, some ys => if lineOk (xs.length + ys.length) then some (xs ++ ys) else none
    | _, _ => none) = _
  rw [h, k]
  exact if_pos (decide_eq_true hl)
theorem lsE_mul {a b : Ex} {xs : List Int} {k : Int} (h : lsE ρ a = some xs) (e : inE ρ b = some k) (hk : -(2 ^ 63) ≤ k ∧ k < 2 ^ 63) (hl : xs.length * k.toNat ≤ 16777216) : lsE ρ (.bin .mul a b) = some (List.replicate k.toNat xs).flatten := by
  show (match lsE ρ a, inE ρ b with
    | some xs, some k => if decide (-(2 ^ 63) ≤ k ∧ k < 2 ^ 63) && lineOk (xs.length * k.toNat) then some (List.replicate k.toNat xs).flatten else none
    | _, _ => none) = _
  rw [h, e]
  have e1 : (decide (-(2 ^ 63) ≤ k ∧ k < 2 ^ 63) && lineOk (xs.length * k.toNat)) = true := by rw [decide_eq_true hk, show lineOk (xs.length * k.toNat) = true from decide_eq_true hl]; rfl
  exact if_pos e1
theorem w_one {D : En} {s : Sx} : wo (exs cl [s] ρ st) D = wo (ex cl s ρ st) D := by
  rw [w_scons]
  simp only [w_snil]
theorem w_ifT {D : En} {c : Tx} {a b : List Sx} {v : Bool} (h : evT cl c ρ st = .ok v st) : wo (ex cl (.ite c a b) ρ st) D = if v = true then wo (exs cl a ρ st) D else wo (exs cl b ρ st) D := by
  rw [w_ifs, h, wr_ok]
theorem t_idx_eq {i m : Nat} {k x c : Int} {vs : List Val} (hv : ρ[i]? = some (some (.ref m))) (hm : lstAt st m = some vs) (hx : atI vs k = some (.int x)) : evT cl (.val (.cmp .eq (.idx (.var i) (.con (.int k))) (.con (.int c)))) ρ st = .ok (x == c) st := by
  show (((match ρ[i]? with | some (some v) => Res.ok v st | _ => .stuck).bind fun v st1 => (Res.ok (Val.int k) st1).bind fun u st2 => liftO ((idxV st2 v u).map fun w => (w, st2))).bind fun v st1 => (Res.ok (Val.int c) st1).bind fun u st2 => liftO ((cmpV .eq v u st2).map fun k => (Val.bl k, st2))).bind (fun v st1 => match truV st1 v with
    | some b => .ok b st1
    | none => .stuck) = _
  rw [hv]
  show (((liftO ((idxV st (.ref m) (.int k)).map fun w => (w, st))).bind fun v st1 => (Res.ok (Val.int c) st1).bind fun u st2 => liftO ((cmpV .eq v u st2).map fun k => (Val.bl k, st2)))).bind _ = _
  rw [o_idx hm, hx]
  rfl
end
/-! ### pieces of lists -/
theorem cut_nat {α : Type} {xs : List α} {a b : Nat} (ha : a ≤ xs.length) (hb : b ≤ xs.length) : cut xs (some (a : Int)) (some (b : Int)) = (xs.drop a).take (b - a) := by
  unfold cut
  rw [HT.sIx_nat, HT.sIx_nat, Nat.min_eq_left ha, Nat.min_eq_left hb]
theorem at_piece {α : Type} {xs : List α} {a c j : Nat} (h : j < c) : ((xs.drop a).take c)[j]? = xs[a + j]? := by
  rw [List.getElem?_take_of_lt h, List.getElem?_drop]
theorem len_piece {α : Type} {xs : List α} {a c : Nat} (h : a + c ≤ xs.length) : ((xs.drop a).take c).length = c := by
  rw [List.length_take, List.length_drop]; omega
theorem at_rep {α : Type} {L : List α} : ∀ (n k j : Nat), k < n → j < L.length → ((List.replicate n L).flatten)[L.length * k + j]? = L[j]?
  | n + 1, 0, j, _, hj => by
    rw [List.replicate_succ, List.flatten_cons, Nat.mul_zero, Nat.zero_add, List.getElem?_append_left hj]
  | n + 1, k + 1, j, hk, hj => by
    rw [List.replicate_succ, List.flatten_cons, List.getElem?_append_right (by rw [Nat.mul_succ]; omega), show L.length * (k + 1) + j - L.length = L.length * k + j by rw [Nat.mul_succ]; omega]
    exact at_rep n k j (Nat.lt_of_succ_lt_succ hk) hj
theorem len_rep {α : Type} {L : List α} (n : Nat) : ((List.replicate n L).flatten).length = n * L.length := by
  induction n with
  | zero => simp
  | succ n ih => rw [List.replicate_succ, List.flatten_cons, List.length_append, ih, Nat.succ_mul]; omega
theorem take_snoc {α β : Type} {f : α → β} {xs : List α} {i : Nat} {x : α} (h : xs[i]? = some x) : (xs.take i).map f ++ [f x] = (xs.take (i + 1)).map f := by
  rw [List.take_succ, h, List.map_append]
  rfl
theorem join_one : ∀ cs : List Nat, Str.join ("" : Str) (cs.map fun c => (⟨#[c]⟩ : Str)) = ⟨cs.toArray⟩
  | [] => rfl
  | [c] => rfl
  | c :: d :: r => by
    show (⟨#[c]⟩ : Str) ++ ("" : Str) ++ Str.join "" ((d :: r).map fun c => (⟨#[c]⟩ : Str)) = _
    rw [join_one (d :: r)]
    show Str.mk (#[c] ++ ("" : Str).cps ++ (d :: r).toArray) = _
    rw [show ("" : Str).cps = #[] from rfl]
    congr 1
    simp
theorem strs_map : ∀ xs : List Str, strsOf (xs.map Val.str) = some xs
  | [] => rfl
  | b :: bs => by
    show (strsOf (bs.map Val.str)).map (b :: ·) = _
    rw [strs_map bs]
    rfl
theorem ints_map : ∀ xs : List Int, intsOf (xs.map Val.int) = some xs
  | [] => rfl
  | b :: bs => by
    show (intsOf (bs.map Val.int)).map (b :: ·) = _
    rw [ints_map bs]
    rfl
theorem o_join {st : Store} {n : Nat} {z : Str} {zs : List Str} (h : lstAt st n = some (zs.map .str)) (hl : (zs.map (·.length)).sum + zs.length * z.length ≤ 16777216) : mthV .join (.str z) [.ref n] st = some (.str (Txt.join z zs), st) := by
  have e : mthV .join (.str z) [.ref n] st = (lstAt st n).bind fun ws => (strsOf ws).bind fun (zs : List Str) => if decide ((List.map (fun x : Str => x.length) zs).sum + zs.length * z.length ≤ 16777216) then some (Val.str (Txt.join z zs), st) else none := by
    show (match lstAt st n with
    | some ws => match strsOf ws with
      | some zs => if decide ((List.map (fun x : Str => x.length) zs).sum + zs.length * z.length ≤ 16777216) then some (Val.str (Txt.join z zs), st) else none
      | none => none
    | none => none) = _
    cases lstAt st n with
    | none => rfl
    | some ws =>
      show (match strsOf ws with
        | some zs => if decide ((List.map (fun x : Str => x.length) zs).sum + zs.length * z.length ≤ 16777216) then some (Val.str (Txt.join z zs), st) else none
        | none => none) = (strsOf ws).bind _
      cases strsOf ws <;> rfl
  rw [e, h]
  show (strsOf (zs.map .str)).bind _ = _
  rw [strs_map]
  exact if_pos (decide_eq_true hl)
theorem o_slcL {st : Store} {n : Nat} {vs : List Val} {lo hi : Option Int} (h : lstAt st n = some vs) : slcV (.ref n) lo hi st = some (.ref st.length, st ++ [.lst (cut vs lo hi)]) := by
  show (match lstAt st n with
    | some vs => alloc st (.lst (cut vs lo hi))
    | none => none) = _
  rw [h]
  rfl
theorem cut_ints (xs : List Int) (lo hi : Option Int) : cut (xs.map Val.int) lo hi = (cut xs lo hi).map Val.int := by
  unfold cut
  rw [List.length_map, List.map_take, List.map_drop]
theorem o_wk {st : Store} {n : Nat} {vs : List Val} (h : lstAt st n = some vs) : wkOf st (.ref n) = some (.lst n vs.length) := by
  show (lstAt st n).map _ = _
  rw [h]
  rfl
/-! ### comprehensions -/
section
variable {cl : Cl} {ρ : Fr} {st : Store} {X : Nat → Val → Store → Prop}
/-- one that hands on an item a turn, item i with R i -/
theorem lc_rel {g : Val → Fr → Store → Option Fr} {el : Fr → Store → Res Val} {w : Wk} {n : Nat} (R : Nat → Val → Prop) (hw : w.len = n) (hn : n < 16777216)
    (hs : ∀ i s, i < n → st <+: s → ∃ v ρ', w.item s i = some v ∧ g v ρ s = some ρ' ∧ wr (el ρ' s) (fun y s2 => R i y ∧ s <+: s2) noX) (hf : ∀ s, st <+: s → w.fits s = true) :
    wr (lcTurns g (evTs cl .none) el w ρ st.length n 0 (st ++ [.lst []])) (fun v st' => st <+: st' ∧ v = .ref st.length ∧ ∃ ys : List Val, mutAt st' st.length = some ys ∧ ys.length = n ∧ ∀ (i : Nat) (y : Val), ys[i]? = some y → R i y) X := by
  refine lc_of (w := w) (n := n) hw (fun i s acc => st <+: s ∧ mutAt s st.length = some acc ∧ acc.length = i ∧ ∀ (i : Nat) (y : Val), acc[i]? = some y → R i y) ?_ ?_ n 0 _ [] (Nat.zero_add _) ⟨pre_app pre_rfl _, mut_new, rfl, fun i y h => by cases h⟩
  · rintro i s acc hi ⟨pre, hm, hl, hR⟩
    obtain ⟨v, ρ', h1, h2, h3⟩ := hs i s hi pre
    refine ⟨v, ρ', h1, h2, ?_⟩
    rw [w_tnone, if_pos rfl]
    refine wr_mono h3 ?_ fun _ _ _ z => z
    rintro y s2 ⟨hy, p2⟩
    have hm2 := mut_pre p2 hm
    refine ⟨hm2, by omega, pre_set (pre.trans p2) (Nat.le_refl _), mut_set hm2, by rw [List.length_append, hl]; rfl, fun j z hj => ?_⟩
    by_cases hlt : j < acc.length
    · rw [List.getElem?_append_left hlt] at hj
      exact hR j z hj
    · have q := (List.getElem?_eq_some_iff.mp hj).1
      rw [List.length_append] at q
      have q : j < acc.length + 1 := q
      have ej : j = acc.length := by omega
      subst ej
      rw [List.getElem?_append_right (Nat.le_refl _), Nat.sub_self] at hj
      have hj : y = z := by simpa using hj
      subst hj
      rw [hl]
      exact hy
  · rintro s acc ⟨pre, hm, hl, hR⟩
    exact ⟨hf s pre, pre, rfl, acc, hm, hl, hR⟩
/-- one with a test: what it hands on has R -/
theorem lc_sub {g : Val → Fr → Store → Option Fr} {tt : Fr → Store → Res Bool} {el : Fr → Store → Res Val} {w : Wk} {n : Nat} (R : Val → Prop) (hw : w.len = n) (hn : n < 16777216)
    (hs : ∀ i s, i < n → st <+: s → ∃ v ρ', w.item s i = some v ∧ g v ρ s = some ρ' ∧ wr (tt ρ' s) (fun b s1 => s <+: s1 ∧ (b = true → wr (el ρ' s1) (fun y s2 => R y ∧ s1 <+: s2) noX)) noX) (hf : ∀ s, st <+: s → w.fits s = true) :
    wr (lcTurns g tt el w ρ st.length n 0 (st ++ [.lst []])) (fun v st' => st <+: st' ∧ v = .ref st.length ∧ ∃ ys : List Val, mutAt st' st.length = some ys ∧ ys.length ≤ n ∧ ∀ y ∈ ys, R y) X := by
  refine lc_of (w := w) (n := n) hw (fun i s acc => st <+: s ∧ mutAt s st.length = some acc ∧ acc.length ≤ i ∧ ∀ y ∈ acc, R y) ?_ ?_ n 0 _ [] (Nat.zero_add _) ⟨pre_app pre_rfl _, mut_new, Nat.le_refl _, fun y h => by cases h⟩
  · rintro i s acc hi ⟨pre, hm, hl, hR⟩
    obtain ⟨v, ρ', h1, h2, h3⟩ := hs i s hi pre
    refine ⟨v, ρ', h1, h2, ?_⟩
    refine wr_mono h3 ?_ fun _ _ _ z => z
    rintro b s1 ⟨p1, hb⟩
    have hm1 := mut_pre p1 hm
    cases b with
    | false => exact ⟨pre.trans p1, hm1, by omega, hR⟩
    | true =>
      rw [if_pos rfl]
      refine wr_mono (hb rfl) ?_ fun _ _ _ z => z
      rintro y s2 ⟨hy, p2⟩
      have hm2 := mut_pre p2 hm1
      refine ⟨hm2, by omega, pre_set ((pre.trans p1).trans p2) (Nat.le_refl _), mut_set hm2, by rw [List.length_append]; show acc.length + 1 ≤ _; omega, fun z hz => ?_⟩
      rcases List.mem_append.mp hz with hz | hz
      · exact hR z hz
      · rw [List.mem_singleton] at hz
        subst hz
        exact hy
  · rintro s acc ⟨pre, hm, hl, hR⟩
    exact ⟨hf s pre, pre, rfl, acc, hm, hl, hR⟩
/-- values that are all pictures of something -/
theorem of_pic {α : Type} {f : α → Val} : ∀ {ys : List Val}, (∀ y ∈ ys, ∃ x, y = f x) → ∃ xs : List α, ys = xs.map f
  | [], _ => ⟨[], rfl⟩
  | y :: ys, h => by
    obtain ⟨x, rfl⟩ := h y (List.mem_cons_self)
    obtain ⟨xs, rfl⟩ := of_pic fun z hz => h z (List.mem_cons_of_mem _ hz)
    exact ⟨x :: xs, rfl⟩
theorem set_at {i : Nat} {v : Val} (h : i < ρ.length) : (ρ.set i (some v))[i]? = some (some v) := List.getElem?_set_self h
end
end EV

/-! ## K02 -/
set_option maxRecDepth 100000
set_option maxHeartbeats 4000000
namespace EVL
open PySem L2 EV
def top (i : Nat) : Stmt := PySem.Challenge.pw_allcells_k02_rows_in_least_form.main.body.getD i (.Pass ⟨0, 0, 0, 0⟩)
abbrev s_is_name : Stmt := top 6
def N_is_name : List Str := ["value", "letter"]
def x_is_name_0 : Ex := (.chain .le .le (.con (.str ("a" : Str))) (.var 1) (.con (.str ("z" : Str))))
def b_is_name : List Sx := [(.ite (.or (.not (.val (.blt (.isi .str) (.cons (.var 0) .nil)))) (.not (.val (.chain .le .le (.con (.int 1)) (.blt .len (.cons (.var 0) .nil)) (.con (.int 6)))))) [(.ret (.con (.bl false)))] []), (.ret (.blt .all (.cons (.lc x_is_name_0 (.nm 1) (.ex (.var 0)) .none [1]) .nil)))]
abbrev id_is_name : Nat := 1
abbrev s_copied : Stmt := top 7
def N_copied : List Str := ["value", "part"]
def x_copied_0 : Ex := (.call 2 (.cons (.var 1) .nil))
def x_copied_1 : Ex := (.call 2 (.cons (.var 1) .nil))
def b_copied : List Sx := [(.ite (.val (.blt (.isi .list) (.cons (.var 0) .nil))) [(.ret (.lc x_copied_0 (.nm 1) (.ex (.var 0)) .none [1]))] []), (.ite (.val (.blt (.isi .tuple) (.cons (.var 0) .nil))) [(.ret (.blt .tuple (.cons (.lc x_copied_1 (.nm 1) (.ex (.var 0)) .none [1]) .nil)))] []), (.ret (.var 0))]
abbrev id_copied : Nat := 2
abbrev s_check_name : Stmt := top 8
def N_check_name : List Str := ["value"]
def b_check_name : List Sx := [(.ite (.not (.val (.call 1 (.cons (.var 0) .nil)))) [(.rais 1 (.call 2 (.cons (.var 0) .nil)))] [])]
abbrev id_check_name : Nat := 3
abbrev s_check_row : Stmt := top 10
def N_check_row : List Str := ["row", "place", "_"]
def x_check_row_0 : Ex := (.var 1)
def b_check_row : List Sx := [(.ite (.or (.not (.val (.var 0))) (.val (.cmp .lt (.lsc x_check_row_0 (.tp [1, 2]) (.ex (.var 0)) .none [1, 2]) (.blt .len (.cons (.var 0) .nil))))) [(.rais 2 (.call 2 (.cons (.var 0) .nil)))] [])]
abbrev id_check_row : Nat := 4
abbrev s_least_row : Stmt := top 11
def N_least_row : List Str := ["row", "kept", "first", "place", "value"]
def l_least_row_0 : List Sx := [(.ite (.or (.not (.val (.var 1))) (.val (.cmp .ne (.idx (.idx (.var 1) (.neg (.con (.int 1)))) (.con (.int 1))) (.var 4)))) [(.exp (.mth .append (.var 1) (.cons (.tup (.cons (.var 3) (.cons (.var 4) .nil))) .nil)))] [])]
def b_least_row : List Sx := [(.set 1 (.lst .nil)), (.loop (.tp [3, 4]) (.ex (.blt .sorted (.cons (.var 0) .nil))) l_least_row_0), (.set 2 (.ife (.val (.cmp .gt (.blt .len (.cons (.var 1) .nil)) (.con (.int 1)))) (.bin .sub (.idx (.idx (.var 1) (.con (.int 1))) (.con (.int 0))) (.con (.int 1))) (.con (.int 0)))), (.ret (.bin .add (.lst (.cons (.tup (.cons (.var 2) (.cons (.idx (.idx (.var 1) (.con (.int 0))) (.con (.int 1))) .nil))) .nil)) (.slc (.var 1) (.some (.con (.int 1))) .none)))]
abbrev id_least_row : Nat := 5
abbrev s__law_figure : Stmt := top 15
def N__law_figure : List Str := ["_law_script", "_law_at", "_law_figure_here"]
def b__law_figure : List Sx := [(.set 2 (.con (.int 0))), (.ite (.val (.cmp .lt (.var 1) (.blt .len (.cons (.var 0) .nil)))) [(.set 2 (.idx (.var 0) (.var 1)))] []), (.ite (.val (.cmp .lt (.var 2) (.con (.int 0)))) [(.set 2 (.bin .sub (.neg (.con (.int 1))) (.bin .mul (.con (.int 2)) (.var 2))))] []), (.ret (.bin .mod (.blt .int (.cons (.var 2) .nil)) (.bin .mul (.bin .mul (.bin .pow (.con (.int 10)) (.con (.int 60))) (.bin .pow (.con (.int 10)) (.con (.int 60)))) (.bin .pow (.con (.int 10)) (.con (.int 60))))))]
abbrev id__law_figure : Nat := 6
abbrev s__law_draws : Stmt := top 16
def N__law_draws : List Str := ["_law_script", "_law_at", "_law_limits", "_law_figure_here", "_law_rest", "_law_drawn", "_law_k", "_law_stir"]
def l__law_draws_0 : List Sx := [(.set 7 (.bin .mod (.blt .int (.cons (.bin .add (.bin .add (.bin .mul (.var 3) (.bin .add (.con (.int 30011)) (.bin .mul (.bin .mul (.con (.int 2)) (.var 6)) (.var 6)))) (.bin .mul (.bin .add (.var 6) (.con (.int 5))) (.con (.int 86028121)))) (.bin .mul (.var 1) (.con (.int 15485863)))) .nil)) (.con (.int 2147483587)))), (.set 7 (.bin .fdiv (.bin .mod (.blt .int (.cons (.bin .add (.bin .add (.bin .mul (.var 7) (.var 7)) (.bin .mul (.con (.int 611953)) (.var 6))) (.var 3)) .nil)) (.con (.int 2147483549))) (.con (.int 11)))), (.ite (.val (.cmp .ge (.var 3) (.bin .pow (.con (.int 10)) (.con (.int 18))))) [(.set 7 (.var 4)), (.set 4 (.bin .fdiv (.var 4) (.idx (.var 2) (.var 6))))] []), (.exp (.mth .append (.var 5) (.cons (.bin .mod (.blt .int (.cons (.var 7) .nil)) (.idx (.var 2) (.var 6))) .nil)))]
def b__law_draws : List Sx := [(.set 3 (.call 6 (.cons (.var 0) (.cons (.var 1) .nil)))), (.set 4 (.bin .sub (.var 3) (.bin .pow (.con (.int 10)) (.con (.int 18))))), (.set 5 (.lst .nil)), (.loop (.nm 6) (.rng1 (.blt .len (.cons (.var 2) .nil))) l__law_draws_0), (.ret (.var 5))]
abbrev id__law_draws : Nat := 7
abbrev s__law_long : Stmt := top 17
def N__law_long : List Str := ["_law_script", "_law_at", "_law_many", "_law_drawn", "_law_numbers", "_law_k", "_law_top", "_law_turn", "_law_number", "_law_part"]
def l__law_long_0 : List Sx := [(.set 6 (.bin .mul (.var 6) (.con (.int 10))))]
def l__law_long_1 : List Sx := [(.set 8 (.bin .add (.bin .mul (.var 8) (.bin .pow (.con (.int 10)) (.con (.int 8)))) (.var 9)))]
def l__law_long_2 : List Sx := [(.set 6 (.con (.int 1))), (.loop (.nm 7) (.rng1 (.idx (.var 3) (.bin .mul (.con (.int 6)) (.var 5)))) l__law_long_0), (.set 8 (.con (.int 0))), (.loop (.nm 9) (.ex (.slc (.var 3) (.some (.bin .add (.bin .mul (.con (.int 6)) (.var 5)) (.con (.int 2)))) (.some (.bin .add (.bin .mul (.con (.int 6)) (.var 5)) (.con (.int 6)))))) l__law_long_1), (.set 8 (.bin .mod (.blt .int (.cons (.var 8) .nil)) (.var 6))), (.exp (.mth .append (.var 4) (.cons (.ife (.val (.cmp .eq (.idx (.var 3) (.bin .add (.bin .mul (.con (.int 6)) (.var 5)) (.con (.int 1)))) (.con (.int 1)))) (.neg (.var 8)) (.var 8)) .nil)))]
def b__law_long : List Sx := [(.set 3 (.call 7 (.cons (.var 0) (.cons (.var 1) (.cons (.bin .mul (.lst (.cons (.con (.int 31)) (.cons (.con (.int 2)) (.cons (.bin .pow (.con (.int 10)) (.con (.int 8))) (.cons (.bin .pow (.con (.int 10)) (.con (.int 8))) (.cons (.bin .pow (.con (.int 10)) (.con (.int 8))) (.cons (.bin .pow (.con (.int 10)) (.con (.int 8))) .nil))))))) (.var 2)) .nil))))), (.set 4 (.lst .nil)), (.loop (.nm 5) (.rng1 (.var 2)) l__law_long_2), (.ret (.var 4))]
abbrev id__law_long : Nat := 8
abbrev s__law_same : Stmt := top 18
def N__law_same : List Str := ["_law_found", "_law_due", "_law_k", "_law_key"]
def x__law_same_0 : Ex := (.and (.cmp .inn (.var 3) (.var 0)) (.call 9 (.cons (.idx (.var 0) (.var 3)) (.cons (.idx (.var 1) (.var 3)) .nil))))
def x__law_same_1 : Ex := (.call 9 (.cons (.idx (.var 0) (.var 2)) (.cons (.idx (.var 1) (.var 2)) .nil)))
def b__law_same : List Sx := [(.ite (.val (.cmp .isN (.var 1) (.con .non))) [(.ret (.cmp .isN (.var 0) (.con .non)))] []), (.ite (.or (.val (.blt (.isi .bool) (.cons (.var 1) .nil))) (.val (.blt (.isi .bool) (.cons (.var 0) .nil)))) [(.ret (.and (.blt (.isi .bool) (.cons (.var 1) .nil)) (.and (.blt (.isi .bool) (.cons (.var 0) .nil)) (.cmp .eq (.var 0) (.var 1)))))] []), (.ite (.val (.blt (.isi .int) (.cons (.var 1) .nil))) [(.ret (.and (.blt (.isi .int) (.cons (.var 0) .nil)) (.cmp .eq (.var 0) (.var 1))))] []), (.ite (.val (.blt (.isi .str) (.cons (.var 1) .nil))) [(.ret (.and (.blt (.isi .str) (.cons (.var 0) .nil)) (.cmp .eq (.var 0) (.var 1))))] []), (.ite (.val (.blt (.isi .dict) (.cons (.var 1) .nil))) [(.ite (.or (.not (.val (.blt (.isi .dict) (.cons (.var 0) .nil)))) (.val (.cmp .ne (.blt .len (.cons (.var 0) .nil)) (.blt .len (.cons (.var 1) .nil))))) [(.ret (.con (.bl false)))] []), (.ret (.blt .all (.cons (.lc x__law_same_0 (.nm 3) (.ex (.var 1)) .none [3]) .nil)))] []), (.ite (.or (.val (.cmp .ne (.blt (.isi .list) (.cons (.var 1) .nil)) (.blt (.isi .list) (.cons (.var 0) .nil)))) (.val (.cmp .ne (.blt (.isi .tuple) (.cons (.var 1) .nil)) (.blt (.isi .tuple) (.cons (.var 0) .nil))))) [(.ret (.con (.bl false)))] []), (.ite (.val (.cmp .ne (.blt .len (.cons (.var 0) .nil)) (.blt .len (.cons (.var 1) .nil)))) [(.ret (.con (.bl false)))] []), (.ret (.blt .all (.cons (.lc x__law_same_1 (.nm 2) (.rng1 (.blt .len (.cons (.var 1) .nil))) .none [2]) .nil)))]
abbrev id__law_same : Nat := 9
abbrev s__law_scale : Stmt := top 19
def N__law_scale : List Str := ["_law_script", "_law_at", "_law_drawn", "_law_far"]
def b__law_scale : List Sx := [(.set 2 (.call 7 (.cons (.var 0) (.cons (.var 1) (.cons (.lst (.cons (.con (.int 4)) (.cons (.bin .pow (.con (.int 10)) (.con (.int 8))) (.cons (.bin .pow (.con (.int 10)) (.con (.int 6))) (.cons (.bin .pow (.con (.int 10)) (.con (.int 8))) (.cons (.bin .pow (.con (.int 10)) (.con (.int 6))) .nil)))))) .nil))))), (.set 3 (.call 8 (.cons (.var 0) (.cons (.bin .add (.var 1) (.con (.int 1))) (.cons (.con (.int 2)) .nil))))), (.ite (.val (.cmp .eq (.idx (.var 2) (.con (.int 0))) (.con (.int 0)))) [(.ret (.tup (.cons (.con (.int 1)) (.cons (.con (.int 0)) (.cons (.con (.int 1)) (.cons (.con (.int 0)) .nil))))))] []), (.ite (.val (.cmp .eq (.idx (.var 2) (.con (.int 0))) (.con (.int 1)))) [(.ret (.tup (.cons (.con (.int 1)) (.cons (.bin .fdiv (.idx (.var 3) (.con (.int 0))) (.con (.int 10))) (.cons (.con (.int 1)) (.cons (.bin .fdiv (.idx (.var 3) (.con (.int 1))) (.con (.int 10))) .nil))))))] []), (.ret (.tup (.cons (.bin .add (.con (.int 1)) (.bin .mul (.idx (.var 2) (.con (.int 1))) (.idx (.var 2) (.con (.int 2))))) (.cons (.bin .fdiv (.idx (.var 3) (.con (.int 0))) (.con (.int 10))) (.cons (.bin .add (.con (.int 1)) (.bin .mul (.idx (.var 2) (.con (.int 3))) (.idx (.var 2) (.con (.int 4))))) (.cons (.bin .fdiv (.idx (.var 3) (.con (.int 1))) (.con (.int 10))) .nil))))))]
abbrev id__law_scale : Nat := 10
abbrev s__law_long_row : Stmt := top 20
def N__law_long_row : List Str := ["_law_script", "_law_at", "_law_drawn", "_law_place", "_law_row", "_law_k", "_law_cut"]
def l__law_long_row_0 : List Sx := [(.set 3 (.bin .add (.bin .add (.var 3) (.con (.int 1))) (.idx (.var 2) (.bin .add (.con (.int 3)) (.bin .mul (.con (.int 2)) (.var 5)))))), (.exp (.mth .append (.var 4) (.cons (.tup (.cons (.var 3) (.cons (.bin .mod (.blt .int (.cons (.idx (.var 2) (.bin .add (.con (.int 4)) (.bin .mul (.con (.int 2)) (.var 5)))) .nil)) (.bin .add (.con (.int 2)) (.idx (.var 2) (.con (.int 1))))) .nil))) .nil)))]
def b__law_long_row : List Sx := [(.set 2 (.call 7 (.cons (.var 0) (.cons (.var 1) (.cons (.bin .add (.lst (.cons (.con (.int 60)) (.cons (.con (.int 3)) (.cons (.con (.int 60)) .nil)))) (.bin .mul (.lst (.cons (.con (.int 10)) (.cons (.con (.int 5)) .nil))) (.con (.int 60)))) .nil))))), (.set 3 (.neg (.con (.int 40)))), (.set 4 (.lst .nil)), (.loop (.nm 5) (.rng1 (.bin .add (.con (.int 1)) (.idx (.var 2) (.con (.int 0))))) l__law_long_row_0), (.set 6 (.bin .mod (.blt .int (.cons (.idx (.var 2) (.con (.int 2))) .nil)) (.blt .len (.cons (.var 4) .nil)))), (.set 4 (.bin .add (.slc (.var 4) (.some (.var 6)) .none) (.slc (.var 4) .none (.some (.var 6))))), (.ite (.val (.cmp .eq (.idx (.var 2) (.con (.int 1))) (.con (.int 1)))) [(.set 4 (.rev (.var 4)))] []), (.ret (.var 4))]
abbrev id__law_long_row : Nat := 11
abbrev s__law_cell : Stmt := top 21
def N__law_cell : List Str := ["_law_entries", "_law_place", "_law_value", "_law_spot", "_law_worth"]
def l__law_cell_0 : List Sx := [(.ite (.val (.cmp .le (.var 3) (.var 1))) [(.set 2 (.var 4))] [])]
def b__law_cell : List Sx := [(.set 2 (.idx (.idx (.var 0) (.con (.int 0))) (.con (.int 1)))), (.loop (.tp [3, 4]) (.ex (.var 0)) l__law_cell_0), (.ret (.var 2))]
abbrev id__law_cell : Nat := 12
abbrev s__law_shaped : Stmt := top 22
def N__law_shaped : List Str := ["_law_row", "_law_entry", "_law_k"]
def l__law_shaped_0 : List Sx := [(.ite (.or (.not (.val (.blt (.isi .tuple) (.cons (.var 1) .nil)))) (.val (.cmp .ne (.blt .len (.cons (.var 1) .nil)) (.con (.int 2))))) [(.ret (.con (.bl false)))] []), (.ite (.not (.val (.call 9 (.cons (.var 1) (.cons (.tup (.cons (.blt .int (.cons (.idx (.var 1) (.con (.int 0))) .nil)) (.cons (.blt .int (.cons (.idx (.var 1) (.con (.int 1))) .nil)) .nil))) .nil))))) [(.ret (.con (.bl false)))] [])]
def x__law_shaped_1 : Ex := (.and (.cmp .lt (.idx (.idx (.var 0) (.var 2)) (.con (.int 0))) (.idx (.idx (.var 0) (.bin .add (.var 2) (.con (.int 1)))) (.con (.int 0)))) (.cmp .ne (.idx (.idx (.var 0) (.var 2)) (.con (.int 1))) (.idx (.idx (.var 0) (.bin .add (.var 2) (.con (.int 1)))) (.con (.int 1)))))
def b__law_shaped : List Sx := [(.ite (.or (.not (.val (.blt (.isi .list) (.cons (.var 0) .nil)))) (.val (.cmp .eq (.blt .len (.cons (.var 0) .nil)) (.con (.int 0))))) [(.ret (.con (.bl false)))] []), (.loop (.nm 1) (.ex (.var 0)) l__law_shaped_0), (.ite (.val (.cmp .eq (.blt .len (.cons (.var 0) .nil)) (.con (.int 1)))) [(.ret (.cmp .eq (.idx (.idx (.var 0) (.con (.int 0))) (.con (.int 0))) (.con (.int 0))))] []), (.ite (.val (.cmp .ne (.idx (.idx (.var 0) (.con (.int 0))) (.con (.int 0))) (.bin .sub (.idx (.idx (.var 0) (.con (.int 1))) (.con (.int 0))) (.con (.int 1))))) [(.ret (.con (.bl false)))] []), (.ret (.blt .all (.cons (.lc x__law_shaped_1 (.nm 2) (.rng1 (.bin .sub (.blt .len (.cons (.var 0) .nil)) (.con (.int 1)))) .none [2]) .nil)))]
abbrev id__law_shaped : Nat := 13
abbrev s_law : Stmt := top 23
def N_law : List Str := ["_law_script", "_law_small", "_law_scale_here", "_law_row", "_law_flat", "_law_state", "_law_told", "_law_entries", "_law_place", "_law_value", "_law_spot"]
def x_law_0 : Ex := (.tup (.cons (.bin .add (.bin .mul (.var 8) (.idx (.var 2) (.con (.int 0)))) (.idx (.var 2) (.con (.int 1)))) (.cons (.bin .add (.bin .mul (.var 9) (.idx (.var 2) (.con (.int 2)))) (.idx (.var 2) (.con (.int 3)))) .nil)))
def x_law_1 : Ex := (.tup (.cons (.var 8) (.cons (.idx (.var 2) (.con (.int 3))) .nil)))
def l_law_2 : List Sx := [(.ite (.val (.cmp .ne (.call 12 (.cons (.var 7) (.cons (.var 10) .nil))) (.call 12 (.cons (.idx (.var 6) (.con (.str ("row" : Str)))) (.cons (.var 10) .nil))))) [(.ret (.con (.bl false)))] [])]
def l_law_3 : List Sx := [(.loop (.nm 10) (.ex (.tup (.cons (.bin .sub (.var 8) (.con (.int 1))) (.cons (.var 8) (.cons (.bin .add (.var 8) (.con (.int 1))) .nil))))) l_law_2)]
def b_law : List Sx := [(.set 1 (.call 11 (.cons (.var 0) (.cons (.con (.int 0)) .nil)))), (.set 2 (.call 10 (.cons (.var 0) (.cons (.con (.int 1)) .nil)))), (.set 3 (.lc x_law_0 (.tp [8, 9]) (.ex (.var 1)) .none [8, 9])), (.set 4 (.lc x_law_1 (.tp [8, 9]) (.ex (.var 3)) .none [8, 9])), (.set 5 (.mk 3 15 (.cons .dnew (.cons .dnew (.cons (.disp [("even" : Str), ("row" : Str)] (.cons (.blt .list (.cons (.var 4) .nil)) (.cons (.blt .list (.cons (.var 3) .nil)) .nil))) .nil))))), (.set 6 (.prop 3 16 (.var 5))), (.ite (.or (.not (.val (.call 9 (.cons (.idx (.var 6) (.con (.str ("even" : Str)))) (.cons (.lst (.cons (.tup (.cons (.con (.int 0)) (.cons (.idx (.var 2) (.con (.int 3))) .nil))) .nil)) .nil))))) (.not (.val (.call 13 (.cons (.idx (.var 6) (.con (.str ("row" : Str)))) .nil))))) [(.ret (.con (.bl false)))] []), (.set 7 (.blt .sorted (.cons (.var 3) .nil))), (.loop (.tp [8, 9]) (.ex (.bin .add (.var 7) (.idx (.var 6) (.con (.str ("row" : Str)))))) l_law_3), (.ret (.and (.cmp .eq (.blt .len (.cons (.var 6) .nil)) (.con (.int 2))) (.call 9 (.cons (.idx (.prop 3 16 (.var 5)) (.con (.str ("row" : Str)))) (.cons (.idx (.var 6) (.con (.str ("row" : Str)))) .nil)))))]
abbrev id_law : Nat := 14
abbrev s_State_init : Stmt := inClass (top 13) 0
def N_State_init : List Str := ["self", "places", "numbers", "arrays", "name"]
def l_State_init_0 : List Sx := [(.exp (.call 3 (.cons (.var 4) .nil)))]
def l_State_init_1 : List Sx := [(.exp (.call 3 (.cons (.var 4) .nil)))]
def l_State_init_2 : List Sx := [(.exp (.call 3 (.cons (.var 4) .nil))), (.exp (.call 4 (.cons (.idx (.var 3) (.var 4)) .nil)))]
def x_State_init_3 : Ex := (.var 4)
def x_State_init_4 : Ex := (.call 5 (.cons (.idx (.var 3) (.var 4)) .nil))
def b_State_init : List Sx := [(.loop (.nm 4) (.ex (.blt .sorted (.cons (.var 1) .nil))) l_State_init_0), (.loop (.nm 4) (.ex (.blt .sorted (.cons (.var 2) .nil))) l_State_init_1), (.loop (.nm 4) (.ex (.blt .sorted (.cons (.var 3) .nil))) l_State_init_2), (.setf 3 (.var 0) ("_places" : Str) (.blt .dict (.cons (.var 1) .nil))), (.setf 3 (.var 0) ("_numbers" : Str) (.blt .dict (.cons (.var 2) .nil))), (.setf 3 (.var 0) ("_arrays" : Str) (.lockd (.var 3) (.dc x_State_init_3 x_State_init_4 (.nm 4) (.keys (.var 3)) .none [4])))]
abbrev id_State_init : Nat := 15
abbrev s_State_arrays : Stmt := inClass (top 13) 3
def N_State_arrays : List Str := ["self", "name"]
def x_State_arrays_0 : Ex := (.var 1)
def x_State_arrays_1 : Ex := (.blt .list (.cons (.idx (.fld 3 (.var 0) ("_arrays" : Str)) (.var 1)) .nil))
def b_State_arrays : List Sx := [(.ret (.lockd (.fld 3 (.var 0) ("_arrays" : Str)) (.dc x_State_arrays_0 x_State_arrays_1 (.nm 1) (.keys (.fld 3 (.var 0) ("_arrays" : Str))) .none [1])))]
abbrev id_State_arrays : Nat := 16
structure Txt (P : Program) (w : World) (K : PySem.W.Frag) (mg : Str → Option Value) (base : Heap) (L : Lib) (d : Nat) : Prop where
  z : True
  f__law_cell : ∀ X : Cx, On X P w K mg base → FnAt L X ("_law_cell" : Str) 12 (2 * d + 2)
  f__law_draws : ∀ X : Cx, On X P w K mg base → FnAt L X ("_law_draws" : Str) 7 (2 * d + 2)
  f__law_figure : ∀ X : Cx, On X P w K mg base → FnAt L X ("_law_figure" : Str) 6 (2 * d + 2)
  f__law_long : ∀ X : Cx, On X P w K mg base → FnAt L X ("_law_long" : Str) 8 (2 * d + 2)
  f__law_long_row : ∀ X : Cx, On X P w K mg base → FnAt L X ("_law_long_row" : Str) 11 (2 * d + 2)
  f__law_same : ∀ X : Cx, On X P w K mg base → FnAt L X ("_law_same" : Str) 9 (2 * d + 2)
  f__law_scale : ∀ X : Cx, On X P w K mg base → FnAt L X ("_law_scale" : Str) 10 (2 * d + 2)
  f__law_shaped : ∀ X : Cx, On X P w K mg base → FnAt L X ("_law_shaped" : Str) 13 (2 * d + 2)
  f_check_name : ∀ X : Cx, On X P w K mg base → FnAt L X ("check_name" : Str) 3 (2 * d + 2)
  f_check_row : ∀ X : Cx, On X P w K mg base → FnAt L X ("check_row" : Str) 4 (2 * d + 2)
  f_copied : ∀ X : Cx, On X P w K mg base → FnAt L X ("copied" : Str) 2 (2 * d + 2)
  f_is_name : ∀ X : Cx, On X P w K mg base → FnAt L X ("is_name" : Str) 1 (2 * d + 2)
  f_least_row : ∀ X : Cx, On X P w K mg base → FnAt L X ("least_row" : Str) 5 (2 * d + 2)
  g_all : ∀ X : Cx, On X P w K mg base → X.mg ("all" : Str) = none
  g_bool : ∀ X : Cx, On X P w K mg base → X.mg ("bool" : Str) = none
  g_dict : ∀ X : Cx, On X P w K mg base → X.mg ("dict" : Str) = none
  g_int : ∀ X : Cx, On X P w K mg base → X.mg ("int" : Str) = none
  g_isinstance : ∀ X : Cx, On X P w K mg base → X.mg ("isinstance" : Str) = none
  g_len : ∀ X : Cx, On X P w K mg base → X.mg ("len" : Str) = none
  g_list : ∀ X : Cx, On X P w K mg base → X.mg ("list" : Str) = none
  g_range : ∀ X : Cx, On X P w K mg base → X.mg ("range" : Str) = none
  g_sorted : ∀ X : Cx, On X P w K mg base → X.mg ("sorted" : Str) = none
  g_str : ∀ X : Cx, On X P w K mg base → X.mg ("str" : Str) = none
  g_tuple : ∀ X : Cx, On X P w K mg base → X.mg ("tuple" : Str) = none
  e_InvalidName : ∀ X : Cx, On X P w K mg base → ErrAt L X ("InvalidName" : Str) 1
  e_InvalidRow : ∀ X : Cx, On X P w K mg base → ErrAt L X ("InvalidRow" : Str) 2
  i_State : ∀ X : Cx, On X P w K mg base → Cls X.K (L.CA 3)
  gl_State : ∀ X : Cx, On X P w K mg base → X.mg ("State" : Str) = some (.ref (L.CA 3))
  m_State : ∀ X : Cx, On X P w K mg base → Mk X.K (L.CA 3) (He.ma K (He.ga K ("State" : Str)) ("__init__" : Str))
  n_State__arrays : ∀ X : Cx, On X P w K mg base → NoAttr X.K (L.CA 3) ("_arrays" : Str)
  n_State__numbers : ∀ X : Cx, On X P w K mg base → NoAttr X.K (L.CA 3) ("_numbers" : Str)
  n_State__places : ∀ X : Cx, On X P w K mg base → NoAttr X.K (L.CA 3) ("_places" : Str)
  d_State_init : ∀ X : Cx, On X P w K mg base → DefAt L X (He.ma K (He.ga K ("State" : Str)) ("__init__" : Str)) 15 (2 * d + 2)
  d_State_arrays : ∀ X : Cx, On X P w K mg base → DefAt L X (gAd K (("State" : Str), ("arrays" : Str))) 16 (2 * d + 2)
  p_State_arrays : ∀ X : Cx, On X P w K mg base → PropOf X.K (L.CA 3) ("arrays" : Str) (pAd K (("State" : Str), ("arrays" : Str))) (gAd K (("State" : Str), ("arrays" : Str)))
section
variable {P : Program} {w : World} {K : PySem.W.Frag} {mg : Str → Option Value} {base : Heap} {L : Lib} {d : Nat}
theorem sc_is_name : FnScope N_is_name [("value" : Str)] (defScope s_is_name) := ⟨rfl, rfl, rfl, by decide +kernel, rfl, by decide +kernel, by decide +kernel⟩
theorem h_is_name (T : Txt P w K mg base L d) (f : Addr) (cdv : Value) (A : Around) (outer : List Env) (s : Shared) (H : Hp) (E : XK) (hr : Room (2 * d + 3) (A.deeper (PyProof.Rows.envOfC ("is_name" : Str) (defScope s_is_name) s.heap.objs.size f cdv))) :
    DSs L (cxOf (L2.CX P w) P w K mg base N_is_name ("is_name" : Str) (defScope s_is_name) f cdv A outer s H E) (fun c d _ H => E c d H) (defBody s_is_name) b_is_name := by
  have hu := hr.units
  have hr1 := hr.mono (Nat.le_succ (2 * d + 2))
  have nd := sc_is_name.nd
  exact (dss_cons (ds_ite (DW.t (dw_or (dt_not (dt_val (d_isi .str rfl (T.g_isinstance _ ⟨rfl, rfl, rfl, rfl, rfl⟩) rfl (T.g_str _ ⟨rfl, rfl, rfl, rfl, rfl⟩) (d_var 0) bb_isinstance (bb_ty .str) (ne_ty .str) (nd_ty .str)))) (dw_or1 (dt_not (dt_chain .le .le hu d_int (d_bltB (f := .len) (blt_len trivial) rfl (T.g_len _ ⟨rfl, rfl, rfl, rfl, rfl⟩) bb_len (da_cons (d_var 0) da_nil)) d_int rfl))))) (dss_cons (ds_ret d_bl) dss_nil) dss_nil) (dss_cons (ds_ret (d_bltB (f := .all) (blt_all rfl) rfl (T.g_all _ ⟨rfl, rfl, rfl, rfl, rfl⟩) bb_all (da_cons (d_lc (own := [(("letter" : Str), 1)]) rfl nd (di_ex (d_var 0)) (blkOk_by (by kernel_rfl)) (fun _ _ _ _ _ => (dg_nm 1 nd rfl (by first | exact Or.inl rfl | exact Or.inr rfl) (by first | exact Or.inl rfl | exact Or.inr rfl))) (fun _ _ _ _ _ => dts_nil) (fun _ _ _ _ _ => (d_chain .le .le hu d_str (d_var 1) d_str rfl)) (by decide)) da_nil))) dss_nil))
theorem sc_copied : FnScope N_copied [("value" : Str)] (defScope s_copied) := ⟨rfl, rfl, rfl, by decide +kernel, rfl, by decide +kernel, by decide +kernel⟩
theorem h_copied (T : Txt P w K mg base L d) (f : Addr) (cdv : Value) (A : Around) (outer : List Env) (s : Shared) (H : Hp) (E : XK) (hr : Room (2 * d + 3) (A.deeper (PyProof.Rows.envOfC ("copied" : Str) (defScope s_copied) s.heap.objs.size f cdv))) :
    DSs L (cxOf (L2.CX P w) P w K mg base N_copied ("copied" : Str) (defScope s_copied) f cdv A outer s H E) (fun c d _ H => E c d H) (defBody s_copied) b_copied := by
  have hu := hr.units
  have hr1 := hr.mono (Nat.le_succ (2 * d + 2))
  have nd := sc_copied.nd
  exact (dss_cons (ds_ite (dt_val (d_isi .list rfl (T.g_isinstance _ ⟨rfl, rfl, rfl, rfl, rfl⟩) rfl (T.g_list _ ⟨rfl, rfl, rfl, rfl, rfl⟩) (d_var 0) bb_isinstance (bb_ty .list) (ne_ty .list) (nd_ty .list))) (dss_cons (ds_ret (d_lc (own := [(("part" : Str), 1)]) rfl nd (di_ex (d_var 0)) (blkOk_by (by kernel_rfl)) (fun _ _ _ _ _ => (dg_nm 1 nd rfl (by first | exact Or.inl rfl | exact Or.inr rfl) (by first | exact Or.inl rfl | exact Or.inr rfl))) (fun _ _ _ _ _ => dts_nil) (fun _ _ _ _ _ => (d_call (T.f_copied _ ⟨rfl, rfl, rfl, rfl, rfl⟩) hr1 takes0 rfl (da_cons (d_var 1) da_nil))) (by decide))) dss_nil) dss_nil) (dss_cons (ds_ite (dt_val (d_isi .tuple rfl (T.g_isinstance _ ⟨rfl, rfl, rfl, rfl, rfl⟩) rfl (T.g_tuple _ ⟨rfl, rfl, rfl, rfl, rfl⟩) (d_var 0) bb_isinstance (bb_ty .tuple) (ne_ty .tuple) (nd_ty .tuple))) (dss_cons (ds_ret (d_bltT (f := .tuple) blt_tuple rfl (T.g_tuple _ ⟨rfl, rfl, rfl, rfl, rfl⟩) bb_tuple (da_cons (d_lc (own := [(("part" : Str), 1)]) rfl nd (di_ex (d_var 0)) (blkOk_by (by kernel_rfl)) (fun _ _ _ _ _ => (dg_nm 1 nd rfl (by first | exact Or.inl rfl | exact Or.inr rfl) (by first | exact Or.inl rfl | exact Or.inr rfl))) (fun _ _ _ _ _ => dts_nil) (fun _ _ _ _ _ => (d_call (T.f_copied _ ⟨rfl, rfl, rfl, rfl, rfl⟩) hr1 takes0 rfl (da_cons (d_var 1) da_nil))) (by decide)) da_nil))) dss_nil) dss_nil) (dss_cons (ds_ret (d_var 0)) dss_nil)))
theorem sc_check_name : FnScope N_check_name [("value" : Str)] (defScope s_check_name) := ⟨rfl, rfl, rfl, by decide +kernel, rfl, by decide +kernel, by decide +kernel⟩
theorem h_check_name (T : Txt P w K mg base L d) (f : Addr) (cdv : Value) (A : Around) (outer : List Env) (s : Shared) (H : Hp) (E : XK) (hr : Room (2 * d + 3) (A.deeper (PyProof.Rows.envOfC ("check_name" : Str) (defScope s_check_name) s.heap.objs.size f cdv))) :
    DSs L (cxOf (L2.CX P w) P w K mg base N_check_name ("check_name" : Str) (defScope s_check_name) f cdv A outer s H E) (fun c d _ H => E c d H) (defBody s_check_name) b_check_name := by
  have hu := hr.units
  have hr1 := hr.mono (Nat.le_succ (2 * d + 2))
  have nd := sc_check_name.nd
  exact (dss_cons (ds_ite (dt_not (dt_val (d_call (T.f_is_name _ ⟨rfl, rfl, rfl, rfl, rfl⟩) hr1 (takes_of rfl rfl rfl rfl) rfl (da_cons (d_var 0) da_nil)))) (dss_cons (ds_rais (T.e_InvalidName _ ⟨rfl, rfl, rfl, rfl, rfl⟩) (hr.mono (by omega : 2 ≤ 2 * d + 3)) rfl (takes_of rfl rfl rfl rfl) rfl (d_call (T.f_copied _ ⟨rfl, rfl, rfl, rfl, rfl⟩) hr1 (takes_of rfl rfl rfl rfl) rfl (da_cons (d_var 0) da_nil))) dss_nil) dss_nil) dss_nil)
theorem sc_check_row : FnScope N_check_row [("row" : Str)] (defScope s_check_row) := ⟨rfl, rfl, rfl, by decide +kernel, rfl, by decide +kernel, by decide +kernel⟩
theorem h_check_row (T : Txt P w K mg base L d) (f : Addr) (cdv : Value) (A : Around) (outer : List Env) (s : Shared) (H : Hp) (E : XK) (hr : Room (2 * d + 3) (A.deeper (PyProof.Rows.envOfC ("check_row" : Str) (defScope s_check_row) s.heap.objs.size f cdv))) :
    DSs L (cxOf (L2.CX P w) P w K mg base N_check_row ("check_row" : Str) (defScope s_check_row) f cdv A outer s H E) (fun c d _ H => E c d H) (defBody s_check_row) b_check_row := by
  have hu := hr.units
  have hr1 := hr.mono (Nat.le_succ (2 * d + 2))
  have nd := sc_check_row.nd
  exact (dss_cons (ds_ite (DW.t (dw_or (dt_not (dt_val (d_var 0))) (dw_or1 (dt_cmp .lt hu (d_lsc (own := [(("place" : Str), 1), (("_" : Str), 2)]) (g := gTL K 2 (gCons (gName 1) (gCons (gName 2) gNil))) rfl (T.g_len _ ⟨rfl, rfl, rfl, rfl, rfl⟩) rfl nd (di_ex (d_var 0)) (blkOk_by (by kernel_rfl)) (fun _ _ _ _ _ => (dg_tp rfl (.cons (i := 1) rfl nd rfl (by first | exact Or.inl rfl | exact Or.inr rfl) (by first | exact Or.inl rfl | exact Or.inr rfl) (.cons (i := 2) rfl nd rfl (by first | exact Or.inl rfl | exact Or.inr rfl) (by first | exact Or.inl rfl | exact Or.inr rfl) .nil)))) (fun _ _ _ _ _ => dts_nil) (fun _ _ _ _ _ => (d_var 1)) (by decide)) (d_bltB (f := .len) (blt_len trivial) rfl (T.g_len _ ⟨rfl, rfl, rfl, rfl, rfl⟩) bb_len (da_cons (d_var 0) da_nil)) rfl)))) (dss_cons (ds_rais (T.e_InvalidRow _ ⟨rfl, rfl, rfl, rfl, rfl⟩) (hr.mono (by omega : 2 ≤ 2 * d + 3)) rfl (takes_of rfl rfl rfl rfl) rfl (d_call (T.f_copied _ ⟨rfl, rfl, rfl, rfl, rfl⟩) hr1 (takes_of rfl rfl rfl rfl) rfl (da_cons (d_var 0) da_nil))) dss_nil) dss_nil) dss_nil)
theorem sc_least_row : FnScope N_least_row [("row" : Str)] (defScope s_least_row) := ⟨rfl, rfl, rfl, by decide +kernel, rfl, by decide +kernel, by decide +kernel⟩
theorem h_least_row (T : Txt P w K mg base L d) (f : Addr) (cdv : Value) (A : Around) (outer : List Env) (s : Shared) (H : Hp) (E : XK) (hr : Room (2 * d + 3) (A.deeper (PyProof.Rows.envOfC ("least_row" : Str) (defScope s_least_row) s.heap.objs.size f cdv))) :
    DSs L (cxOf (L2.CX P w) P w K mg base N_least_row ("least_row" : Str) (defScope s_least_row) f cdv A outer s H E) (fun c d _ H => E c d H) (defBody s_least_row) b_least_row := by
  have hu := hr.units
  have hr1 := hr.mono (Nat.le_succ (2 * d + 2))
  have nd := sc_least_row.nd
  have hp : PassesOwn (model P w) (A.deeper (PyProof.Rows.envOfC ("least_row" : Str) (defScope s_least_row) s.heap.objs.size f cdv)) (PyProof.Rows.envOfC ("least_row" : Str) (defScope s_least_row) s.heap.objs.size f cdv) (cxOf (L2.CX P w) P w K mg base N_least_row ("least_row" : Str) (defScope s_least_row) f cdv A outer s H E).xe := passes_of rfl
  exact (dss_cons (ds_set 1 nd rfl (by first | exact Or.inl rfl | exact Or.inr rfl) (by first | exact Or.inl rfl | exact Or.inr rfl) (d_lst da_nil)) (dss_cons (ds_for hp rfl (di_ex (d_bltB (f := .sorted) (blt_sorted rfl) rfl (T.g_sorted _ ⟨rfl, rfl, rfl, rfl, rfl⟩) bb_sorted (da_cons (d_var 0) da_nil))) (dg_tp rfl (.cons (i := 3) rfl nd rfl (by first | exact Or.inl rfl | exact Or.inr rfl) (by first | exact Or.inl rfl | exact Or.inr rfl) (.cons (i := 4) rfl nd rfl (by first | exact Or.inl rfl | exact Or.inr rfl) (by first | exact Or.inl rfl | exact Or.inr rfl) .nil))) (dss_cons (ds_ite (DW.t (dw_or (dt_not (dt_val (d_var 1))) (dw_or1 (dt_cmp .ne hu (d_idx hu (d_idx hu (d_var 1) (d_neg d_int)) d_int) (d_var 4) rfl)))) (dss_cons (ds_exp (d_append (d_var 1) (da_cons (d_tup (da_cons (d_var 3) (da_cons (d_var 4) da_nil))) da_nil))) dss_nil) dss_nil) dss_nil)) (dss_cons (ds_set 2 nd rfl (by first | exact Or.inl rfl | exact Or.inr rfl) (by first | exact Or.inl rfl | exact Or.inr rfl) (d_ife (dt_cmp .gt hu (d_bltB (f := .len) (blt_len trivial) rfl (T.g_len _ ⟨rfl, rfl, rfl, rfl, rfl⟩) bb_len (da_cons (d_var 1) da_nil)) d_int rfl) (d_bin .sub (d_idx hu (d_idx hu (d_var 1) d_int) d_int) d_int) d_int)) (dss_cons (ds_ret (d_bin .add (d_lst (da_cons (d_tup (da_cons (d_var 2) (da_cons (d_idx hu (d_idx hu (d_var 1) d_int) d_int) da_nil))) da_nil)) (d_slc (d_var 1) (do_some d_int) do_none))) dss_nil))))
theorem sc__law_figure : FnScope N__law_figure [("_law_script" : Str), ("_law_at" : Str)] (defScope s__law_figure) := ⟨rfl, rfl, rfl, by decide +kernel, rfl, by decide +kernel, by decide +kernel⟩
theorem h__law_figure (T : Txt P w K mg base L d) (f : Addr) (cdv : Value) (A : Around) (outer : List Env) (s : Shared) (H : Hp) (E : XK) (hr : Room (2 * d + 3) (A.deeper (PyProof.Rows.envOfC ("_law_figure" : Str) (defScope s__law_figure) s.heap.objs.size f cdv))) :
    DSs L (cxOf (L2.CX P w) P w K mg base N__law_figure ("_law_figure" : Str) (defScope s__law_figure) f cdv A outer s H E) (fun c d _ H => E c d H) (defBody s__law_figure) b__law_figure := by
  have hu := hr.units
  have hr1 := hr.mono (Nat.le_succ (2 * d + 2))
  have nd := sc__law_figure.nd
  exact (dss_cons (ds_set 2 nd rfl (by first | exact Or.inl rfl | exact Or.inr rfl) (by first | exact Or.inl rfl | exact Or.inr rfl) d_int) (dss_cons (ds_ite (dt_cmp .lt hu (d_var 1) (d_bltB (f := .len) (blt_len trivial) rfl (T.g_len _ ⟨rfl, rfl, rfl, rfl, rfl⟩) bb_len (da_cons (d_var 0) da_nil)) rfl) (dss_cons (ds_set 2 nd rfl (by first | exact Or.inl rfl | exact Or.inr rfl) (by first | exact Or.inl rfl | exact Or.inr rfl) (d_idx hu (d_var 0) (d_var 1))) dss_nil) dss_nil) (dss_cons (ds_ite (dt_cmp .lt hu (d_var 2) d_int rfl) (dss_cons (ds_set 2 nd rfl (by first | exact Or.inl rfl | exact Or.inr rfl) (by first | exact Or.inl rfl | exact Or.inr rfl) (d_bin .sub (d_neg d_int) (d_bin .mul d_int (d_var 2)))) dss_nil) dss_nil) (dss_cons (ds_ret (d_bin .mod (d_bltT (f := .int) blt_int rfl (T.g_int _ ⟨rfl, rfl, rfl, rfl, rfl⟩) bb_int (da_cons (d_var 2) da_nil)) (d_bin .mul (d_bin .mul (d_bin .pow d_int d_int) (d_bin .pow d_int d_int)) (d_bin .pow d_int d_int)))) dss_nil))))
theorem sc__law_draws : FnScope N__law_draws [("_law_script" : Str), ("_law_at" : Str), ("_law_limits" : Str)] (defScope s__law_draws) := ⟨rfl, rfl, rfl, by decide +kernel, rfl, by decide +kernel, by decide +kernel⟩
theorem h__law_draws (T : Txt P w K mg base L d) (f : Addr) (cdv : Value) (A : Around) (outer : List Env) (s : Shared) (H : Hp) (E : XK) (hr : Room (2 * d + 3) (A.deeper (PyProof.Rows.envOfC ("_law_draws" : Str) (defScope s__law_draws) s.heap.objs.size f cdv))) :
    DSs L (cxOf (L2.CX P w) P w K mg base N__law_draws ("_law_draws" : Str) (defScope s__law_draws) f cdv A outer s H E) (fun c d _ H => E c d H) (defBody s__law_draws) b__law_draws := by
  have hu := hr.units
  have hr1 := hr.mono (Nat.le_succ (2 * d + 2))
  have nd := sc__law_draws.nd
  have hp : PassesOwn (model P w) (A.deeper (PyProof.Rows.envOfC ("_law_draws" : Str) (defScope s__law_draws) s.heap.objs.size f cdv)) (PyProof.Rows.envOfC ("_law_draws" : Str) (defScope s__law_draws) s.heap.objs.size f cdv) (cxOf (L2.CX P w) P w K mg base N__law_draws ("_law_draws" : Str) (defScope s__law_draws) f cdv A outer s H E).xe := passes_of rfl
  exact (dss_cons (ds_set 3 nd rfl (by first | exact Or.inl rfl | exact Or.inr rfl) (by first | exact Or.inl rfl | exact Or.inr rfl) (d_call (T.f__law_figure _ ⟨rfl, rfl, rfl, rfl, rfl⟩) hr1 (takes_of rfl rfl rfl rfl) rfl (da_cons (d_var 0) (da_cons (d_var 1) da_nil)))) (dss_cons (ds_set 4 nd rfl (by first | exact Or.inl rfl | exact Or.inr rfl) (by first | exact Or.inl rfl | exact Or.inr rfl) (d_bin .sub (d_var 3) (d_bin .pow d_int d_int))) (dss_cons (ds_set 5 nd rfl (by first | exact Or.inl rfl | exact Or.inr rfl) (by first | exact Or.inl rfl | exact Or.inr rfl) (d_lst da_nil)) (dss_cons (ds_for hp rfl (di_rng1 rfl (T.g_range _ ⟨rfl, rfl, rfl, rfl, rfl⟩) (d_bltB (f := .len) (blt_len trivial) rfl (T.g_len _ ⟨rfl, rfl, rfl, rfl, rfl⟩) bb_len (da_cons (d_var 2) da_nil))) (dg_nm 6 nd rfl (by first | exact Or.inl rfl | exact Or.inr rfl) (by first | exact Or.inl rfl | exact Or.inr rfl)) (dss_cons (ds_set 7 nd rfl (by first | exact Or.inl rfl | exact Or.inr rfl) (by first | exact Or.inl rfl | exact Or.inr rfl) (d_bin .mod (d_bltT (f := .int) blt_int rfl (T.g_int _ ⟨rfl, rfl, rfl, rfl, rfl⟩) bb_int (da_cons (d_bin .add (d_bin .add (d_bin .mul (d_var 3) (d_bin .add d_int (d_bin .mul (d_bin .mul d_int (d_var 6)) (d_var 6)))) (d_bin .mul (d_bin .add (d_var 6) d_int) d_int)) (d_bin .mul (d_var 1) d_int)) da_nil)) d_int)) (dss_cons (ds_set 7 nd rfl (by first | exact Or.inl rfl | exact Or.inr rfl) (by first | exact Or.inl rfl | exact Or.inr rfl) (d_bin .fdiv (d_bin .mod (d_bltT (f := .int) blt_int rfl (T.g_int _ ⟨rfl, rfl, rfl, rfl, rfl⟩) bb_int (da_cons (d_bin .add (d_bin .add (d_bin .mul (d_var 7) (d_var 7)) (d_bin .mul d_int (d_var 6))) (d_var 3)) da_nil)) d_int) d_int)) (dss_cons (ds_ite (dt_cmp .ge hu (d_var 3) (d_bin .pow d_int d_int) rfl) (dss_cons (ds_set 7 nd rfl (by first | exact Or.inl rfl | exact Or.inr rfl) (by first | exact Or.inl rfl | exact Or.inr rfl) (d_var 4)) (dss_cons (ds_set 4 nd rfl (by first | exact Or.inl rfl | exact Or.inr rfl) (by first | exact Or.inl rfl | exact Or.inr rfl) (d_bin .fdiv (d_var 4) (d_idx hu (d_var 2) (d_var 6)))) dss_nil)) dss_nil) (dss_cons (ds_exp (d_append (d_var 5) (da_cons (d_bin .mod (d_bltT (f := .int) blt_int rfl (T.g_int _ ⟨rfl, rfl, rfl, rfl, rfl⟩) bb_int (da_cons (d_var 7) da_nil)) (d_idx hu (d_var 2) (d_var 6))) da_nil))) dss_nil))))) (dss_cons (ds_ret (d_var 5)) dss_nil)))))
theorem sc__law_long : FnScope N__law_long [("_law_script" : Str), ("_law_at" : Str), ("_law_many" : Str)] (defScope s__law_long) := ⟨rfl, rfl, rfl, by decide +kernel, rfl, by decide +kernel, by decide +kernel⟩
theorem h__law_long (T : Txt P w K mg base L d) (f : Addr) (cdv : Value) (A : Around) (outer : List Env) (s : Shared) (H : Hp) (E : XK) (hr : Room (2 * d + 3) (A.deeper (PyProof.Rows.envOfC ("_law_long" : Str) (defScope s__law_long) s.heap.objs.size f cdv))) :
    DSs L (cxOf (L2.CX P w) P w K mg base N__law_long ("_law_long" : Str) (defScope s__law_long) f cdv A outer s H E) (fun c d _ H => E c d H) (defBody s__law_long) b__law_long := by
  have hu := hr.units
  have hr1 := hr.mono (Nat.le_succ (2 * d + 2))
  have nd := sc__law_long.nd
  have hp : PassesOwn (model P w) (A.deeper (PyProof.Rows.envOfC ("_law_long" : Str) (defScope s__law_long) s.heap.objs.size f cdv)) (PyProof.Rows.envOfC ("_law_long" : Str) (defScope s__law_long) s.heap.objs.size f cdv) (cxOf (L2.CX P w) P w K mg base N__law_long ("_law_long" : Str) (defScope s__law_long) f cdv A outer s H E).xe := passes_of rfl
  exact (dss_cons (ds_set 3 nd rfl (by first | exact Or.inl rfl | exact Or.inr rfl) (by first | exact Or.inl rfl | exact Or.inr rfl) (d_call (T.f__law_draws _ ⟨rfl, rfl, rfl, rfl, rfl⟩) hr1 (takes_of rfl rfl rfl rfl) rfl (da_cons (d_var 0) (da_cons (d_var 1) (da_cons (d_bin .mul (d_lst (da_cons d_int (da_cons d_int (da_cons (d_bin .pow d_int d_int) (da_cons (d_bin .pow d_int d_int) (da_cons (d_bin .pow d_int d_int) (da_cons (d_bin .pow d_int d_int) da_nil))))))) (d_var 2)) da_nil))))) (dss_cons (ds_set 4 nd rfl (by first | exact Or.inl rfl | exact Or.inr rfl) (by first | exact Or.inl rfl | exact Or.inr rfl) (d_lst da_nil)) (dss_cons (ds_for hp rfl (di_rng1 rfl (T.g_range _ ⟨rfl, rfl, rfl, rfl, rfl⟩) (d_var 2)) (dg_nm 5 nd rfl (by first | exact Or.inl rfl | exact Or.inr rfl) (by first | exact Or.inl rfl | exact Or.inr rfl)) (dss_cons (ds_set 6 nd rfl (by first | exact Or.inl rfl | exact Or.inr rfl) (by first | exact Or.inl rfl | exact Or.inr rfl) d_int) (dss_cons (ds_for hp rfl (di_rng1 rfl (T.g_range _ ⟨rfl, rfl, rfl, rfl, rfl⟩) (d_idx hu (d_var 3) (d_bin .mul d_int (d_var 5)))) (dg_nm 7 nd rfl (by first | exact Or.inl rfl | exact Or.inr rfl) (by first | exact Or.inl rfl | exact Or.inr rfl)) (dss_cons (ds_set 6 nd rfl (by first | exact Or.inl rfl | exact Or.inr rfl) (by first | exact Or.inl rfl | exact Or.inr rfl) (d_bin .mul (d_var 6) d_int)) dss_nil)) (dss_cons (ds_set 8 nd rfl (by first | exact Or.inl rfl | exact Or.inr rfl) (by first | exact Or.inl rfl | exact Or.inr rfl) d_int) (dss_cons (ds_for hp rfl (di_ex (d_slc (d_var 3) (do_some (d_bin .add (d_bin .mul d_int (d_var 5)) d_int)) (do_some (d_bin .add (d_bin .mul d_int (d_var 5)) d_int)))) (dg_nm 9 nd rfl (by first | exact Or.inl rfl | exact Or.inr rfl) (by first | exact Or.inl rfl | exact Or.inr rfl)) (dss_cons (ds_set 8 nd rfl (by first | exact Or.inl rfl | exact Or.inr rfl) (by first | exact Or.inl rfl | exact Or.inr rfl) (d_bin .add (d_bin .mul (d_var 8) (d_bin .pow d_int d_int)) (d_var 9))) dss_nil)) (dss_cons (ds_set 8 nd rfl (by first | exact Or.inl rfl | exact Or.inr rfl) (by first | exact Or.inl rfl | exact Or.inr rfl) (d_bin .mod (d_bltT (f := .int) blt_int rfl (T.g_int _ ⟨rfl, rfl, rfl, rfl, rfl⟩) bb_int (da_cons (d_var 8) da_nil)) (d_var 6))) (dss_cons (ds_exp (d_append (d_var 4) (da_cons (d_ife (dt_cmp .eq hu (d_idx hu (d_var 3) (d_bin .add (d_bin .mul d_int (d_var 5)) d_int)) d_int rfl) (d_neg (d_var 8)) (d_var 8)) da_nil))) dss_nil))))))) (dss_cons (ds_ret (d_var 4)) dss_nil))))
theorem sc__law_same : FnScope N__law_same [("_law_found" : Str), ("_law_due" : Str)] (defScope s__law_same) := ⟨rfl, rfl, rfl, by decide +kernel, rfl, by decide +kernel, by decide +kernel⟩
theorem h__law_same (T : Txt P w K mg base L d) (f : Addr) (cdv : Value) (A : Around) (outer : List Env) (s : Shared) (H : Hp) (E : XK) (hr : Room (2 * d + 3) (A.deeper (PyProof.Rows.envOfC ("_law_same" : Str) (defScope s__law_same) s.heap.objs.size f cdv))) :
    DSs L (cxOf (L2.CX P w) P w K mg base N__law_same ("_law_same" : Str) (defScope s__law_same) f cdv A outer s H E) (fun c d _ H => E c d H) (defBody s__law_same) b__law_same := by
  have hu := hr.units
  have hr1 := hr.mono (Nat.le_succ (2 * d + 2))
  have nd := sc__law_same.nd
  exact (dss_cons (ds_ite (dt_cmp .isN hu (d_var 1) d_non rfl) (dss_cons (ds_ret (d_cmp .isN hu (d_var 0) d_non rfl)) dss_nil) dss_nil) (dss_cons (ds_ite (DW.t (dw_or (dt_val (d_isi .bool rfl (T.g_isinstance _ ⟨rfl, rfl, rfl, rfl, rfl⟩) rfl (T.g_bool _ ⟨rfl, rfl, rfl, rfl, rfl⟩) (d_var 1) bb_isinstance (bb_ty .bool) (ne_ty .bool) (nd_ty .bool))) (dw_or1 (dt_val (d_isi .bool rfl (T.g_isinstance _ ⟨rfl, rfl, rfl, rfl, rfl⟩) rfl (T.g_bool _ ⟨rfl, rfl, rfl, rfl, rfl⟩) (d_var 0) bb_isinstance (bb_ty .bool) (ne_ty .bool) (nd_ty .bool)))))) (dss_cons (ds_ret (d_and (d_isi .bool rfl (T.g_isinstance _ ⟨rfl, rfl, rfl, rfl, rfl⟩) rfl (T.g_bool _ ⟨rfl, rfl, rfl, rfl, rfl⟩) (d_var 1) bb_isinstance (bb_ty .bool) (ne_ty .bool) (nd_ty .bool)) (d_and (d_isi .bool rfl (T.g_isinstance _ ⟨rfl, rfl, rfl, rfl, rfl⟩) rfl (T.g_bool _ ⟨rfl, rfl, rfl, rfl, rfl⟩) (d_var 0) bb_isinstance (bb_ty .bool) (ne_ty .bool) (nd_ty .bool)) (d_one (d_cmp .eq hu (d_var 0) (d_var 1) rfl))))) dss_nil) dss_nil) (dss_cons (ds_ite (dt_val (d_isi .int rfl (T.g_isinstance _ ⟨rfl, rfl, rfl, rfl, rfl⟩) rfl (T.g_int _ ⟨rfl, rfl, rfl, rfl, rfl⟩) (d_var 1) bb_isinstance (bb_ty .int) (ne_ty .int) (nd_ty .int))) (dss_cons (ds_ret (d_and (d_isi .int rfl (T.g_isinstance _ ⟨rfl, rfl, rfl, rfl, rfl⟩) rfl (T.g_int _ ⟨rfl, rfl, rfl, rfl, rfl⟩) (d_var 0) bb_isinstance (bb_ty .int) (ne_ty .int) (nd_ty .int)) (d_one (d_cmp .eq hu (d_var 0) (d_var 1) rfl)))) dss_nil) dss_nil) (dss_cons (ds_ite (dt_val (d_isi .str rfl (T.g_isinstance _ ⟨rfl, rfl, rfl, rfl, rfl⟩) rfl (T.g_str _ ⟨rfl, rfl, rfl, rfl, rfl⟩) (d_var 1) bb_isinstance (bb_ty .str) (ne_ty .str) (nd_ty .str))) (dss_cons (ds_ret (d_and (d_isi .str rfl (T.g_isinstance _ ⟨rfl, rfl, rfl, rfl, rfl⟩) rfl (T.g_str _ ⟨rfl, rfl, rfl, rfl, rfl⟩) (d_var 0) bb_isinstance (bb_ty .str) (ne_ty .str) (nd_ty .str)) (d_one (d_cmp .eq hu (d_var 0) (d_var 1) rfl)))) dss_nil) dss_nil) (dss_cons (ds_ite (dt_val (d_isi .dict rfl (T.g_isinstance _ ⟨rfl, rfl, rfl, rfl, rfl⟩) rfl (T.g_dict _ ⟨rfl, rfl, rfl, rfl, rfl⟩) (d_var 1) bb_isinstance (bb_ty .dict) (ne_ty .dict) (nd_ty .dict))) (dss_cons (ds_ite (DW.t (dw_or (dt_not (dt_val (d_isi .dict rfl (T.g_isinstance _ ⟨rfl, rfl, rfl, rfl, rfl⟩) rfl (T.g_dict _ ⟨rfl, rfl, rfl, rfl, rfl⟩) (d_var 0) bb_isinstance (bb_ty .dict) (ne_ty .dict) (nd_ty .dict)))) (dw_or1 (dt_cmp .ne hu (d_bltB (f := .len) (blt_len trivial) rfl (T.g_len _ ⟨rfl, rfl, rfl, rfl, rfl⟩) bb_len (da_cons (d_var 0) da_nil)) (d_bltB (f := .len) (blt_len trivial) rfl (T.g_len _ ⟨rfl, rfl, rfl, rfl, rfl⟩) bb_len (da_cons (d_var 1) da_nil)) rfl)))) (dss_cons (ds_ret d_bl) dss_nil) dss_nil) (dss_cons (ds_ret (d_bltB (f := .all) (blt_all rfl) rfl (T.g_all _ ⟨rfl, rfl, rfl, rfl, rfl⟩) bb_all (da_cons (d_lc (own := [(("_law_key" : Str), 3)]) rfl nd (di_ex (d_var 1)) (blkOk_by (by kernel_rfl)) (fun _ _ _ _ _ => (dg_nm 3 nd rfl (by first | exact Or.inl rfl | exact Or.inr rfl) (by first | exact Or.inl rfl | exact Or.inr rfl))) (fun _ _ _ _ _ => dts_nil) (fun _ _ _ _ _ => (d_and (d_cmp .inn hu (d_var 3) (d_var 0) rfl) (d_one (d_call (T.f__law_same _ ⟨rfl, rfl, rfl, rfl, rfl⟩) hr1 takes0 rfl (da_cons (d_idx hu (d_var 0) (d_var 3)) (da_cons (d_idx hu (d_var 1) (d_var 3)) da_nil)))))) (by decide)) da_nil))) dss_nil)) dss_nil) (dss_cons (ds_ite (DW.t (dw_or (dt_cmp .ne hu (d_isi .list rfl (T.g_isinstance _ ⟨rfl, rfl, rfl, rfl, rfl⟩) rfl (T.g_list _ ⟨rfl, rfl, rfl, rfl, rfl⟩) (d_var 1) bb_isinstance (bb_ty .list) (ne_ty .list) (nd_ty .list)) (d_isi .list rfl (T.g_isinstance _ ⟨rfl, rfl, rfl, rfl, rfl⟩) rfl (T.g_list _ ⟨rfl, rfl, rfl, rfl, rfl⟩) (d_var 0) bb_isinstance (bb_ty .list) (ne_ty .list) (nd_ty .list)) rfl) (dw_or1 (dt_cmp .ne hu (d_isi .tuple rfl (T.g_isinstance _ ⟨rfl, rfl, rfl, rfl, rfl⟩) rfl (T.g_tuple _ ⟨rfl, rfl, rfl, rfl, rfl⟩) (d_var 1) bb_isinstance (bb_ty .tuple) (ne_ty .tuple) (nd_ty .tuple)) (d_isi .tuple rfl (T.g_isinstance _ ⟨rfl, rfl, rfl, rfl, rfl⟩) rfl (T.g_tuple _ ⟨rfl, rfl, rfl, rfl, rfl⟩) (d_var 0) bb_isinstance (bb_ty .tuple) (ne_ty .tuple) (nd_ty .tuple)) rfl)))) (dss_cons (ds_ret d_bl) dss_nil) dss_nil) (dss_cons (ds_ite (dt_cmp .ne hu (d_bltB (f := .len) (blt_len trivial) rfl (T.g_len _ ⟨rfl, rfl, rfl, rfl, rfl⟩) bb_len (da_cons (d_var 0) da_nil)) (d_bltB (f := .len) (blt_len trivial) rfl (T.g_len _ ⟨rfl, rfl, rfl, rfl, rfl⟩) bb_len (da_cons (d_var 1) da_nil)) rfl) (dss_cons (ds_ret d_bl) dss_nil) dss_nil) (dss_cons (ds_ret (d_bltB (f := .all) (blt_all rfl) rfl (T.g_all _ ⟨rfl, rfl, rfl, rfl, rfl⟩) bb_all (da_cons (d_lc (own := [(("_law_k" : Str), 2)]) rfl nd (di_rng1 rfl (T.g_range _ ⟨rfl, rfl, rfl, rfl, rfl⟩) (d_bltB (f := .len) (blt_len trivial) rfl (T.g_len _ ⟨rfl, rfl, rfl, rfl, rfl⟩) bb_len (da_cons (d_var 1) da_nil))) (blkOk_by (by kernel_rfl)) (fun _ _ _ _ _ => (dg_nm 2 nd rfl (by first | exact Or.inl rfl | exact Or.inr rfl) (by first | exact Or.inl rfl | exact Or.inr rfl))) (fun _ _ _ _ _ => dts_nil) (fun _ _ _ _ _ => (d_call (T.f__law_same _ ⟨rfl, rfl, rfl, rfl, rfl⟩) hr1 takes0 rfl (da_cons (d_idx hu (d_var 0) (d_var 2)) (da_cons (d_idx hu (d_var 1) (d_var 2)) da_nil)))) (by decide)) da_nil))) dss_nil))))))))
theorem sc__law_scale : FnScope N__law_scale [("_law_script" : Str), ("_law_at" : Str)] (defScope s__law_scale) := ⟨rfl, rfl, rfl, by decide +kernel, rfl, by decide +kernel, by decide +kernel⟩
theorem h__law_scale (T : Txt P w K mg base L d) (f : Addr) (cdv : Value) (A : Around) (outer : List Env) (s : Shared) (H : Hp) (E : XK) (hr : Room (2 * d + 3) (A.deeper (PyProof.Rows.envOfC ("_law_scale" : Str) (defScope s__law_scale) s.heap.objs.size f cdv))) :
    DSs L (cxOf (L2.CX P w) P w K mg base N__law_scale ("_law_scale" : Str) (defScope s__law_scale) f cdv A outer s H E) (fun c d _ H => E c d H) (defBody s__law_scale) b__law_scale := by
  have hu := hr.units
  have hr1 := hr.mono (Nat.le_succ (2 * d + 2))
  have nd := sc__law_scale.nd
  exact (dss_cons (ds_set 2 nd rfl (by first | exact Or.inl rfl | exact Or.inr rfl) (by first | exact Or.inl rfl | exact Or.inr rfl) (d_call (T.f__law_draws _ ⟨rfl, rfl, rfl, rfl, rfl⟩) hr1 (takes_of rfl rfl rfl rfl) rfl (da_cons (d_var 0) (da_cons (d_var 1) (da_cons (d_lst (da_cons d_int (da_cons (d_bin .pow d_int d_int) (da_cons (d_bin .pow d_int d_int) (da_cons (d_bin .pow d_int d_int) (da_cons (d_bin .pow d_int d_int) da_nil)))))) da_nil))))) (dss_cons (ds_set 3 nd rfl (by first | exact Or.inl rfl | exact Or.inr rfl) (by first | exact Or.inl rfl | exact Or.inr rfl) (d_call (T.f__law_long _ ⟨rfl, rfl, rfl, rfl, rfl⟩) hr1 (takes_of rfl rfl rfl rfl) rfl (da_cons (d_var 0) (da_cons (d_bin .add (d_var 1) d_int) (da_cons d_int da_nil))))) (dss_cons (ds_ite (dt_cmp .eq hu (d_idx hu (d_var 2) d_int) d_int rfl) (dss_cons (ds_ret (d_tup (da_cons d_int (da_cons d_int (da_cons d_int (da_cons d_int da_nil)))))) dss_nil) dss_nil) (dss_cons (ds_ite (dt_cmp .eq hu (d_idx hu (d_var 2) d_int) d_int rfl) (dss_cons (ds_ret (d_tup (da_cons d_int (da_cons (d_bin .fdiv (d_idx hu (d_var 3) d_int) d_int) (da_cons d_int (da_cons (d_bin .fdiv (d_idx hu (d_var 3) d_int) d_int) da_nil)))))) dss_nil) dss_nil) (dss_cons (ds_ret (d_tup (da_cons (d_bin .add d_int (d_bin .mul (d_idx hu (d_var 2) d_int) (d_idx hu (d_var 2) d_int))) (da_cons (d_bin .fdiv (d_idx hu (d_var 3) d_int) d_int) (da_cons (d_bin .add d_int (d_bin .mul (d_idx hu (d_var 2) d_int) (d_idx hu (d_var 2) d_int))) (da_cons (d_bin .fdiv (d_idx hu (d_var 3) d_int) d_int) da_nil)))))) dss_nil)))))
theorem sc__law_long_row : FnScope N__law_long_row [("_law_script" : Str), ("_law_at" : Str)] (defScope s__law_long_row) := ⟨rfl, rfl, rfl, by decide +kernel, rfl, by decide +kernel, by decide +kernel⟩
theorem h__law_long_row (T : Txt P w K mg base L d) (f : Addr) (cdv : Value) (A : Around) (outer : List Env) (s : Shared) (H : Hp) (E : XK) (hr : Room (2 * d + 3) (A.deeper (PyProof.Rows.envOfC ("_law_long_row" : Str) (defScope s__law_long_row) s.heap.objs.size f cdv))) :
    DSs L (cxOf (L2.CX P w) P w K mg base N__law_long_row ("_law_long_row" : Str) (defScope s__law_long_row) f cdv A outer s H E) (fun c d _ H => E c d H) (defBody s__law_long_row) b__law_long_row := by
  have hu := hr.units
  have hr1 := hr.mono (Nat.le_succ (2 * d + 2))
  have nd := sc__law_long_row.nd
  have hp : PassesOwn (model P w) (A.deeper (PyProof.Rows.envOfC ("_law_long_row" : Str) (defScope s__law_long_row) s.heap.objs.size f cdv)) (PyProof.Rows.envOfC ("_law_long_row" : Str) (defScope s__law_long_row) s.heap.objs.size f cdv) (cxOf (L2.CX P w) P w K mg base N__law_long_row ("_law_long_row" : Str) (defScope s__law_long_row) f cdv A outer s H E).xe := passes_of rfl
  exact (dss_cons (ds_set 2 nd rfl (by first | exact Or.inl rfl | exact Or.inr rfl) (by first | exact Or.inl rfl | exact Or.inr rfl) (d_call (T.f__law_draws _ ⟨rfl, rfl, rfl, rfl, rfl⟩) hr1 (takes_of rfl rfl rfl rfl) rfl (da_cons (d_var 0) (da_cons (d_var 1) (da_cons (d_bin .add (d_lst (da_cons d_int (da_cons d_int (da_cons d_int da_nil)))) (d_bin .mul (d_lst (da_cons d_int (da_cons d_int da_nil))) d_int)) da_nil))))) (dss_cons (ds_set 3 nd rfl (by first | exact Or.inl rfl | exact Or.inr rfl) (by first | exact Or.inl rfl | exact Or.inr rfl) (d_neg d_int)) (dss_cons (ds_set 4 nd rfl (by first | exact Or.inl rfl | exact Or.inr rfl) (by first | exact Or.inl rfl | exact Or.inr rfl) (d_lst da_nil)) (dss_cons (ds_for hp rfl (di_rng1 rfl (T.g_range _ ⟨rfl, rfl, rfl, rfl, rfl⟩) (d_bin .add d_int (d_idx hu (d_var 2) d_int))) (dg_nm 5 nd rfl (by first | exact Or.inl rfl | exact Or.inr rfl) (by first | exact Or.inl rfl | exact Or.inr rfl)) (dss_cons (ds_set 3 nd rfl (by first | exact Or.inl rfl | exact Or.inr rfl) (by first | exact Or.inl rfl | exact Or.inr rfl) (d_bin .add (d_bin .add (d_var 3) d_int) (d_idx hu (d_var 2) (d_bin .add d_int (d_bin .mul d_int (d_var 5)))))) (dss_cons (ds_exp (d_append (d_var 4) (da_cons (d_tup (da_cons (d_var 3) (da_cons (d_bin .mod (d_bltT (f := .int) blt_int rfl (T.g_int _ ⟨rfl, rfl, rfl, rfl, rfl⟩) bb_int (da_cons (d_idx hu (d_var 2) (d_bin .add d_int (d_bin .mul d_int (d_var 5)))) da_nil)) (d_bin .add d_int (d_idx hu (d_var 2) d_int))) da_nil))) da_nil))) dss_nil))) (dss_cons (ds_set 6 nd rfl (by first | exact Or.inl rfl | exact Or.inr rfl) (by first | exact Or.inl rfl | exact Or.inr rfl) (d_bin .mod (d_bltT (f := .int) blt_int rfl (T.g_int _ ⟨rfl, rfl, rfl, rfl, rfl⟩) bb_int (da_cons (d_idx hu (d_var 2) d_int) da_nil)) (d_bltB (f := .len) (blt_len trivial) rfl (T.g_len _ ⟨rfl, rfl, rfl, rfl, rfl⟩) bb_len (da_cons (d_var 4) da_nil)))) (dss_cons (ds_set 4 nd rfl (by first | exact Or.inl rfl | exact Or.inr rfl) (by first | exact Or.inl rfl | exact Or.inr rfl) (d_bin .add (d_slc (d_var 4) (do_some (d_var 6)) do_none) (d_slc (d_var 4) do_none (do_some (d_var 6))))) (dss_cons (ds_ite (dt_cmp .eq hu (d_idx hu (d_var 2) d_int) d_int rfl) (dss_cons (ds_set 4 nd rfl (by first | exact Or.inl rfl | exact Or.inr rfl) (by first | exact Or.inl rfl | exact Or.inr rfl) (d_rev (d_var 4))) dss_nil) dss_nil) (dss_cons (ds_ret (d_var 4)) dss_nil))))))))
theorem sc__law_cell : FnScope N__law_cell [("_law_entries" : Str), ("_law_place" : Str)] (defScope s__law_cell) := ⟨rfl, rfl, rfl, by decide +kernel, rfl, by decide +kernel, by decide +kernel⟩
theorem h__law_cell (T : Txt P w K mg base L d) (f : Addr) (cdv : Value) (A : Around) (outer : List Env) (s : Shared) (H : Hp) (E : XK) (hr : Room (2 * d + 3) (A.deeper (PyProof.Rows.envOfC ("_law_cell" : Str) (defScope s__law_cell) s.heap.objs.size f cdv))) :
    DSs L (cxOf (L2.CX P w) P w K mg base N__law_cell ("_law_cell" : Str) (defScope s__law_cell) f cdv A outer s H E) (fun c d _ H => E c d H) (defBody s__law_cell) b__law_cell := by
  have hu := hr.units
  have hr1 := hr.mono (Nat.le_succ (2 * d + 2))
  have nd := sc__law_cell.nd
  have hp : PassesOwn (model P w) (A.deeper (PyProof.Rows.envOfC ("_law_cell" : Str) (defScope s__law_cell) s.heap.objs.size f cdv)) (PyProof.Rows.envOfC ("_law_cell" : Str) (defScope s__law_cell) s.heap.objs.size f cdv) (cxOf (L2.CX P w) P w K mg base N__law_cell ("_law_cell" : Str) (defScope s__law_cell) f cdv A outer s H E).xe := passes_of rfl
  exact (dss_cons (ds_set 2 nd rfl (by first | exact Or.inl rfl | exact Or.inr rfl) (by first | exact Or.inl rfl | exact Or.inr rfl) (d_idx hu (d_idx hu (d_var 0) d_int) d_int)) (dss_cons (ds_for hp rfl (di_ex (d_var 0)) (dg_tp rfl (.cons (i := 3) rfl nd rfl (by first | exact Or.inl rfl | exact Or.inr rfl) (by first | exact Or.inl rfl | exact Or.inr rfl) (.cons (i := 4) rfl nd rfl (by first | exact Or.inl rfl | exact Or.inr rfl) (by first | exact Or.inl rfl | exact Or.inr rfl) .nil))) (dss_cons (ds_ite (dt_cmp .le hu (d_var 3) (d_var 1) rfl) (dss_cons (ds_set 2 nd rfl (by first | exact Or.inl rfl | exact Or.inr rfl) (by first | exact Or.inl rfl | exact Or.inr rfl) (d_var 4)) dss_nil) dss_nil) dss_nil)) (dss_cons (ds_ret (d_var 2)) dss_nil)))
theorem sc__law_shaped : FnScope N__law_shaped [("_law_row" : Str)] (defScope s__law_shaped) := ⟨rfl, rfl, rfl, by decide +kernel, rfl, by decide +kernel, by decide +kernel⟩
theorem h__law_shaped (T : Txt P w K mg base L d) (f : Addr) (cdv : Value) (A : Around) (outer : List Env) (s : Shared) (H : Hp) (E : XK) (hr : Room (2 * d + 3) (A.deeper (PyProof.Rows.envOfC ("_law_shaped" : Str) (defScope s__law_shaped) s.heap.objs.size f cdv))) :
    DSs L (cxOf (L2.CX P w) P w K mg base N__law_shaped ("_law_shaped" : Str) (defScope s__law_shaped) f cdv A outer s H E) (fun c d _ H => E c d H) (defBody s__law_shaped) b__law_shaped := by
  have hu := hr.units
  have hr1 := hr.mono (Nat.le_succ (2 * d + 2))
  have nd := sc__law_shaped.nd
  have hp : PassesOwn (model P w) (A.deeper (PyProof.Rows.envOfC ("_law_shaped" : Str) (defScope s__law_shaped) s.heap.objs.size f cdv)) (PyProof.Rows.envOfC ("_law_shaped" : Str) (defScope s__law_shaped) s.heap.objs.size f cdv) (cxOf (L2.CX P w) P w K mg base N__law_shaped ("_law_shaped" : Str) (defScope s__law_shaped) f cdv A outer s H E).xe := passes_of rfl
  exact (dss_cons (ds_ite (DW.t (dw_or (dt_not (dt_val (d_isi .list rfl (T.g_isinstance _ ⟨rfl, rfl, rfl, rfl, rfl⟩) rfl (T.g_list _ ⟨rfl, rfl, rfl, rfl, rfl⟩) (d_var 0) bb_isinstance (bb_ty .list) (ne_ty .list) (nd_ty .list)))) (dw_or1 (dt_cmp .eq hu (d_bltB (f := .len) (blt_len trivial) rfl (T.g_len _ ⟨rfl, rfl, rfl, rfl, rfl⟩) bb_len (da_cons (d_var 0) da_nil)) d_int rfl)))) (dss_cons (ds_ret d_bl) dss_nil) dss_nil) (dss_cons (ds_for hp rfl (di_ex (d_var 0)) (dg_nm 1 nd rfl (by first | exact Or.inl rfl | exact Or.inr rfl) (by first | exact Or.inl rfl | exact Or.inr rfl)) (dss_cons (ds_ite (DW.t (dw_or (dt_not (dt_val (d_isi .tuple rfl (T.g_isinstance _ ⟨rfl, rfl, rfl, rfl, rfl⟩) rfl (T.g_tuple _ ⟨rfl, rfl, rfl, rfl, rfl⟩) (d_var 1) bb_isinstance (bb_ty .tuple) (ne_ty .tuple) (nd_ty .tuple)))) (dw_or1 (dt_cmp .ne hu (d_bltB (f := .len) (blt_len trivial) rfl (T.g_len _ ⟨rfl, rfl, rfl, rfl, rfl⟩) bb_len (da_cons (d_var 1) da_nil)) d_int rfl)))) (dss_cons (ds_ret d_bl) dss_nil) dss_nil) (dss_cons (ds_ite (dt_not (dt_val (d_call (T.f__law_same _ ⟨rfl, rfl, rfl, rfl, rfl⟩) hr1 (takes_of rfl rfl rfl rfl) rfl (da_cons (d_var 1) (da_cons (d_tup (da_cons (d_bltT (f := .int) blt_int rfl (T.g_int _ ⟨rfl, rfl, rfl, rfl, rfl⟩) bb_int (da_cons (d_idx hu (d_var 1) d_int) da_nil)) (da_cons (d_bltT (f := .int) blt_int rfl (T.g_int _ ⟨rfl, rfl, rfl, rfl, rfl⟩) bb_int (da_cons (d_idx hu (d_var 1) d_int) da_nil)) da_nil))) da_nil))))) (dss_cons (ds_ret d_bl) dss_nil) dss_nil) dss_nil))) (dss_cons (ds_ite (dt_cmp .eq hu (d_bltB (f := .len) (blt_len trivial) rfl (T.g_len _ ⟨rfl, rfl, rfl, rfl, rfl⟩) bb_len (da_cons (d_var 0) da_nil)) d_int rfl) (dss_cons (ds_ret (d_cmp .eq hu (d_idx hu (d_idx hu (d_var 0) d_int) d_int) d_int rfl)) dss_nil) dss_nil) (dss_cons (ds_ite (dt_cmp .ne hu (d_idx hu (d_idx hu (d_var 0) d_int) d_int) (d_bin .sub (d_idx hu (d_idx hu (d_var 0) d_int) d_int) d_int) rfl) (dss_cons (ds_ret d_bl) dss_nil) dss_nil) (dss_cons (ds_ret (d_bltB (f := .all) (blt_all rfl) rfl (T.g_all _ ⟨rfl, rfl, rfl, rfl, rfl⟩) bb_all (da_cons (d_lc (own := [(("_law_k" : Str), 2)]) rfl nd (di_rng1 rfl (T.g_range _ ⟨rfl, rfl, rfl, rfl, rfl⟩) (d_bin .sub (d_bltB (f := .len) (blt_len trivial) rfl (T.g_len _ ⟨rfl, rfl, rfl, rfl, rfl⟩) bb_len (da_cons (d_var 0) da_nil)) d_int)) (blkOk_by (by kernel_rfl)) (fun _ _ _ _ _ => (dg_nm 2 nd rfl (by first | exact Or.inl rfl | exact Or.inr rfl) (by first | exact Or.inl rfl | exact Or.inr rfl))) (fun _ _ _ _ _ => dts_nil) (fun _ _ _ _ _ => (d_and (d_cmp .lt hu (d_idx hu (d_idx hu (d_var 0) (d_var 2)) d_int) (d_idx hu (d_idx hu (d_var 0) (d_bin .add (d_var 2) d_int)) d_int) rfl) (d_one (d_cmp .ne hu (d_idx hu (d_idx hu (d_var 0) (d_var 2)) d_int) (d_idx hu (d_idx hu (d_var 0) (d_bin .add (d_var 2) d_int)) d_int) rfl)))) (by decide)) da_nil))) dss_nil)))))
theorem sc_law : FnScope N_law [("_law_script" : Str)] (defScope s_law) := ⟨rfl, rfl, rfl, by decide +kernel, rfl, by decide +kernel, by decide +kernel⟩
theorem h_law (T : Txt P w K mg base L d) (f : Addr) (cdv : Value) (A : Around) (outer : List Env) (s : Shared) (H : Hp) (E : XK) (hr : Room (2 * d + 3) (A.deeper (PyProof.Rows.envOfC ("law" : Str) (defScope s_law) s.heap.objs.size f cdv))) :
    DSs L (cxOf (L2.CX P w) P w K mg base N_law ("law" : Str) (defScope s_law) f cdv A outer s H E) (fun c d _ H => E c d H) (defBody s_law) b_law := by
  have hu := hr.units
  have hr1 := hr.mono (Nat.le_succ (2 * d + 2))
  have nd := sc_law.nd
  have hp : PassesOwn (model P w) (A.deeper (PyProof.Rows.envOfC ("law" : Str) (defScope s_law) s.heap.objs.size f cdv)) (PyProof.Rows.envOfC ("law" : Str) (defScope s_law) s.heap.objs.size f cdv) (cxOf (L2.CX P w) P w K mg base N_law ("law" : Str) (defScope s_law) f cdv A outer s H E).xe := passes_of rfl
  exact (dss_cons (ds_set 1 nd rfl (by first | exact Or.inl rfl | exact Or.inr rfl) (by first | exact Or.inl rfl | exact Or.inr rfl) (d_call (T.f__law_long_row _ ⟨rfl, rfl, rfl, rfl, rfl⟩) hr1 (takes_of rfl rfl rfl rfl) rfl (da_cons (d_var 0) (da_cons d_int da_nil)))) (dss_cons (ds_set 2 nd rfl (by first | exact Or.inl rfl | exact Or.inr rfl) (by first | exact Or.inl rfl | exact Or.inr rfl) (d_call (T.f__law_scale _ ⟨rfl, rfl, rfl, rfl, rfl⟩) hr1 (takes_of rfl rfl rfl rfl) rfl (da_cons (d_var 0) (da_cons d_int da_nil)))) (dss_cons (ds_setLc (own := [(("_law_place" : Str), 8), (("_law_value" : Str), 9)]) (g := gTL K 2 (gCons (gName 8) (gCons (gName 9) gNil))) 3 rfl nd rfl rfl rfl (di_ex (d_var 1)) (blkOk_by (by kernel_rfl)) (fun _ _ _ _ _ => (dg_tp rfl (.cons (i := 8) rfl nd rfl (by first | exact Or.inl rfl | exact Or.inr rfl) (by first | exact Or.inl rfl | exact Or.inr rfl) (.cons (i := 9) rfl nd rfl (by first | exact Or.inl rfl | exact Or.inr rfl) (by first | exact Or.inl rfl | exact Or.inr rfl) .nil)))) (fun _ _ _ _ _ => dts_nil) (fun _ _ _ _ _ => (d_tup (da_cons (d_bin .add (d_bin .mul (d_var 8) (d_idx hu (d_var 2) d_int)) (d_idx hu (d_var 2) d_int)) (da_cons (d_bin .add (d_bin .mul (d_var 9) (d_idx hu (d_var 2) d_int)) (d_idx hu (d_var 2) d_int)) da_nil)))) (by decide)) (dss_cons (ds_setLc (own := [(("_law_place" : Str), 8), (("_law_value" : Str), 9)]) (g := gTL K 2 (gCons (gName 8) (gCons (gName 9) gNil))) 4 rfl nd rfl rfl rfl (di_ex (d_var 3)) (blkOk_by (by kernel_rfl)) (fun _ _ _ _ _ => (dg_tp rfl (.cons (i := 8) rfl nd rfl (by first | exact Or.inl rfl | exact Or.inr rfl) (by first | exact Or.inl rfl | exact Or.inr rfl) (.cons (i := 9) rfl nd rfl (by first | exact Or.inl rfl | exact Or.inr rfl) (by first | exact Or.inl rfl | exact Or.inr rfl) .nil)))) (fun _ _ _ _ _ => dts_nil) (fun _ _ _ _ _ => (d_tup (da_cons (d_var 8) (da_cons (d_idx hu (d_var 2) d_int) da_nil)))) (by decide)) (dss_cons (ds_set 5 nd rfl (by first | exact Or.inl rfl | exact Or.inr rfl) (by first | exact Or.inl rfl | exact Or.inr rfl) (d_mk (T.d_State_init _ ⟨rfl, rfl, rfl, rfl, rfl⟩) (T.m_State _ ⟨rfl, rfl, rfl, rfl, rfl⟩) hr (takes_of rfl rfl rfl rfl) rfl (T.gl_State _ ⟨rfl, rfl, rfl, rfl, rfl⟩) (da_cons d_dnew (da_cons d_dnew (da_cons (d_disp (dd_cons (d_bltT (f := .list) (blt_list rfl) rfl (T.g_list _ ⟨rfl, rfl, rfl, rfl, rfl⟩) bb_list (da_cons (d_var 4) da_nil)) (dd_cons (d_bltT (f := .list) (blt_list rfl) rfl (T.g_list _ ⟨rfl, rfl, rfl, rfl, rfl⟩) bb_list (da_cons (d_var 3) da_nil)) dd_nil))) da_nil))))) (dss_cons (ds_set 6 nd rfl (by first | exact Or.inl rfl | exact Or.inr rfl) (by first | exact Or.inl rfl | exact Or.inr rfl) (d_prop (T.d_State_arrays _ ⟨rfl, rfl, rfl, rfl, rfl⟩) (T.i_State _ ⟨rfl, rfl, rfl, rfl, rfl⟩) (T.p_State_arrays _ ⟨rfl, rfl, rfl, rfl, rfl⟩) hr (d_var 5))) (dss_cons (ds_ite (DW.t (dw_or (dt_not (dt_val (d_call (T.f__law_same _ ⟨rfl, rfl, rfl, rfl, rfl⟩) hr1 (takes_of rfl rfl rfl rfl) rfl (da_cons (d_idx hu (d_var 6) d_str) (da_cons (d_lst (da_cons (d_tup (da_cons d_int (da_cons (d_idx hu (d_var 2) d_int) da_nil))) da_nil)) da_nil))))) (dw_or1 (dt_not (dt_val (d_call (T.f__law_shaped _ ⟨rfl, rfl, rfl, rfl, rfl⟩) hr1 (takes_of rfl rfl rfl rfl) rfl (da_cons (d_idx hu (d_var 6) d_str) da_nil))))))) (dss_cons (ds_ret d_bl) dss_nil) dss_nil) (dss_cons (ds_set 7 nd rfl (by first | exact Or.inl rfl | exact Or.inr rfl) (by first | exact Or.inl rfl | exact Or.inr rfl) (d_bltB (f := .sorted) (blt_sorted rfl) rfl (T.g_sorted _ ⟨rfl, rfl, rfl, rfl, rfl⟩) bb_sorted (da_cons (d_var 3) da_nil))) (dss_cons (ds_for hp rfl (di_ex (d_bin .add (d_var 7) (d_idx hu (d_var 6) d_str))) (dg_tp rfl (.cons (i := 8) rfl nd rfl (by first | exact Or.inl rfl | exact Or.inr rfl) (by first | exact Or.inl rfl | exact Or.inr rfl) (.cons (i := 9) rfl nd rfl (by first | exact Or.inl rfl | exact Or.inr rfl) (by first | exact Or.inl rfl | exact Or.inr rfl) .nil))) (dss_cons (ds_for hp rfl (di_ex (d_tup (da_cons (d_bin .sub (d_var 8) d_int) (da_cons (d_var 8) (da_cons (d_bin .add (d_var 8) d_int) da_nil))))) (dg_nm 10 nd rfl (by first | exact Or.inl rfl | exact Or.inr rfl) (by first | exact Or.inl rfl | exact Or.inr rfl)) (dss_cons (ds_ite (dt_cmp .ne hu (d_call (T.f__law_cell _ ⟨rfl, rfl, rfl, rfl, rfl⟩) hr1 (takes_of rfl rfl rfl rfl) rfl (da_cons (d_var 7) (da_cons (d_var 10) da_nil))) (d_call (T.f__law_cell _ ⟨rfl, rfl, rfl, rfl, rfl⟩) hr1 (takes_of rfl rfl rfl rfl) rfl (da_cons (d_idx hu (d_var 6) d_str) (da_cons (d_var 10) da_nil))) rfl) (dss_cons (ds_ret d_bl) dss_nil) dss_nil) dss_nil)) dss_nil)) (dss_cons (ds_ret (d_and (d_cmp .eq hu (d_bltB (f := .len) (blt_len trivial) rfl (T.g_len _ ⟨rfl, rfl, rfl, rfl, rfl⟩) bb_len (da_cons (d_var 6) da_nil)) d_int rfl) (d_one (d_call (T.f__law_same _ ⟨rfl, rfl, rfl, rfl, rfl⟩) hr1 (takes_of rfl rfl rfl rfl) rfl (da_cons (d_idx hu (d_prop (T.d_State_arrays _ ⟨rfl, rfl, rfl, rfl, rfl⟩) (T.i_State _ ⟨rfl, rfl, rfl, rfl, rfl⟩) (T.p_State_arrays _ ⟨rfl, rfl, rfl, rfl, rfl⟩) hr (d_var 5)) d_str) (da_cons (d_idx hu (d_var 6) d_str) da_nil)))))) dss_nil))))))))))
theorem sc_State_init : FnScope N_State_init [("self" : Str), ("places" : Str), ("numbers" : Str), ("arrays" : Str)] (defScope s_State_init) := ⟨rfl, rfl, rfl, by decide +kernel, rfl, by decide +kernel, by decide +kernel⟩
theorem h_State_init (T : Txt P w K mg base L d) (f : Addr) (cdv : Value) (A : Around) (outer : List Env) (s : Shared) (H : Hp) (E : XK) (hr : Room (2 * d + 3) (A.deeper (PyProof.Rows.envOfC ("State.__init__" : Str) (defScope s_State_init) s.heap.objs.size f cdv))) :
    DSs L (cxOf (L2.CX P w) P w K mg base N_State_init ("State.__init__" : Str) (defScope s_State_init) f cdv A outer s H E) (fun c d _ H => E c d H) (defBody s_State_init) b_State_init := by
  have hu := hr.units
  have hr1 := hr.mono (Nat.le_succ (2 * d + 2))
  have nd := sc_State_init.nd
  have hp : PassesOwn (model P w) (A.deeper (PyProof.Rows.envOfC ("State.__init__" : Str) (defScope s_State_init) s.heap.objs.size f cdv)) (PyProof.Rows.envOfC ("State.__init__" : Str) (defScope s_State_init) s.heap.objs.size f cdv) (cxOf (L2.CX P w) P w K mg base N_State_init ("State.__init__" : Str) (defScope s_State_init) f cdv A outer s H E).xe := passes_of rfl
  exact (dss_cons (ds_for hp rfl (di_ex (d_bltB (f := .sorted) (blt_sorted rfl) rfl (T.g_sorted _ ⟨rfl, rfl, rfl, rfl, rfl⟩) bb_sorted (da_cons (d_var 1) da_nil))) (dg_nm 4 nd rfl (by first | exact Or.inl rfl | exact Or.inr rfl) (by first | exact Or.inl rfl | exact Or.inr rfl)) (dss_cons (ds_exp (d_call (T.f_check_name _ ⟨rfl, rfl, rfl, rfl, rfl⟩) hr1 (takes_of rfl rfl rfl rfl) rfl (da_cons (d_var 4) da_nil))) dss_nil)) (dss_cons (ds_for hp rfl (di_ex (d_bltB (f := .sorted) (blt_sorted rfl) rfl (T.g_sorted _ ⟨rfl, rfl, rfl, rfl, rfl⟩) bb_sorted (da_cons (d_var 2) da_nil))) (dg_nm 4 nd rfl (by first | exact Or.inl rfl | exact Or.inr rfl) (by first | exact Or.inl rfl | exact Or.inr rfl)) (dss_cons (ds_exp (d_call (T.f_check_name _ ⟨rfl, rfl, rfl, rfl, rfl⟩) hr1 (takes_of rfl rfl rfl rfl) rfl (da_cons (d_var 4) da_nil))) dss_nil)) (dss_cons (ds_for hp rfl (di_ex (d_bltB (f := .sorted) (blt_sorted rfl) rfl (T.g_sorted _ ⟨rfl, rfl, rfl, rfl, rfl⟩) bb_sorted (da_cons (d_var 3) da_nil))) (dg_nm 4 nd rfl (by first | exact Or.inl rfl | exact Or.inr rfl) (by first | exact Or.inl rfl | exact Or.inr rfl)) (dss_cons (ds_exp (d_call (T.f_check_name _ ⟨rfl, rfl, rfl, rfl, rfl⟩) hr1 (takes_of rfl rfl rfl rfl) rfl (da_cons (d_var 4) da_nil))) (dss_cons (ds_exp (d_call (T.f_check_row _ ⟨rfl, rfl, rfl, rfl, rfl⟩) hr1 (takes_of rfl rfl rfl rfl) rfl (da_cons (d_idx hu (d_var 3) (d_var 4)) da_nil))) dss_nil))) (dss_cons (ds_setf (T.i_State _ ⟨rfl, rfl, rfl, rfl, rfl⟩) (T.n_State__places _ ⟨rfl, rfl, rfl, rfl, rfl⟩) (d_var 0) (d_bltT (f := .dict) blt_dict rfl (T.g_dict _ ⟨rfl, rfl, rfl, rfl, rfl⟩) bb_dict (da_cons (d_var 1) da_nil))) (dss_cons (ds_setf (T.i_State _ ⟨rfl, rfl, rfl, rfl, rfl⟩) (T.n_State__numbers _ ⟨rfl, rfl, rfl, rfl, rfl⟩) (d_var 0) (d_bltT (f := .dict) blt_dict rfl (T.g_dict _ ⟨rfl, rfl, rfl, rfl, rfl⟩) bb_dict (da_cons (d_var 2) da_nil))) (dss_cons (ds_setf (T.i_State _ ⟨rfl, rfl, rfl, rfl, rfl⟩) (T.n_State__arrays _ ⟨rfl, rfl, rfl, rfl, rfl⟩) (d_var 0) (d_lock (x := (.var 3)) (d_dc (own := [(("name" : Str), 4)]) rfl nd (di_keys (d_var 3)) (blkOk_by (by kernel_rfl)) (fun _ _ _ _ _ => (dg_nm 4 nd rfl (by first | exact Or.inl rfl | exact Or.inr rfl) (by first | exact Or.inl rfl | exact Or.inr rfl))) (fun _ _ _ _ _ => dts_nil) (fun _ _ _ _ _ => (d_var 4)) (fun _ _ _ _ _ => (d_call (T.f_least_row _ ⟨rfl, rfl, rfl, rfl, rfl⟩) hr1 takes0 rfl (da_cons (d_idx hu (d_var 3) (d_var 4)) da_nil))) (by decide)))) dss_nil))))))
theorem sc_State_arrays : FnScope N_State_arrays [("self" : Str)] (defScope s_State_arrays) := ⟨rfl, rfl, rfl, by decide +kernel, rfl, by decide +kernel, by decide +kernel⟩
theorem h_State_arrays (T : Txt P w K mg base L d) (f : Addr) (cdv : Value) (A : Around) (outer : List Env) (s : Shared) (H : Hp) (E : XK) (hr : Room (2 * d + 3) (A.deeper (PyProof.Rows.envOfC ("State.arrays" : Str) (defScope s_State_arrays) s.heap.objs.size f cdv))) :
    DSs L (cxOf (L2.CX P w) P w K mg base N_State_arrays ("State.arrays" : Str) (defScope s_State_arrays) f cdv A outer s H E) (fun c d _ H => E c d H) (defBody s_State_arrays) b_State_arrays := by
  have hu := hr.units
  have hr1 := hr.mono (Nat.le_succ (2 * d + 2))
  have nd := sc_State_arrays.nd
  exact (dss_cons (ds_ret (d_lock (x := (.fld 3 (.var 0) ("_arrays" : Str))) (d_dc (own := [(("name" : Str), 1)]) rfl nd (di_keys (d_fld (T.i_State _ ⟨rfl, rfl, rfl, rfl, rfl⟩) (T.n_State__arrays _ ⟨rfl, rfl, rfl, rfl, rfl⟩) (d_var 0))) (blkOk_by (by kernel_rfl)) (fun _ _ _ _ _ => (dg_nm 1 nd rfl (by first | exact Or.inl rfl | exact Or.inr rfl) (by first | exact Or.inl rfl | exact Or.inr rfl))) (fun _ _ _ _ _ => dts_nil) (fun _ _ _ _ _ => (d_var 1)) (fun _ _ _ _ _ => (d_bltT (f := .list) (blt_list rfl) rfl (T.g_list _ ⟨rfl, rfl, rfl, rfl, rfl⟩) bb_list (da_cons (d_idx hu (d_fld (T.i_State _ ⟨rfl, rfl, rfl, rfl, rfl⟩) (T.n_State__arrays _ ⟨rfl, rfl, rfl, rfl, rfl⟩) (d_var 0)) (d_var 1)) da_nil))) (by decide)))) dss_nil)
end
def tbl (cl : Cl) (i : Nat) (args : List Val) (st : Store) : Res Val := match i with
  | 1 => if args.length = 1 then runB cl 2 b_is_name args st else .stuck
  | 2 => if args.length = 1 then runB cl 2 b_copied args st else .stuck
  | 3 => if args.length = 1 then runB cl 1 b_check_name args st else .stuck
  | 4 => if args.length = 1 then runB cl 3 b_check_row args st else .stuck
  | 5 => if args.length = 1 then runB cl 5 b_least_row args st else .stuck
  | 6 => if args.length = 2 then runB cl 3 b__law_figure args st else .stuck
  | 7 => if args.length = 3 then runB cl 8 b__law_draws args st else .stuck
  | 8 => if args.length = 3 then runB cl 10 b__law_long args st else .stuck
  | 9 => if args.length = 2 then runB cl 4 b__law_same args st else .stuck
  | 10 => if args.length = 2 then runB cl 4 b__law_scale args st else .stuck
  | 11 => if args.length = 2 then runB cl 7 b__law_long_row args st else .stuck
  | 12 => if args.length = 2 then runB cl 5 b__law_cell args st else .stuck
  | 13 => if args.length = 1 then runB cl 3 b__law_shaped args st else .stuck
  | 14 => if args.length = 1 then runB cl 11 b_law args st else .stuck
  | 15 => if args.length = 4 then runB cl 5 b_State_init args st else .stuck
  | 16 => if args.length = 1 then runB cl 2 b_State_arrays args st else .stuck
  | _ => .stuck
def clN : Nat → Cl
  | 0, _, _, _ => .stuck
  | d + 1, i, args, st => tbl (clN d) i args st
def CAof (K : PySem.W.Frag) (c : Nat) : Addr := match c with
  | 0 => He.ga K ("CellError" : Str)
  | 1 => He.ga K ("InvalidName" : Str)
  | 2 => He.ga K ("InvalidRow" : Str)
  | 3 => He.ga K ("State" : Str)
  | _ => 0
def LL (K : PySem.W.Frag) (d : Nat) : Lib := ⟨clN d, CAof K⟩
abbrev si_InvalidName : Stmt := inClass (top 2) 0
abbrev si_InvalidRow : Stmt := inClass (top 2) 0
structure Fac (P : Program) (w : World) (K : PySem.W.Frag) (mg : Str → Option Value) : Prop where
  z : True
  B_is_name : ∃ a fd, FnB K mg ("is_name" : Str) [("value" : Str)] s_is_name a fd
  B_copied : ∃ a fd, FnB K mg ("copied" : Str) [("value" : Str)] s_copied a fd
  B_check_name : ∃ a fd, FnB K mg ("check_name" : Str) [("value" : Str)] s_check_name a fd
  B_check_row : ∃ a fd, FnB K mg ("check_row" : Str) [("row" : Str)] s_check_row a fd
  B_least_row : ∃ a fd, FnB K mg ("least_row" : Str) [("row" : Str)] s_least_row a fd
  B__law_figure : ∃ a fd, FnB K mg ("_law_figure" : Str) [("_law_script" : Str), ("_law_at" : Str)] s__law_figure a fd
  B__law_draws : ∃ a fd, FnB K mg ("_law_draws" : Str) [("_law_script" : Str), ("_law_at" : Str), ("_law_limits" : Str)] s__law_draws a fd
  B__law_long : ∃ a fd, FnB K mg ("_law_long" : Str) [("_law_script" : Str), ("_law_at" : Str), ("_law_many" : Str)] s__law_long a fd
  B__law_same : ∃ a fd, FnB K mg ("_law_same" : Str) [("_law_found" : Str), ("_law_due" : Str)] s__law_same a fd
  B__law_scale : ∃ a fd, FnB K mg ("_law_scale" : Str) [("_law_script" : Str), ("_law_at" : Str)] s__law_scale a fd
  B__law_long_row : ∃ a fd, FnB K mg ("_law_long_row" : Str) [("_law_script" : Str), ("_law_at" : Str)] s__law_long_row a fd
  B__law_cell : ∃ a fd, FnB K mg ("_law_cell" : Str) [("_law_entries" : Str), ("_law_place" : Str)] s__law_cell a fd
  B__law_shaped : ∃ a fd, FnB K mg ("_law_shaped" : Str) [("_law_row" : Str)] s__law_shaped a fd
  B_law : ∃ a fd, FnB K mg ("law" : Str) [("_law_script" : Str)] s_law a fd
  B_State_init : ∃ fd, FmB K ("__init__" : Str) ("State.__init__" : Str) [("self" : Str), ("places" : Str), ("numbers" : Str), ("arrays" : Str)] s_State_init (He.ma K (He.ga K ("State" : Str)) ("__init__" : Str)) fd
  B_State_arrays : ∃ fd, FmB K ("arrays" : Str) ("State.arrays" : Str) [("self" : Str)] s_State_arrays (gAd K (("State" : Str), ("arrays" : Str))) fd
  i_State : Cls K (He.ga K ("State" : Str))
  gl_State : mg ("State" : Str) = some (.ref (He.ga K ("State" : Str)))
  m_State : Mk K (He.ga K ("State" : Str)) (He.ma K (He.ga K ("State" : Str)) ("__init__" : Str))
  n_State__arrays : NoAttr K (He.ga K ("State" : Str)) ("_arrays" : Str)
  n_State__numbers : NoAttr K (He.ga K ("State" : Str)) ("_numbers" : Str)
  n_State__places : NoAttr K (He.ga K ("State" : Str)) ("_places" : Str)
  p_State_arrays : PropOf K (He.ga K ("State" : Str)) ("arrays" : Str) (pAd K (("State" : Str), ("arrays" : Str))) (gAd K (("State" : Str), ("arrays" : Str)))
  g_all : mg ("all" : Str) = none
  g_bool : mg ("bool" : Str) = none
  g_dict : mg ("dict" : Str) = none
  g_int : mg ("int" : Str) = none
  g_isinstance : mg ("isinstance" : Str) = none
  g_len : mg ("len" : Str) = none
  g_list : mg ("list" : Str) = none
  g_range : mg ("range" : Str) = none
  g_sorted : mg ("sorted" : Str) = none
  g_str : mg ("str" : Str) = none
  g_tuple : mg ("tuple" : Str) = none
  e_InvalidName : ErrK K ("InvalidName" : Str) ∧ mg ("InvalidName" : Str) = some (.ref (He.ga K ("InvalidName" : Str))) ∧ ∃ fd, FunD K "__init__" ("CellError.__init__" : Str) (defArgs si_InvalidName) (defBody si_InvalidName) (defScope si_InvalidName) [] [] (He.ma K (He.ga K ("InvalidName" : Str)) "__init__") fd
  e_InvalidRow : ErrK K ("InvalidRow" : Str) ∧ mg ("InvalidRow" : Str) = some (.ref (He.ga K ("InvalidRow" : Str))) ∧ ∃ fd, FunD K "__init__" ("CellError.__init__" : Str) (defArgs si_InvalidRow) (defBody si_InvalidRow) (defScope si_InvalidRow) [] [] (He.ma K (He.ga K ("InvalidRow" : Str)) "__init__") fd
structure Lev (P : Program) (w : World) (K : PySem.W.Frag) (mg : Str → Option Value) (base : Heap) (d : Nat) : Prop where
  L_is_name : FnG P w K mg base (CAof K) ("is_name" : Str) [("value" : Str)] (2 * d + 2) (clN d 1) s_is_name
  L_copied : FnG P w K mg base (CAof K) ("copied" : Str) [("value" : Str)] (2 * d + 2) (clN d 2) s_copied
  L_check_name : FnG P w K mg base (CAof K) ("check_name" : Str) [("value" : Str)] (2 * d + 2) (clN d 3) s_check_name
  L_check_row : FnG P w K mg base (CAof K) ("check_row" : Str) [("row" : Str)] (2 * d + 2) (clN d 4) s_check_row
  L_least_row : FnG P w K mg base (CAof K) ("least_row" : Str) [("row" : Str)] (2 * d + 2) (clN d 5) s_least_row
  L__law_figure : FnG P w K mg base (CAof K) ("_law_figure" : Str) [("_law_script" : Str), ("_law_at" : Str)] (2 * d + 2) (clN d 6) s__law_figure
  L__law_draws : FnG P w K mg base (CAof K) ("_law_draws" : Str) [("_law_script" : Str), ("_law_at" : Str), ("_law_limits" : Str)] (2 * d + 2) (clN d 7) s__law_draws
  L__law_long : FnG P w K mg base (CAof K) ("_law_long" : Str) [("_law_script" : Str), ("_law_at" : Str), ("_law_many" : Str)] (2 * d + 2) (clN d 8) s__law_long
  L__law_same : FnG P w K mg base (CAof K) ("_law_same" : Str) [("_law_found" : Str), ("_law_due" : Str)] (2 * d + 2) (clN d 9) s__law_same
  L__law_scale : FnG P w K mg base (CAof K) ("_law_scale" : Str) [("_law_script" : Str), ("_law_at" : Str)] (2 * d + 2) (clN d 10) s__law_scale
  L__law_long_row : FnG P w K mg base (CAof K) ("_law_long_row" : Str) [("_law_script" : Str), ("_law_at" : Str)] (2 * d + 2) (clN d 11) s__law_long_row
  L__law_cell : FnG P w K mg base (CAof K) ("_law_cell" : Str) [("_law_entries" : Str), ("_law_place" : Str)] (2 * d + 2) (clN d 12) s__law_cell
  L__law_shaped : FnG P w K mg base (CAof K) ("_law_shaped" : Str) [("_law_row" : Str)] (2 * d + 2) (clN d 13) s__law_shaped
  L_law : FnG P w K mg base (CAof K) ("law" : Str) [("_law_script" : Str)] (2 * d + 2) (clN d 14) s_law
  L_State_init : FmG P w K mg base (CAof K) (He.ma K (He.ga K ("State" : Str)) ("__init__" : Str)) [("self" : Str), ("places" : Str), ("numbers" : Str), ("arrays" : Str)] (2 * d + 2) (clN d 15)
  L_State_arrays : FmG P w K mg base (CAof K) (gAd K (("State" : Str), ("arrays" : Str))) [("self" : Str)] (2 * d + 2) (clN d 16)
section
variable {P : Program} {w : World} {K : PySem.W.Frag} {mg : Str → Option Value} {base : Heap}
theorem scI : FnScope ["self", "value"] ["self", "value"] (defScope si_InvalidName) := ⟨rfl, rfl, rfl, by decide +kernel, rfl, by decide +kernel, by decide +kernel⟩
theorem st_is_name : ∀ (d : Nat) (args : List Val) (st : Store), args.length ≠ [("value" : Str)].length → clN d 1 args st = .stuck
  | 0, _, _, _ => rfl
  | d + 1, args, st, h => (if_neg h : (if args.length = 1 then runB (clN d) 2 b_is_name args st else Res.stuck) = .stuck)
theorem st_copied : ∀ (d : Nat) (args : List Val) (st : Store), args.length ≠ [("value" : Str)].length → clN d 2 args st = .stuck
  | 0, _, _, _ => rfl
  | d + 1, args, st, h => (if_neg h : (if args.length = 1 then runB (clN d) 2 b_copied args st else Res.stuck) = .stuck)
theorem st_check_name : ∀ (d : Nat) (args : List Val) (st : Store), args.length ≠ [("value" : Str)].length → clN d 3 args st = .stuck
  | 0, _, _, _ => rfl
  | d + 1, args, st, h => (if_neg h : (if args.length = 1 then runB (clN d) 1 b_check_name args st else Res.stuck) = .stuck)
theorem st_check_row : ∀ (d : Nat) (args : List Val) (st : Store), args.length ≠ [("row" : Str)].length → clN d 4 args st = .stuck
  | 0, _, _, _ => rfl
  | d + 1, args, st, h => (if_neg h : (if args.length = 1 then runB (clN d) 3 b_check_row args st else Res.stuck) = .stuck)
theorem st_least_row : ∀ (d : Nat) (args : List Val) (st : Store), args.length ≠ [("row" : Str)].length → clN d 5 args st = .stuck
  | 0, _, _, _ => rfl
  | d + 1, args, st, h => (if_neg h : (if args.length = 1 then runB (clN d) 5 b_least_row args st else Res.stuck) = .stuck)
theorem st__law_figure : ∀ (d : Nat) (args : List Val) (st : Store), args.length ≠ [("_law_script" : Str), ("_law_at" : Str)].length → clN d 6 args st = .stuck
  | 0, _, _, _ => rfl
  | d + 1, args, st, h => (if_neg h : (if args.length = 2 then runB (clN d) 3 b__law_figure args st else Res.stuck) = .stuck)
theorem st__law_draws : ∀ (d : Nat) (args : List Val) (st : Store), args.length ≠ [("_law_script" : Str), ("_law_at" : Str), ("_law_limits" : Str)].length → clN d 7 args st = .stuck
  | 0, _, _, _ => rfl
  | d + 1, args, st, h => (if_neg h : (if args.length = 3 then runB (clN d) 8 b__law_draws args st else Res.stuck) = .stuck)
theorem st__law_long : ∀ (d : Nat) (args : List Val) (st : Store), args.length ≠ [("_law_script" : Str), ("_law_at" : Str), ("_law_many" : Str)].length → clN d 8 args st = .stuck
  | 0, _, _, _ => rfl
  | d + 1, args, st, h => (if_neg h : (if args.length = 3 then runB (clN d) 10 b__law_long args st else Res.stuck) = .stuck)
theorem st__law_same : ∀ (d : Nat) (args : List Val) (st : Store), args.length ≠ [("_law_found" : Str), ("_law_due" : Str)].length → clN d 9 args st = .stuck
  | 0, _, _, _ => rfl
  | d + 1, args, st, h => (if_neg h : (if args.length = 2 then runB (clN d) 4 b__law_same args st else Res.stuck) = .stuck)
theorem st__law_scale : ∀ (d : Nat) (args : List Val) (st : Store), args.length ≠ [("_law_script" : Str), ("_law_at" : Str)].length → clN d 10 args st = .stuck
  | 0, _, _, _ => rfl
  | d + 1, args, st, h => (if_neg h : (if args.length = 2 then runB (clN d) 4 b__law_scale args st else Res.stuck) = .stuck)
theorem st__law_long_row : ∀ (d : Nat) (args : List Val) (st : Store), args.length ≠ [("_law_script" : Str), ("_law_at" : Str)].length → clN d 11 args st = .stuck
  | 0, _, _, _ => rfl
  | d + 1, args, st, h => (if_neg h : (if args.length = 2 then runB (clN d) 7 b__law_long_row args st else Res.stuck) = .stuck)
theorem st__law_cell : ∀ (d : Nat) (args : List Val) (st : Store), args.length ≠ [("_law_entries" : Str), ("_law_place" : Str)].length → clN d 12 args st = .stuck
  | 0, _, _, _ => rfl
  | d + 1, args, st, h => (if_neg h : (if args.length = 2 then runB (clN d) 5 b__law_cell args st else Res.stuck) = .stuck)
theorem st__law_shaped : ∀ (d : Nat) (args : List Val) (st : Store), args.length ≠ [("_law_row" : Str)].length → clN d 13 args st = .stuck
  | 0, _, _, _ => rfl
  | d + 1, args, st, h => (if_neg h : (if args.length = 1 then runB (clN d) 3 b__law_shaped args st else Res.stuck) = .stuck)
theorem st_State_init : ∀ (d : Nat) (args : List Val) (st : Store), args.length ≠ [("self" : Str), ("places" : Str), ("numbers" : Str), ("arrays" : Str)].length → clN d 15 args st = .stuck
  | 0, _, _, _ => rfl
  | d + 1, args, st, h => (if_neg h : (if args.length = 4 then runB (clN d) 5 b_State_init args st else Res.stuck) = .stuck)
theorem st_State_arrays : ∀ (d : Nat) (args : List Val) (st : Store), args.length ≠ [("self" : Str)].length → clN d 16 args st = .stuck
  | 0, _, _, _ => rfl
  | d + 1, args, st, h => (if_neg h : (if args.length = 1 then runB (clN d) 2 b_State_arrays args st else Res.stuck) = .stuck)
theorem txt_of {d : Nat} (C : Fac P w K mg) (V : Lev P w K mg base d) : Txt P w K mg base (LL K d) d where
  z := trivial
  f__law_cell := V.L__law_cell.at_ (L := LL K d) (st__law_cell d)
  f__law_draws := V.L__law_draws.at_ (L := LL K d) (st__law_draws d)
  f__law_figure := V.L__law_figure.at_ (L := LL K d) (st__law_figure d)
  f__law_long := V.L__law_long.at_ (L := LL K d) (st__law_long d)
  f__law_long_row := V.L__law_long_row.at_ (L := LL K d) (st__law_long_row d)
  f__law_same := V.L__law_same.at_ (L := LL K d) (st__law_same d)
  f__law_scale := V.L__law_scale.at_ (L := LL K d) (st__law_scale d)
  f__law_shaped := V.L__law_shaped.at_ (L := LL K d) (st__law_shaped d)
  f_check_name := V.L_check_name.at_ (L := LL K d) (st_check_name d)
  f_check_row := V.L_check_row.at_ (L := LL K d) (st_check_row d)
  f_copied := V.L_copied.at_ (L := LL K d) (st_copied d)
  f_is_name := V.L_is_name.at_ (L := LL K d) (st_is_name d)
  f_least_row := V.L_least_row.at_ (L := LL K d) (st_least_row d)
  i_State := by rintro X ⟨rfl, rfl, rfl, rfl, rfl⟩; exact C.i_State
  gl_State := by rintro X ⟨rfl, rfl, rfl, rfl, rfl⟩; exact C.gl_State
  m_State := by rintro X ⟨rfl, rfl, rfl, rfl, rfl⟩; exact C.m_State
  n_State__arrays := by rintro X ⟨rfl, rfl, rfl, rfl, rfl⟩; exact C.n_State__arrays
  n_State__numbers := by rintro X ⟨rfl, rfl, rfl, rfl, rfl⟩; exact C.n_State__numbers
  n_State__places := by rintro X ⟨rfl, rfl, rfl, rfl, rfl⟩; exact C.n_State__places
  d_State_init := FmG.at_ (L := LL K d) V.L_State_init (st_State_init d)
  d_State_arrays := FmG.at_ (L := LL K d) V.L_State_arrays (st_State_arrays d)
  p_State_arrays := by rintro X ⟨rfl, rfl, rfl, rfl, rfl⟩; exact C.p_State_arrays
  g_all := by rintro X ⟨rfl, rfl, rfl, rfl, rfl⟩; exact C.g_all
  g_bool := by rintro X ⟨rfl, rfl, rfl, rfl, rfl⟩; exact C.g_bool
  g_dict := by rintro X ⟨rfl, rfl, rfl, rfl, rfl⟩; exact C.g_dict
  g_int := by rintro X ⟨rfl, rfl, rfl, rfl, rfl⟩; exact C.g_int
  g_isinstance := by rintro X ⟨rfl, rfl, rfl, rfl, rfl⟩; exact C.g_isinstance
  g_len := by rintro X ⟨rfl, rfl, rfl, rfl, rfl⟩; exact C.g_len
  g_list := by rintro X ⟨rfl, rfl, rfl, rfl, rfl⟩; exact C.g_list
  g_range := by rintro X ⟨rfl, rfl, rfl, rfl, rfl⟩; exact C.g_range
  g_sorted := by rintro X ⟨rfl, rfl, rfl, rfl, rfl⟩; exact C.g_sorted
  g_str := by rintro X ⟨rfl, rfl, rfl, rfl, rfl⟩; exact C.g_str
  g_tuple := by rintro X ⟨rfl, rfl, rfl, rfl, rfl⟩; exact C.g_tuple
  e_InvalidName := by
    obtain ⟨h1, h2, fd, h3⟩ := C.e_InvalidName
    exact err_at h1 rfl h2 h3 ⟨rfl, rfl, rfl, by decide +kernel, rfl, by decide +kernel, by decide +kernel⟩ fun _ _ _ _ _ _ us hl => match us, hl with | [_, _], _ => rfl
  e_InvalidRow := by
    obtain ⟨h1, h2, fd, h3⟩ := C.e_InvalidRow
    exact err_at h1 rfl h2 h3 ⟨rfl, rfl, rfl, by decide +kernel, rfl, by decide +kernel, by decide +kernel⟩ fun _ _ _ _ _ _ us hl => match us, hl with | [_, _], _ => rfl
theorem lev0 (C : Fac P w K mg) : Lev P w K mg base 0 where
  L_is_name := by
    obtain ⟨a, fd, B⟩ := C.B_is_name
    exact FnG.zero (k := 1) B sc_is_name fun _ _ => rfl
  L_copied := by
    obtain ⟨a, fd, B⟩ := C.B_copied
    exact FnG.zero (k := 1) B sc_copied fun _ _ => rfl
  L_check_name := by
    obtain ⟨a, fd, B⟩ := C.B_check_name
    exact FnG.zero (k := 1) B sc_check_name fun _ _ => rfl
  L_check_row := by
    obtain ⟨a, fd, B⟩ := C.B_check_row
    exact FnG.zero (k := 1) B sc_check_row fun _ _ => rfl
  L_least_row := by
    obtain ⟨a, fd, B⟩ := C.B_least_row
    exact FnG.zero (k := 1) B sc_least_row fun _ _ => rfl
  L__law_figure := by
    obtain ⟨a, fd, B⟩ := C.B__law_figure
    exact FnG.zero (k := 1) B sc__law_figure fun _ _ => rfl
  L__law_draws := by
    obtain ⟨a, fd, B⟩ := C.B__law_draws
    exact FnG.zero (k := 1) B sc__law_draws fun _ _ => rfl
  L__law_long := by
    obtain ⟨a, fd, B⟩ := C.B__law_long
    exact FnG.zero (k := 1) B sc__law_long fun _ _ => rfl
  L__law_same := by
    obtain ⟨a, fd, B⟩ := C.B__law_same
    exact FnG.zero (k := 1) B sc__law_same fun _ _ => rfl
  L__law_scale := by
    obtain ⟨a, fd, B⟩ := C.B__law_scale
    exact FnG.zero (k := 1) B sc__law_scale fun _ _ => rfl
  L__law_long_row := by
    obtain ⟨a, fd, B⟩ := C.B__law_long_row
    exact FnG.zero (k := 1) B sc__law_long_row fun _ _ => rfl
  L__law_cell := by
    obtain ⟨a, fd, B⟩ := C.B__law_cell
    exact FnG.zero (k := 1) B sc__law_cell fun _ _ => rfl
  L__law_shaped := by
    obtain ⟨a, fd, B⟩ := C.B__law_shaped
    exact FnG.zero (k := 1) B sc__law_shaped fun _ _ => rfl
  L_law := by
    obtain ⟨a, fd, B⟩ := C.B_law
    exact FnG.zero (k := 1) B sc_law fun _ _ => rfl
  L_State_init := by
    obtain ⟨fd, B⟩ := C.B_State_init
    exact FmG.zero (k := 1) B sc_State_init fun _ _ => rfl
  L_State_arrays := by
    obtain ⟨fd, B⟩ := C.B_State_arrays
    exact FmG.zero (k := 1) B sc_State_arrays fun _ _ => rfl
theorem levS {d : Nat} (C : Fac P w K mg) (V : Lev P w K mg base d) : Lev P w K mg base (d + 1) where
  L_is_name := by
    obtain ⟨a, fd, B⟩ := C.B_is_name
    exact FnG.succ (L := LL K d) (k := 2 * d + 3) B sc_is_name (fun _ _ => rfl) fun cdv A outer s H E hr => h_is_name (txt_of C V) a cdv A outer s H E hr
  L_copied := by
    obtain ⟨a, fd, B⟩ := C.B_copied
    exact FnG.succ (L := LL K d) (k := 2 * d + 3) B sc_copied (fun _ _ => rfl) fun cdv A outer s H E hr => h_copied (txt_of C V) a cdv A outer s H E hr
  L_check_name := by
    obtain ⟨a, fd, B⟩ := C.B_check_name
    exact FnG.succ (L := LL K d) (k := 2 * d + 3) B sc_check_name (fun _ _ => rfl) fun cdv A outer s H E hr => h_check_name (txt_of C V) a cdv A outer s H E hr
  L_check_row := by
    obtain ⟨a, fd, B⟩ := C.B_check_row
    exact FnG.succ (L := LL K d) (k := 2 * d + 3) B sc_check_row (fun _ _ => rfl) fun cdv A outer s H E hr => h_check_row (txt_of C V) a cdv A outer s H E hr
  L_least_row := by
    obtain ⟨a, fd, B⟩ := C.B_least_row
    exact FnG.succ (L := LL K d) (k := 2 * d + 3) B sc_least_row (fun _ _ => rfl) fun cdv A outer s H E hr => h_least_row (txt_of C V) a cdv A outer s H E hr
  L__law_figure := by
    obtain ⟨a, fd, B⟩ := C.B__law_figure
    exact FnG.succ (L := LL K d) (k := 2 * d + 3) B sc__law_figure (fun _ _ => rfl) fun cdv A outer s H E hr => h__law_figure (txt_of C V) a cdv A outer s H E hr
  L__law_draws := by
    obtain ⟨a, fd, B⟩ := C.B__law_draws
    exact FnG.succ (L := LL K d) (k := 2 * d + 3) B sc__law_draws (fun _ _ => rfl) fun cdv A outer s H E hr => h__law_draws (txt_of C V) a cdv A outer s H E hr
  L__law_long := by
    obtain ⟨a, fd, B⟩ := C.B__law_long
    exact FnG.succ (L := LL K d) (k := 2 * d + 3) B sc__law_long (fun _ _ => rfl) fun cdv A outer s H E hr => h__law_long (txt_of C V) a cdv A outer s H E hr
  L__law_same := by
    obtain ⟨a, fd, B⟩ := C.B__law_same
    exact FnG.succ (L := LL K d) (k := 2 * d + 3) B sc__law_same (fun _ _ => rfl) fun cdv A outer s H E hr => h__law_same (txt_of C V) a cdv A outer s H E hr
  L__law_scale := by
    obtain ⟨a, fd, B⟩ := C.B__law_scale
    exact FnG.succ (L := LL K d) (k := 2 * d + 3) B sc__law_scale (fun _ _ => rfl) fun cdv A outer s H E hr => h__law_scale (txt_of C V) a cdv A outer s H E hr
  L__law_long_row := by
    obtain ⟨a, fd, B⟩ := C.B__law_long_row
    exact FnG.succ (L := LL K d) (k := 2 * d + 3) B sc__law_long_row (fun _ _ => rfl) fun cdv A outer s H E hr => h__law_long_row (txt_of C V) a cdv A outer s H E hr
  L__law_cell := by
    obtain ⟨a, fd, B⟩ := C.B__law_cell
    exact FnG.succ (L := LL K d) (k := 2 * d + 3) B sc__law_cell (fun _ _ => rfl) fun cdv A outer s H E hr => h__law_cell (txt_of C V) a cdv A outer s H E hr
  L__law_shaped := by
    obtain ⟨a, fd, B⟩ := C.B__law_shaped
    exact FnG.succ (L := LL K d) (k := 2 * d + 3) B sc__law_shaped (fun _ _ => rfl) fun cdv A outer s H E hr => h__law_shaped (txt_of C V) a cdv A outer s H E hr
  L_law := by
    obtain ⟨a, fd, B⟩ := C.B_law
    exact FnG.succ (L := LL K d) (k := 2 * d + 3) B sc_law (fun _ _ => rfl) fun cdv A outer s H E hr => h_law (txt_of C V) a cdv A outer s H E hr
  L_State_init := by
    obtain ⟨fd, B⟩ := C.B_State_init
    exact FmG.succ (L := LL K d) (k := 2 * d + 3) B sc_State_init (fun _ _ => rfl) fun cdv A outer s H E hr => h_State_init (txt_of C V) _ cdv A outer s H E hr
  L_State_arrays := by
    obtain ⟨fd, B⟩ := C.B_State_arrays
    exact FmG.succ (L := LL K d) (k := 2 * d + 3) B sc_State_arrays (fun _ _ => rfl) fun cdv A outer s H E hr => h_State_arrays (txt_of C V) _ cdv A outer s H E hr
theorem lev (C : Fac P w K mg) : ∀ d, Lev P w K mg base d
  | 0 => lev0 C
  | d + 1 => levS C (lev C d)
theorem law_ok {a : Addr} {fd : FuncData} (C : Fac P w K mg) (B : FnB K mg "law" [("_law_script" : Str)] s_law a fd) (D : Nat) : FnOk P w K mg base (L2.CX P w) (2 * D + 4) a fd [("_law_script" : Str)] (spM K (CAof K) 1 (clN (D + 1) 14)) :=
  fn_okD (L := LL K D) (k := 2 * D + 3) B.F sc_law (fun _ _ => rfl) fun cdv A outer s H E hr => h_law (txt_of C (lev C D)) a cdv A outer s H E hr
theorem law_fin {w : World} (C : Fac P w K mg) {fa : Addr} (hmg : mg "law" = some (.ref fa)) (D : Nat) : ∃ fd : FuncData, (∀ (s : Shared) (u : Value), BindsTo s fd ⟨[u], []⟩ [(("_law_script" : Str), u)]) ∧ ∀ base : Heap, FnOk P w K mg base (L2.CX P w) (2 * D + 4) fa fd [("_law_script" : Str)] (spM K (CAof K) 1 (clN (D + 1) 14)) := by
  obtain ⟨a, fd, B⟩ := C.B_law
  have e := hmg.symm.trans B.gl
  cases e
  exact ⟨fd, fun s v => B.bA s [v] rfl, fun base => law_ok C B D⟩
end
def fn : List He.DefD := [defD (("is_name" : Str), none) ("is_name" : Str) ("is_name" : Str) s_is_name, defD (("copied" : Str), none) ("copied" : Str) ("copied" : Str) s_copied, defD (("check_name" : Str), none) ("check_name" : Str) ("check_name" : Str) s_check_name, defD (("check_row" : Str), none) ("check_row" : Str) ("check_row" : Str) s_check_row, defD (("least_row" : Str), none) ("least_row" : Str) ("least_row" : Str) s_least_row, defD (("_law_figure" : Str), none) ("_law_figure" : Str) ("_law_figure" : Str) s__law_figure, defD (("_law_draws" : Str), none) ("_law_draws" : Str) ("_law_draws" : Str) s__law_draws, defD (("_law_long" : Str), none) ("_law_long" : Str) ("_law_long" : Str) s__law_long, defD (("_law_same" : Str), none) ("_law_same" : Str) ("_law_same" : Str) s__law_same, defD (("_law_scale" : Str), none) ("_law_scale" : Str) ("_law_scale" : Str) s__law_scale, defD (("_law_long_row" : Str), none) ("_law_long_row" : Str) ("_law_long_row" : Str) s__law_long_row, defD (("_law_cell" : Str), none) ("_law_cell" : Str) ("_law_cell" : Str) s__law_cell, defD (("_law_shaped" : Str), none) ("_law_shaped" : Str) ("_law_shaped" : Str) s__law_shaped, defD (("law" : Str), none) ("law" : Str) ("law" : Str) s_law, defD (("State" : Str), some ("__init__" : Str)) ("__init__" : Str) ("State.__init__" : Str) s_State_init, defD (("InvalidName" : Str), some "__init__") "__init__" ("CellError.__init__" : Str) si_InvalidName, defD (("InvalidRow" : Str), some "__init__") "__init__" ("CellError.__init__" : Str) si_InvalidRow]
def prs : List PrD := [⟨(("State" : Str), ("arrays" : Str)), ("arrays" : Str), ("State.arrays" : Str), s_State_arrays⟩]
def fa : List He.Fa := [.glo ("is_name" : Str), .glo ("copied" : Str), .glo ("check_name" : Str), .glo ("check_row" : Str), .glo ("least_row" : Str), .glo ("_law_figure" : Str), .glo ("_law_draws" : Str), .glo ("_law_long" : Str), .glo ("_law_same" : Str), .glo ("_law_scale" : Str), .glo ("_law_long_row" : Str), .glo ("_law_cell" : Str), .glo ("_law_shaped" : Str), .glo ("law" : Str), .free ("all" : Str), .free ("bool" : Str), .free ("dict" : Str), .free ("int" : Str), .free ("isinstance" : Str), .free ("len" : Str), .free ("list" : Str), .free ("range" : Str), .free ("sorted" : Str), .free ("str" : Str), .free ("tuple" : Str), .glo ("InvalidName" : Str), .glo ("InvalidRow" : Str), .cls ("State" : Str), .glo ("State" : Str), .mkr ("State" : Str), .noat ("State" : Str) ("_arrays" : Str), .noat ("State" : Str) ("_numbers" : Str), .noat ("State" : Str) ("_places" : Str)]
def ts : List He.Tab := []
def exs : List (PySem.W.Frag → Bool) := [(fun K => errB K ("InvalidName" : Str)), (fun K => errB K ("InvalidRow" : Str)), (fun K => propB K (("State" : Str), ("arrays" : Str)) ("State.arrays" : Str))]
def ex (K : PySem.W.Frag) : Bool := exs.all fun f => f K
theorem ex_at {K : PySem.W.Frag} (h : ex K = true) (i : Nat) {f : PySem.W.Frag → Bool} (e : exs[i]? = some f) : f K = true := List.all_eq_true.mp h f (List.mem_of_getElem? e)
theorem facts {P : Program} {w : World} {K : PySem.W.Frag} {h : Heap} {mg : Str → Option Value} (X : K.In h) (G : h.Ns mainGlobals mg) (c : He.SaysT fa fn ts w K) (c2 : ex K = true) (c3 : prs.map (fun d => fnP K d.at_) = prs.map PrD.val) : Fac P w K mg where
  z := trivial
  B_State_init := by
    obtain ⟨fd, F⟩ := c.d.def_ 14 (d := defD (("State" : Str), some ("__init__" : Str)) ("__init__" : Str) ("State.__init__" : Str) s_State_init) rfl
    exact ⟨fd, fmB_of F (fun _ _ _ _ _ _ us hl => match us, hl with | [_, _, _, _], _ => rfl)⟩
  B_State_arrays := by
    obtain ⟨fd, F⟩ := propD_of (d := ⟨(("State" : Str), ("arrays" : Str)), ("arrays" : Str), ("State.arrays" : Str), s_State_arrays⟩) (ex_at c2 2 rfl) (prs_at c3 0 rfl)
    exact ⟨fd, fmB_of F (fun _ _ _ _ _ _ us hl => match us, hl with | [_], _ => rfl)⟩
  p_State_arrays := prop_of (ex_at c2 2 rfl)
  i_State := He.cls_ok (c.d.fact 27 (f := .cls ("State" : Str)) rfl)
  gl_State := He.glo_ok X G (c.d.fact 28 (f := .glo ("State" : Str)) rfl)
  m_State := He.mkr_ok (c.d.fact 29 (f := .mkr ("State" : Str)) rfl)
  n_State__arrays := He.noat_ok (c.d.fact 30 (f := .noat ("State" : Str) ("_arrays" : Str)) rfl)
  n_State__numbers := He.noat_ok (c.d.fact 31 (f := .noat ("State" : Str) ("_numbers" : Str)) rfl)
  n_State__places := He.noat_ok (c.d.fact 32 (f := .noat ("State" : Str) ("_places" : Str)) rfl)
  B_is_name := by
    obtain ⟨fd, F⟩ := c.d.def_ 0 (d := defD (("is_name" : Str), none) ("is_name" : Str) ("is_name" : Str) s_is_name) rfl
    exact ⟨_, fd, fnB_of (He.glo_ok X G (c.d.fact 0 (f := .glo ("is_name" : Str)) rfl)) F (fun _ _ _ _ _ _ us hl => match us, hl with | [_], _ => rfl) (fun _ _ _ _ _ _ us hl => match us, hl with | [_], _ => rfl)⟩
  B_copied := by
    obtain ⟨fd, F⟩ := c.d.def_ 1 (d := defD (("copied" : Str), none) ("copied" : Str) ("copied" : Str) s_copied) rfl
    exact ⟨_, fd, fnB_of (He.glo_ok X G (c.d.fact 1 (f := .glo ("copied" : Str)) rfl)) F (fun _ _ _ _ _ _ us hl => match us, hl with | [_], _ => rfl) (fun _ _ _ _ _ _ us hl => match us, hl with | [_], _ => rfl)⟩
  B_check_name := by
    obtain ⟨fd, F⟩ := c.d.def_ 2 (d := defD (("check_name" : Str), none) ("check_name" : Str) ("check_name" : Str) s_check_name) rfl
    exact ⟨_, fd, fnB_of (He.glo_ok X G (c.d.fact 2 (f := .glo ("check_name" : Str)) rfl)) F (fun _ _ _ _ _ _ us hl => match us, hl with | [_], _ => rfl) (fun _ _ _ _ _ _ us hl => match us, hl with | [_], _ => rfl)⟩
  B_check_row := by
    obtain ⟨fd, F⟩ := c.d.def_ 3 (d := defD (("check_row" : Str), none) ("check_row" : Str) ("check_row" : Str) s_check_row) rfl
    exact ⟨_, fd, fnB_of (He.glo_ok X G (c.d.fact 3 (f := .glo ("check_row" : Str)) rfl)) F (fun _ _ _ _ _ _ us hl => match us, hl with | [_], _ => rfl) (fun _ _ _ _ _ _ us hl => match us, hl with | [_], _ => rfl)⟩
  B_least_row := by
    obtain ⟨fd, F⟩ := c.d.def_ 4 (d := defD (("least_row" : Str), none) ("least_row" : Str) ("least_row" : Str) s_least_row) rfl
    exact ⟨_, fd, fnB_of (He.glo_ok X G (c.d.fact 4 (f := .glo ("least_row" : Str)) rfl)) F (fun _ _ _ _ _ _ us hl => match us, hl with | [_], _ => rfl) (fun _ _ _ _ _ _ us hl => match us, hl with | [_], _ => rfl)⟩
  B__law_figure := by
    obtain ⟨fd, F⟩ := c.d.def_ 5 (d := defD (("_law_figure" : Str), none) ("_law_figure" : Str) ("_law_figure" : Str) s__law_figure) rfl
    exact ⟨_, fd, fnB_of (He.glo_ok X G (c.d.fact 5 (f := .glo ("_law_figure" : Str)) rfl)) F (fun _ _ _ _ _ _ us hl => match us, hl with | [_, _], _ => rfl) (fun _ _ _ _ _ _ us hl => match us, hl with | [_, _], _ => rfl)⟩
  B__law_draws := by
    obtain ⟨fd, F⟩ := c.d.def_ 6 (d := defD (("_law_draws" : Str), none) ("_law_draws" : Str) ("_law_draws" : Str) s__law_draws) rfl
    exact ⟨_, fd, fnB_of (He.glo_ok X G (c.d.fact 6 (f := .glo ("_law_draws" : Str)) rfl)) F (fun _ _ _ _ _ _ us hl => match us, hl with | [_, _, _], _ => rfl) (fun _ _ _ _ _ _ us hl => match us, hl with | [_, _, _], _ => rfl)⟩
  B__law_long := by
    obtain ⟨fd, F⟩ := c.d.def_ 7 (d := defD (("_law_long" : Str), none) ("_law_long" : Str) ("_law_long" : Str) s__law_long) rfl
    exact ⟨_, fd, fnB_of (He.glo_ok X G (c.d.fact 7 (f := .glo ("_law_long" : Str)) rfl)) F (fun _ _ _ _ _ _ us hl => match us, hl with | [_, _, _], _ => rfl) (fun _ _ _ _ _ _ us hl => match us, hl with | [_, _, _], _ => rfl)⟩
  B__law_same := by
    obtain ⟨fd, F⟩ := c.d.def_ 8 (d := defD (("_law_same" : Str), none) ("_law_same" : Str) ("_law_same" : Str) s__law_same) rfl
    exact ⟨_, fd, fnB_of (He.glo_ok X G (c.d.fact 8 (f := .glo ("_law_same" : Str)) rfl)) F (fun _ _ _ _ _ _ us hl => match us, hl with | [_, _], _ => rfl) (fun _ _ _ _ _ _ us hl => match us, hl with | [_, _], _ => rfl)⟩
  B__law_scale := by
    obtain ⟨fd, F⟩ := c.d.def_ 9 (d := defD (("_law_scale" : Str), none) ("_law_scale" : Str) ("_law_scale" : Str) s__law_scale) rfl
    exact ⟨_, fd, fnB_of (He.glo_ok X G (c.d.fact 9 (f := .glo ("_law_scale" : Str)) rfl)) F (fun _ _ _ _ _ _ us hl => match us, hl with | [_, _], _ => rfl) (fun _ _ _ _ _ _ us hl => match us, hl with | [_, _], _ => rfl)⟩
  B__law_long_row := by
    obtain ⟨fd, F⟩ := c.d.def_ 10 (d := defD (("_law_long_row" : Str), none) ("_law_long_row" : Str) ("_law_long_row" : Str) s__law_long_row) rfl
    exact ⟨_, fd, fnB_of (He.glo_ok X G (c.d.fact 10 (f := .glo ("_law_long_row" : Str)) rfl)) F (fun _ _ _ _ _ _ us hl => match us, hl with | [_, _], _ => rfl) (fun _ _ _ _ _ _ us hl => match us, hl with | [_, _], _ => rfl)⟩
  B__law_cell := by
    obtain ⟨fd, F⟩ := c.d.def_ 11 (d := defD (("_law_cell" : Str), none) ("_law_cell" : Str) ("_law_cell" : Str) s__law_cell) rfl
    exact ⟨_, fd, fnB_of (He.glo_ok X G (c.d.fact 11 (f := .glo ("_law_cell" : Str)) rfl)) F (fun _ _ _ _ _ _ us hl => match us, hl with | [_, _], _ => rfl) (fun _ _ _ _ _ _ us hl => match us, hl with | [_, _], _ => rfl)⟩
  B__law_shaped := by
    obtain ⟨fd, F⟩ := c.d.def_ 12 (d := defD (("_law_shaped" : Str), none) ("_law_shaped" : Str) ("_law_shaped" : Str) s__law_shaped) rfl
    exact ⟨_, fd, fnB_of (He.glo_ok X G (c.d.fact 12 (f := .glo ("_law_shaped" : Str)) rfl)) F (fun _ _ _ _ _ _ us hl => match us, hl with | [_], _ => rfl) (fun _ _ _ _ _ _ us hl => match us, hl with | [_], _ => rfl)⟩
  B_law := by
    obtain ⟨fd, F⟩ := c.d.def_ 13 (d := defD (("law" : Str), none) ("law" : Str) ("law" : Str) s_law) rfl
    exact ⟨_, fd, fnB_of (He.glo_ok X G (c.d.fact 13 (f := .glo ("law" : Str)) rfl)) F (fun _ _ _ _ _ _ us hl => match us, hl with | [_], _ => rfl) (fun _ _ _ _ _ _ us hl => match us, hl with | [_], _ => rfl)⟩
  g_all := He.free_ok X G (c.d.fact 14 (f := .free ("all" : Str)) rfl)
  g_bool := He.free_ok X G (c.d.fact 15 (f := .free ("bool" : Str)) rfl)
  g_dict := He.free_ok X G (c.d.fact 16 (f := .free ("dict" : Str)) rfl)
  g_int := He.free_ok X G (c.d.fact 17 (f := .free ("int" : Str)) rfl)
  g_isinstance := He.free_ok X G (c.d.fact 18 (f := .free ("isinstance" : Str)) rfl)
  g_len := He.free_ok X G (c.d.fact 19 (f := .free ("len" : Str)) rfl)
  g_list := He.free_ok X G (c.d.fact 20 (f := .free ("list" : Str)) rfl)
  g_range := He.free_ok X G (c.d.fact 21 (f := .free ("range" : Str)) rfl)
  g_sorted := He.free_ok X G (c.d.fact 22 (f := .free ("sorted" : Str)) rfl)
  g_str := He.free_ok X G (c.d.fact 23 (f := .free ("str" : Str)) rfl)
  g_tuple := He.free_ok X G (c.d.fact 24 (f := .free ("tuple" : Str)) rfl)
  e_InvalidName := ⟨errB_ok (ex_at c2 0 rfl), He.glo_ok X G (c.d.fact 25 (f := .glo ("InvalidName" : Str)) rfl), c.d.def_ 15 (d := defD (("InvalidName" : Str), some "__init__") "__init__" ("CellError.__init__" : Str) si_InvalidName) rfl⟩
  e_InvalidRow := ⟨errB_ok (ex_at c2 1 rfl), He.glo_ok X G (c.d.fact 26 (f := .glo ("InvalidRow" : Str)) rfl), c.d.def_ 16 (d := defD (("InvalidRow" : Str), some "__init__") "__init__" ("CellError.__init__" : Str) si_InvalidRow) rfl⟩
end EVL

/-! ## R1 -/
set_option maxRecDepth 10000
set_option maxHeartbeats 800000
namespace EVL
open PySem L2 EV
theorem figure_ok {d n : Nat} {st : Store} {ns : List Int} {p : Int} (hs : lstAt st n = some (ns.map .int)) (hp : 0 ≤ p) : wr (clN (d + 1) id__law_figure [.ref n, .int p] st) (fun v st' => st = st' ∧ ∃ k : Int, v = .int k ∧ 0 ≤ k) noX := by
  show wr (runB (clN d) 3 b__law_figure [.ref n, .int p] st) _ noX
  unfold b__law_figure
  rw [w_run]
  refine w_cut (fun ρ st' => st = st' ∧ ρ = [some (.ref n), some (.int p), some (.int 0)]) (by rw [w_set, w_con]; exact ⟨rfl, rfl⟩) ?_
  rintro _ _ ⟨rfl, rfl⟩
  refine w_cut (fun ρ st2 => st = st2 ∧ ∃ k : Int, ρ = [some (.ref n), some (.int p), some (.int k)]) ?_ ?_
  · simp only [w_varM, w_con, w_bin, w_neg, w_not, w_and, w_or, w_cmp, w_chain, w_ife, w_call, w_callp, w_star, w_blt, w_mth, w_idx, w_slc, w_lst, w_tup, w_tab, w_tin, w_dnew, w_rev, w_lc, w_lsc, w_dc, w_disp, w_get, w_fld, w_mk, w_meth, w_prop, w_nil, w_cons, w_onone, w_osome, w_tnone, w_tsome, w_tnot, w_tand, w_tor, w_tval, w_iex, w_irng1, w_irng2, w_irng3, w_izip, w_run, w_snil, w_scons, w_set, w_unp, w_seti, w_setf, w_exp, w_ret, w_retn, w_pass, w_ifs, w_loop, w_rais, w_try, wr_ok, wr_some, wr_none, wr_stuck, wr_bind, wr_quiet, wr_lift_ite, wr_ite, wo_ite, wo_next, wo_ret, wo_brk, wo_cnt, o_add, o_sub, o_mul, o_fdiv, o_mod, o_pow, o_neg, o_lt, o_le, o_gt, o_ge, o_eq, o_ne, o_eqs, o_nes, o_isB, o_notB, o_tbl, o_int, o_lst, decide_eq_true_eq, Bool.not_eq_true', decide_eq_false_iff_not, beq_iff_eq, List.map_cons, List.map_nil, List.length_cons, List.length_nil, List.replicate_succ, List.replicate_zero, List.cons_append, List.nil_append, List.getElem?_cons_zero, List.getElem?_cons_succ, List.set_cons_zero, List.set_cons_succ, Nat.reduceSub, Nat.reduceAdd, Nat.zero_add, Option.map_some, Option.map_none, c_na10, o_rng1, len_rng, len_lst, len_tup, Int.toNat_natCast, Int.reduceToNat, Int.reduceLE, Int.reduceLT, Nat.reducePow, Nat.reduceLT, and_self, if_true, if_false, ite_true, ite_false, true_and, and_true, reduceIte, o_len hs, o_idx hs, List.length_map]
    split
    · rename_i h
      obtain ⟨k, rfl⟩ : ∃ k : Nat, p = k := ⟨p.toNat, by omega⟩
      have hk : k < ns.length := by omega
      rw [ix_at (List.getElem?_eq_getElem hk)]
      simp only [w_varM, w_con, w_bin, w_neg, w_not, w_and, w_or, w_cmp, w_chain, w_ife, w_call, w_callp, w_star, w_blt, w_mth, w_idx, w_slc, w_lst, w_tup, w_tab, w_tin, w_dnew, w_rev, w_lc, w_lsc, w_dc, w_disp, w_get, w_fld, w_mk, w_meth, w_prop, w_nil, w_cons, w_onone, w_osome, w_tnone, w_tsome, w_tnot, w_tand, w_tor, w_tval, w_iex, w_irng1, w_irng2, w_irng3, w_izip, w_run, w_snil, w_scons, w_set, w_unp, w_seti, w_setf, w_exp, w_ret, w_retn, w_pass, w_ifs, w_loop, w_rais, w_try, wr_ok, wr_some, wr_none, wr_stuck, wr_bind, wr_quiet, wr_lift_ite, wr_ite, wo_ite, wo_next, wo_ret, wo_brk, wo_cnt, o_add, o_sub, o_mul, o_fdiv, o_mod, o_pow, o_neg, o_lt, o_le, o_gt, o_ge, o_eq, o_ne, o_eqs, o_nes, o_isB, o_notB, o_tbl, o_int, o_lst, decide_eq_true_eq, Bool.not_eq_true', decide_eq_false_iff_not, beq_iff_eq, List.map_cons, List.map_nil, List.length_cons, List.length_nil, List.replicate_succ, List.replicate_zero, List.cons_append, List.nil_append, List.getElem?_cons_zero, List.getElem?_cons_succ, List.set_cons_zero, List.set_cons_succ, Nat.reduceSub, Nat.reduceAdd, Nat.zero_add, Option.map_some, Option.map_none, c_na10, o_rng1, len_rng, len_lst, len_tup, Int.toNat_natCast, Int.reduceToNat, Int.reduceLE, Int.reduceLT, Nat.reducePow, Nat.reduceLT, and_self, if_true, if_false, ite_true, ite_false, true_and, and_true, reduceIte]
      exact ⟨_, rfl⟩
    · exact ⟨_, rfl⟩
  · rintro _ _ ⟨rfl, k, rfl⟩
    refine w_cut (fun ρ st2 => st = st2 ∧ ∃ k : Int, ρ = [some (.ref n), some (.int p), some (.int k)]) ?_ ?_
    · simp only [w_varM, w_con, w_bin, w_neg, w_not, w_and, w_or, w_cmp, w_chain, w_ife, w_call, w_callp, w_star, w_blt, w_mth, w_idx, w_slc, w_lst, w_tup, w_tab, w_tin, w_dnew, w_rev, w_lc, w_lsc, w_dc, w_disp, w_get, w_fld, w_mk, w_meth, w_prop, w_nil, w_cons, w_onone, w_osome, w_tnone, w_tsome, w_tnot, w_tand, w_tor, w_tval, w_iex, w_irng1, w_irng2, w_irng3, w_izip, w_run, w_snil, w_scons, w_set, w_unp, w_seti, w_setf, w_exp, w_ret, w_retn, w_pass, w_ifs, w_loop, w_rais, w_try, wr_ok, wr_some, wr_none, wr_stuck, wr_bind, wr_quiet, wr_lift_ite, wr_ite, wo_ite, wo_next, wo_ret, wo_brk, wo_cnt, o_add, o_sub, o_mul, o_fdiv, o_mod, o_pow, o_neg, o_lt, o_le, o_gt, o_ge, o_eq, o_ne, o_eqs, o_nes, o_isB, o_notB, o_tbl, o_int, o_lst, decide_eq_true_eq, Bool.not_eq_true', decide_eq_false_iff_not, beq_iff_eq, List.map_cons, List.map_nil, List.length_cons, List.length_nil, List.replicate_succ, List.replicate_zero, List.cons_append, List.nil_append, List.getElem?_cons_zero, List.getElem?_cons_succ, List.set_cons_zero, List.set_cons_succ, Nat.reduceSub, Nat.reduceAdd, Nat.zero_add, Option.map_some, Option.map_none, c_na10, o_rng1, len_rng, len_lst, len_tup, Int.toNat_natCast, Int.reduceToNat, Int.reduceLE, Int.reduceLT, Nat.reducePow, Nat.reduceLT, and_self, if_true, if_false, ite_true, ite_false, true_and, and_true, reduceIte, mulOk_l (show -(2 ^ 64) < (2 : Int) ∧ (2 : Int) < 2 ^ 64 by decide)]
      split <;> exact ⟨_, rfl⟩
    · rintro _ _ ⟨rfl, k, rfl⟩
      simp only [w_varM, w_con, w_bin, w_neg, w_not, w_and, w_or, w_cmp, w_chain, w_ife, w_call, w_callp, w_star, w_blt, w_mth, w_idx, w_slc, w_lst, w_tup, w_tab, w_tin, w_dnew, w_rev, w_lc, w_lsc, w_dc, w_disp, w_get, w_fld, w_mk, w_meth, w_prop, w_nil, w_cons, w_onone, w_osome, w_tnone, w_tsome, w_tnot, w_tand, w_tor, w_tval, w_iex, w_irng1, w_irng2, w_irng3, w_izip, w_run, w_snil, w_scons, w_set, w_unp, w_seti, w_setf, w_exp, w_ret, w_retn, w_pass, w_ifs, w_loop, w_rais, w_try, wr_ok, wr_some, wr_none, wr_stuck, wr_bind, wr_quiet, wr_lift_ite, wr_ite, wo_ite, wo_next, wo_ret, wo_brk, wo_cnt, o_add, o_sub, o_mul, o_fdiv, o_mod, o_pow, o_neg, o_lt, o_le, o_gt, o_ge, o_eq, o_ne, o_eqs, o_nes, o_isB, o_notB, o_tbl, o_int, o_lst, decide_eq_true_eq, Bool.not_eq_true', decide_eq_false_iff_not, beq_iff_eq, List.map_cons, List.map_nil, List.length_cons, List.length_nil, List.replicate_succ, List.replicate_zero, List.cons_append, List.nil_append, List.getElem?_cons_zero, List.getElem?_cons_succ, List.set_cons_zero, List.set_cons_succ, Nat.reduceSub, Nat.reduceAdd, Nat.zero_add, Option.map_some, Option.map_none, c_na10, o_rng1, len_rng, len_lst, len_tup, Int.toNat_natCast, Int.reduceToNat, Int.reduceLE, Int.reduceLT, Nat.reducePow, Nat.reduceLT, and_self, if_true, if_false, ite_true, ite_false, true_and, and_true, reduceIte, c_180.1, c_180.2]
      rw [if_pos (by decide +kernel)]
      exact ⟨_, rfl, Int.emod_nonneg _ (by decide +kernel)⟩
theorem sq_ok (x : Int) : mulOk (x % 2147483587) (x % 2147483587) = true := by
  have a : 0 ≤ x % 2147483587 := Int.emod_nonneg _ (by decide)
  have b : x % 2147483587 < 2147483587 := Int.emod_lt_of_pos _ (by decide)
  exact mulOk_r ⟨by omega, by omega⟩
/-- what is between the turns of _law_draws -/
def DrawsI (st : Store) (n m q : Nat) (p f : Int) (ls : List Int) (i : Nat) (ρ : Fr) (st1 : Store) : Prop := ∃ (k s : Option Val) (r : Int) (acc : List Int), ρ = [some (.ref n), some (.int p), some (.ref m), some (.int f), some (.int r), some (.ref q), k, s] ∧ st <+: st1 ∧ mutAt st1 q = some (acc.map .int) ∧ acc.length = i ∧
    ∀ (i : Nat) (x l : Int), acc[i]? = some x → ls[i]? = some l → 0 ≤ x ∧ x < l
theorem draws_turn {cl : Cl} {st st1 : Store} {n m q i : Nat} {p f r k : Int} {ls : List Int} {s : Option Val} {acc : List Int} {D : En} (hm : lstAt st m = some (ls.map .int)) (hl : ∀ l ∈ ls, 0 < l ∧ l < 2 ^ 62) (hn : ls.length < 100000) (hi : i < ls.length) (hk : k = i) (hq : st.length ≤ q)
    (hpre : st <+: st1) (hacc : mutAt st1 q = some (acc.map .int)) (hal : acc.length = i) (hb : ∀ (i : Nat) (x l : Int), acc[i]? = some x → ls[i]? = some l → 0 ≤ x ∧ x < l) (hD : D.nx = DrawsI st n m q p f ls (i + 1)) :
    wo (EV.exs cl l__law_draws_0 [some (.ref n), some (.int p), some (.ref m), some (.int f), some (.int r), some (.ref q), some (.int k), s] st1) D := by
  unfold l__law_draws_0
  have hm3 : lstAt st1 m = some (ls.map .int) := pre_lst hpre hm
  have hli : ls[i]? = some ls[i] := List.getElem?_eq_getElem hi
  have hix : atI (ls.map Val.int) k = some (.int ls[i]) := by rw [hk]; exact ix_at hli
  have l0 := (hl _ (List.getElem_mem hi)).1
  have l1 := (hl _ (List.getElem_mem hi)).2
  have hi' : k < 100000 := by omega
  have hi0 : 0 ≤ k := by omega
  have m1 : mulOk 2 k = true := mulOk_r ⟨by omega, by omega⟩
  have m2 : mulOk (2 * k) k = true := mulOk_r ⟨by omega, by omega⟩
  have q2 : 2 * k * k < 200000 * 100000 := by
    have a : 2 * k ≤ 200000 := by omega
    have b : 2 * k * k ≤ 200000 * k := Int.mul_le_mul_of_nonneg_right a (by omega)
    omega
  have q3 : 0 ≤ 2 * k * k := Int.mul_nonneg (by omega) (by omega)
  have m3 : mulOk f (30011 + 2 * k * k) = true := mulOk_r ⟨by omega, by omega⟩
  have m4 : mulOk (k + 5) 86028121 = true := mulOk_r ⟨by decide, by decide⟩
  have m5 : mulOk p 15485863 = true := mulOk_r ⟨by decide, by decide⟩
  have m6 : mulOk 611953 k = true := mulOk_r ⟨by omega, by omega⟩
  have f11 : (11 : Int).natAbs.log2 < 9000 := by decide
  have fl := (fd_ok l0 l1).2
  refine w_cut (fun ρ st2 => st1 = st2 ∧ ∃ z : Int, mulOk z z = true ∧ ρ = [some (.ref n), some (.int p), some (.ref m), some (.int f), some (.int r), some (.ref q), some (.int k), some (.int z)]) ?_ ?_
  · simp only [w_varM, w_con, w_bin, w_neg, w_not, w_and, w_or, w_cmp, w_chain, w_ife, w_call, w_callp, w_star, w_blt, w_mth, w_idx, w_slc, w_lst, w_tup, w_tab, w_tin, w_dnew, w_rev, w_lc, w_lsc, w_dc, w_disp, w_get, w_fld, w_mk, w_meth, w_prop, w_nil, w_cons, w_onone, w_osome, w_tnone, w_tsome, w_tnot, w_tand, w_tor, w_tval, w_iex, w_irng1, w_irng2, w_irng3, w_izip, w_run, w_snil, w_scons, w_set, w_unp, w_seti, w_setf, w_exp, w_ret, w_retn, w_pass, w_ifs, w_loop, w_rais, w_try, wr_ok, wr_some, wr_none, wr_stuck, wr_bind, wr_quiet, wr_lift_ite, wr_ite, wo_ite, wo_next, wo_ret, wo_brk, wo_cnt, o_add, o_sub, o_mul, o_fdiv, o_mod, o_pow, o_neg, o_lt, o_le, o_gt, o_ge, o_eq, o_ne, o_eqs, o_nes, o_isB, o_notB, o_tbl, o_int, o_lst, decide_eq_true_eq, Bool.not_eq_true', decide_eq_false_iff_not, beq_iff_eq, List.map_cons, List.map_nil, List.length_cons, List.length_nil, List.replicate_succ, List.replicate_zero, List.cons_append, List.nil_append, List.getElem?_cons_zero, List.getElem?_cons_succ, List.set_cons_zero, List.set_cons_succ, Nat.reduceSub, Nat.reduceAdd, Nat.zero_add, Option.map_some, Option.map_none, c_na10, o_rng1, len_rng, len_lst, len_tup, Int.toNat_natCast, Int.reduceToNat, Int.reduceLE, Int.reduceLT, Nat.reducePow, Nat.reduceLT, and_self, if_true, if_false, ite_true, ite_false, true_and, and_true, reduceIte, m1, m2, m3, m4, m5]
    exact ⟨_, sq_ok _, rfl⟩
  rintro _ _ ⟨rfl, z, m7, rfl⟩
  refine w_cut (fun ρ st2 => st1 = st2 ∧ ∃ z : Int, ρ = [some (.ref n), some (.int p), some (.ref m), some (.int f), some (.int r), some (.ref q), some (.int k), some (.int z)]) ?_ ?_
  · simp only [w_varM, w_con, w_bin, w_neg, w_not, w_and, w_or, w_cmp, w_chain, w_ife, w_call, w_callp, w_star, w_blt, w_mth, w_idx, w_slc, w_lst, w_tup, w_tab, w_tin, w_dnew, w_rev, w_lc, w_lsc, w_dc, w_disp, w_get, w_fld, w_mk, w_meth, w_prop, w_nil, w_cons, w_onone, w_osome, w_tnone, w_tsome, w_tnot, w_tand, w_tor, w_tval, w_iex, w_irng1, w_irng2, w_irng3, w_izip, w_run, w_snil, w_scons, w_set, w_unp, w_seti, w_setf, w_exp, w_ret, w_retn, w_pass, w_ifs, w_loop, w_rais, w_try, wr_ok, wr_some, wr_none, wr_stuck, wr_bind, wr_quiet, wr_lift_ite, wr_ite, wo_ite, wo_next, wo_ret, wo_brk, wo_cnt, o_add, o_sub, o_mul, o_fdiv, o_mod, o_pow, o_neg, o_lt, o_le, o_gt, o_ge, o_eq, o_ne, o_eqs, o_nes, o_isB, o_notB, o_tbl, o_int, o_lst, decide_eq_true_eq, Bool.not_eq_true', decide_eq_false_iff_not, beq_iff_eq, List.map_cons, List.map_nil, List.length_cons, List.length_nil, List.replicate_succ, List.replicate_zero, List.cons_append, List.nil_append, List.getElem?_cons_zero, List.getElem?_cons_succ, List.set_cons_zero, List.set_cons_succ, Nat.reduceSub, Nat.reduceAdd, Nat.zero_add, Option.map_some, Option.map_none, c_na10, o_rng1, len_rng, len_lst, len_tup, Int.toNat_natCast, Int.reduceToNat, Int.reduceLE, Int.reduceLT, Nat.reducePow, Nat.reduceLT, and_self, if_true, if_false, ite_true, ite_false, true_and, and_true, reduceIte, m6, m7, f11]
    exact ⟨_, rfl⟩
  rintro _ _ ⟨rfl, z, rfl⟩
  refine w_cut (fun ρ st2 => st1 = st2 ∧ ∃ z r : Int, ρ = [some (.ref n), some (.int p), some (.ref m), some (.int f), some (.int r), some (.ref q), some (.int k), some (.int z)]) ?_ ?_
  · simp only [w_varM, w_con, w_bin, w_neg, w_not, w_and, w_or, w_cmp, w_chain, w_ife, w_call, w_callp, w_star, w_blt, w_mth, w_idx, w_slc, w_lst, w_tup, w_tab, w_tin, w_dnew, w_rev, w_lc, w_lsc, w_dc, w_disp, w_get, w_fld, w_mk, w_meth, w_prop, w_nil, w_cons, w_onone, w_osome, w_tnone, w_tsome, w_tnot, w_tand, w_tor, w_tval, w_iex, w_irng1, w_irng2, w_irng3, w_izip, w_run, w_snil, w_scons, w_set, w_unp, w_seti, w_setf, w_exp, w_ret, w_retn, w_pass, w_ifs, w_loop, w_rais, w_try, wr_ok, wr_some, wr_none, wr_stuck, wr_bind, wr_quiet, wr_lift_ite, wr_ite, wo_ite, wo_next, wo_ret, wo_brk, wo_cnt, o_add, o_sub, o_mul, o_fdiv, o_mod, o_pow, o_neg, o_lt, o_le, o_gt, o_ge, o_eq, o_ne, o_eqs, o_nes, o_isB, o_notB, o_tbl, o_int, o_lst, decide_eq_true_eq, Bool.not_eq_true', decide_eq_false_iff_not, beq_iff_eq, List.map_cons, List.map_nil, List.length_cons, List.length_nil, List.replicate_succ, List.replicate_zero, List.cons_append, List.nil_append, List.getElem?_cons_zero, List.getElem?_cons_succ, List.set_cons_zero, List.set_cons_succ, Nat.reduceSub, Nat.reduceAdd, Nat.zero_add, Option.map_some, Option.map_none, c_na10, o_rng1, len_rng, len_lst, len_tup, Int.toNat_natCast, Int.reduceToNat, Int.reduceLE, Int.reduceLT, Nat.reducePow, Nat.reduceLT, and_self, if_true, if_false, ite_true, ite_false, true_and, and_true, reduceIte, o_idx hm3, hix, l0, fl]
    split
    · exact ⟨_, _, rfl⟩
    · exact ⟨_, _, rfl⟩
  rintro _ _ ⟨rfl, z, r', rfl⟩
  simp only [w_varM, w_con, w_bin, w_neg, w_not, w_and, w_or, w_cmp, w_chain, w_ife, w_call, w_callp, w_star, w_blt, w_mth, w_idx, w_slc, w_lst, w_tup, w_tab, w_tin, w_dnew, w_rev, w_lc, w_lsc, w_dc, w_disp, w_get, w_fld, w_mk, w_meth, w_prop, w_nil, w_cons, w_onone, w_osome, w_tnone, w_tsome, w_tnot, w_tand, w_tor, w_tval, w_iex, w_irng1, w_irng2, w_irng3, w_izip, w_run, w_snil, w_scons, w_set, w_unp, w_seti, w_setf, w_exp, w_ret, w_retn, w_pass, w_ifs, w_loop, w_rais, w_try, wr_ok, wr_some, wr_none, wr_stuck, wr_bind, wr_quiet, wr_lift_ite, wr_ite, wo_ite, wo_next, wo_ret, wo_brk, wo_cnt, o_add, o_sub, o_mul, o_fdiv, o_mod, o_pow, o_neg, o_lt, o_le, o_gt, o_ge, o_eq, o_ne, o_eqs, o_nes, o_isB, o_notB, o_tbl, o_int, o_lst, decide_eq_true_eq, Bool.not_eq_true', decide_eq_false_iff_not, beq_iff_eq, List.map_cons, List.map_nil, List.length_cons, List.length_nil, List.replicate_succ, List.replicate_zero, List.cons_append, List.nil_append, List.getElem?_cons_zero, List.getElem?_cons_succ, List.set_cons_zero, List.set_cons_succ, Nat.reduceSub, Nat.reduceAdd, Nat.zero_add, Option.map_some, Option.map_none, c_na10, o_rng1, len_rng, len_lst, len_tup, Int.toNat_natCast, Int.reduceToNat, Int.reduceLE, Int.reduceLT, Nat.reducePow, Nat.reduceLT, and_self, if_true, if_false, ite_true, ite_false, true_and, and_true, reduceIte, o_rapp hacc, o_idx hm3, hix, l0, o_app hacc, List.length_map]
  rw [if_pos (by omega), hD]
  have ha : (acc.map Val.int) ++ [Val.int (z % ls[i])] = (acc ++ [z % ls[i]]).map Val.int := by rw [List.map_append]; rfl
  rw [ha]
  refine ⟨_, _, _, _, rfl, pre_set hpre hq, mut_set hacc, by rw [List.length_append, hal]; rfl, ?_⟩
  intro j x l h1 h2
  by_cases hj : j < acc.length
  · rw [List.getElem?_append_left hj] at h1
    exact hb j x l h1 h2
  · have ej : j = i := by
      have q := (List.getElem?_eq_some_iff.mp h1).1
      rw [List.length_append] at q
      have q2 : j < acc.length + 1 := q
      omega
    subst ej
    rw [List.getElem?_append_right (by omega), hal, Nat.sub_self] at h1
    have e1 : z % ls[j] = x := by simpa using h1
    rw [hli] at h2
    have e2 : ls[j] = l := by simpa using h2
    rw [← e1, ← e2]
    exact ⟨Int.emod_nonneg _ (by omega), Int.emod_lt_of_pos _ l0⟩
theorem draws_ok {d n m : Nat} {st : Store} {ns ls : List Int} {p : Int} (hs : lstAt st n = some (ns.map .int)) (hm : lstAt st m = some (ls.map .int)) (hp : 0 ≤ p) (hl : ∀ l ∈ ls, 0 < l ∧ l < 2 ^ 62) (hn : ls.length < 100000) :
    wr (clN (d + 2) id__law_draws [.ref n, .int p, .ref m] st) (fun v st' => st <+: st' ∧ ∃ ds : List Int, v = .ref st.length ∧ st'[st.length]? = some (.lst (ds.map .int)) ∧ ds.length = ls.length ∧ ∀ (i : Nat) (x l : Int), ds[i]? = some x → ls[i]? = some l → 0 ≤ x ∧ x < l) noX := by
  show wr (runB (clN (d + 1)) 8 b__law_draws [.ref n, .int p, .ref m] st) _ noX
  unfold b__law_draws
  rw [w_run]
  refine w_cut (fun ρ st2 => st = st2 ∧ ∃ f : Int, 0 ≤ f ∧ ρ = [some (.ref n), some (.int p), some (.ref m), some (.int f), none, none, none, none]) ?_ ?_
  · simp only [w_varM, w_con, w_bin, w_neg, w_not, w_and, w_or, w_cmp, w_chain, w_ife, w_call, w_callp, w_star, w_blt, w_mth, w_idx, w_slc, w_lst, w_tup, w_tab, w_tin, w_dnew, w_rev, w_lc, w_lsc, w_dc, w_disp, w_get, w_fld, w_mk, w_meth, w_prop, w_nil, w_cons, w_onone, w_osome, w_tnone, w_tsome, w_tnot, w_tand, w_tor, w_tval, w_iex, w_irng1, w_irng2, w_irng3, w_izip, w_run, w_snil, w_scons, w_set, w_unp, w_seti, w_setf, w_exp, w_ret, w_retn, w_pass, w_ifs, w_loop, w_rais, w_try, wr_ok, wr_some, wr_none, wr_stuck, wr_bind, wr_quiet, wr_lift_ite, wr_ite, wo_ite, wo_next, wo_ret, wo_brk, wo_cnt, o_add, o_sub, o_mul, o_fdiv, o_mod, o_pow, o_neg, o_lt, o_le, o_gt, o_ge, o_eq, o_ne, o_eqs, o_nes, o_isB, o_notB, o_tbl, o_int, o_lst, decide_eq_true_eq, Bool.not_eq_true', decide_eq_false_iff_not, beq_iff_eq, List.map_cons, List.map_nil, List.length_cons, List.length_nil, List.replicate_succ, List.replicate_zero, List.cons_append, List.nil_append, List.getElem?_cons_zero, List.getElem?_cons_succ, List.set_cons_zero, List.set_cons_succ, Nat.reduceSub, Nat.reduceAdd, Nat.zero_add, Option.map_some, Option.map_none, c_na10, o_rng1, len_rng, len_lst, len_tup, Int.toNat_natCast, Int.reduceToNat, Int.reduceLE, Int.reduceLT, Nat.reducePow, Nat.reduceLT, and_self, if_true, if_false, ite_true, ite_false, true_and, and_true, reduceIte]
    refine wr_imp (figure_ok hs hp) ?_
    rintro _ _ ⟨rfl, k, rfl, hk⟩
    exact ⟨rfl, k, hk, rfl⟩
  rintro _ _ ⟨rfl, f, hf, rfl⟩
  have hm2 : lstAt (st ++ [.lst []]) m = some (ls.map .int) := pre_lst (pre_app pre_rfl _) hm
  have hr : rngOk (ls.length : Int) = true := rng_ok ⟨by omega, by omega⟩
  have z0 : lineOk 0 = true := by decide
  simp only [w_varM, w_con, w_bin, w_neg, w_not, w_and, w_or, w_cmp, w_chain, w_ife, w_call, w_callp, w_star, w_blt, w_mth, w_idx, w_slc, w_lst, w_tup, w_tab, w_tin, w_dnew, w_rev, w_lc, w_lsc, w_dc, w_disp, w_get, w_fld, w_mk, w_meth, w_prop, w_nil, w_cons, w_onone, w_osome, w_tnone, w_tsome, w_tnot, w_tand, w_tor, w_tval, w_iex, w_irng1, w_irng2, w_irng3, w_izip, w_run, w_snil, w_scons, w_set, w_unp, w_seti, w_setf, w_exp, w_ret, w_retn, w_pass, w_ifs, w_loop, w_rais, w_try, wr_ok, wr_some, wr_none, wr_stuck, wr_bind, wr_quiet, wr_lift_ite, wr_ite, wo_ite, wo_next, wo_ret, wo_brk, wo_cnt, o_add, o_sub, o_mul, o_fdiv, o_mod, o_pow, o_neg, o_lt, o_le, o_gt, o_ge, o_eq, o_ne, o_eqs, o_nes, o_isB, o_notB, o_tbl, o_int, o_lst, decide_eq_true_eq, Bool.not_eq_true', decide_eq_false_iff_not, beq_iff_eq, List.map_cons, List.map_nil, List.length_cons, List.length_nil, List.replicate_succ, List.replicate_zero, List.cons_append, List.nil_append, List.getElem?_cons_zero, List.getElem?_cons_succ, List.set_cons_zero, List.set_cons_succ, Nat.reduceSub, Nat.reduceAdd, Nat.zero_add, Option.map_some, Option.map_none, c_na10, o_rng1, len_rng, len_lst, len_tup, Int.toNat_natCast, Int.reduceToNat, Int.reduceLE, Int.reduceLT, Nat.reducePow, Nat.reduceLT, and_self, if_true, if_false, ite_true, ite_false, true_and, and_true, reduceIte, z0, o_len hm2, List.length_map, hr]
  refine for_rng (DrawsI st n m st.length p f ls) ⟨none, none, _, [], rfl, pre_app pre_rfl _, mut_new, rfl, by intro i x l h; cases h⟩ ?_ ?_
  · rintro i _ st1 hi ⟨k, s, r, acc, rfl, hpre, hacc, hal, hb⟩
    refine ⟨_, give_nm, ?_⟩
    simp only [List.set_cons_succ, List.set_cons_zero]
    exact draws_turn hm hl hn hi (by omega) (Nat.le_refl _) hpre hacc hal hb rfl
  · rintro _ st1 ⟨k, s, r, acc, rfl, hpre, hacc, hal, hb⟩
    simp only [w_varM, w_con, w_bin, w_neg, w_not, w_and, w_or, w_cmp, w_chain, w_ife, w_call, w_callp, w_star, w_blt, w_mth, w_idx, w_slc, w_lst, w_tup, w_tab, w_tin, w_dnew, w_rev, w_lc, w_lsc, w_dc, w_disp, w_get, w_fld, w_mk, w_meth, w_prop, w_nil, w_cons, w_onone, w_osome, w_tnone, w_tsome, w_tnot, w_tand, w_tor, w_tval, w_iex, w_irng1, w_irng2, w_irng3, w_izip, w_run, w_snil, w_scons, w_set, w_unp, w_seti, w_setf, w_exp, w_ret, w_retn, w_pass, w_ifs, w_loop, w_rais, w_try, wr_ok, wr_some, wr_none, wr_stuck, wr_bind, wr_quiet, wr_lift_ite, wr_ite, wo_ite, wo_next, wo_ret, wo_brk, wo_cnt, o_add, o_sub, o_mul, o_fdiv, o_mod, o_pow, o_neg, o_lt, o_le, o_gt, o_ge, o_eq, o_ne, o_eqs, o_nes, o_isB, o_notB, o_tbl, o_int, o_lst, decide_eq_true_eq, Bool.not_eq_true', decide_eq_false_iff_not, beq_iff_eq, List.map_cons, List.map_nil, List.length_cons, List.length_nil, List.replicate_succ, List.replicate_zero, List.cons_append, List.nil_append, List.getElem?_cons_zero, List.getElem?_cons_succ, List.set_cons_zero, List.set_cons_succ, Nat.reduceSub, Nat.reduceAdd, Nat.zero_add, Option.map_some, Option.map_none, c_na10, o_rng1, len_rng, len_lst, len_tup, Int.toNat_natCast, Int.reduceToNat, Int.reduceLE, Int.reduceLT, Nat.reducePow, Nat.reduceLT, and_self, if_true, if_false, ite_true, ite_false, true_and, and_true, reduceIte]
    refine ⟨hpre, acc, ?_, hal, hb⟩
    have q := hacc
    unfold mutAt at q
    cases e : st1[st.length]? with
    | none => rw [e] at q; cases q
    | some o => rw [e] at q; cases o <;> first | (cases q; rfl) | cases q
end EVL

/-! ## R2 -/
set_option maxRecDepth 10000
set_option maxHeartbeats 800000
namespace EVL
open PySem L2 EV
theorem set_new {st : Store} {o u : Ob} : (st ++ [o]).set st.length u = st ++ [u] := by
  rw [List.set_append_right _ _ (Nat.le_refl _), Nat.sub_self]
  rfl
/-- a name: one to six letters -/
structure IsName (x : Str) : Prop where
  lo : 1 ≤ x.cps.size
  hi : x.cps.size ≤ 6
  all : ∀ (i : Nat) (c : Nat), x.cps[i]? = some c → 97 ≤ c ∧ c ≤ 122
theorem cps_a : ("a" : Str).cps.toList = [97] := by decide +kernel
theorem cps_z : ("z" : Str).cps.toList = [122] := by decide +kernel
theorem lt_one {a b : Nat} : ([a] < [b]) ↔ a < b := by
  constructor
  · intro h
    rcases List.cons_lt_cons_iff.mp h with h | ⟨_, h⟩
    · exact h
    · exact absurd h (by simp)
  · intro h
    exact List.cons_lt_cons_iff.mpr (.inl h)
theorem le_a {st : Store} {c : Nat} (h : 97 ≤ c) : cmpV .le (.str "a") (.str ⟨#[c]⟩) st = some true := by
  show some (!decide (([c] : List Nat) < ("a" : Str).cps.toList)) = _
  rw [cps_a, decide_eq_false (fun z => by have := lt_one.mp z; omega)]
  rfl
theorem le_z {st : Store} {c : Nat} (h : c ≤ 122) : cmpV .le (.str ⟨#[c]⟩) (.str "z") st = some true := by
  show some (!decide (("z" : Str).cps.toList < ([c] : List Nat))) = _
  rw [cps_z, decide_eq_false (fun z => by have := lt_one.mp z; omega)]
  rfl
theorem bools_map : ∀ bs : List Bool, boolsOf (bs.map Val.bl) = some bs
  | [] => rfl
  | b :: bs => by
    show (boolsOf (bs.map Val.bl)).map (b :: ·) = _
    rw [bools_map bs]
    rfl
theorem o_all {st : Store} {n : Nat} {bs : List Bool} (h : lstAt st n = some (bs.map .bl)) : bltV .all [.ref n] st = some (.bl (bs.all id), st) := by
  have e : bltV .all [.ref n] st = (lstAt st n).bind fun ws => (boolsOf ws).map fun bs => (Val.bl (List.all bs id), st) := by
    show (match lstAt st n with
      | some ws => (boolsOf ws).map fun bs => (Val.bl (List.all bs id), st)
      | none => none) = _
    cases lstAt st n <;> rfl
  rw [e, h]
  show (boolsOf (bs.map Val.bl)).map _ = _
  rw [bools_map]
  rfl
theorem all_rep (n : Nat) : (List.replicate n true).all id = true := by
  rw [List.all_eq_true]
  intro x h
  exact (List.mem_replicate.mp h).2
theorem is_name_ok {d : Nat} {st : Store} {x : Str} (h : IsName x) : wr (clN (d + 1) id_is_name [.str x] st) (fun v st' => v = .bl true ∧ st <+: st') noX := by
  show wr (runB (clN d) 2 b_is_name [.str x] st) _ noX
  unfold b_is_name
  have e1 : bltV (.isi .str) [.str x] st = some (.bl true, st) := rfl
  have hl : x.length = x.cps.size := rfl
  have e2 : bltV .len [.str x] st = some (.int x.length, st) := if_pos (decide_eq_true (by have := h.hi; omega))
  have c1 : cmpV .le (.int 1) (.int (x.length : Int)) st = some true := congrArg some (decide_eq_true (by have := h.lo; omega))
  have c2 : cmpV .le (.int (x.length : Int)) (.int 6) st = some true := congrArg some (decide_eq_true (by have := h.hi; omega))
  have ew : wkOf st (.str x) = some (.txt x) := rfl
  simp only [w_varM, w_con, w_bin, w_neg, w_not, w_and, w_or, w_cmp, w_chain, w_ife, w_call, w_callp, w_star, w_blt, w_mth, w_idx, w_slc, w_lst, w_tup, w_tab, w_tin, w_dnew, w_rev, w_lc, w_lsc, w_dc, w_disp, w_get, w_fld, w_mk, w_meth, w_prop, w_nil, w_cons, w_onone, w_osome, w_tnone, w_tsome, w_tnot, w_tand, w_tor, w_tval, w_iex, w_irng1, w_irng2, w_irng3, w_izip, w_run, w_snil, w_scons, w_set, w_unp, w_seti, w_setf, w_exp, w_ret, w_retn, w_pass, w_ifs, w_loop, w_rais, w_try, wr_ok, wr_some, wr_none, wr_stuck, wr_bind, wr_quiet, wr_lift_ite, wr_ite, wo_ite, wo_next, wo_ret, wo_brk, wo_cnt, o_add, o_sub, o_mul, o_fdiv, o_mod, o_pow, o_neg, o_lt, o_le, o_gt, o_ge, o_eq, o_ne, o_eqs, o_nes, o_isB, o_notB, o_tbl, o_int, o_lst, decide_eq_true_eq, Bool.not_eq_true', decide_eq_false_iff_not, beq_iff_eq, List.map_cons, List.map_nil, List.length_cons, List.length_nil, List.replicate_succ, List.replicate_zero, List.cons_append, List.nil_append, List.getElem?_cons_zero, List.getElem?_cons_succ, List.set_cons_zero, List.set_cons_succ, Nat.reduceSub, Nat.reduceAdd, Nat.zero_add, Option.map_some, Option.map_none, c_na10, o_rng1, len_rng, len_lst, len_tup, Int.toNat_natCast, Int.reduceToNat, Int.reduceLE, Int.reduceLT, Nat.reducePow, Nat.reduceLT, and_self, if_true, if_false, ite_true, ite_false, true_and, and_true, reduceIte, e1, e2, c1, c2, ew, Bool.not_true, Bool.false_eq_true, Bool.true_eq_false]
  refine lc_of (n := x.cps.size) rfl (fun i s acc => acc = List.replicate i (.bl true) ∧ s = st ++ [.lst acc]) ?_ ?_ x.cps.size 0 _ [] (Nat.zero_add _) ⟨rfl, rfl⟩
  · rintro i _ _ hi ⟨rfl, rfl⟩
    obtain ⟨c, hc⟩ : ∃ c, x.cps[i]? = some c := ⟨_, Array.getElem?_eq_getElem hi⟩
    have hb := h.all i c hc
    refine ⟨.str ⟨#[c]⟩, _, by show (x.cps[i]?).map _ = _; rw [hc]; rfl, give_nm, ?_⟩
    unfold x_is_name_0
    have g1 := fun s => le_a (st := s) hb.1
    have g2 := fun s => le_z (st := s) hb.2
    simp only [w_varM, w_con, w_bin, w_neg, w_not, w_and, w_or, w_cmp, w_chain, w_ife, w_call, w_callp, w_star, w_blt, w_mth, w_idx, w_slc, w_lst, w_tup, w_tab, w_tin, w_dnew, w_rev, w_lc, w_lsc, w_dc, w_disp, w_get, w_fld, w_mk, w_meth, w_prop, w_nil, w_cons, w_onone, w_osome, w_tnone, w_tsome, w_tnot, w_tand, w_tor, w_tval, w_iex, w_irng1, w_irng2, w_irng3, w_izip, w_run, w_snil, w_scons, w_set, w_unp, w_seti, w_setf, w_exp, w_ret, w_retn, w_pass, w_ifs, w_loop, w_rais, w_try, wr_ok, wr_some, wr_none, wr_stuck, wr_bind, wr_quiet, wr_lift_ite, wr_ite, wo_ite, wo_next, wo_ret, wo_brk, wo_cnt, o_add, o_sub, o_mul, o_fdiv, o_mod, o_pow, o_neg, o_lt, o_le, o_gt, o_ge, o_eq, o_ne, o_eqs, o_nes, o_isB, o_notB, o_tbl, o_int, o_lst, decide_eq_true_eq, Bool.not_eq_true', decide_eq_false_iff_not, beq_iff_eq, List.map_cons, List.map_nil, List.length_cons, List.length_nil, List.replicate_succ, List.replicate_zero, List.cons_append, List.nil_append, List.getElem?_cons_zero, List.getElem?_cons_succ, List.set_cons_zero, List.set_cons_succ, Nat.reduceSub, Nat.reduceAdd, Nat.zero_add, Option.map_some, Option.map_none, c_na10, o_rng1, len_rng, len_lst, len_tup, Int.toNat_natCast, Int.reduceToNat, Int.reduceLE, Int.reduceLT, Nat.reducePow, Nat.reduceLT, and_self, if_true, if_false, ite_true, ite_false, true_and, and_true, reduceIte, wipeF, g1, g2]
    refine ⟨mut_new, by rw [List.length_replicate]; have := h.hi; omega, ?_, set_new⟩
    exact (List.replicate_succ' (n := i) (a := Val.bl true)).symm
  · rintro _ _ ⟨rfl, rfl⟩
    refine ⟨rfl, ?_⟩
    have el : lstAt (st ++ [Ob.lst (List.replicate x.cps.size (.bl true))]) st.length = some ((List.replicate x.cps.size true).map .bl) := by
      rw [List.map_replicate]
      exact mut_lst mut_new
    have ea := o_all el
    rw [all_rep] at ea
    rw [ea, wr_some]
    exact ⟨rfl, pre_app pre_rfl _⟩
end EVL

/-! ## R3 -/
set_option maxRecDepth 10000
set_option maxHeartbeats 800000
namespace EVL
open PySem L2 EV
def Tru (st : Store) : Val → Store → Prop := fun v st' => v = .bl true ∧ st <+: st'
def Non (st : Store) : Val → Store → Prop := fun v st' => v = .non ∧ st <+: st'
/-- a value without objects, of depth n at most -/
def Pur : Nat → Val → Prop
  | 0, v => flat v = true
  | n + 1, v => flat v = true ∨ ∃ vs, v = .tup vs ∧ vs.length < 1000 ∧ ∀ u ∈ vs, Pur n u
theorem isi_flat {st : Store} {v : Val} (h : flat v = true) : isiV .list st v = some false ∧ isiV .tuple st v = some false ∧ isiV .dict st v = some false := by
  cases v <;> first | exact ⟨rfl, rfl, rfl⟩ | cases h
theorem o_isi {T : Ty} {st : Store} {v : Val} {b : Bool} (h : isiV T st v = some b) : bltV (.isi T) [v] st = some (.bl b, st) := by
  show (isiV T st v).map _ = _
  rw [h]
  rfl
theorem o_tuple {st : Store} {n : Nat} {vs : List Val} (h : lstAt st n = some vs) : bltV .tuple [.ref n] st = some (.tup vs, st) := by
  show (match lstAt st n with
    | some ws => some (Val.tup ws, st)
    | none => none) = _
  rw [h]
theorem o_isn {st : Store} : cmpV .isN .non .non st = some true := rfl
theorem same_flat {d : Nat} {st : Store} {v : Val} (h : flat v = true) : wr (clN (d + 1) id__law_same [v, v] st) (Tru st) noX := by
  show wr (runB (clN d) 4 b__law_same [v, v] st) _ noX
  unfold b__law_same
  cases v with
  | non =>
    simp only [w_varM, w_con, w_bin, w_neg, w_not, w_and, w_or, w_cmp, w_chain, w_ife, w_call, w_callp, w_star, w_blt, w_mth, w_idx, w_slc, w_lst, w_tup, w_tab, w_tin, w_dnew, w_rev, w_lc, w_lsc, w_dc, w_disp, w_get, w_fld, w_mk, w_meth, w_prop, w_nil, w_cons, w_onone, w_osome, w_tnone, w_tsome, w_tnot, w_tand, w_tor, w_tval, w_iex, w_irng1, w_irng2, w_irng3, w_izip, w_run, w_snil, w_scons, w_set, w_unp, w_seti, w_setf, w_exp, w_ret, w_retn, w_pass, w_ifs, w_loop, w_rais, w_try, wr_ok, wr_some, wr_none, wr_stuck, wr_bind, wr_quiet, wr_lift_ite, wr_ite, wo_ite, wo_next, wo_ret, wo_brk, wo_cnt, o_add, o_sub, o_mul, o_fdiv, o_mod, o_pow, o_neg, o_lt, o_le, o_gt, o_ge, o_eq, o_ne, o_eqs, o_nes, o_isB, o_notB, o_tbl, o_int, o_lst, decide_eq_true_eq, Bool.not_eq_true', decide_eq_false_iff_not, beq_iff_eq, List.map_cons, List.map_nil, List.length_cons, List.length_nil, List.replicate_succ, List.replicate_zero, List.cons_append, List.nil_append, List.getElem?_cons_zero, List.getElem?_cons_succ, List.set_cons_zero, List.set_cons_succ, Nat.reduceSub, Nat.reduceAdd, Nat.zero_add, Option.map_some, Option.map_none, c_na10, o_rng1, len_rng, len_lst, len_tup, Int.toNat_natCast, Int.reduceToNat, Int.reduceLE, Int.reduceLT, Nat.reducePow, Nat.reduceLT, and_self, if_true, if_false, ite_true, ite_false, true_and, and_true, reduceIte, o_isn]
    exact ⟨rfl, pre_rfl⟩
  | bl b =>
    have e0 : cmpV .isN (.bl b) .non st = some false := rfl
    have e1 : bltV (.isi .bool) [.bl b] st = some (.bl true, st) := rfl
    have e2 : cmpV .eq (.bl b) (.bl b) st = some true := by
      show some (b == b) = _
      rw [beq_self_eq_true]
    simp only [w_varM, w_con, w_bin, w_neg, w_not, w_and, w_or, w_cmp, w_chain, w_ife, w_call, w_callp, w_star, w_blt, w_mth, w_idx, w_slc, w_lst, w_tup, w_tab, w_tin, w_dnew, w_rev, w_lc, w_lsc, w_dc, w_disp, w_get, w_fld, w_mk, w_meth, w_prop, w_nil, w_cons, w_onone, w_osome, w_tnone, w_tsome, w_tnot, w_tand, w_tor, w_tval, w_iex, w_irng1, w_irng2, w_irng3, w_izip, w_run, w_snil, w_scons, w_set, w_unp, w_seti, w_setf, w_exp, w_ret, w_retn, w_pass, w_ifs, w_loop, w_rais, w_try, wr_ok, wr_some, wr_none, wr_stuck, wr_bind, wr_quiet, wr_lift_ite, wr_ite, wo_ite, wo_next, wo_ret, wo_brk, wo_cnt, o_add, o_sub, o_mul, o_fdiv, o_mod, o_pow, o_neg, o_lt, o_le, o_gt, o_ge, o_eq, o_ne, o_eqs, o_nes, o_isB, o_notB, o_tbl, o_int, o_lst, decide_eq_true_eq, Bool.not_eq_true', decide_eq_false_iff_not, beq_iff_eq, List.map_cons, List.map_nil, List.length_cons, List.length_nil, List.replicate_succ, List.replicate_zero, List.cons_append, List.nil_append, List.getElem?_cons_zero, List.getElem?_cons_succ, List.set_cons_zero, List.set_cons_succ, Nat.reduceSub, Nat.reduceAdd, Nat.zero_add, Option.map_some, Option.map_none, c_na10, o_rng1, len_rng, len_lst, len_tup, Int.toNat_natCast, Int.reduceToNat, Int.reduceLE, Int.reduceLT, Nat.reducePow, Nat.reduceLT, and_self, if_true, if_false, ite_true, ite_false, true_and, and_true, reduceIte, e0, e1, e2, Bool.false_eq_true]
    exact ⟨rfl, pre_rfl⟩
  | int i =>
    have e0 : cmpV .isN (.int i) .non st = some false := rfl
    have e1 : bltV (.isi .bool) [.int i] st = some (.bl false, st) := rfl
    have e2 : bltV (.isi .int) [.int i] st = some (.bl true, st) := rfl
    simp only [w_varM, w_con, w_bin, w_neg, w_not, w_and, w_or, w_cmp, w_chain, w_ife, w_call, w_callp, w_star, w_blt, w_mth, w_idx, w_slc, w_lst, w_tup, w_tab, w_tin, w_dnew, w_rev, w_lc, w_lsc, w_dc, w_disp, w_get, w_fld, w_mk, w_meth, w_prop, w_nil, w_cons, w_onone, w_osome, w_tnone, w_tsome, w_tnot, w_tand, w_tor, w_tval, w_iex, w_irng1, w_irng2, w_irng3, w_izip, w_run, w_snil, w_scons, w_set, w_unp, w_seti, w_setf, w_exp, w_ret, w_retn, w_pass, w_ifs, w_loop, w_rais, w_try, wr_ok, wr_some, wr_none, wr_stuck, wr_bind, wr_quiet, wr_lift_ite, wr_ite, wo_ite, wo_next, wo_ret, wo_brk, wo_cnt, o_add, o_sub, o_mul, o_fdiv, o_mod, o_pow, o_neg, o_lt, o_le, o_gt, o_ge, o_eq, o_ne, o_eqs, o_nes, o_isB, o_notB, o_tbl, o_int, o_lst, decide_eq_true_eq, Bool.not_eq_true', decide_eq_false_iff_not, beq_iff_eq, List.map_cons, List.map_nil, List.length_cons, List.length_nil, List.replicate_succ, List.replicate_zero, List.cons_append, List.nil_append, List.getElem?_cons_zero, List.getElem?_cons_succ, List.set_cons_zero, List.set_cons_succ, Nat.reduceSub, Nat.reduceAdd, Nat.zero_add, Option.map_some, Option.map_none, c_na10, o_rng1, len_rng, len_lst, len_tup, Int.toNat_natCast, Int.reduceToNat, Int.reduceLE, Int.reduceLT, Nat.reducePow, Nat.reduceLT, and_self, if_true, if_false, ite_true, ite_false, true_and, and_true, reduceIte, e0, e1, e2, Bool.false_eq_true, beq_self_eq_true]
    exact ⟨rfl, pre_rfl⟩
  | str x =>
    have e0 : cmpV .isN (.str x) .non st = some false := rfl
    have e1 : bltV (.isi .bool) [.str x] st = some (.bl false, st) := rfl
    have e2 : bltV (.isi .int) [.str x] st = some (.bl false, st) := rfl
    have e3 : bltV (.isi .str) [.str x] st = some (.bl true, st) := rfl
    simp only [w_varM, w_con, w_bin, w_neg, w_not, w_and, w_or, w_cmp, w_chain, w_ife, w_call, w_callp, w_star, w_blt, w_mth, w_idx, w_slc, w_lst, w_tup, w_tab, w_tin, w_dnew, w_rev, w_lc, w_lsc, w_dc, w_disp, w_get, w_fld, w_mk, w_meth, w_prop, w_nil, w_cons, w_onone, w_osome, w_tnone, w_tsome, w_tnot, w_tand, w_tor, w_tval, w_iex, w_irng1, w_irng2, w_irng3, w_izip, w_run, w_snil, w_scons, w_set, w_unp, w_seti, w_setf, w_exp, w_ret, w_retn, w_pass, w_ifs, w_loop, w_rais, w_try, wr_ok, wr_some, wr_none, wr_stuck, wr_bind, wr_quiet, wr_lift_ite, wr_ite, wo_ite, wo_next, wo_ret, wo_brk, wo_cnt, o_add, o_sub, o_mul, o_fdiv, o_mod, o_pow, o_neg, o_lt, o_le, o_gt, o_ge, o_eq, o_ne, o_eqs, o_nes, o_isB, o_notB, o_tbl, o_int, o_lst, decide_eq_true_eq, Bool.not_eq_true', decide_eq_false_iff_not, beq_iff_eq, List.map_cons, List.map_nil, List.length_cons, List.length_nil, List.replicate_succ, List.replicate_zero, List.cons_append, List.nil_append, List.getElem?_cons_zero, List.getElem?_cons_succ, List.set_cons_zero, List.set_cons_succ, Nat.reduceSub, Nat.reduceAdd, Nat.zero_add, Option.map_some, Option.map_none, c_na10, o_rng1, len_rng, len_lst, len_tup, Int.toNat_natCast, Int.reduceToNat, Int.reduceLE, Int.reduceLT, Nat.reducePow, Nat.reduceLT, and_self, if_true, if_false, ite_true, ite_false, true_and, and_true, reduceIte, e0, e1, e2, e3, Bool.false_eq_true, beq_self_eq_true]
    exact ⟨rfl, pre_rfl⟩
  | _ => cases h
theorem same_ok : ∀ (n d : Nat) (st : Store) (v : Val), Pur n v → wr (clN (d + n + 1) id__law_same [v, v] st) (Tru st) noX
  | 0, d, st, v, h => same_flat h
  | n + 1, d, st, v, .inl h => same_flat h
  | n + 1, d, st, _, .inr ⟨vs, rfl, hl, hp⟩ => by
    show wr (runB (clN (d + n + 1)) 4 b__law_same [.tup vs, .tup vs] st) _ noX
    unfold b__law_same
    have e0 : cmpV .isN (.tup vs) .non st = some false := rfl
    have e1 : bltV (.isi .bool) [.tup vs] st = some (.bl false, st) := rfl
    have e2 : bltV (.isi .int) [.tup vs] st = some (.bl false, st) := rfl
    have e3 : bltV (.isi .str) [.tup vs] st = some (.bl false, st) := rfl
    have e4 : bltV (.isi .dict) [.tup vs] st = some (.bl false, st) := rfl
    have e5 : bltV (.isi .list) [.tup vs] st = some (.bl false, st) := rfl
    have e6 : bltV (.isi .tuple) [.tup vs] st = some (.bl true, st) := rfl
    have e7 : cmpV .ne (.bl false) (.bl false) st = some false := rfl
    have e8 : cmpV .ne (.bl true) (.bl true) st = some false := rfl
    have e9 : bltV .len [.tup vs] st = some (.int vs.length, st) := rfl
    have ea : rngOk (vs.length : Int) = true := rng_ok ⟨by omega, by omega⟩
    simp only [w_varM, w_con, w_bin, w_neg, w_not, w_and, w_or, w_cmp, w_chain, w_ife, w_call, w_callp, w_star, w_blt, w_mth, w_idx, w_slc, w_lst, w_tup, w_tab, w_tin, w_dnew, w_rev, w_lc, w_lsc, w_dc, w_disp, w_get, w_fld, w_mk, w_meth, w_prop, w_nil, w_cons, w_onone, w_osome, w_tnone, w_tsome, w_tnot, w_tand, w_tor, w_tval, w_iex, w_irng1, w_irng2, w_irng3, w_izip, w_run, w_snil, w_scons, w_set, w_unp, w_seti, w_setf, w_exp, w_ret, w_retn, w_pass, w_ifs, w_loop, w_rais, w_try, wr_ok, wr_some, wr_none, wr_stuck, wr_bind, wr_quiet, wr_lift_ite, wr_ite, wo_ite, wo_next, wo_ret, wo_brk, wo_cnt, o_add, o_sub, o_mul, o_fdiv, o_mod, o_pow, o_neg, o_lt, o_le, o_gt, o_ge, o_eq, o_ne, o_eqs, o_nes, o_isB, o_notB, o_tbl, o_int, o_lst, decide_eq_true_eq, Bool.not_eq_true', decide_eq_false_iff_not, beq_iff_eq, List.map_cons, List.map_nil, List.length_cons, List.length_nil, List.replicate_succ, List.replicate_zero, List.cons_append, List.nil_append, List.getElem?_cons_zero, List.getElem?_cons_succ, List.set_cons_zero, List.set_cons_succ, Nat.reduceSub, Nat.reduceAdd, Nat.zero_add, Option.map_some, Option.map_none, c_na10, o_rng1, len_rng, len_lst, len_tup, Int.toNat_natCast, Int.reduceToNat, Int.reduceLE, Int.reduceLT, Nat.reducePow, Nat.reduceLT, and_self, if_true, if_false, ite_true, ite_false, true_and, and_true, reduceIte, e0, e1, e2, e3, e4, e5, e6, e7, e8, e9, ea, Bool.false_eq_true, beq_self_eq_true, Bool.not_true]
    refine lc_of (n := vs.length) rfl (fun i s acc => acc = (List.replicate i true).map .bl ∧ st <+: s ∧ mutAt s st.length = some acc) ?_ ?_ vs.length 0 _ [] (Nat.zero_add _) ⟨rfl, pre_app pre_rfl _, mut_new⟩
    · rintro i s _ hi ⟨rfl, pre, hm⟩
      have hv : vs[i]? = some vs[i] := List.getElem?_eq_getElem hi
      refine ⟨.int (0 + (i : Int)), _, rfl, give_nm, ?_⟩
      have ez : (0 : Int) + (i : Int) = i := by omega
      unfold x__law_same_1
      have ix : ∀ s, idxV s (.tup vs) (.int (i : Int)) = some vs[i] := fun s => by
        show atI vs (i : Int) = _
        exact atI_nat hv
      simp only [w_varM, w_con, w_bin, w_neg, w_not, w_and, w_or, w_cmp, w_chain, w_ife, w_call, w_callp, w_star, w_blt, w_mth, w_idx, w_slc, w_lst, w_tup, w_tab, w_tin, w_dnew, w_rev, w_lc, w_lsc, w_dc, w_disp, w_get, w_fld, w_mk, w_meth, w_prop, w_nil, w_cons, w_onone, w_osome, w_tnone, w_tsome, w_tnot, w_tand, w_tor, w_tval, w_iex, w_irng1, w_irng2, w_irng3, w_izip, w_run, w_snil, w_scons, w_set, w_unp, w_seti, w_setf, w_exp, w_ret, w_retn, w_pass, w_ifs, w_loop, w_rais, w_try, wr_ok, wr_some, wr_none, wr_stuck, wr_bind, wr_quiet, wr_lift_ite, wr_ite, wo_ite, wo_next, wo_ret, wo_brk, wo_cnt, o_add, o_sub, o_mul, o_fdiv, o_mod, o_pow, o_neg, o_lt, o_le, o_gt, o_ge, o_eq, o_ne, o_eqs, o_nes, o_isB, o_notB, o_tbl, o_int, o_lst, decide_eq_true_eq, Bool.not_eq_true', decide_eq_false_iff_not, beq_iff_eq, List.map_cons, List.map_nil, List.length_cons, List.length_nil, List.replicate_succ, List.replicate_zero, List.cons_append, List.nil_append, List.getElem?_cons_zero, List.getElem?_cons_succ, List.set_cons_zero, List.set_cons_succ, Nat.reduceSub, Nat.reduceAdd, Nat.zero_add, Option.map_some, Option.map_none, c_na10, o_rng1, len_rng, len_lst, len_tup, Int.toNat_natCast, Int.reduceToNat, Int.reduceLE, Int.reduceLT, Nat.reducePow, Nat.reduceLT, and_self, if_true, if_false, ite_true, ite_false, true_and, and_true, reduceIte, wipeF, ez, ix]
      refine wr_imp (same_ok n d s vs[i] (hp _ (List.getElem_mem hi))) ?_
      rintro _ s2 ⟨rfl, pre2⟩
      have hm2 := mut_pre pre2 hm
      refine ⟨hm2, by rw [List.length_map, List.length_replicate]; omega, ?_, pre_set (pre.trans pre2) (Nat.le_refl _), mut_set hm2⟩
      rw [List.map_replicate]
      exact (List.replicate_succ' (n := i) (a := Val.bl true)).symm
    · rintro s _ ⟨rfl, pre, hm⟩
      refine ⟨rfl, ?_⟩
      rw [o_all (mut_lst hm), wr_some, all_rep]
      exact ⟨rfl, pre⟩
theorem check_name_ok {d : Nat} {st : Store} {x : Str} (h : IsName x) : wr (clN (d + 2) id_check_name [.str x] st) (Non st) noX := by
  show wr (runB (clN (d + 1)) 1 b_check_name [.str x] st) _ noX
  unfold b_check_name
  simp only [w_varM, w_con, w_bin, w_neg, w_not, w_and, w_or, w_cmp, w_chain, w_ife, w_call, w_callp, w_star, w_blt, w_mth, w_idx, w_slc, w_lst, w_tup, w_tab, w_tin, w_dnew, w_rev, w_lc, w_lsc, w_dc, w_disp, w_get, w_fld, w_mk, w_meth, w_prop, w_nil, w_cons, w_onone, w_osome, w_tnone, w_tsome, w_tnot, w_tand, w_tor, w_tval, w_iex, w_irng1, w_irng2, w_irng3, w_izip, w_run, w_snil, w_scons, w_set, w_unp, w_seti, w_setf, w_exp, w_ret, w_retn, w_pass, w_ifs, w_loop, w_rais, w_try, wr_ok, wr_some, wr_none, wr_stuck, wr_bind, wr_quiet, wr_lift_ite, wr_ite, wo_ite, wo_next, wo_ret, wo_brk, wo_cnt, o_add, o_sub, o_mul, o_fdiv, o_mod, o_pow, o_neg, o_lt, o_le, o_gt, o_ge, o_eq, o_ne, o_eqs, o_nes, o_isB, o_notB, o_tbl, o_int, o_lst, decide_eq_true_eq, Bool.not_eq_true', decide_eq_false_iff_not, beq_iff_eq, List.map_cons, List.map_nil, List.length_cons, List.length_nil, List.replicate_succ, List.replicate_zero, List.cons_append, List.nil_append, List.getElem?_cons_zero, List.getElem?_cons_succ, List.set_cons_zero, List.set_cons_succ, Nat.reduceSub, Nat.reduceAdd, Nat.zero_add, Option.map_some, Option.map_none, c_na10, o_rng1, len_rng, len_lst, len_tup, Int.toNat_natCast, Int.reduceToNat, Int.reduceLE, Int.reduceLT, Nat.reducePow, Nat.reduceLT, and_self, if_true, if_false, ite_true, ite_false, true_and, and_true, reduceIte]
  refine wr_imp (is_name_ok h) ?_
  rintro _ st' ⟨rfl, pre⟩
  simp only [w_varM, w_con, w_bin, w_neg, w_not, w_and, w_or, w_cmp, w_chain, w_ife, w_call, w_callp, w_star, w_blt, w_mth, w_idx, w_slc, w_lst, w_tup, w_tab, w_tin, w_dnew, w_rev, w_lc, w_lsc, w_dc, w_disp, w_get, w_fld, w_mk, w_meth, w_prop, w_nil, w_cons, w_onone, w_osome, w_tnone, w_tsome, w_tnot, w_tand, w_tor, w_tval, w_iex, w_irng1, w_irng2, w_irng3, w_izip, w_run, w_snil, w_scons, w_set, w_unp, w_seti, w_setf, w_exp, w_ret, w_retn, w_pass, w_ifs, w_loop, w_rais, w_try, wr_ok, wr_some, wr_none, wr_stuck, wr_bind, wr_quiet, wr_lift_ite, wr_ite, wo_ite, wo_next, wo_ret, wo_brk, wo_cnt, o_add, o_sub, o_mul, o_fdiv, o_mod, o_pow, o_neg, o_lt, o_le, o_gt, o_ge, o_eq, o_ne, o_eqs, o_nes, o_isB, o_notB, o_tbl, o_int, o_lst, decide_eq_true_eq, Bool.not_eq_true', decide_eq_false_iff_not, beq_iff_eq, List.map_cons, List.map_nil, List.length_cons, List.length_nil, List.replicate_succ, List.replicate_zero, List.cons_append, List.nil_append, List.getElem?_cons_zero, List.getElem?_cons_succ, List.set_cons_zero, List.set_cons_succ, Nat.reduceSub, Nat.reduceAdd, Nat.zero_add, Option.map_some, Option.map_none, c_na10, o_rng1, len_rng, len_lst, len_tup, Int.toNat_natCast, Int.reduceToNat, Int.reduceLE, Int.reduceLT, Nat.reducePow, Nat.reduceLT, and_self, if_true, if_false, ite_true, ite_false, true_and, and_true, reduceIte, Bool.not_true, Bool.false_eq_true]
  exact ⟨rfl, pre⟩
theorem cut_1 (x : Val) (ps : List Val) : EV.cut (x :: ps) (some 1) none = ps := by
  unfold EV.cut
  simp [HT.sIx]
theorem o_tslc {st : Store} {vs : List Val} {l h : Option Int} : slcV (.tup vs) l h st = some (.tup (EV.cut vs l h), st) := rfl
theorem zip_t {st : Store} {vs us : List Val} : zipOf st (.tup vs) (.tup us) = some (.zipT vs us) := rfl
theorem len_zip {vs us : List Val} : (Wk.zipT vs us).len = min vs.length us.length := rfl
theorem item_zip {st : Store} {vs us : List Val} {i : Nat} {v u : Val} (h : vs[i]? = some v) (k : us[i]? = some u) : (Wk.zipT vs us).item st i = some (.tup [v, u]) := by
  show (match vs[i]?, us[i]? with
    | some v, some u => some (Val.tup [v, u])
    | _, _ => none) = _
  rw [h, k]
theorem map_at {ks : List Str} {i : Nat} {k : Str} (h : ks[i]? = some k) : (ks.map Val.str)[i]? = some (.str k) := by rw [List.getElem?_map, h]; rfl
theorem o_tlen {st : Store} {vs : List Val} : bltV .len [.tup vs] st = some (.int vs.length, st) := rfl
theorem idx0 {s : Store} {v : Val} {vs : List Val} : idxV s (.tup (v :: vs)) (.int 0) = some v := atI_nat (j := 0) rfl
end EVL

/-! ## R4 -/
set_option maxRecDepth 10000
set_option maxHeartbeats 800000
namespace EVL
open PySem L2 EV
def Sm (B : Nat) (k : Int) : Prop := k.natAbs < 2 ^ B
theorem Sm.mono {A B : Nat} {k : Int} (h : Sm A k) (q : A ≤ B) : Sm B k := Nat.lt_of_lt_of_le h (Nat.pow_le_pow_right (by decide) q)
theorem Sm.log {k : Int} (h : Sm 200 k) : k.natAbs.log2 < 1920 := by
  by_cases h0 : k.natAbs = 0
  · rw [h0]; decide
  · exact Nat.lt_of_lt_of_le ((Nat.log2_lt h0).mpr h) (by decide)
theorem sm0 (B : Nat) : Sm B 0 := by
  show (0 : Int).natAbs < 2 ^ B
  exact Nat.two_pow_pos B
theorem sm_mul {k a : Int} (hk : Sm 10 k) (ha : -(2 ^ 64) < a ∧ a < 2 ^ 64) : Sm 150 (k * a) := by
  have h1 : k.natAbs < 2 ^ 10 := hk
  have h2 : a.natAbs < 2 ^ 64 := by omega
  show (k * a).natAbs < 2 ^ 150
  rw [Int.natAbs_mul]
  have h3 : k.natAbs * a.natAbs ≤ 2 ^ 10 * 2 ^ 64 := Nat.mul_le_mul (Nat.le_of_lt h1) (Nat.le_of_lt h2)
  exact Nat.lt_of_le_of_lt h3 (by decide)
theorem sm_add {k a : Int} (hk : Sm 150 k) (ha : Sm 150 a) : Sm 200 (k + a) := by
  have h1 : k.natAbs < 2 ^ 150 := hk
  have h2 : a.natAbs < 2 ^ 150 := ha
  show (k + a).natAbs < 2 ^ 200
  omega
end EVL

/-! ## R5 -/
set_option maxRecDepth 10000
set_option maxHeartbeats 800000
namespace EVL
open PySem L2 EV
/-- the turns of _law_long's inner loops -/
theorem long_top {cl : Cl} {st : Store} {a b c dd e f h i j : Option Val} {n : Nat} {D : En} (hn : n ≤ 30) (hD : ∀ t' j, 0 < t' → t' ≤ 10 ^ 30 → D.nx [a, b, c, dd, e, f, some (.int t'), j, h, i] st) :
    wo (forTurns (Tg.nm 7).give (EV.exs cl l__law_long_0) (.rng 0 n) n 0 [a, b, c, dd, e, f, some (.int 1), j, h, i] st) D := by
  refine for_rng (fun k ρ s => s = st ∧ ∃ t' j, (0 < t' ∧ t' ≤ 10 ^ k) ∧ ρ = [a, b, c, dd, e, f, some (.int t'), j, h, i]) ⟨rfl, 1, j, ⟨by decide, by decide⟩, rfl⟩ ?_ ?_
  · rintro k _ _ hk ⟨rfl, t', j', h0, rfl⟩
    refine ⟨_, give_nm, ?_⟩
    unfold l__law_long_0
    simp only [w_varM, w_con, w_bin, w_neg, w_not, w_and, w_or, w_cmp, w_chain, w_ife, w_call, w_callp, w_star, w_blt, w_mth, w_idx, w_slc, w_lst, w_tup, w_tab, w_tin, w_dnew, w_rev, w_lc, w_lsc, w_dc, w_disp, w_get, w_fld, w_mk, w_meth, w_prop, w_nil, w_cons, w_onone, w_osome, w_tnone, w_tsome, w_tnot, w_tand, w_tor, w_tval, w_iex, w_irng1, w_irng2, w_irng3, w_izip, w_run, w_snil, w_scons, w_set, w_unp, w_seti, w_setf, w_exp, w_ret, w_retn, w_pass, w_ifs, w_loop, w_rais, w_try, wr_ok, wr_some, wr_none, wr_stuck, wr_bind, wr_quiet, wr_lift_ite, wr_ite, wo_ite, wo_next, wo_ret, wo_brk, wo_cnt, o_add, o_sub, o_mul, o_fdiv, o_mod, o_pow, o_neg, o_lt, o_le, o_gt, o_ge, o_eq, o_ne, o_eqs, o_nes, o_isB, o_notB, o_tbl, o_int, o_lst, decide_eq_true_eq, Bool.not_eq_true', decide_eq_false_iff_not, beq_iff_eq, List.map_cons, List.map_nil, List.length_cons, List.length_nil, List.replicate_succ, List.replicate_zero, List.cons_append, List.nil_append, List.getElem?_cons_zero, List.getElem?_cons_succ, List.set_cons_zero, List.set_cons_succ, Nat.reduceSub, Nat.reduceAdd, Nat.zero_add, Option.map_some, Option.map_none, c_na10, o_rng1, len_rng, len_lst, len_tup, Int.toNat_natCast, Int.reduceToNat, Int.reduceLE, Int.reduceLT, Nat.reducePow, Nat.reduceLT, and_self, if_true, if_false, ite_true, ite_false, true_and, and_true, reduceIte, mulOk_r (i := t') (show -(2 ^ 64) < (10 : Int) ∧ (10 : Int) < 2 ^ 64 by decide)]
    exact ⟨_, _, ⟨by omega, by rw [Int.pow_succ]; omega⟩, rfl⟩
  · rintro _ _ ⟨rfl, t', j', h0, rfl⟩
    refine hD t' j' h0.1 (Int.le_trans h0.2 ?_)
    exact_mod_cast Nat.pow_le_pow_right (show 0 < 10 by decide) hn
theorem long_num {cl : Cl} {st : Store} {a b c dd e f g h i : Option Val} {z : Int} {m : Nat} {xs : List Int} {D : En} (hm : lstAt st m = some (xs.map .int)) (hD : ∀ z' i, D.nx [a, b, c, dd, e, f, g, h, some (.int z'), i] st) :
    wo (forTurns (Tg.nm 9).give (EV.exs cl l__law_long_1) (.lst m xs.length) xs.length 0 [a, b, c, dd, e, f, g, h, some (.int z), i] st) D := by
  refine for_lst (xs.map .int) (List.length_map _) (fun k ρ s => s = st ∧ ∃ z' i, ρ = [a, b, c, dd, e, f, g, h, some (.int z'), i]) ⟨rfl, z, i, rfl⟩ (fun k ρ s q => by rw [q.1]; exact hm) ?_ ?_
  · rintro k v _ _ hk ⟨rfl, z', i', rfl⟩
    obtain ⟨x, rfl⟩ : ∃ x, v = .int x := by
      rw [List.getElem?_map] at hk
      cases e : xs[k]? with
      | none => rw [e] at hk; cases hk
      | some x => rw [e] at hk; exact ⟨x, (Option.some.inj hk).symm⟩
    refine ⟨_, give_nm, ?_⟩
    unfold l__law_long_1
    simp only [w_varM, w_con, w_bin, w_neg, w_not, w_and, w_or, w_cmp, w_chain, w_ife, w_call, w_callp, w_star, w_blt, w_mth, w_idx, w_slc, w_lst, w_tup, w_tab, w_tin, w_dnew, w_rev, w_lc, w_lsc, w_dc, w_disp, w_get, w_fld, w_mk, w_meth, w_prop, w_nil, w_cons, w_onone, w_osome, w_tnone, w_tsome, w_tnot, w_tand, w_tor, w_tval, w_iex, w_irng1, w_irng2, w_irng3, w_izip, w_run, w_snil, w_scons, w_set, w_unp, w_seti, w_setf, w_exp, w_ret, w_retn, w_pass, w_ifs, w_loop, w_rais, w_try, wr_ok, wr_some, wr_none, wr_stuck, wr_bind, wr_quiet, wr_lift_ite, wr_ite, wo_ite, wo_next, wo_ret, wo_brk, wo_cnt, o_add, o_sub, o_mul, o_fdiv, o_mod, o_pow, o_neg, o_lt, o_le, o_gt, o_ge, o_eq, o_ne, o_eqs, o_nes, o_isB, o_notB, o_tbl, o_int, o_lst, decide_eq_true_eq, Bool.not_eq_true', decide_eq_false_iff_not, beq_iff_eq, List.map_cons, List.map_nil, List.length_cons, List.length_nil, List.replicate_succ, List.replicate_zero, List.cons_append, List.nil_append, List.getElem?_cons_zero, List.getElem?_cons_succ, List.set_cons_zero, List.set_cons_succ, Nat.reduceSub, Nat.reduceAdd, Nat.zero_add, Option.map_some, Option.map_none, c_na10, o_rng1, len_rng, len_lst, len_tup, Int.toNat_natCast, Int.reduceToNat, Int.reduceLE, Int.reduceLT, Nat.reducePow, Nat.reduceLT, and_self, if_true, if_false, ite_true, ite_false, true_and, and_true, reduceIte, mulOk_r (i := z') (show -(2 ^ 64) < (10 ^ 8 : Int) ∧ (10 ^ 8 : Int) < 2 ^ 64 by decide)]
    exact ⟨_, _, rfl⟩
  · rintro _ _ ⟨rfl, z', i', rfl⟩
    exact hD z' i'
theorem cut_map (xs : List Int) (lo hi : Option Int) : EV.cut (xs.map Val.int) lo hi = (EV.cut xs lo hi).map Val.int := by
  unfold EV.cut
  rw [List.length_map, List.map_take, List.map_drop]
theorem o_slc {st : Store} {n : Nat} {vs : List Val} {lo hi : Option Int} (h : lstAt st n = some vs) : slcV (.ref n) lo hi st = some (.ref st.length, st ++ [.lst (EV.cut vs lo hi)]) := by
  show (match lstAt st n with
    | some vs => alloc st (.lst (EV.cut vs lo hi))
    | none => none) = _
  rw [h]
  rfl
theorem wk_lst {st : Store} {n : Nat} {vs : List Val} (h : lstAt st n = some vs) : wkOf st (.ref n) = some (.lst n vs.length) := by
  show (lstAt st n).map _ = _
  rw [h]
  rfl
def LongI (n m q : Nat) (p : Int) (many : Nat) (st : Store) (k : Nat) (ρ : Fr) (s : Store) : Prop := ∃ (v g h i j : Option Val) (acc : List Int), ρ = [some (.ref n), some (.int p), some (.int many), some (.ref m), some (.ref q), v, g, h, i, j] ∧ st <+: s ∧ mutAt s q = some (acc.map .int) ∧ acc.length = k ∧ ∀ x ∈ acc, Sm 110 x
theorem long_turn {cl : Cl} {st st1 : Store} {n m q many : Nat} {p K : Int} {ds acc : List Int} {g h i j : Option Val} {k : Nat} {D : En} (hds : lstAt st m = some (ds.map .int)) (hlen : ds.length = 6 * many) (hmany : many < 1000) (hb : ∀ (a : Nat) (x : Int), ds[6 * a]? = some x → 0 ≤ x ∧ x < 31)
    (hk : k < many) (hK : K = k) (hq : st.length ≤ q) (pre : st <+: st1) (hacc : mutAt st1 q = some (acc.map .int)) (hal : acc.length = k) (hsm : ∀ x ∈ acc, Sm 110 x) (hD : D.nx = LongI n m q p many st (k + 1)) :
    wo (EV.exs cl l__law_long_2 [some (.ref n), some (.int p), some (.int many), some (.ref m), some (.ref q), some (.int K), g, h, i, j] st1) D := by
  unfold l__law_long_2
  have hm1 : lstAt st1 m = some (ds.map .int) := pre_lst pre hds
  obtain ⟨x, hx⟩ : ∃ x, ds[6 * k]? = some x := ⟨_, List.getElem?_eq_getElem (by omega)⟩
  obtain ⟨y, hy⟩ : ∃ y, ds[6 * k + 1]? = some y := ⟨_, List.getElem?_eq_getElem (by omega)⟩
  have hx2 := hb k x hx
  have ix : atI (ds.map Val.int) (6 * K) = some (.int x) := by
    rw [hK, show (6 * (k : Int)) = ((6 * k : Nat) : Int) by omega]
    exact ix_at hx
  have iy : atI (ds.map Val.int) (6 * K + 1) = some (.int y) := by
    rw [hK, show (6 * (k : Int) + 1) = ((6 * k + 1 : Nat) : Int) by omega]
    exact ix_at hy
  have m6 : mulOk 6 K = true := mulOk_l ⟨by decide, by decide⟩
  have hr : rngOk x = true := rng_ok ⟨by have := hx2.1; omega, by have := hx2.2; omega⟩
  refine w_cut (fun ρ s => st1 = s ∧ ρ = [some (.ref n), some (.int p), some (.int many), some (.ref m), some (.ref q), some (.int K), some (.int 1), h, i, j]) (by simp only [w_varM, w_con, w_bin, w_neg, w_not, w_and, w_or, w_cmp, w_chain, w_ife, w_call, w_callp, w_star, w_blt, w_mth, w_idx, w_slc, w_lst, w_tup, w_tab, w_tin, w_dnew, w_rev, w_lc, w_lsc, w_dc, w_disp, w_get, w_fld, w_mk, w_meth, w_prop, w_nil, w_cons, w_onone, w_osome, w_tnone, w_tsome, w_tnot, w_tand, w_tor, w_tval, w_iex, w_irng1, w_irng2, w_irng3, w_izip, w_run, w_snil, w_scons, w_set, w_unp, w_seti, w_setf, w_exp, w_ret, w_retn, w_pass, w_ifs, w_loop, w_rais, w_try, wr_ok, wr_some, wr_none, wr_stuck, wr_bind, wr_quiet, wr_lift_ite, wr_ite, wo_ite, wo_next, wo_ret, wo_brk, wo_cnt, o_add, o_sub, o_mul, o_fdiv, o_mod, o_pow, o_neg, o_lt, o_le, o_gt, o_ge, o_eq, o_ne, o_eqs, o_nes, o_isB, o_notB, o_tbl, o_int, o_lst, decide_eq_true_eq, Bool.not_eq_true', decide_eq_false_iff_not, beq_iff_eq, List.map_cons, List.map_nil, List.length_cons, List.length_nil, List.replicate_succ, List.replicate_zero, List.cons_append, List.nil_append, List.getElem?_cons_zero, List.getElem?_cons_succ, List.set_cons_zero, List.set_cons_succ, Nat.reduceSub, Nat.reduceAdd, Nat.zero_add, Option.map_some, Option.map_none, c_na10, o_rng1, len_rng, len_lst, len_tup, Int.toNat_natCast, Int.reduceToNat, Int.reduceLE, Int.reduceLT, Nat.reducePow, Nat.reduceLT, and_self, if_true, if_false, ite_true, ite_false, true_and, and_true, reduceIte]) ?_
  rintro _ _ ⟨rfl, rfl⟩
  refine w_cut (fun ρ s => st1 = s ∧ ∃ t h, (0 < t ∧ t ≤ 10 ^ 30) ∧ ρ = [some (.ref n), some (.int p), some (.int many), some (.ref m), some (.ref q), some (.int K), some (.int t), h, i, j]) ?_ ?_
  · simp only [w_varM, w_con, w_bin, w_neg, w_not, w_and, w_or, w_cmp, w_chain, w_ife, w_call, w_callp, w_star, w_blt, w_mth, w_idx, w_slc, w_lst, w_tup, w_tab, w_tin, w_dnew, w_rev, w_lc, w_lsc, w_dc, w_disp, w_get, w_fld, w_mk, w_meth, w_prop, w_nil, w_cons, w_onone, w_osome, w_tnone, w_tsome, w_tnot, w_tand, w_tor, w_tval, w_iex, w_irng1, w_irng2, w_irng3, w_izip, w_run, w_snil, w_scons, w_set, w_unp, w_seti, w_setf, w_exp, w_ret, w_retn, w_pass, w_ifs, w_loop, w_rais, w_try, wr_ok, wr_some, wr_none, wr_stuck, wr_bind, wr_quiet, wr_lift_ite, wr_ite, wo_ite, wo_next, wo_ret, wo_brk, wo_cnt, o_add, o_sub, o_mul, o_fdiv, o_mod, o_pow, o_neg, o_lt, o_le, o_gt, o_ge, o_eq, o_ne, o_eqs, o_nes, o_isB, o_notB, o_tbl, o_int, o_lst, decide_eq_true_eq, Bool.not_eq_true', decide_eq_false_iff_not, beq_iff_eq, List.map_cons, List.map_nil, List.length_cons, List.length_nil, List.replicate_succ, List.replicate_zero, List.cons_append, List.nil_append, List.getElem?_cons_zero, List.getElem?_cons_succ, List.set_cons_zero, List.set_cons_succ, Nat.reduceSub, Nat.reduceAdd, Nat.zero_add, Option.map_some, Option.map_none, c_na10, o_rng1, len_rng, len_lst, len_tup, Int.toNat_natCast, Int.reduceToNat, Int.reduceLE, Int.reduceLT, Nat.reducePow, Nat.reduceLT, and_self, if_true, if_false, ite_true, ite_false, true_and, and_true, reduceIte, o_idx hm1, ix, m6, hr]
    exact long_top (by omega) fun t' j h0 h1 => ⟨rfl, t', j, ⟨h0, h1⟩, rfl⟩
  rintro _ _ ⟨rfl, t, h, ht, rfl⟩
  refine w_cut (fun ρ s => st1 = s ∧ ρ = [some (.ref n), some (.int p), some (.int many), some (.ref m), some (.ref q), some (.int K), some (.int t), h, some (.int 0), j]) (by simp only [w_varM, w_con, w_bin, w_neg, w_not, w_and, w_or, w_cmp, w_chain, w_ife, w_call, w_callp, w_star, w_blt, w_mth, w_idx, w_slc, w_lst, w_tup, w_tab, w_tin, w_dnew, w_rev, w_lc, w_lsc, w_dc, w_disp, w_get, w_fld, w_mk, w_meth, w_prop, w_nil, w_cons, w_onone, w_osome, w_tnone, w_tsome, w_tnot, w_tand, w_tor, w_tval, w_iex, w_irng1, w_irng2, w_irng3, w_izip, w_run, w_snil, w_scons, w_set, w_unp, w_seti, w_setf, w_exp, w_ret, w_retn, w_pass, w_ifs, w_loop, w_rais, w_try, wr_ok, wr_some, wr_none, wr_stuck, wr_bind, wr_quiet, wr_lift_ite, wr_ite, wo_ite, wo_next, wo_ret, wo_brk, wo_cnt, o_add, o_sub, o_mul, o_fdiv, o_mod, o_pow, o_neg, o_lt, o_le, o_gt, o_ge, o_eq, o_ne, o_eqs, o_nes, o_isB, o_notB, o_tbl, o_int, o_lst, decide_eq_true_eq, Bool.not_eq_true', decide_eq_false_iff_not, beq_iff_eq, List.map_cons, List.map_nil, List.length_cons, List.length_nil, List.replicate_succ, List.replicate_zero, List.cons_append, List.nil_append, List.getElem?_cons_zero, List.getElem?_cons_succ, List.set_cons_zero, List.set_cons_succ, Nat.reduceSub, Nat.reduceAdd, Nat.zero_add, Option.map_some, Option.map_none, c_na10, o_rng1, len_rng, len_lst, len_tup, Int.toNat_natCast, Int.reduceToNat, Int.reduceLE, Int.reduceLT, Nat.reducePow, Nat.reduceLT, and_self, if_true, if_false, ite_true, ite_false, true_and, and_true, reduceIte]) ?_
  rintro _ _ ⟨rfl, rfl⟩
  refine w_cut (fun ρ s => st1 <+: s ∧ ∃ z j, ρ = [some (.ref n), some (.int p), some (.int many), some (.ref m), some (.ref q), some (.int K), some (.int t), h, some (.int z), j]) ?_ ?_
  · have ho : ∀ lo hi, slcV (.ref m) lo hi st1 = some (.ref st1.length, st1 ++ [.lst ((EV.cut ds lo hi).map .int)]) := fun lo hi => by rw [o_slc hm1, cut_map]
    have hw : ∀ xs : List Int, wkOf (st1 ++ [.lst (xs.map .int)]) (.ref st1.length) = some (.lst st1.length xs.length) := fun xs => by
      have e : lstAt (st1 ++ [Ob.lst (xs.map .int)]) st1.length = some (xs.map .int) := mut_lst mut_new
      rw [wk_lst e, List.length_map]
    simp only [w_varM, w_con, w_bin, w_neg, w_not, w_and, w_or, w_cmp, w_chain, w_ife, w_call, w_callp, w_star, w_blt, w_mth, w_idx, w_slc, w_lst, w_tup, w_tab, w_tin, w_dnew, w_rev, w_lc, w_lsc, w_dc, w_disp, w_get, w_fld, w_mk, w_meth, w_prop, w_nil, w_cons, w_onone, w_osome, w_tnone, w_tsome, w_tnot, w_tand, w_tor, w_tval, w_iex, w_irng1, w_irng2, w_irng3, w_izip, w_run, w_snil, w_scons, w_set, w_unp, w_seti, w_setf, w_exp, w_ret, w_retn, w_pass, w_ifs, w_loop, w_rais, w_try, wr_ok, wr_some, wr_none, wr_stuck, wr_bind, wr_quiet, wr_lift_ite, wr_ite, wo_ite, wo_next, wo_ret, wo_brk, wo_cnt, o_add, o_sub, o_mul, o_fdiv, o_mod, o_pow, o_neg, o_lt, o_le, o_gt, o_ge, o_eq, o_ne, o_eqs, o_nes, o_isB, o_notB, o_tbl, o_int, o_lst, decide_eq_true_eq, Bool.not_eq_true', decide_eq_false_iff_not, beq_iff_eq, List.map_cons, List.map_nil, List.length_cons, List.length_nil, List.replicate_succ, List.replicate_zero, List.cons_append, List.nil_append, List.getElem?_cons_zero, List.getElem?_cons_succ, List.set_cons_zero, List.set_cons_succ, Nat.reduceSub, Nat.reduceAdd, Nat.zero_add, Option.map_some, Option.map_none, c_na10, o_rng1, len_rng, len_lst, len_tup, Int.toNat_natCast, Int.reduceToNat, Int.reduceLE, Int.reduceLT, Nat.reducePow, Nat.reduceLT, and_self, if_true, if_false, ite_true, ite_false, true_and, and_true, reduceIte, m6, ho, hw]
    exact long_num (mut_lst mut_new) fun z' i => ⟨pre_app pre_rfl _, z', i, rfl⟩
  rintro _ s ⟨pre2, z, j, rfl⟩
  have hm2 := pre_lst pre2 hm1
  have ha2 := mut_pre pre2 hacc
  refine w_cut (fun ρ s' => s = s' ∧ ∃ z, Sm 110 z ∧ ρ = [some (.ref n), some (.int p), some (.int many), some (.ref m), some (.ref q), some (.int K), some (.int t), h, some (.int z), j]) ?_ ?_
  · simp only [w_varM, w_con, w_bin, w_neg, w_not, w_and, w_or, w_cmp, w_chain, w_ife, w_call, w_callp, w_star, w_blt, w_mth, w_idx, w_slc, w_lst, w_tup, w_tab, w_tin, w_dnew, w_rev, w_lc, w_lsc, w_dc, w_disp, w_get, w_fld, w_mk, w_meth, w_prop, w_nil, w_cons, w_onone, w_osome, w_tnone, w_tsome, w_tnot, w_tand, w_tor, w_tval, w_iex, w_irng1, w_irng2, w_irng3, w_izip, w_run, w_snil, w_scons, w_set, w_unp, w_seti, w_setf, w_exp, w_ret, w_retn, w_pass, w_ifs, w_loop, w_rais, w_try, wr_ok, wr_some, wr_none, wr_stuck, wr_bind, wr_quiet, wr_lift_ite, wr_ite, wo_ite, wo_next, wo_ret, wo_brk, wo_cnt, o_add, o_sub, o_mul, o_fdiv, o_mod, o_pow, o_neg, o_lt, o_le, o_gt, o_ge, o_eq, o_ne, o_eqs, o_nes, o_isB, o_notB, o_tbl, o_int, o_lst, decide_eq_true_eq, Bool.not_eq_true', decide_eq_false_iff_not, beq_iff_eq, List.map_cons, List.map_nil, List.length_cons, List.length_nil, List.replicate_succ, List.replicate_zero, List.cons_append, List.nil_append, List.getElem?_cons_zero, List.getElem?_cons_succ, List.set_cons_zero, List.set_cons_succ, Nat.reduceSub, Nat.reduceAdd, Nat.zero_add, Option.map_some, Option.map_none, c_na10, o_rng1, len_rng, len_lst, len_tup, Int.toNat_natCast, Int.reduceToNat, Int.reduceLE, Int.reduceLT, Nat.reducePow, Nat.reduceLT, and_self, if_true, if_false, ite_true, ite_false, true_and, and_true, reduceIte, ht.1]
    refine ⟨_, ?_, rfl⟩
    have z1 := Int.emod_nonneg z (show t ≠ 0 by omega)
    have z2 := Int.emod_lt_of_pos z ht.1
    show (z % t).natAbs < 2 ^ 110
    omega
  rintro _ _ ⟨rfl, z, hz, rfl⟩
  have fin : ∀ y : Int, Sm 110 y → LongI n m q p many st (k + 1) [some (.ref n), some (.int p), some (.int many), some (.ref m), some (.ref q), some (.int K), some (.int t), h, some (.int z), j] (s.set q (.lst (acc.map .int ++ [.int y]))) := fun y hy => by
    refine ⟨_, _, _, _, _, acc ++ [y], rfl, pre_set (pre.trans pre2) hq, ?_, by rw [List.length_append, hal]; rfl, fun w hw => ?_⟩
    rotate_left
    · rcases List.mem_append.mp hw with hw | hw
      · exact hsm w hw
      · rw [List.mem_singleton] at hw
        subst hw
        exact hy
    rw [List.map_append]
    exact mut_set ha2
  have hsm' : (acc.map Val.int).length < 16777216 := by rw [List.length_map]; omega
  by_cases e : y = 1
  · subst e
    simp only [w_varM, w_con, w_bin, w_neg, w_not, w_and, w_or, w_cmp, w_chain, w_ife, w_call, w_callp, w_star, w_blt, w_mth, w_idx, w_slc, w_lst, w_tup, w_tab, w_tin, w_dnew, w_rev, w_lc, w_lsc, w_dc, w_disp, w_get, w_fld, w_mk, w_meth, w_prop, w_nil, w_cons, w_onone, w_osome, w_tnone, w_tsome, w_tnot, w_tand, w_tor, w_tval, w_iex, w_irng1, w_irng2, w_irng3, w_izip, w_run, w_snil, w_scons, w_set, w_unp, w_seti, w_setf, w_exp, w_ret, w_retn, w_pass, w_ifs, w_loop, w_rais, w_try, wr_ok, wr_some, wr_none, wr_stuck, wr_bind, wr_quiet, wr_lift_ite, wr_ite, wo_ite, wo_next, wo_ret, wo_brk, wo_cnt, o_add, o_sub, o_mul, o_fdiv, o_mod, o_pow, o_neg, o_lt, o_le, o_gt, o_ge, o_eq, o_ne, o_eqs, o_nes, o_isB, o_notB, o_tbl, o_int, o_lst, decide_eq_true_eq, Bool.not_eq_true', decide_eq_false_iff_not, beq_iff_eq, List.map_cons, List.map_nil, List.length_cons, List.length_nil, List.replicate_succ, List.replicate_zero, List.cons_append, List.nil_append, List.getElem?_cons_zero, List.getElem?_cons_succ, List.set_cons_zero, List.set_cons_succ, Nat.reduceSub, Nat.reduceAdd, Nat.zero_add, Option.map_some, Option.map_none, c_na10, o_rng1, len_rng, len_lst, len_tup, Int.toNat_natCast, Int.reduceToNat, Int.reduceLE, Int.reduceLT, Nat.reducePow, Nat.reduceLT, and_self, if_true, if_false, ite_true, ite_false, true_and, and_true, reduceIte, m6, o_rapp ha2, o_idx hm2, iy, o_app ha2, hsm']
    rw [hD]
    exact fin _ (by first | exact hz | exact (show (-z).natAbs < 2 ^ 110 by rw [Int.natAbs_neg]; exact hz))
  · have eb : (y == 1) = false := by rw [beq_eq_false_iff_ne]; exact e
    simp only [w_varM, w_con, w_bin, w_neg, w_not, w_and, w_or, w_cmp, w_chain, w_ife, w_call, w_callp, w_star, w_blt, w_mth, w_idx, w_slc, w_lst, w_tup, w_tab, w_tin, w_dnew, w_rev, w_lc, w_lsc, w_dc, w_disp, w_get, w_fld, w_mk, w_meth, w_prop, w_nil, w_cons, w_onone, w_osome, w_tnone, w_tsome, w_tnot, w_tand, w_tor, w_tval, w_iex, w_irng1, w_irng2, w_irng3, w_izip, w_run, w_snil, w_scons, w_set, w_unp, w_seti, w_setf, w_exp, w_ret, w_retn, w_pass, w_ifs, w_loop, w_rais, w_try, wr_ok, wr_some, wr_none, wr_stuck, wr_bind, wr_quiet, wr_lift_ite, wr_ite, wo_ite, wo_next, wo_ret, wo_brk, wo_cnt, o_add, o_sub, o_mul, o_fdiv, o_mod, o_pow, o_neg, o_lt, o_le, o_gt, o_ge, o_eq, o_ne, o_eqs, o_nes, o_isB, o_notB, o_tbl, o_int, o_lst, decide_eq_true_eq, Bool.not_eq_true', decide_eq_false_iff_not, beq_iff_eq, List.map_cons, List.map_nil, List.length_cons, List.length_nil, List.replicate_succ, List.replicate_zero, List.cons_append, List.nil_append, List.getElem?_cons_zero, List.getElem?_cons_succ, List.set_cons_zero, List.set_cons_succ, Nat.reduceSub, Nat.reduceAdd, Nat.zero_add, Option.map_some, Option.map_none, c_na10, o_rng1, len_rng, len_lst, len_tup, Int.toNat_natCast, Int.reduceToNat, Int.reduceLE, Int.reduceLT, Nat.reducePow, Nat.reduceLT, and_self, if_true, if_false, ite_true, ite_false, true_and, and_true, reduceIte, m6, o_rapp ha2, o_idx hm2, iy, o_app ha2, hsm', e, eb]
    rw [hD]
    exact fin _ (by first | exact hz | exact (show (-z).natAbs < 2 ^ 110 by rw [Int.natAbs_neg]; exact hz))
end EVL

/-! ## R6 -/
set_option maxRecDepth 10000
set_option maxHeartbeats 800000
namespace EVL
open PySem L2 EV
def lim6 : List Int := [31, 2, 10 ^ 8, 10 ^ 8, 10 ^ 8, 10 ^ 8]
theorem o_rep {st : Store} {n : Nat} {vs : List Val} (h : mutAt st n = some vs) (k : Int) (hk : -(2 ^ 63) ≤ k ∧ k < 2 ^ 63) (hl : vs.length * k.toNat ≤ 16777216) : binV .mul (.ref n) (.int k) st = some (.ref st.length, st ++ [.lst (List.replicate k.toNat vs).flatten]) := by
  show (match mutAt st n with
    | some xs => if decide (-(2 ^ 63) ≤ k ∧ k < 2 ^ 63) && lineOk (xs.length * k.toNat) then alloc st (.lst (List.replicate k.toNat xs).flatten) else none
    | none => none) = _
  rw [h]
  show (if (decide (-(2 ^ 63) ≤ k ∧ k < 2 ^ 63) && lineOk (vs.length * k.toNat)) = true then _ else none) = _
  rw [decide_eq_true hk, show lineOk (vs.length * k.toNat) = true from decide_eq_true hl]
  rfl
theorem long_ok {d n : Nat} {st : Store} {ns : List Int} {p : Int} (hs : lstAt st n = some (ns.map .int)) (hp : 0 ≤ p) :
    wr (clN (d + 3) id__law_long [.ref n, .int p, .int 2] st) (fun v st' => st <+: st' ∧ ∃ (q : Nat) (x y : Int), v = .ref q ∧ lstAt st' q = some [.int x, .int y] ∧ Sm 110 x ∧ Sm 110 y) noX := by
  show wr (runB (clN (d + 2)) 10 b__law_long [.ref n, .int p, .int 2] st) _ noX
  unfold b__law_long
  rw [w_run]
  refine w_cut (fun ρ s => st <+: s ∧ ∃ (m : Nat) (ds : List Int), ρ = [some (.ref n), some (.int p), some (.int 2), some (.ref m), none, none, none, none, none, none] ∧ lstAt s m = some (ds.map .int) ∧ ds.length = 12 ∧ ∀ (a : Nat) (x : Int), ds[6 * a]? = some x → 0 ≤ x ∧ x < 31) ?_ ?_
  · have l6 : lineOk 6 = true := by decide
    have o2 := fun st : Store => o_rep (st := st ++ [.lst (lim6.map .int)]) (n := st.length) mut_new 2 ⟨by decide, by decide⟩ (by decide)
    have eL : (lim6.map Val.int) = [.int 31, .int 2, .int (10 ^ 8), .int (10 ^ 8), .int (10 ^ 8), .int (10 ^ 8)] := rfl
    simp only [eL] at o2
    simp only [w_varM, w_con, w_bin, w_neg, w_not, w_and, w_or, w_cmp, w_chain, w_ife, w_call, w_callp, w_star, w_blt, w_mth, w_idx, w_slc, w_lst, w_tup, w_tab, w_tin, w_dnew, w_rev, w_lc, w_lsc, w_dc, w_disp, w_get, w_fld, w_mk, w_meth, w_prop, w_nil, w_cons, w_onone, w_osome, w_tnone, w_tsome, w_tnot, w_tand, w_tor, w_tval, w_iex, w_irng1, w_irng2, w_irng3, w_izip, w_run, w_snil, w_scons, w_set, w_unp, w_seti, w_setf, w_exp, w_ret, w_retn, w_pass, w_ifs, w_loop, w_rais, w_try, wr_ok, wr_some, wr_none, wr_stuck, wr_bind, wr_quiet, wr_lift_ite, wr_ite, wo_ite, wo_next, wo_ret, wo_brk, wo_cnt, o_add, o_sub, o_mul, o_fdiv, o_mod, o_pow, o_neg, o_lt, o_le, o_gt, o_ge, o_eq, o_ne, o_eqs, o_nes, o_isB, o_notB, o_tbl, o_int, o_lst, decide_eq_true_eq, Bool.not_eq_true', decide_eq_false_iff_not, beq_iff_eq, List.map_cons, List.map_nil, List.length_cons, List.length_nil, List.replicate_succ, List.replicate_zero, List.cons_append, List.nil_append, List.getElem?_cons_zero, List.getElem?_cons_succ, List.set_cons_zero, List.set_cons_succ, Nat.reduceSub, Nat.reduceAdd, Nat.zero_add, Option.map_some, Option.map_none, c_na10, o_rng1, len_rng, len_lst, len_tup, Int.toNat_natCast, Int.reduceToNat, Int.reduceLE, Int.reduceLT, Nat.reducePow, Nat.reduceLT, and_self, if_true, if_false, ite_true, ite_false, true_and, and_true, reduceIte, l6, o2]
    have hm : lstAt (st ++ [Ob.lst [Val.int 31, Val.int 2, Val.int (10 ^ 8), Val.int (10 ^ 8), Val.int (10 ^ 8), Val.int (10 ^ 8)]] ++ [Ob.lst [[Val.int 31, Val.int 2, Val.int (10 ^ 8), Val.int (10 ^ 8), Val.int (10 ^ 8), Val.int (10 ^ 8)], [Val.int 31, Val.int 2, Val.int (10 ^ 8), Val.int (10 ^ 8), Val.int (10 ^ 8), Val.int (10 ^ 8)]].flatten])
        (List.length (st ++ [Ob.lst [Val.int 31, Val.int 2, Val.int (10 ^ 8), Val.int (10 ^ 8), Val.int (10 ^ 8), Val.int (10 ^ 8)]])) = some ((lim6 ++ lim6).map .int) := mut_lst mut_new
    refine wr_imp (draws_ok (d := d) (pre_lst (pre_app (pre_app pre_rfl _) _) hs) hm hp (by decide +kernel) (by decide)) ?_
    rintro _ s ⟨pre, ds, rfl, hds, hl, hb⟩
    refine ⟨(pre_app (pre_app pre_rfl _) _).trans pre, _, ds, rfl, ?_, hl, ?_⟩
    · unfold lstAt
      rw [hds]
    · intro a x hx
      have hlt := (List.getElem?_eq_some_iff.mp hx).1
      have hl2 : ds.length = 12 := hl
      have ha : a = 0 ∨ a = 1 := by omega
      rcases ha with rfl | rfl
      · exact hb 0 x 31 hx rfl
      · exact hb 6 x 31 hx rfl
  rintro _ s ⟨pre, m, ds, rfl, hds, hl, hb⟩
  have r2 : rngOk 2 = true := by decide
  have l0 : lineOk 0 = true := by decide
  simp only [w_varM, w_con, w_bin, w_neg, w_not, w_and, w_or, w_cmp, w_chain, w_ife, w_call, w_callp, w_star, w_blt, w_mth, w_idx, w_slc, w_lst, w_tup, w_tab, w_tin, w_dnew, w_rev, w_lc, w_lsc, w_dc, w_disp, w_get, w_fld, w_mk, w_meth, w_prop, w_nil, w_cons, w_onone, w_osome, w_tnone, w_tsome, w_tnot, w_tand, w_tor, w_tval, w_iex, w_irng1, w_irng2, w_irng3, w_izip, w_run, w_snil, w_scons, w_set, w_unp, w_seti, w_setf, w_exp, w_ret, w_retn, w_pass, w_ifs, w_loop, w_rais, w_try, wr_ok, wr_some, wr_none, wr_stuck, wr_bind, wr_quiet, wr_lift_ite, wr_ite, wo_ite, wo_next, wo_ret, wo_brk, wo_cnt, o_add, o_sub, o_mul, o_fdiv, o_mod, o_pow, o_neg, o_lt, o_le, o_gt, o_ge, o_eq, o_ne, o_eqs, o_nes, o_isB, o_notB, o_tbl, o_int, o_lst, decide_eq_true_eq, Bool.not_eq_true', decide_eq_false_iff_not, beq_iff_eq, List.map_cons, List.map_nil, List.length_cons, List.length_nil, List.replicate_succ, List.replicate_zero, List.cons_append, List.nil_append, List.getElem?_cons_zero, List.getElem?_cons_succ, List.set_cons_zero, List.set_cons_succ, Nat.reduceSub, Nat.reduceAdd, Nat.zero_add, Option.map_some, Option.map_none, c_na10, o_rng1, len_rng, len_lst, len_tup, Int.toNat_natCast, Int.reduceToNat, Int.reduceLE, Int.reduceLT, Nat.reducePow, Nat.reduceLT, and_self, if_true, if_false, ite_true, ite_false, true_and, and_true, reduceIte, l0, r2]
  refine for_rng (LongI n m s.length p 2 s) ⟨_, _, _, _, _, [], rfl, pre_app pre_rfl _, mut_new, rfl, fun x hx => absurd hx List.not_mem_nil⟩ ?_ ?_
  · rintro k _ s1 hk ⟨v, g, h, i, j, acc, rfl, pre1, hacc, hal, hsm⟩
    refine ⟨_, give_nm, ?_⟩
    simp only [List.set_cons_succ, List.set_cons_zero]
    exact long_turn hds hl (by decide) hb hk (by omega) (Nat.le_refl _) pre1 hacc hal hsm rfl
  · rintro _ s1 ⟨v, g, h, i, j, acc, rfl, pre1, hacc, hal, hsm⟩
    simp only [w_varM, w_con, w_bin, w_neg, w_not, w_and, w_or, w_cmp, w_chain, w_ife, w_call, w_callp, w_star, w_blt, w_mth, w_idx, w_slc, w_lst, w_tup, w_tab, w_tin, w_dnew, w_rev, w_lc, w_lsc, w_dc, w_disp, w_get, w_fld, w_mk, w_meth, w_prop, w_nil, w_cons, w_onone, w_osome, w_tnone, w_tsome, w_tnot, w_tand, w_tor, w_tval, w_iex, w_irng1, w_irng2, w_irng3, w_izip, w_run, w_snil, w_scons, w_set, w_unp, w_seti, w_setf, w_exp, w_ret, w_retn, w_pass, w_ifs, w_loop, w_rais, w_try, wr_ok, wr_some, wr_none, wr_stuck, wr_bind, wr_quiet, wr_lift_ite, wr_ite, wo_ite, wo_next, wo_ret, wo_brk, wo_cnt, o_add, o_sub, o_mul, o_fdiv, o_mod, o_pow, o_neg, o_lt, o_le, o_gt, o_ge, o_eq, o_ne, o_eqs, o_nes, o_isB, o_notB, o_tbl, o_int, o_lst, decide_eq_true_eq, Bool.not_eq_true', decide_eq_false_iff_not, beq_iff_eq, List.map_cons, List.map_nil, List.length_cons, List.length_nil, List.replicate_succ, List.replicate_zero, List.cons_append, List.nil_append, List.getElem?_cons_zero, List.getElem?_cons_succ, List.set_cons_zero, List.set_cons_succ, Nat.reduceSub, Nat.reduceAdd, Nat.zero_add, Option.map_some, Option.map_none, c_na10, o_rng1, len_rng, len_lst, len_tup, Int.toNat_natCast, Int.reduceToNat, Int.reduceLE, Int.reduceLT, Nat.reducePow, Nat.reduceLT, and_self, if_true, if_false, ite_true, ite_false, true_and, and_true, reduceIte]
    match acc, hal with
    | [x, y], _ => exact ⟨pre.trans pre1, _, x, y, rfl, mut_lst hacc, hsm x (by simp), hsm y (by simp)⟩
end EVL

/-! ## R7 -/
set_option maxRecDepth 10000
set_option maxHeartbeats 800000
namespace EVL
open PySem L2 EV
/-- how all is scaled and shifted -/
def Scale (v : Val) : Prop := ∃ a b c e : Int, v = .tup [.int a, .int b, .int c, .int e] ∧ (1 ≤ a ∧ a < 2 ^ 64) ∧ (1 ≤ c ∧ c < 2 ^ 64) ∧ Sm 120 b ∧ Sm 120 e
theorem sm_div {x : Int} (h : Sm 110 x) : Sm 120 (x / 10) := by
  have h1 : x.natAbs < 2 ^ 110 := h
  show (x / 10).natAbs < 2 ^ 120
  omega
theorem prod_ok {a b : Int} (ha : 0 ≤ a ∧ a < 10 ^ 8) (hb : 0 ≤ b ∧ b < 10 ^ 6) : mulOk a b = true ∧ 1 ≤ 1 + a * b ∧ 1 + a * b < 2 ^ 64 := by
  have h0 : 0 ≤ a * b := Int.mul_nonneg ha.1 hb.1
  have h1 : a * b ≤ 10 ^ 8 * b := Int.mul_le_mul_of_nonneg_right (by have := ha.2; omega) hb.1
  have h2 := hb.2
  exact ⟨mulOk_l ⟨by have := ha.1; omega, by have := ha.2; omega⟩, by omega, by omega⟩
theorem scale_ok {d n : Nat} {st : Store} {ns : List Int} {p : Int} (hs : lstAt st n = some (ns.map .int)) (hp : 0 ≤ p) :
    wr (clN (d + 4) id__law_scale [.ref n, .int p] st) (fun v st' => st <+: st' ∧ Scale v) noX := by
  show wr (runB (clN (d + 3)) 4 b__law_scale [.ref n, .int p] st) _ noX
  unfold b__law_scale
  rw [w_run]
  refine w_cut (fun ρ s => st <+: s ∧ ∃ (m : Nat) (a b c e f : Int), ρ = [some (.ref n), some (.int p), some (.ref m), none] ∧ lstAt s m = some (([a, b, c, e, f] : List Int).map .int) ∧ (0 ≤ b ∧ b < 10 ^ 8) ∧ (0 ≤ c ∧ c < 10 ^ 6) ∧ (0 ≤ e ∧ e < 10 ^ 8) ∧ (0 ≤ f ∧ f < 10 ^ 6)) ?_ ?_
  · have l5 : lineOk 5 = true := by decide
    simp only [w_varM, w_con, w_bin, w_neg, w_not, w_and, w_or, w_cmp, w_chain, w_ife, w_call, w_callp, w_star, w_blt, w_mth, w_idx, w_slc, w_lst, w_tup, w_tab, w_tin, w_dnew, w_rev, w_lc, w_lsc, w_dc, w_disp, w_get, w_fld, w_mk, w_meth, w_prop, w_nil, w_cons, w_onone, w_osome, w_tnone, w_tsome, w_tnot, w_tand, w_tor, w_tval, w_iex, w_irng1, w_irng2, w_irng3, w_izip, w_run, w_snil, w_scons, w_set, w_unp, w_seti, w_setf, w_exp, w_ret, w_retn, w_pass, w_ifs, w_loop, w_rais, w_try, wr_ok, wr_some, wr_none, wr_stuck, wr_bind, wr_quiet, wr_lift_ite, wr_ite, wo_ite, wo_next, wo_ret, wo_brk, wo_cnt, o_add, o_sub, o_mul, o_fdiv, o_mod, o_pow, o_neg, o_lt, o_le, o_gt, o_ge, o_eq, o_ne, o_eqs, o_nes, o_isB, o_notB, o_tbl, o_int, o_lst, decide_eq_true_eq, Bool.not_eq_true', decide_eq_false_iff_not, beq_iff_eq, List.map_cons, List.map_nil, List.length_cons, List.length_nil, List.replicate_succ, List.replicate_zero, List.cons_append, List.nil_append, List.getElem?_cons_zero, List.getElem?_cons_succ, List.set_cons_zero, List.set_cons_succ, Nat.reduceSub, Nat.reduceAdd, Nat.zero_add, Option.map_some, Option.map_none, c_na10, o_rng1, len_rng, len_lst, len_tup, Int.toNat_natCast, Int.reduceToNat, Int.reduceLE, Int.reduceLT, Nat.reducePow, Nat.reduceLT, and_self, if_true, if_false, ite_true, ite_false, true_and, and_true, reduceIte, l5]
    have hm : lstAt (st ++ [Ob.lst [Val.int 4, Val.int (10 ^ 8), Val.int (10 ^ 6), Val.int (10 ^ 8), Val.int (10 ^ 6)]]) st.length = some (([4, 10 ^ 8, 10 ^ 6, 10 ^ 8, 10 ^ 6] : List Int).map .int) := mut_lst mut_new
    refine wr_imp (draws_ok (d := d + 1) (pre_lst (pre_app pre_rfl _) hs) hm hp (by decide +kernel) (by decide)) ?_
    rintro _ s ⟨pre, ds, rfl, hds, hl, hb⟩
    match ds, hl with
    | [a, b, c, e, f], _ =>
      refine ⟨(pre_app pre_rfl _).trans pre, _, a, b, c, e, f, rfl, ?_, hb 1 b _ rfl rfl, hb 2 c _ rfl rfl, hb 3 e _ rfl rfl, hb 4 f _ rfl rfl⟩
      unfold lstAt
      rw [hds]
      rfl
  rintro _ s ⟨pre, m, a, b, c, e, f, rfl, hm, hb, hc, he, hf⟩
  refine w_cut (fun ρ s' => s <+: s' ∧ ∃ (q : Nat) (x y : Int), ρ = [some (.ref n), some (.int p), some (.ref m), some (.ref q)] ∧ lstAt s' q = some (([x, y] : List Int).map .int) ∧ Sm 110 x ∧ Sm 110 y) ?_ ?_
  · simp only [w_varM, w_con, w_bin, w_neg, w_not, w_and, w_or, w_cmp, w_chain, w_ife, w_call, w_callp, w_star, w_blt, w_mth, w_idx, w_slc, w_lst, w_tup, w_tab, w_tin, w_dnew, w_rev, w_lc, w_lsc, w_dc, w_disp, w_get, w_fld, w_mk, w_meth, w_prop, w_nil, w_cons, w_onone, w_osome, w_tnone, w_tsome, w_tnot, w_tand, w_tor, w_tval, w_iex, w_irng1, w_irng2, w_irng3, w_izip, w_run, w_snil, w_scons, w_set, w_unp, w_seti, w_setf, w_exp, w_ret, w_retn, w_pass, w_ifs, w_loop, w_rais, w_try, wr_ok, wr_some, wr_none, wr_stuck, wr_bind, wr_quiet, wr_lift_ite, wr_ite, wo_ite, wo_next, wo_ret, wo_brk, wo_cnt, o_add, o_sub, o_mul, o_fdiv, o_mod, o_pow, o_neg, o_lt, o_le, o_gt, o_ge, o_eq, o_ne, o_eqs, o_nes, o_isB, o_notB, o_tbl, o_int, o_lst, decide_eq_true_eq, Bool.not_eq_true', decide_eq_false_iff_not, beq_iff_eq, List.map_cons, List.map_nil, List.length_cons, List.length_nil, List.replicate_succ, List.replicate_zero, List.cons_append, List.nil_append, List.getElem?_cons_zero, List.getElem?_cons_succ, List.set_cons_zero, List.set_cons_succ, Nat.reduceSub, Nat.reduceAdd, Nat.zero_add, Option.map_some, Option.map_none, c_na10, o_rng1, len_rng, len_lst, len_tup, Int.toNat_natCast, Int.reduceToNat, Int.reduceLE, Int.reduceLT, Nat.reducePow, Nat.reduceLT, and_self, if_true, if_false, ite_true, ite_false, true_and, and_true, reduceIte]
    refine wr_imp (long_ok (d := d) (pre_lst pre hs) (by omega)) ?_
    rintro _ s1 ⟨pre1, q, x, y, rfl, hq, hx, hy⟩
    exact ⟨pre1, q, x, y, rfl, hq, hx, hy⟩
  rintro _ s1 ⟨pre1, q, x, y, rfl, hq, hx, hy⟩
  have hm1 := pre_lst pre1 hm
  have p1 := prod_ok hb hc
  have p2 := prod_ok he hf
  have a0 : atI (([a, b, c, e, f] : List Int).map Val.int) 0 = some (.int a) := ix_at (k := 0) rfl
  have a1 : atI (([a, b, c, e, f] : List Int).map Val.int) 1 = some (.int b) := ix_at (k := 1) rfl
  have a2 : atI (([a, b, c, e, f] : List Int).map Val.int) 2 = some (.int c) := ix_at (k := 2) rfl
  have a3 : atI (([a, b, c, e, f] : List Int).map Val.int) 3 = some (.int e) := ix_at (k := 3) rfl
  have a4 : atI (([a, b, c, e, f] : List Int).map Val.int) 4 = some (.int f) := ix_at (k := 4) rfl
  have q0 : atI (([x, y] : List Int).map Val.int) 0 = some (.int x) := ix_at (k := 0) rfl
  have q1 : atI (([x, y] : List Int).map Val.int) 1 = some (.int y) := ix_at (k := 1) rfl
  have i0 : idxV s1 (.ref m) (.int 0) = some (.int a) := (o_idx hm1).trans a0
  have i1 : idxV s1 (.ref m) (.int 1) = some (.int b) := (o_idx hm1).trans a1
  have i2 : idxV s1 (.ref m) (.int 2) = some (.int c) := (o_idx hm1).trans a2
  have i3 : idxV s1 (.ref m) (.int 3) = some (.int e) := (o_idx hm1).trans a3
  have i4 : idxV s1 (.ref m) (.int 4) = some (.int f) := (o_idx hm1).trans a4
  have j0 : idxV s1 (.ref q) (.int 0) = some (.int x) := (o_idx hq).trans q0
  have j1 : idxV s1 (.ref q) (.int 1) = some (.int y) := (o_idx hq).trans q1
  have f10 : (10 : Int).natAbs.log2 < 9000 := by decide
  have f10' : Nat.log2 10 < 9000 := by decide
  have l4 : lineOk 4 = true := by decide
  simp only [w_varM, w_con, w_bin, w_neg, w_not, w_and, w_or, w_cmp, w_chain, w_ife, w_call, w_callp, w_star, w_blt, w_mth, w_idx, w_slc, w_lst, w_tup, w_tab, w_tin, w_dnew, w_rev, w_lc, w_lsc, w_dc, w_disp, w_get, w_fld, w_mk, w_meth, w_prop, w_nil, w_cons, w_onone, w_osome, w_tnone, w_tsome, w_tnot, w_tand, w_tor, w_tval, w_iex, w_irng1, w_irng2, w_irng3, w_izip, w_run, w_snil, w_scons, w_set, w_unp, w_seti, w_setf, w_exp, w_ret, w_retn, w_pass, w_ifs, w_loop, w_rais, w_try, wr_ok, wr_some, wr_none, wr_stuck, wr_bind, wr_quiet, wr_lift_ite, wr_ite, wo_ite, wo_next, wo_ret, wo_brk, wo_cnt, o_add, o_sub, o_mul, o_fdiv, o_mod, o_pow, o_neg, o_lt, o_le, o_gt, o_ge, o_eq, o_ne, o_eqs, o_nes, o_isB, o_notB, o_tbl, o_int, o_lst, decide_eq_true_eq, Bool.not_eq_true', decide_eq_false_iff_not, beq_iff_eq, List.map_cons, List.map_nil, List.length_cons, List.length_nil, List.replicate_succ, List.replicate_zero, List.cons_append, List.nil_append, List.getElem?_cons_zero, List.getElem?_cons_succ, List.set_cons_zero, List.set_cons_succ, Nat.reduceSub, Nat.reduceAdd, Nat.zero_add, Option.map_some, Option.map_none, c_na10, o_rng1, len_rng, len_lst, len_tup, Int.toNat_natCast, Int.reduceToNat, Int.reduceLE, Int.reduceLT, Nat.reducePow, Nat.reduceLT, and_self, if_true, if_false, ite_true, ite_false, true_and, and_true, reduceIte, i0, i1, i2, i3, i4, j0, j1, f10, f10', l4, p1.1, p2.1]
  split
  · exact ⟨pre.trans pre1, _, _, _, _, rfl, ⟨by decide, by decide⟩, ⟨by decide, by decide⟩, sm0 _, sm0 _⟩
  · split
    · exact ⟨pre.trans pre1, _, _, _, _, rfl, ⟨by decide, by decide⟩, ⟨by decide, by decide⟩, sm_div hx, sm_div hy⟩
    · exact ⟨pre.trans pre1, _, _, _, _, rfl, p1.2, p2.2, sm_div hx, sm_div hy⟩
end EVL

/-! ## R8 -/
set_option maxRecDepth 10000
set_option maxHeartbeats 800000
namespace EVL
open PySem L2 EV
/-- what _law_draws hands on: numbers below the limits -/
def Drawn (st : Store) (m : Nat) (ls : List Int) : Prop := ∃ ds : List Int, lstAt st m = some (ds.map .int) ∧ ds.length = ls.length ∧ ∀ (i : Nat) (x l : Int), ds[i]? = some x → ls[i]? = some l → 0 ≤ x ∧ x < l
theorem Drawn.mono {st st' : Store} {m : Nat} {ls : List Int} (p : st <+: st') : Drawn st m ls → Drawn st' m ls := fun ⟨ds, h1, h2⟩ => ⟨ds, pre_lst p h1, h2⟩
/-- a call of _law_draws with a written list -/
theorem drawn {d n : Nat} {st : Store} {ns ls : List Int} {ρ : Fr} {p : Int} {a b e : Ex} (ha : ev (clN (d + 2)) a ρ st = .ok (.ref n) st) (hb : ev (clN (d + 2)) b ρ st = .ok (.int p) st) (hs : lstAt st n = some (ns.map .int)) (hp : 0 ≤ p) (he : lsE ρ e = some ls) (hl : (ls.all fun l => decide (0 < l ∧ l < 2 ^ 62)) = true) (hn : ls.length < 100000) :
    wr (ev (clN (d + 2)) (.call id__law_draws (.cons a (.cons b (.cons e .nil)))) ρ st) (fun v st' => st <+: st' ∧ ∃ m, v = .ref m ∧ Drawn st' m ls) noX := by
  rw [w_call, w_cons, ha, wr_ok, w_cons, hb, wr_ok, w_cons]
  refine wr_imp (lsE_ok e he) ?_
  rintro _ s1 ⟨p1, m, rfl, hm, h1⟩
  rw [w_nil]
  have hl' : ∀ l ∈ ls, 0 < l ∧ l < 2 ^ 62 := fun l h => of_decide_eq_true (List.all_eq_true.mp hl l h)
  refine wr_imp (draws_ok (d := d) (pre_lst p1 hs) (mut_lst h1) hp hl' hn) ?_
  rintro _ s2 ⟨p2, ds, rfl, h2, h3, h4⟩
  refine ⟨p1.trans p2, _, rfl, ds, ?_, h3, h4⟩
  unfold lstAt
  rw [h2]
theorem flat_strs : ∀ acc : List Str, (acc.map Val.str).all flat = true
  | [] => rfl
  | x :: r => by
    show (flat (.str x) && (r.map Val.str).all flat) = true
    rw [flat_strs r]
    rfl
theorem mut_at {st : Store} {n : Nat} {vs : List Val} (h : mutAt st n = some vs) : st[n]? = some (.lst vs) := by
  unfold mutAt at h
  cases q : st[n]? with
  | none => rw [q] at h; cases h
  | some o => rw [q] at h; cases o <;> first | (cases h; rfl) | cases h
theorem o_in {st : Store} {q : Nat} {acc : List Str} {x : Str} (h : mutAt st q = some (acc.map .str)) : cmpV .inn (.str x) (.ref q) st = some ((acc.map Val.str).any fun w => eqF w (.str x)) := by
  have e : cmpV .inn (.str x) (.ref q) st = (match st[q]? with
    | some (.dct kvs) => some (kvs.any fun kv => decide (kv.1 = .inr x))
    | some (.lst vs) => if flat (.str x) && vs.all flat then some (vs.any fun w => eqF w (.str x)) else none
    | some (.fro vs) => if flat (.str x) && vs.all flat then some (vs.any fun w => eqF w (.str x)) else none
    | _ => none) := rfl
  rw [e, mut_at h]
  show (if flat (.str x) && (acc.map Val.str).all flat then _ else _) = _
  rw [flat_strs]
  rfl
theorem o_adds {st : Store} {x y : Str} (h : lineOk (x.length + y.length) = true) : binV .add (.str x) (.str y) st = some (.str (x ++ y), st) := if_pos h
theorem o_slcs {st : Store} {x : Str} {lo hi : Option Int} (h : lineOk x.length = true) : slcV (.str x) lo hi st = some (.str (cutS x lo hi), st) := if_pos h
abbrev pairV (p : Int × Int) : Val := .tup [.int p.1, .int p.2]
abbrev pairD (p : Int × Int) : PyData := .tuple [.int p.1, .int p.2]
theorem pyPair {st : Store} {k : Nat} (p : Int × Int) (h : 3 ≤ k) : pyOf st k (pairV p) = some (pairD p) := by
  obtain ⟨j, rfl⟩ : ∃ j, k = j + 3 := ⟨k - 3, by omega⟩
  cases j <;> rfl
theorem pyPairs {st : Store} : ∀ (ps : List (Int × Int)) (k : Nat), ps.length + 4 ≤ k → pyAll st k (ps.map pairV) = some (ps.map pairD)
  | [], k, _ => by cases k <;> rfl
  | p :: ps, 0, h => by omega
  | p :: ps, k + 1, h => by
    have h : ps.length + 1 + 4 ≤ k + 1 := h
    show (match pyOf st k (pairV p), pyAll st k (ps.map pairV) with
      | some d, some ds => some (d :: ds)
      | _, _ => none) = _
    rw [pyPair p (by omega), pyPairs ps k (by omega)]
    rfl
theorem pyRow {st : Store} {r k : Nat} {ps : List (Int × Int)} (h : lstAt st r = some (ps.map pairV)) (hk : ps.length + 5 ≤ k) : pyOf st k (.ref r) = some (.list (ps.map pairD)) := by
  obtain ⟨j, rfl⟩ : ∃ j, k = j + 1 := ⟨k - 1, by omega⟩
  show (match lstAt st r with
    | some vs => (pyAll st j vs).map PyData.list
    | none => none) = _
  rw [h]
  show (pyAll st j (ps.map pairV)).map PyData.list = _
  rw [pyPairs ps j (by omega)]
  rfl
theorem canPairs : ∀ ps : List (Int × Int), PyData.canLayAll0 (ps.map pairD) = true
  | [] => rfl
  | p :: ps => by
    show (PyData.canLay0 (pairD p) && PyData.canLayAll0 (ps.map pairD)) = true
    rw [canPairs ps]
    rfl
theorem depPairs : ∀ ps : List (Int × Int), PyData.depthAll (ps.map pairD) ≤ 2
  | [] => by decide
  | p :: ps => by
    have h := depPairs ps
    show max (PyData.depth (pairD p)) (PyData.depthAll (ps.map pairD)) ≤ 2
    have e : PyData.depth (pairD p) ≤ 2 := by show max 0 (max 0 0) + 1 ≤ 2; decide
    omega
theorem shapedRow (ps : List (Int × Int)) : SeqAt.shaped (.list (ps.map pairD)) = true := by
  unfold SeqAt.shaped
  rw [show PyData.canLay0 (.list (ps.map pairD)) = true from canPairs ps]
  have h := depPairs ps
  have e : PyData.depth (.list (ps.map pairD)) ≤ 64 := by
    show PyData.depthAll (ps.map pairD) + 1 ≤ 64
    omega
  rw [decide_eq_true e]
  rfl
theorem row_nil {st : Store} {r m : Nat} {ps : List (Int × Int)} (h : lstAt st r = some (ps.map pairV)) (k : lstAt st m = some []) (hl : ps.length ≤ 1000) : cmpV .eq (.ref r) (.ref m) st = some ps.isEmpty := by
  have e1 := pyRow (k := 100000) h (by omega)
  have e2 := pyRow (k := 100000) (ps := []) k (by decide)
  show (match pyOf st 100000 (.ref r), pyOf st 100000 (.ref m) with
    | some d, some e => if SeqAt.shaped d && SeqAt.shaped e then some (PyData.eqv d e) else none
    | _, _ => none) = _
  rw [e1, e2]
  show (if SeqAt.shaped (.list (ps.map pairD)) && SeqAt.shaped (.list (([] : List (Int × Int)).map pairD)) then some (PyData.eqv (.list (ps.map pairD)) (.list [])) else none) = _
  rw [shapedRow, shapedRow]
  cases ps <;> rfl
theorem o_tuplen {st : Store} {vs : List Val} : bltV .len [.tup vs] st = some (.int vs.length, st) := rfl
theorem mut_len {st : Store} {n : Nat} {vs : List Val} (h : mutAt st n = some vs) : bltV .len [.ref n] st = some (.int vs.length, st) := o_len (mut_lst h)
theorem o_slcM {st : Store} {n : Nat} {vs : List Val} {lo hi : Option Int} (h : mutAt st n = some vs) : slcV (.ref n) lo hi st = some (.ref st.length, st ++ [.lst (EV.cut vs lo hi)]) := o_slcL (mut_lst h)
theorem o_revM {st : Store} {n : Nat} {vs : List Val} (h : mutAt st n = some vs) : revV (.ref n) st = some (.ref st.length, st ++ [.lst vs.reverse]) := by
  show (match lstAt st n with
    | some vs => alloc st (.lst vs.reverse)
    | none => none) = _
  rw [mut_lst h]
  rfl
theorem cut_pairs (ps : List (Int × Int)) (lo hi : Option Int) : EV.cut (ps.map pairV) lo hi = (EV.cut ps lo hi).map pairV := by
  unfold EV.cut
  rw [List.length_map, List.map_take, List.map_drop]
theorem o_sortI {st : Store} {n : Nat} {xs : List Int} (h : mutAt st n = some (xs.map .int)) : bltV .sorted [.ref n] st = some (.ref st.length, st ++ [.lst ((sortI xs).map .int)]) := by
  have e : bltV .sorted [.ref n] st = (match st[n]? with
    | some (.lst ws) => match sortV ws with
      | some us => alloc st (.lst us)
      | none => none
    | some (.fro ws) => match sortV ws with
      | some us => alloc st (.lst us)
      | none => none
    | some (.dct kvs) => match keysS (kvs.map (·.1)) with
      | some ks => if decide (ks.length < 64) then alloc st (.lst ((sortS ks).map .str)) else none
      | none => none
    | _ => none) := rfl
  rw [e, mut_at h]
  have e2 : sortV (xs.map Val.int) = some ((sortI xs).map .int) := by
    unfold sortV
    rw [ints_map]
  show (match sortV (xs.map Val.int) with
      | some us => alloc st (.lst us)
      | none => none) = _
  rw [e2]
  rfl
/-- a dict of names -/
def Keyed (kvs : List (Key × Val)) : Prop := ∀ kv ∈ kvs, ∃ x, kv.1 = .inr x ∧ IsName x
theorem put_len (kvs : List (Key × Val)) (k : Key) (v : Val) : (putKV kvs k v).length ≤ kvs.length + 1 := by
  unfold putKV
  split
  · rw [List.length_map]; omega
  · rw [List.length_append]; show kvs.length + 1 ≤ _; omega
theorem put_mem {kvs : List (Key × Val)} {k : Key} {v : Val} {kv : Key × Val} (h : kv ∈ putKV kvs k v) : kv ∈ kvs ∨ kv = (k, v) := by
  unfold putKV at h
  split at h
  · obtain ⟨q, hq, e⟩ := List.mem_map.mp h
    split at e
    · rename_i z
      exact .inr (by rw [← e, z])
    · exact .inl (by rw [← e]; exact hq)
  · rcases List.mem_append.mp h with h | h
    · exact .inl h
    · exact .inr (List.mem_singleton.mp h)
theorem Keyed.put {kvs : List (Key × Val)} {x : Str} {v : Val} (h : Keyed kvs) (hx : IsName x) : Keyed (putKV kvs (.inr x) v) := fun kv hk => by
  rcases put_mem hk with hk | rfl
  · exact h kv hk
  · exact ⟨x, rfl, hx⟩
theorem seti_dct {s : Store} {a : Nat} {kvs : List (Key × Val)} {x : Str} {v : Val} (h : s[a]? = some (.dct kvs)) (hl : kvs.length < 16777216) : setiV (.ref a) (.str x) v s = some (s.set a (.dct (putKV kvs (.inr x) v))) := by
  show (match s[a]? with
    | some (.lst vs) => match (Val.str x) with
      | .int j => match ixN vs.length j with
        | some k => some (s.set a (.lst (vs.set k v)))
        | none => none
      | _ => none
    | some (.dct kvs) => if decide (kvs.length < 16777216) then match (Val.str x) with
        | .int j => some (s.set a (.dct (putKV kvs (.inl j) v)))
        | .str z => some (s.set a (.dct (putKV kvs (.inr z) v)))
        | _ => none
      else none
    | _ => none) = _
  rw [h]
  exact if_pos (decide_eq_true hl)
theorem at_lt {s : Store} {a : Nat} {o : Ob} (h : s[a]? = some o) : a < s.length := (List.getElem?_eq_some_iff.mp h).1
theorem mut_setD {s : Store} {A r : Nat} {kvs : List (Key × Val)} {o : Ob} {vs : List Val} (h : s[A]? = some (.dct kvs)) (k : mutAt s r = some vs) : mutAt (s.set A o) r = some vs := by
  have ne : A ≠ r := by
    rintro rfl
    rw [mut_at k] at h
    cases h
  unfold mutAt
  rw [List.getElem?_set_ne ne, mut_at k]
theorem put_has {kvs : List (Key × Val)} {k : Key} {v : Val} : ∃ kv ∈ putKV kvs k v, kv.1 = k := by
  unfold putKV
  split
  · rename_i h
    obtain ⟨q, hq, e⟩ := List.any_eq_true.mp h
    have e := of_decide_eq_true e
    exact ⟨_, List.mem_map_of_mem hq, by rw [if_pos e]; exact e⟩
  · exact ⟨(k, v), List.mem_append_right _ (List.mem_singleton.mpr rfl), rfl⟩
theorem put_keep {kvs : List (Key × Val)} {k k' : Key} {v : Val} (h : ∃ kv ∈ kvs, kv.1 = k') : ∃ kv ∈ putKV kvs k v, kv.1 = k' := by
  obtain ⟨q, hq, e⟩ := h
  unfold putKV
  split
  · refine ⟨_, List.mem_map_of_mem hq, ?_⟩
    split <;> exact e
  · exact ⟨q, List.mem_append_left _ hq, e⟩
theorem o_didx {s : Store} {A : Nat} {kvs : List (Key × Val)} {x : Str} {P : Val → Prop} (h : s[A]? = some (.dct kvs)) (hk : ∃ kv ∈ kvs, kv.1 = .inr x) (hP : ∀ kv ∈ kvs, P kv.2) : ∃ v, idxV s (.ref A) (.str x) = some v ∧ P v := by
  have e : idxV s (.ref A) (.str x) = (match s[A]? with
      | some (.dct kvs) => (kvs.find? fun kv => decide (kv.1 = .inr x)).map (·.2)
      | some (.frd kvs) => (kvs.find? fun kv => decide (kv.1 = .inr x)).map (·.2)
      | _ => none) := rfl
  rw [e, h]
  cases q : kvs.find? fun kv => decide (kv.1 = .inr x) with
  | none =>
    obtain ⟨kv, h1, h2⟩ := hk
    have z := List.find?_eq_none.mp q kv h1
    exact absurd (decide_eq_true h2) z
  | some kv =>
    refine ⟨kv.2, by show (kvs.find? fun kv => decide (kv.1 = .inr x)).map (·.2) = _; rw [q]; rfl, hP kv (List.mem_of_find?_eq_some q)⟩
theorem flat_ints : ∀ acc : List Int, (acc.map Val.int).all flat = true
  | [] => rfl
  | x :: r => by
    show (flat (.int x) && (r.map Val.int).all flat) = true
    rw [flat_ints r]
    rfl
theorem seti_lst {s : Store} {n j : Nat} {vs : List Val} {i : Int} {v : Val} (h : mutAt s n = some vs) (hi : ixN vs.length i = some j) : setiV (.ref n) (.int i) v s = some (s.set n (.lst (vs.set j v))) := by
  have e : setiV (.ref n) (.int i) v s = (match s[n]? with
    | some (.lst vs) => match ixN vs.length i with
        | some k => some (s.set n (.lst (vs.set k v)))
        | none => none
    | some (.dct kvs) => if decide (kvs.length < 16777216) then some (s.set n (.dct (putKV kvs (Sum.inl i : Key) v))) else none
    | _ => none) := rfl
  rw [e, mut_at h]
  show (match ixN vs.length i with
        | some k => some (s.set n (.lst (vs.set k v)))
        | none => none) = _
  rw [hi]
theorem ixN_nat {n : Nat} {i : Int} (h : 0 ≤ i ∧ i < n) : ixN n i = some i.toNat := by
  unfold ixN
  rw [if_pos h.1, if_pos h.2]
theorem keys_map : ∀ {kvs : List (Key × Val)}, Keyed kvs → ∃ xs : List Str, (kvs.map fun kv => keyV kv.1) = xs.map .str ∧ (∀ x ∈ xs, IsName x) ∧ xs.length = kvs.length
  | [], _ => ⟨[], rfl, fun x h => absurd h List.not_mem_nil, rfl⟩
  | kv :: kvs, h => by
    obtain ⟨x, e, hx⟩ := h kv List.mem_cons_self
    obtain ⟨xs, e2, hxs, hl⟩ := keys_map (kvs := kvs) fun q hq => h q (List.mem_cons_of_mem _ hq)
    refine ⟨x :: xs, by rw [List.map_cons, List.map_cons, e2, e]; rfl, fun y hy => ?_, by rw [List.length_cons, List.length_cons, hl]⟩
    rcases List.mem_cons.mp hy with rfl | hy
    · exact hx
    · exact hxs y hy
theorem o_listD {s : Store} {a : Nat} {kvs : List (Key × Val)} (h : s[a]? = some (.dct kvs)) : bltV .list [.ref a] s = some (.ref s.length, s ++ [.lst (kvs.map fun kv => keyV kv.1)]) := by
  have e : bltV .list [.ref a] s = (match s[a]? with
    | some (.lst ws) => alloc s (.lst ws)
    | some (.fro ws) => alloc s (.lst ws)
    | some (.dct kvs) => alloc s (.lst (kvs.map fun (kv : Key × Val) => keyV kv.1))
    | _ => none) := rfl
  rw [e, h]
  rfl
theorem o_dictD {s : Store} {a : Nat} {kvs : List (Key × Val)} (h : s[a]? = some (.dct kvs)) : bltV .dict [.ref a] s = some (.ref s.length, s ++ [.dct kvs]) := by
  have e : bltV .dict [.ref a] s = (match s[a]? with
    | some (.dct kvs) => alloc s (.dct kvs)
    | _ => none) := rfl
  rw [e, h]
  rfl
theorem o_listM {s : Store} {r : Nat} {vs : List Val} (h : mutAt s r = some vs) : bltV .list [.ref r] s = some (.ref s.length, s ++ [.lst vs]) := by
  have e : bltV .list [.ref r] s = (match s[r]? with
    | some (.lst ws) => alloc s (.lst ws)
    | some (.fro ws) => alloc s (.lst ws)
    | some (.dct kvs) => alloc s (.lst (kvs.map fun (kv : Key × Val) => keyV kv.1))
    | _ => none) := rfl
  rw [e, mut_at h]
  rfl
theorem o_fidx {s : Store} {A : Nat} {kvs : List (Key × Val)} {x : Str} {P : Val → Prop} (h : s[A]? = some (.frd kvs)) (hk : ∃ kv ∈ kvs, kv.1 = .inr x) (hP : ∀ kv ∈ kvs, P kv.2) : ∃ v, idxV s (.ref A) (.str x) = some v ∧ P v := by
  have e : idxV s (.ref A) (.str x) = (match s[A]? with
      | some (.dct kvs) => (kvs.find? fun kv => decide (kv.1 = .inr x)).map (·.2)
      | some (.frd kvs) => (kvs.find? fun kv => decide (kv.1 = .inr x)).map (·.2)
      | _ => none) := rfl
  rw [e, h]
  cases q : kvs.find? fun kv => decide (kv.1 = .inr x) with
  | none =>
    obtain ⟨kv, h1, h2⟩ := hk
    have z := List.find?_eq_none.mp q kv h1
    exact absurd (decide_eq_true h2) z
  | some kv =>
    refine ⟨kv.2, by show (kvs.find? fun kv => decide (kv.1 = .inr x)).map (·.2) = _; rw [q]; rfl, hP kv (List.mem_of_find?_eq_some q)⟩
theorem mut_setF {s : Store} {A r : Nat} {kvs : List (Key × Val)} {o : Ob} {vs : List Val} (h : s[A]? = some (.frd kvs)) (k : mutAt s r = some vs) : mutAt (s.set A o) r = some vs := by
  have ne : A ≠ r := by
    rintro rfl
    rw [mut_at k] at h
    cases h
  unfold mutAt
  rw [List.getElem?_set_ne ne, mut_at k]
theorem o_ix {m : Nat} {vs : List Val} {s : Store} (h : mutAt s m = some vs) (i : Int) : idxV s (.ref m) (.int i) = atI vs i := o_idx (mut_lst h)
theorem isi_lst {s : Store} {n : Nat} {vs : List Val} (h : mutAt s n = some vs) : isiV .bool s (.ref n) = some false ∧ isiV .int s (.ref n) = some false ∧ isiV .str s (.ref n) = some false ∧ isiV .dict s (.ref n) = some false ∧ isiV .list s (.ref n) = some true ∧ isiV .tuple s (.ref n) = some false := by
  have e : tyOf s (.ref n) = some .list := by
    show (match s[n]? with
      | some (.lst _) => some Ty.list
      | some (.dct _) => some .dict
      | _ => none) = _
    rw [mut_at h]
  have k : ∀ T, isiV T s (.ref n) = (tyOf s (.ref n)).map fun t => decide (t = T) || (decide (t = .bool) && decide (T = .int)) := fun T => rfl
  rw [k, k, k, k, k, k, e]
  exact ⟨rfl, rfl, rfl, rfl, rfl, rfl⟩
theorem same_lst {d n a b : Nat} {s : Store} {vs ws : List Val} (ha : mutAt s a = some vs) (hb : mutAt s b = some ws) (hl : vs.length = n) (hm : ws.length = n) (hn : n < 1000)
    (hi : ∀ (i : Nat) (v w : Val) (s' : Store), vs[i]? = some v → ws[i]? = some w → s <+: s' → wr (clN (d + 1) id__law_same [v, w] s') (Tru s') noX) :
    wr (clN (d + 2) id__law_same [.ref a, .ref b] s) (Tru s) noX := by
  show wr (runB (clN (d + 1)) 4 b__law_same [.ref a, .ref b] s) _ noX
  unfold b__law_same
  obtain ⟨a1, a2, a3, a4, a5, a6⟩ := isi_lst ha
  obtain ⟨b1, b2, b3, b4, b5, b6⟩ := isi_lst hb
  have e0 : ∀ n, cmpV .isN (.ref n) .non s = some false := fun _ => rfl
  have e7 : cmpV .ne (.bl false) (.bl false) s = some false := rfl
  have e8 : cmpV .ne (.bl true) (.bl true) s = some false := rfl
  have ea : rngOk (n : Int) = true := rng_ok ⟨by omega, by omega⟩
  have la := mut_len ha
  have lb := mut_len hb
  rw [hl] at la
  rw [hm] at lb
  simp only [w_varM, w_con, w_bin, w_neg, w_not, w_and, w_or, w_cmp, w_chain, w_ife, w_call, w_callp, w_star, w_blt, w_mth, w_idx, w_slc, w_lst, w_tup, w_tab, w_tin, w_dnew, w_rev, w_lc, w_lsc, w_dc, w_disp, w_get, w_fld, w_mk, w_meth, w_prop, w_nil, w_cons, w_onone, w_osome, w_tnone, w_tsome, w_tnot, w_tand, w_tor, w_tval, w_iex, w_irng1, w_irng2, w_irng3, w_izip, w_run, w_snil, w_scons, w_set, w_unp, w_seti, w_setf, w_exp, w_ret, w_retn, w_pass, w_ifs, w_loop, w_rais, w_try, wr_ok, wr_some, wr_none, wr_stuck, wr_bind, wr_quiet, wr_lift_ite, wr_ite, wo_ite, wo_next, wo_ret, wo_brk, wo_cnt, o_add, o_sub, o_mul, o_fdiv, o_mod, o_pow, o_neg, o_lt, o_le, o_gt, o_ge, o_eq, o_ne, o_eqs, o_nes, o_isB, o_notB, o_tbl, o_int, o_lst, decide_eq_true_eq, Bool.not_eq_true', decide_eq_false_iff_not, beq_iff_eq, List.map_cons, List.map_nil, List.length_cons, List.length_nil, List.replicate_succ, List.replicate_zero, List.cons_append, List.nil_append, List.getElem?_cons_zero, List.getElem?_cons_succ, List.set_cons_zero, List.set_cons_succ, Nat.reduceSub, Nat.reduceAdd, Nat.zero_add, Option.map_some, Option.map_none, c_na10, o_rng1, len_rng, len_lst, len_tup, Int.toNat_natCast, Int.reduceToNat, Int.reduceLE, Int.reduceLT, Nat.reducePow, Nat.reduceLT, and_self, if_true, if_false, ite_true, ite_false, true_and, and_true, reduceIte, e0, o_isi a1, o_isi a2, o_isi a3, o_isi a4, o_isi a5, o_isi a6, o_isi b1, o_isi b2, o_isi b3, o_isi b4, o_isi b5, o_isi b6, e7, e8, la, lb, ea, Bool.false_eq_true, beq_self_eq_true, Bool.not_true]
  refine lc_of (n := n) rfl (fun i s' acc => acc = (List.replicate i true).map .bl ∧ s <+: s' ∧ mutAt s' s.length = some acc) ?_ ?_ n 0 _ [] (Nat.zero_add _) ⟨rfl, pre_app pre_rfl _, mut_new⟩
  · rintro i s' _ hi2 ⟨rfl, pre, hmm⟩
    have hv : vs[i]? = some (vs[i]'(by omega)) := List.getElem?_eq_getElem _
    have hw : ws[i]? = some (ws[i]'(by omega)) := List.getElem?_eq_getElem _
    refine ⟨.int (0 + (i : Int)), _, rfl, give_nm, ?_⟩
    have ez : (0 : Int) + (i : Int) = i := by omega
    unfold x__law_same_1
    have c1 : atI vs (i : Int) = some _ := atI_nat hv
    have c2 : atI ws (i : Int) = some _ := atI_nat hw
    simp only [w_varM, w_con, w_bin, w_neg, w_not, w_and, w_or, w_cmp, w_chain, w_ife, w_call, w_callp, w_star, w_blt, w_mth, w_idx, w_slc, w_lst, w_tup, w_tab, w_tin, w_dnew, w_rev, w_lc, w_lsc, w_dc, w_disp, w_get, w_fld, w_mk, w_meth, w_prop, w_nil, w_cons, w_onone, w_osome, w_tnone, w_tsome, w_tnot, w_tand, w_tor, w_tval, w_iex, w_irng1, w_irng2, w_irng3, w_izip, w_run, w_snil, w_scons, w_set, w_unp, w_seti, w_setf, w_exp, w_ret, w_retn, w_pass, w_ifs, w_loop, w_rais, w_try, wr_ok, wr_some, wr_none, wr_stuck, wr_bind, wr_quiet, wr_lift_ite, wr_ite, wo_ite, wo_next, wo_ret, wo_brk, wo_cnt, o_add, o_sub, o_mul, o_fdiv, o_mod, o_pow, o_neg, o_lt, o_le, o_gt, o_ge, o_eq, o_ne, o_eqs, o_nes, o_isB, o_notB, o_tbl, o_int, o_lst, decide_eq_true_eq, Bool.not_eq_true', decide_eq_false_iff_not, beq_iff_eq, List.map_cons, List.map_nil, List.length_cons, List.length_nil, List.replicate_succ, List.replicate_zero, List.cons_append, List.nil_append, List.getElem?_cons_zero, List.getElem?_cons_succ, List.set_cons_zero, List.set_cons_succ, Nat.reduceSub, Nat.reduceAdd, Nat.zero_add, Option.map_some, Option.map_none, c_na10, o_rng1, len_rng, len_lst, len_tup, Int.toNat_natCast, Int.reduceToNat, Int.reduceLE, Int.reduceLT, Nat.reducePow, Nat.reduceLT, and_self, if_true, if_false, ite_true, ite_false, true_and, and_true, reduceIte, wipeF, ez, o_ix (mut_pre pre ha), o_ix (mut_pre pre hb), c1, c2]
    refine wr_imp (hi i _ _ s' hv hw pre) ?_
    rintro _ s2 ⟨rfl, pre2⟩
    have hm2 := mut_pre pre2 hmm
    refine ⟨hm2, by rw [List.length_map, List.length_replicate]; omega, ?_, pre_set (pre.trans pre2) (Nat.le_refl _), mut_set hm2⟩
    rw [List.map_replicate]
    exact (List.replicate_succ' (n := i) (a := Val.bl true)).symm
  · rintro s' _ ⟨rfl, pre, hmm⟩
    refine ⟨rfl, ?_⟩
    rw [o_all (mut_lst hmm), wr_some, all_rep]
    exact ⟨rfl, pre⟩
theorem same_row {d a b : Nat} {s : Store} {row : List Val} (ha : mutAt s a = some row) (hb : mutAt s b = some row) (hl : row.length ≤ 100) (hp : ∀ u ∈ row, Pur 3 u) : wr (clN (d + 5) id__law_same [.ref a, .ref b] s) (Tru s) noX := by
  refine same_lst (d := d + 3) (n := row.length) ha hb rfl rfl (by omega) fun i v w s' h1 h2 pre => ?_
  rw [h1] at h2
  cases h2
  exact same_ok 3 d s' v (hp v (List.mem_of_getElem? h1))
end EVL

/-! ## Q1 -/
set_option maxRecDepth 10000
set_option maxHeartbeats 800000
namespace EVL
open PySem L2 EV
/-! rows: their least form, their cells -/
abbrev Pr : Type := Int × Int
def stepK (K : List Pr) (e : Pr) : List Pr := match K.getLast? with
  | none => [e]
  | some l => if l.2 = e.2 then K else K ++ [e]
def keptF (E : List Pr) : List Pr := E.foldl stepK []
def firstF : List Pr → List Pr
  | [] => []
  | [e] => [(0, e.2)]
  | e :: f :: r => (f.1 - 1, e.2) :: f :: r
def leastF (ps : List Pr) : List Pr := firstF (keptF (sortP ps))
def cstep (x : Int) (acc : Int) (e : Pr) : Int := if e.1 ≤ x then e.2 else acc
def cellF (E : List Pr) (x : Int) : Int := E.foldl (cstep x) ((E.head?.map (·.2)).getD 0)
/-- ascending places -/
def Asc (E : List Pr) : Prop := E.Pairwise fun a b => a.1 < b.1
/-- neighbours of unlike values -/
def Unl (E : List Pr) : Prop := ∀ (i : Nat) (a b : Pr), E[i]? = some a → E[i + 1]? = some b → a.2 ≠ b.2
structure KInv (P K : List Pr) : Prop where
  ne : K ≠ []
  hd : K.head? = P.head?
  sub : ∀ e ∈ K, e ∈ P
  asc : Asc K
  unl : Unl K
  cell : ∀ x a, K.foldl (cstep x) a = P.foldl (cstep x) a
theorem last_snoc {K : List Pr} {l : Pr} (h : K.getLast? = some l) : ∃ K', K = K' ++ [l] := by
  obtain ⟨K', e⟩ := List.getLast?_eq_some_iff.mp h
  exact ⟨K', e⟩
theorem kinv_one (e : Pr) : KInv [e] (stepK [] e) where
  ne := by intro h; cases h
  hd := rfl
  sub := fun _ h => h
  asc := List.pairwise_singleton _ _
  unl := fun i a b _ h2 => by
    have : (stepK [] e)[i + 1]? = none := by
      show ([e] : List Pr)[i + 1]? = none
      rw [List.getElem?_eq_none]; simp
    rw [this] at h2
    cases h2
  cell := fun _ _ => rfl
theorem kinv_step {P K : List Pr} {e : Pr} (h : KInv P K) (hP : P ≠ []) (ha : ∀ q ∈ P, q.1 < e.1) : KInv (P ++ [e]) (stepK K e) := by
  cases hl : K.getLast? with
  | none => exact absurd (List.getLast?_eq_none_iff.mp hl) h.ne
  | some l =>
    obtain ⟨K', rfl⟩ := last_snoc hl
    have hin : l ∈ P := h.sub l (by simp)
    have hlt := ha l hin
    have hdP : (P ++ [e]).head? = P.head? := by
      cases P with
      | nil => exact absurd rfl hP
      | cons a r => rfl
    unfold stepK
    rw [hl]
    dsimp only
    by_cases c : l.2 = e.2
    · rw [if_pos c]
      refine ⟨h.ne, h.hd.trans hdP.symm, fun q hq => List.mem_append_left _ (h.sub q hq), h.asc, h.unl, fun x a => ?_⟩
      rw [show (P ++ [e]).foldl (cstep x) a = cstep x (P.foldl (cstep x) a) e from by rw [List.foldl_append]; rfl, ← h.cell x a, show (K' ++ [l]).foldl (cstep x) a = cstep x (K'.foldl (cstep x) a) l from by rw [List.foldl_append]; rfl]
      unfold cstep
      by_cases c2 : e.1 ≤ x
      · rw [if_pos c2, if_pos (by omega), c]
      · rw [if_neg c2]
    · rw [if_neg c]
      refine ⟨by simp, ?_, fun q hq => ?_, ?_, fun i a b h1 h2 => ?_, fun x a => ?_⟩
      · rw [hdP, ← h.hd]
        cases K' <;> rfl
      · rcases List.mem_append.mp hq with hq | hq
        · exact List.mem_append_left _ (h.sub q hq)
        · exact List.mem_append_right _ hq
      · refine List.pairwise_append.mpr ⟨h.asc, List.pairwise_singleton _ _, fun a hA b hb => ?_⟩
        rw [List.mem_singleton] at hb
        subst hb
        exact ha a (h.sub a hA)
      · by_cases hi : i + 1 < (K' ++ [l]).length
        · rw [List.getElem?_append_left hi] at h2
          rw [List.getElem?_append_left (by omega)] at h1
          exact h.unl i a b h1 h2
        · have hb := (List.getElem?_eq_some_iff.mp h2).1
          rw [List.length_append (bs := [e])] at hb
          have hb : i + 1 < (K' ++ [l]).length + 1 := hb
          have hil : i + 1 = (K' ++ [l]).length := by omega
          have hi2 : i = K'.length := by rw [List.length_append] at hil; simpa using hil
          rw [List.getElem?_append_right (by omega), hil, Nat.sub_self] at h2
          have h2 : e = b := by simpa using h2
          rw [List.getElem?_append_left (by omega), List.getElem?_append_right (by omega), hi2, Nat.sub_self] at h1
          have h1 : l = a := by simpa using h1
          rw [← h1, ← h2]
          exact c
      · rw [show (P ++ [e]).foldl (cstep x) a = cstep x (P.foldl (cstep x) a) e from by rw [List.foldl_append]; rfl, ← h.cell x a, show (K' ++ [l] ++ [e]).foldl (cstep x) a = cstep x ((K' ++ [l]).foldl (cstep x) a) e from by rw [List.foldl_append]; rfl]
theorem kinv_all : ∀ (R P K : List Pr), P ≠ [] → KInv P K → Asc (P ++ R) → KInv (P ++ R) (R.foldl stepK K)
  | [], P, K, _, h, _ => by rw [List.append_nil]; exact h
  | e :: R, P, K, hP, h, ha => by
    have e1 : P ++ e :: R = (P ++ [e]) ++ R := by rw [List.append_assoc]; rfl
    rw [e1] at ha ⊢
    have hq : ∀ q ∈ P, q.1 < e.1 := fun q hq => (List.pairwise_append.mp (List.pairwise_append.mp ha).1).2.2 q hq e (by simp)
    exact kinv_all R (P ++ [e]) (stepK K e) (by simp) (kinv_step h hP hq) ha
theorem kept_inv {E : List Pr} (hE : E ≠ []) (ha : Asc E) : KInv E (keptF E) := by
  cases E with
  | nil => exact absurd rfl hE
  | cons e R => exact kinv_all R [e] (stepK [] e) (by simp) (kinv_one e) ha
/-- cells of the least form -/
theorem cell_first {K : List Pr} (hK : K ≠ []) (x : Int) : cellF (firstF K) x = cellF K x := by
  match K, hK with
  | [e], _ =>
    show cstep x e.2 (0, e.2) = cstep x e.2 e
    unfold cstep
    split <;> split <;> rfl
  | e :: f :: r, _ =>
    show (f :: r).foldl (cstep x) (cstep x e.2 (f.1 - 1, e.2)) = (f :: r).foldl (cstep x) (cstep x e.2 e)
    have : cstep x e.2 (f.1 - 1, e.2) = cstep x e.2 e := by
      unfold cstep
      split <;> split <;> rfl
    rw [this]
theorem cell_kept {E : List Pr} (hE : E ≠ []) (ha : Asc E) (x : Int) : cellF (firstF (keptF E)) x = cellF E x := by
  have h := kept_inv hE ha
  rw [cell_first h.ne]
  unfold cellF
  rw [h.hd, h.cell]
/-- the least form's shape -/
def Shp : List Pr → Prop
  | [] => False
  | [e] => e.1 = 0
  | e :: f :: r => e.1 = f.1 - 1
theorem shp_first : ∀ {K : List Pr}, K ≠ [] → Shp (firstF K)
  | [e], _ => rfl
  | e :: f :: r, _ => rfl
theorem asc_first {K : List Pr} (h : Asc K) : Asc (firstF K) := by
  match K, h with
  | [], _ => exact .nil
  | [e], _ => exact List.pairwise_singleton _ _
  | e :: f :: r, h =>
    have h2 := (List.pairwise_cons.mp h).2
    refine List.pairwise_cons.mpr ⟨fun b hb => ?_, h2⟩
    show f.1 - 1 < b.1
    rcases List.mem_cons.mp hb with rfl | hb
    · omega
    · have := (List.pairwise_cons.mp h2).1 b hb
      omega
theorem unl_first {K : List Pr} (h : Unl K) : Unl (firstF K) := by
  match K, h with
  | [], _ => exact fun i a b h1 _ => by cases h1
  | [e], _ => exact fun i a b _ h2 => by simp [firstF] at h2
  | e :: f :: r, h =>
    intro i a b h1 h2
    cases i with
    | zero =>
      cases h1
      exact h 0 e b rfl h2
    | succ i => exact h (i + 1) a b h1 h2
theorem len_step (K : List Pr) (e : Pr) : (stepK K e).length ≤ K.length + 1 := by
  unfold stepK
  split
  · simp
  · split
    · omega
    · rw [List.length_append]; exact Nat.le_refl _
theorem len_kept (E : List Pr) : (keptF E).length ≤ E.length := by
  have : ∀ (R K : List Pr), (R.foldl stepK K).length ≤ K.length + R.length := by
    intro R
    induction R with
    | nil => intro K; exact Nat.le_refl _
    | cons e R ih =>
      intro K
      have h1 := ih (stepK K e)
      have h2 := len_step K e
      rw [List.foldl_cons, List.length_cons]
      omega
  have h := this E []
  rw [show ([] : List Pr).length = 0 from rfl] at h
  unfold keptF
  omega
theorem len_first : ∀ K : List Pr, (firstF K).length = K.length
  | [] => rfl
  | [_] => rfl
  | _ :: _ :: _ => rfl
/-- sorted by places -/
theorem asc_sort {ps : List Pr} (nd : (ps.map (·.1)).Nodup) : Asc (sortP ps) := by
  have hp : (sortP ps).Perm ps := List.mergeSort_perm ps _
  have h1 : (sortP ps).Pairwise fun a b => leP a b = true := List.pairwise_mergeSort (fun a b c h1 h2 => by unfold leP at *; simp only [decide_eq_true_eq] at *; omega) (fun a b => by unfold leP; simp only [Bool.or_eq_true, decide_eq_true_eq]; omega) ps
  have h2 : ((sortP ps).map (·.1)).Nodup := (hp.map _).nodup_iff.mpr nd
  have h3 : (sortP ps).Pairwise fun a b => a.1 ≠ b.1 := List.pairwise_map.mp h2
  refine (h1.and h3).imp fun {a b} h => ?_
  have q := of_decide_eq_true h.1
  have := h.2
  omega
theorem sort_len (ps : List Pr) : (sortP ps).length = ps.length := (List.mergeSort_perm ps _).length_eq
theorem sort_ne {ps : List Pr} (h : ps ≠ []) : sortP ps ≠ [] := fun e => h (List.length_eq_zero_iff.mp (by rw [← sort_len, e]; rfl))
/-- a row that may be passed -/
structure RowG (ps : List Pr) : Prop where
  ne : ps ≠ []
  nd : (ps.map (·.1)).Nodup
  len : ps.length ≤ 1000
theorem cell_least {ps : List Pr} (h : RowG ps) (x : Int) : cellF (leastF ps) x = cellF (sortP ps) x := cell_kept (sort_ne h.ne) (asc_sort h.nd) x
theorem least_asc {ps : List Pr} (h : RowG ps) : Asc (leastF ps) := asc_first (kept_inv (sort_ne h.ne) (asc_sort h.nd)).asc
theorem least_unl {ps : List Pr} (h : RowG ps) : Unl (leastF ps) := unl_first (kept_inv (sort_ne h.ne) (asc_sort h.nd)).unl
theorem least_shp {ps : List Pr} (h : RowG ps) : Shp (leastF ps) := shp_first (kept_inv (sort_ne h.ne) (asc_sort h.nd)).ne
theorem least_len (ps : List Pr) : (leastF ps).length ≤ ps.length := by
  unfold leastF
  rw [len_first, ← sort_len ps]
  exact len_kept _
theorem least_ne {ps : List Pr} (h : RowG ps) : leastF ps ≠ [] := fun e => by
  have := least_shp h
  rw [e] at this
  exact this
/-- a row of one value -/
theorem least_one {ps : List Pr} {v : Int} (h : RowG ps) (hv : ∀ e ∈ ps, e.2 = v) : leastF ps = [(0, v)] := by
  have k := kept_inv (sort_ne h.ne) (asc_sort h.nd)
  have hin : ∀ e ∈ keptF (sortP ps), e.2 = v := fun e he => hv e ((List.mergeSort_perm ps _).mem_iff.mp (k.sub e he))
  unfold leastF
  have un := k.unl
  have ne := k.ne
  revert hin un ne
  generalize keptF (sortP ps) = K
  intro hin un ne
  match K, ne with
  | [e], _ => show [(0, e.2)] = _; rw [hin e (by simp)]
  | e :: f :: r, _ => exact absurd ((hin e (by simp)).trans (hin f (by simp)).symm) (un 0 e f rfl rfl)
end EVL

/-! ## Q2 -/
set_option maxRecDepth 10000
set_option maxHeartbeats 800000
namespace EVL
open PySem L2 EV
theorem o_sortPs {st : Store} {n : Nat} {ps : List Pr} (h : mutAt st n = some (ps.map pairV)) : bltV .sorted [.ref n] st = some (.ref st.length, st ++ [.lst ((sortP ps).map pairV)]) := by
  have e : bltV .sorted [.ref n] st = (match st[n]? with
    | some (.lst ws) => match sortV ws with
      | some us => alloc st (.lst us)
      | none => none
    | some (.fro ws) => match sortV ws with
      | some us => alloc st (.lst us)
      | none => none
    | some (.dct kvs) => match keysS (kvs.map (·.1)) with
      | some ks => if decide (ks.length < 64) then alloc st (.lst ((sortS ks).map .str)) else none
      | none => none
    | _ => none) := rfl
  rw [e, mut_at h]
  have pp : ∀ ps : List Pr, pairsOf (ps.map pairV) = some ps := by
    intro ps
    induction ps with
    | nil => rfl
    | cons p r ih =>
      show (pairsOf (r.map pairV)).map (fun q => (p.1, p.2) :: q) = _
      rw [ih]
      rfl
  have e2 : sortV (ps.map pairV) = some ((sortP ps).map pairV) := by
    cases ps with
    | nil => with_unfolding_all rfl
    | cons p r =>
      unfold sortV
      rw [show intsOf ((p :: r).map pairV) = none from rfl, show strsOf ((p :: r).map pairV) = none from rfl]
      dsimp only
      rw [pp]
  show (match sortV (ps.map pairV) with
      | some us => alloc st (.lst us)
      | none => none) = _
  rw [e2]
  rfl
theorem lk1 {n : Nat} (h : n ≤ 100000) : lineOk n = true := decide_eq_true (by omega)
theorem ix_last {vs : List Val} {v : Val} : atI (vs ++ [v]) (-1) = some v := by
  have e : ixN (vs ++ [v]).length (-1) = some vs.length := by
    unfold ixN
    rw [if_neg (by decide)]
    have hl : (vs ++ [v]).length = vs.length + 1 := by rw [List.length_append]; rfl
    rw [hl]
    first
      | (rw [if_pos (by omega)]; congr 1; omega)
      | (split <;> first | (congr 1; omega) | omega)
  unfold atI
  rw [e]
  show (vs ++ [v])[vs.length]? = _
  rw [List.getElem?_append_right (Nat.le_refl _), Nat.sub_self]
  rfl
theorem tru_lst {s : Store} {n : Nat} {vs : List Val} (h : mutAt s n = some vs) : truV s (.ref n) = some (!vs.isEmpty) := by
  show (match s[n]? with
    | some (.lst vs) => some (!vs.isEmpty)
    | some (.fro vs) => some (!vs.isEmpty)
    | some (.dct kvs) => some (!kvs.isEmpty)
    | _ => none) = _
  rw [mut_at h]
theorem pair_at {K : List Pr} {i : Nat} {p : Pr} (h : K[i]? = some p) : atI (K.map pairV) (i : Int) = some (pairV p) := atI_nat (by rw [List.getElem?_map, h]; rfl)
theorem p_0 {s : Store} {p : Pr} : idxV s (pairV p) (.int 0) = some (.int p.1) := atI_nat (j := 0) rfl
theorem p_1 {s : Store} {p : Pr} : idxV s (pairV p) (.int 1) = some (.int p.2) := atI_nat (j := 1) rfl
theorem give2 {i j : Nat} {ρ : Fr} {s : Store} {p : Pr} : (Tg.tp [i, j]).give (pairV p) ρ s = some ((ρ.set i (some (.int p.1))).set j (some (.int p.2))) := rfl
/-- a new row -/
def NewRow (s : Store) (ps : List Pr) : Val → Store → Prop := fun u s' => s <+: s' ∧ ∃ q, u = .ref q ∧ s.length ≤ q ∧ mutAt s' q = some (ps.map pairV)
abbrev lrF (r k : Nat) (a b c : Option Val) : Fr := [some (.ref r), some (.ref k), a, b, c]
theorem least_row_ok {d r : Nat} {s : Store} {ps : List Pr} (hr : mutAt s r = some (ps.map pairV)) (hg : RowG ps) : wr (clN (d + 1) id_least_row [.ref r] s) (NewRow s (leastF ps)) noX := by
  show wr (runB (clN d) 5 b_least_row [.ref r] s) _ noX
  unfold b_least_row
  have l0 : lineOk 0 = true := by decide
  rw [w_run]
  refine w_cut (fun ρ s' => s' = s ++ [.lst []] ∧ ρ = lrF r s.length none none none) (by simp only [w_varM, w_con, w_bin, w_neg, w_not, w_and, w_or, w_cmp, w_chain, w_ife, w_call, w_callp, w_star, w_blt, w_mth, w_idx, w_slc, w_lst, w_tup, w_tab, w_tin, w_dnew, w_rev, w_lc, w_lsc, w_dc, w_disp, w_get, w_fld, w_mk, w_meth, w_prop, w_nil, w_cons, w_onone, w_osome, w_tnone, w_tsome, w_tnot, w_tand, w_tor, w_tval, w_iex, w_irng1, w_irng2, w_irng3, w_izip, w_run, w_snil, w_scons, w_set, w_unp, w_seti, w_setf, w_exp, w_ret, w_retn, w_pass, w_ifs, w_loop, w_rais, w_try, wr_ok, wr_some, wr_none, wr_stuck, wr_bind, wr_quiet, wr_lift_ite, wr_ite, wo_ite, wo_next, wo_ret, wo_brk, wo_cnt, o_add, o_sub, o_mul, o_fdiv, o_mod, o_pow, o_neg, o_lt, o_le, o_gt, o_ge, o_eq, o_ne, o_eqs, o_nes, o_isB, o_notB, o_tbl, o_int, o_lst, decide_eq_true_eq, Bool.not_eq_true', decide_eq_false_iff_not, beq_iff_eq, List.map_cons, List.map_nil, List.length_cons, List.length_nil, List.replicate_succ, List.replicate_zero, List.cons_append, List.nil_append, List.getElem?_cons_zero, List.getElem?_cons_succ, List.set_cons_zero, List.set_cons_succ, Nat.reduceSub, Nat.reduceAdd, Nat.zero_add, Option.map_some, Option.map_none, c_na10, o_rng1, len_rng, len_lst, len_tup, Int.toNat_natCast, Int.reduceToNat, Int.reduceLE, Int.reduceLT, Nat.reducePow, Nat.reduceLT, and_self, if_true, if_false, ite_true, ite_false, true_and, and_true, reduceIte, l0]) ?_
  rintro _ _ ⟨rfl, rfl⟩
  generalize hE : sortP ps = E
  have hEl : E.length ≤ 1000 := by rw [← hE, sort_len]; exact hg.len
  refine w_cut (fun ρ s' => s <+: s' ∧ mutAt s' s.length = some ((keptF E).map pairV) ∧ ∃ a b c, ρ = lrF r s.length a b c) ?_ ?_
  · have hr1 : mutAt (s ++ [Ob.lst []]) r = some (ps.map pairV) := mut_pre (pre_app pre_rfl _) hr
    have hs := o_sortPs hr1
    rw [hE] at hs
    have hwk : wkOf (s ++ [Ob.lst []] ++ [Ob.lst (E.map pairV)]) (.ref (s ++ [Ob.lst []]).length) = some (.lst (s ++ [Ob.lst []]).length (E.map pairV).length) := o_wk (mut_lst mut_new)
    rw [w_loop, w_iex, w_blt, w_cons, w_var (v := .ref r) rfl, wr_ok, w_nil, hs, wr_some, hwk, wr_ok]
    refine for_lst (E.map pairV) rfl (fun i ρ s' => s <+: s' ∧ mutAt s' s.length = some ((keptF (E.take i)).map pairV) ∧ lstAt s' (s ++ [Ob.lst []]).length = some (E.map pairV) ∧ ∃ a b c, ρ = lrF r s.length a b c) ⟨pre_app (pre_app pre_rfl _) _, mut_pre (pre_app pre_rfl _) mut_new, mut_lst mut_new, _, _, _, rfl⟩ (fun i ρ s' q => q.2.2.1) ?_ ?_
    · rintro i v _ s1 hv ⟨pre, hk, hl, a, b, c, rfl⟩
      have hi := (List.getElem?_eq_some_iff.mp hv).1
      rw [List.length_map] at hi
      have hei : E[i]? = some E[i] := List.getElem?_eq_getElem hi
      have ev : v = pairV E[i] := by
        rw [List.getElem?_map, hei] at hv
        exact (Option.some.inj hv).symm
      subst ev
      refine ⟨_, give2, ?_⟩
      generalize E[i] = e at hei
      have en : keptF (E.take (i + 1)) = stepK (keptF (E.take i)) e := by
        unfold keptF
        rw [List.take_add_one, hei]
        show (E.take i ++ [e]).foldl stepK [] = _
        rw [List.foldl_append]
        rfl
      have hlen := len_kept (E.take i)
      rw [List.length_take] at hlen
      rw [en]
      generalize keptF (E.take i) = K at hk hlen
      show wo (EV.exs (clN d) l_least_row_0 (lrF r s.length a (some (.int e.1)) (some (.int e.2))) s1) _
      unfold l_least_row_0
      have l2 : lineOk 2 = true := by decide
      have hmap : (K.map pairV).length < 16777216 := by rw [List.length_map]; omega
      have fin : ∀ K', K' = K ++ [e] → s <+: s1.set s.length (.lst (K.map pairV ++ [pairV e])) ∧ mutAt (s1.set s.length (.lst (K.map pairV ++ [pairV e]))) s.length = some (K'.map pairV) ∧ lstAt (s1.set s.length (.lst (K.map pairV ++ [pairV e]))) (s ++ [Ob.lst []]).length = some (E.map pairV) := by
        rintro _ rfl
        refine ⟨pre_set pre (Nat.le_refl _), by rw [List.map_append]; exact mut_set hk, ?_⟩
        have ne : s.length ≠ (s ++ [Ob.lst []]).length := by rw [List.length_append]; show s.length ≠ s.length + 1; omega
        unfold lstAt at hl ⊢
        rw [List.getElem?_set_ne ne]
        exact hl
      have nn : negV (.int 1) = some (.int (-1)) := rfl
      cases hgl : K.getLast? with
      | none =>
        have hK := List.getLast?_eq_none_iff.mp hgl
        subst hK
        have ht : truV s1 (.ref s.length) = some false := tru_lst hk
        simp only [w_varM, w_con, w_bin, w_neg, w_not, w_and, w_or, w_cmp, w_chain, w_ife, w_call, w_callp, w_star, w_blt, w_mth, w_idx, w_slc, w_lst, w_tup, w_tab, w_tin, w_dnew, w_rev, w_lc, w_lsc, w_dc, w_disp, w_get, w_fld, w_mk, w_meth, w_prop, w_nil, w_cons, w_onone, w_osome, w_tnone, w_tsome, w_tnot, w_tand, w_tor, w_tval, w_iex, w_irng1, w_irng2, w_irng3, w_izip, w_run, w_snil, w_scons, w_set, w_unp, w_seti, w_setf, w_exp, w_ret, w_retn, w_pass, w_ifs, w_loop, w_rais, w_try, wr_ok, wr_some, wr_none, wr_stuck, wr_bind, wr_quiet, wr_lift_ite, wr_ite, wo_ite, wo_next, wo_ret, wo_brk, wo_cnt, o_add, o_sub, o_mul, o_fdiv, o_mod, o_pow, o_neg, o_lt, o_le, o_gt, o_ge, o_eq, o_ne, o_eqs, o_nes, o_isB, o_notB, o_tbl, o_int, o_lst, decide_eq_true_eq, Bool.not_eq_true', decide_eq_false_iff_not, beq_iff_eq, List.map_cons, List.map_nil, List.length_cons, List.length_nil, List.replicate_succ, List.replicate_zero, List.cons_append, List.nil_append, List.getElem?_cons_zero, List.getElem?_cons_succ, List.set_cons_zero, List.set_cons_succ, Nat.reduceSub, Nat.reduceAdd, Nat.zero_add, Option.map_some, Option.map_none, c_na10, o_rng1, len_rng, len_lst, len_tup, Int.toNat_natCast, Int.reduceToNat, Int.reduceLE, Int.reduceLT, Nat.reducePow, Nat.reduceLT, and_self, if_true, if_false, ite_true, ite_false, true_and, and_true, reduceIte, ht, l2, o_rapp hk, o_app hk, hmap, Bool.not_false, true_or, if_true]
        obtain ⟨f1, f2, f3⟩ := fin ([] ++ [e]) rfl
        exact ⟨f1, f2, f3, _, _, _, rfl⟩
      | some l =>
        obtain ⟨K', rfl⟩ := last_snoc hgl
        have ht : truV s1 (.ref s.length) = some true := by
          rw [tru_lst hk, List.map_append]
          cases K' <;> rfl
        have hx : idxV s1 (.ref s.length) (.int (-1)) = some (pairV l) := by
          rw [o_ix hk, List.map_append]
          exact ix_last
        unfold stepK
        rw [hgl]
        dsimp only
        by_cases c : l.2 = e.2
        · have hb : (l.2 == e.2) = true := by rw [c]; exact beq_self_eq_true _
          rw [if_pos c]
          simp only [w_varM, w_con, w_bin, w_neg, w_not, w_and, w_or, w_cmp, w_chain, w_ife, w_call, w_callp, w_star, w_blt, w_mth, w_idx, w_slc, w_lst, w_tup, w_tab, w_tin, w_dnew, w_rev, w_lc, w_lsc, w_dc, w_disp, w_get, w_fld, w_mk, w_meth, w_prop, w_nil, w_cons, w_onone, w_osome, w_tnone, w_tsome, w_tnot, w_tand, w_tor, w_tval, w_iex, w_irng1, w_irng2, w_irng3, w_izip, w_run, w_snil, w_scons, w_set, w_unp, w_seti, w_setf, w_exp, w_ret, w_retn, w_pass, w_ifs, w_loop, w_rais, w_try, wr_ok, wr_some, wr_none, wr_stuck, wr_bind, wr_quiet, wr_lift_ite, wr_ite, wo_ite, wo_next, wo_ret, wo_brk, wo_cnt, o_add, o_sub, o_mul, o_fdiv, o_mod, o_pow, o_neg, o_lt, o_le, o_gt, o_ge, o_eq, o_ne, o_eqs, o_nes, o_isB, o_notB, o_tbl, o_int, o_lst, decide_eq_true_eq, Bool.not_eq_true', decide_eq_false_iff_not, beq_iff_eq, List.map_cons, List.map_nil, List.length_cons, List.length_nil, List.replicate_succ, List.replicate_zero, List.cons_append, List.nil_append, List.getElem?_cons_zero, List.getElem?_cons_succ, List.set_cons_zero, List.set_cons_succ, Nat.reduceSub, Nat.reduceAdd, Nat.zero_add, Option.map_some, Option.map_none, c_na10, o_rng1, len_rng, len_lst, len_tup, Int.toNat_natCast, Int.reduceToNat, Int.reduceLE, Int.reduceLT, Nat.reducePow, Nat.reduceLT, and_self, if_true, if_false, ite_true, ite_false, true_and, and_true, reduceIte, ht, nn, hx, p_1, hb, c, l2, beq_self_eq_true, Bool.not_true, Bool.false_eq_true, or_self, if_false]
          exact ⟨pre, hk, hl, _, _, _, rfl⟩
        · have hb : (l.2 == e.2) = false := beq_eq_false_iff_ne.mpr c
          rw [if_neg c]
          simp only [w_varM, w_con, w_bin, w_neg, w_not, w_and, w_or, w_cmp, w_chain, w_ife, w_call, w_callp, w_star, w_blt, w_mth, w_idx, w_slc, w_lst, w_tup, w_tab, w_tin, w_dnew, w_rev, w_lc, w_lsc, w_dc, w_disp, w_get, w_fld, w_mk, w_meth, w_prop, w_nil, w_cons, w_onone, w_osome, w_tnone, w_tsome, w_tnot, w_tand, w_tor, w_tval, w_iex, w_irng1, w_irng2, w_irng3, w_izip, w_run, w_snil, w_scons, w_set, w_unp, w_seti, w_setf, w_exp, w_ret, w_retn, w_pass, w_ifs, w_loop, w_rais, w_try, wr_ok, wr_some, wr_none, wr_stuck, wr_bind, wr_quiet, wr_lift_ite, wr_ite, wo_ite, wo_next, wo_ret, wo_brk, wo_cnt, o_add, o_sub, o_mul, o_fdiv, o_mod, o_pow, o_neg, o_lt, o_le, o_gt, o_ge, o_eq, o_ne, o_eqs, o_nes, o_isB, o_notB, o_tbl, o_int, o_lst, decide_eq_true_eq, Bool.not_eq_true', decide_eq_false_iff_not, beq_iff_eq, List.map_cons, List.map_nil, List.length_cons, List.length_nil, List.replicate_succ, List.replicate_zero, List.cons_append, List.nil_append, List.getElem?_cons_zero, List.getElem?_cons_succ, List.set_cons_zero, List.set_cons_succ, Nat.reduceSub, Nat.reduceAdd, Nat.zero_add, Option.map_some, Option.map_none, c_na10, o_rng1, len_rng, len_lst, len_tup, Int.toNat_natCast, Int.reduceToNat, Int.reduceLE, Int.reduceLT, Nat.reducePow, Nat.reduceLT, and_self, if_true, if_false, ite_true, ite_false, true_and, and_true, reduceIte, ht, nn, hx, p_1, hb, c, l2, o_rapp hk, o_app hk, hmap, Bool.not_true, Bool.not_false, Bool.false_eq_true, or_true, if_true, false_or]
          obtain ⟨f1, f2, f3⟩ := fin _ rfl
          exact ⟨f1, f2, f3, _, _, _, rfl⟩
    · rintro _ s1 ⟨pre, hk, _, a, b, c, rfl⟩
      rw [List.length_map, List.take_of_length_le (Nat.le_refl _)] at hk
      exact ⟨pre, hk, a, b, c, rfl⟩
  rintro _ s1 ⟨pre, hk, a, b, c, rfl⟩
  have hne : keptF E ≠ [] := by
    rw [← hE]
    exact (kept_inv (sort_ne hg.ne) (asc_sort hg.nd)).ne
  have hkl : (keptF E).length ≤ 1000 := Nat.le_trans (len_kept E) hEl
  have eL : leastF ps = firstF (keptF E) := by unfold leastF; rw [hE]
  rw [eL]
  generalize keptF E = K at hk hne hkl
  have hll := mut_len hk
  rw [List.length_map] at hll
  have hk0 : idxV s1 (.ref s.length) (.int 0) = atI (K.map pairV) 0 := o_ix hk 0
  have hk1 : idxV s1 (.ref s.length) (.int 1) = atI (K.map pairV) 1 := o_ix hk 1
  have l1 : lineOk 1 = true := by decide
  have l2 : lineOk 2 = true := by decide
  obtain ⟨e, f0, hfirst, hv⟩ : ∃ (e : Pr) (f0 : Int), firstF K = (f0, e.2) :: K.drop 1 ∧ K[0]? = some e ∧ f0 = (if 1 < K.length then ((K[1]?.getD (0, 0)).1 - 1) else 0) := by
    match K, hne with
    | [e], _ => exact ⟨e, 0, rfl, rfl, rfl⟩
    | e :: f :: r, _ => exact ⟨e, f.1 - 1, rfl, rfl, by rw [if_pos (by show 1 < r.length + 2; omega)]; rfl⟩
  refine w_cut (fun ρ s' => s1 = s' ∧ ∃ b c, ρ = lrF r s.length (some (.int f0)) b c) ?_ ?_
  · rw [hv.2]
    by_cases c1 : 1 < K.length
    · have e1 : K[1]? = some K[1] := List.getElem?_eq_getElem c1
      have c2 : (1 : Int) < (K.length : Int) := by omega
      have q1 : atI (K.map pairV) 1 = some (pairV K[1]) := pair_at (i := 1) e1
      rw [if_pos c1, e1]
      simp only [w_varM, w_con, w_bin, w_neg, w_not, w_and, w_or, w_cmp, w_chain, w_ife, w_call, w_callp, w_star, w_blt, w_mth, w_idx, w_slc, w_lst, w_tup, w_tab, w_tin, w_dnew, w_rev, w_lc, w_lsc, w_dc, w_disp, w_get, w_fld, w_mk, w_meth, w_prop, w_nil, w_cons, w_onone, w_osome, w_tnone, w_tsome, w_tnot, w_tand, w_tor, w_tval, w_iex, w_irng1, w_irng2, w_irng3, w_izip, w_run, w_snil, w_scons, w_set, w_unp, w_seti, w_setf, w_exp, w_ret, w_retn, w_pass, w_ifs, w_loop, w_rais, w_try, wr_ok, wr_some, wr_none, wr_stuck, wr_bind, wr_quiet, wr_lift_ite, wr_ite, wo_ite, wo_next, wo_ret, wo_brk, wo_cnt, o_add, o_sub, o_mul, o_fdiv, o_mod, o_pow, o_neg, o_lt, o_le, o_gt, o_ge, o_eq, o_ne, o_eqs, o_nes, o_isB, o_notB, o_tbl, o_int, o_lst, decide_eq_true_eq, Bool.not_eq_true', decide_eq_false_iff_not, beq_iff_eq, List.map_cons, List.map_nil, List.length_cons, List.length_nil, List.replicate_succ, List.replicate_zero, List.cons_append, List.nil_append, List.getElem?_cons_zero, List.getElem?_cons_succ, List.set_cons_zero, List.set_cons_succ, Nat.reduceSub, Nat.reduceAdd, Nat.zero_add, Option.map_some, Option.map_none, c_na10, o_rng1, len_rng, len_lst, len_tup, Int.toNat_natCast, Int.reduceToNat, Int.reduceLE, Int.reduceLT, Nat.reducePow, Nat.reduceLT, and_self, if_true, if_false, ite_true, ite_false, true_and, and_true, reduceIte, hll, c2, hk1, q1, p_0]
      exact ⟨_, _, rfl⟩
    · have c2 : ¬ (1 : Int) < (K.length : Int) := by omega
      rw [if_neg c1]
      simp only [w_varM, w_con, w_bin, w_neg, w_not, w_and, w_or, w_cmp, w_chain, w_ife, w_call, w_callp, w_star, w_blt, w_mth, w_idx, w_slc, w_lst, w_tup, w_tab, w_tin, w_dnew, w_rev, w_lc, w_lsc, w_dc, w_disp, w_get, w_fld, w_mk, w_meth, w_prop, w_nil, w_cons, w_onone, w_osome, w_tnone, w_tsome, w_tnot, w_tand, w_tor, w_tval, w_iex, w_irng1, w_irng2, w_irng3, w_izip, w_run, w_snil, w_scons, w_set, w_unp, w_seti, w_setf, w_exp, w_ret, w_retn, w_pass, w_ifs, w_loop, w_rais, w_try, wr_ok, wr_some, wr_none, wr_stuck, wr_bind, wr_quiet, wr_lift_ite, wr_ite, wo_ite, wo_next, wo_ret, wo_brk, wo_cnt, o_add, o_sub, o_mul, o_fdiv, o_mod, o_pow, o_neg, o_lt, o_le, o_gt, o_ge, o_eq, o_ne, o_eqs, o_nes, o_isB, o_notB, o_tbl, o_int, o_lst, decide_eq_true_eq, Bool.not_eq_true', decide_eq_false_iff_not, beq_iff_eq, List.map_cons, List.map_nil, List.length_cons, List.length_nil, List.replicate_succ, List.replicate_zero, List.cons_append, List.nil_append, List.getElem?_cons_zero, List.getElem?_cons_succ, List.set_cons_zero, List.set_cons_succ, Nat.reduceSub, Nat.reduceAdd, Nat.zero_add, Option.map_some, Option.map_none, c_na10, o_rng1, len_rng, len_lst, len_tup, Int.toNat_natCast, Int.reduceToNat, Int.reduceLE, Int.reduceLT, Nat.reducePow, Nat.reduceLT, and_self, if_true, if_false, ite_true, ite_false, true_and, and_true, reduceIte, hll, c2]
      exact ⟨_, _, rfl⟩
  rintro _ _ ⟨rfl, b, c, rfl⟩
  have q0 : atI (K.map pairV) 0 = some (pairV e) := pair_at (i := 0) hv.1
  have hsl : ∀ st : Store, mutAt st s.length = some (K.map pairV) → slcV (.ref s.length) (some 1) none st = some (.ref st.length, st ++ [.lst ((K.drop 1).map pairV)]) := fun st h => by
    rw [o_slcM h]
    match K, hne with
    | e :: r, _ => rw [show EV.cut ((e :: r).map pairV) (some 1) none = r.map pairV from cut_1 _ _]; rfl
  have hfin : lineOk (1 + (K.drop 1).length) = true := by
    rw [List.length_drop]
    exact lk1 (by omega)
  have hm2 : mutAt (s1 ++ [Ob.lst [.tup [.int f0, .int e.2]]]) s.length = some (K.map pairV) := mut_pre (pre_app pre_rfl _) hk
  have hcat : binV .add (.ref s1.length) (.ref (s1 ++ [Ob.lst [.tup [.int f0, .int e.2]]]).length) (s1 ++ [Ob.lst [.tup [.int f0, .int e.2]]] ++ [Ob.lst ((K.drop 1).map pairV)]) = some (.ref (s1 ++ [Ob.lst [.tup [.int f0, .int e.2]]] ++ [Ob.lst ((K.drop 1).map pairV)]).length, s1 ++ [Ob.lst [.tup [.int f0, .int e.2]]] ++ [Ob.lst ((K.drop 1).map pairV)] ++ [Ob.lst ([.tup [.int f0, .int e.2]] ++ (K.drop 1).map pairV)]) :=
    o_cat (mut_pre (pre_app pre_rfl _) mut_new) mut_new (by rw [List.length_map]; exact hfin)
  rw [w_one]
  simp only [w_varM, w_con, w_bin, w_neg, w_not, w_and, w_or, w_cmp, w_chain, w_ife, w_call, w_callp, w_star, w_blt, w_mth, w_idx, w_slc, w_lst, w_tup, w_tab, w_tin, w_dnew, w_rev, w_lc, w_lsc, w_dc, w_disp, w_get, w_fld, w_mk, w_meth, w_prop, w_nil, w_cons, w_onone, w_osome, w_tnone, w_tsome, w_tnot, w_tand, w_tor, w_tval, w_iex, w_irng1, w_irng2, w_irng3, w_izip, w_run, w_snil, w_scons, w_set, w_unp, w_seti, w_setf, w_exp, w_ret, w_retn, w_pass, w_ifs, w_loop, w_rais, w_try, wr_ok, wr_some, wr_none, wr_stuck, wr_bind, wr_quiet, wr_lift_ite, wr_ite, wo_ite, wo_next, wo_ret, wo_brk, wo_cnt, o_add, o_sub, o_mul, o_fdiv, o_mod, o_pow, o_neg, o_lt, o_le, o_gt, o_ge, o_eq, o_ne, o_eqs, o_nes, o_isB, o_notB, o_tbl, o_int, o_lst, decide_eq_true_eq, Bool.not_eq_true', decide_eq_false_iff_not, beq_iff_eq, List.map_cons, List.map_nil, List.length_cons, List.length_nil, List.replicate_succ, List.replicate_zero, List.cons_append, List.nil_append, List.getElem?_cons_zero, List.getElem?_cons_succ, List.set_cons_zero, List.set_cons_succ, Nat.reduceSub, Nat.reduceAdd, Nat.zero_add, Option.map_some, Option.map_none, c_na10, o_rng1, len_rng, len_lst, len_tup, Int.toNat_natCast, Int.reduceToNat, Int.reduceLE, Int.reduceLT, Nat.reducePow, Nat.reduceLT, and_self, if_true, if_false, ite_true, ite_false, true_and, and_true, reduceIte, hk0, q0, p_1, l1, l2, hsl _ hm2, hcat]
  refine ⟨pre.trans (pre_app (pre_app (pre_app pre_rfl _) _) _), _, rfl, ?_, ?_⟩
  · have := pre.length_le
    rw [List.length_append, List.length_append]
    omega
  · rw [hfirst]
    exact mut_new
end EVL

/-! ## Q3 -/
set_option maxRecDepth 10000
set_option maxHeartbeats 800000
namespace EVL
open PySem L2 EV
/-! locked dicts, rows checked -/
theorem w_lockd {cl : Cl} {ρ : Fr} {st : Store} {x y : Ex} {n : Nat} {kvs : List (Key × Val)} {Q : Val → Store → Prop} {X : Nat → Val → Store → Prop} (h1 : pv2 ρ st x = some (.ref n)) (h2 : st[n]? = some (.dct kvs))
    (h : wr (ev cl y ρ (st.set n (.frd kvs))) (fun v st' => ∃ kvs', st'[n]? = some (.frd kvs') ∧ Q v (st'.set n (.dct kvs'))) noX) : wr (ev cl (.lockd x y) ρ st) Q X := by
  have e : ev cl (.lockd x y) ρ st = thawR n (ev cl y ρ (st.set n (.frd kvs))) := by
    show (match pv2 ρ st x with
      | some (.ref n) => match st[n]? with
        | some (.dct kvs) => thawR n (ev cl y ρ (st.set n (.frd kvs)))
        | _ => .stuck
      | _ => .stuck) = _
    rw [h1]
    dsimp only
    rw [h2]
  rw [e]
  obtain ⟨v, st', e2, kvs', h3, h4⟩ := wr_ex h
  rw [e2]
  show wr (match thawS n st' with
    | some st' => Res.ok v st'
    | none => .stuck) Q X
  have e3 : thawS n st' = some (st'.set n (.dct kvs')) := by
    unfold thawS
    rw [h3]
  rw [e3, wr_ok]
  exact h4
/-- prefix, place by place -/
theorem pre_of {s s' : Store} (h : ∀ (i : Nat) (o : Ob), s[i]? = some o → s'[i]? = some o) : s <+: s' := by
  induction s generalizing s' with
  | nil => exact List.nil_prefix
  | cons a r ih =>
    cases s' with
    | nil => have := h 0 a rfl; cases this
    | cons b r' =>
      have e : b = a := by have := h 0 a rfl; simpa using this
      subst e
      exact (List.prefix_cons_inj _).mpr (ih fun i o hi => h (i + 1) o hi)
/-- unlocked again, all is as it was -/
theorem pre_unlock {s s' : Store} {n : Nat} {kvs : List (Key × Val)} {o : Ob} (h : s[n]? = some (.dct kvs)) (p : s.set n o <+: s') : s <+: s'.set n (.dct kvs) := by
  refine pre_of fun i u hi => ?_
  by_cases e : n = i
  · subst e
    rw [h] at hi
    cases hi
    have hl : n < s'.length := by
      have := p.length_le
      rw [List.length_set] at this
      have := at_lt h
      omega
    rw [List.getElem?_set_self hl]
  · rw [List.getElem?_set_ne e]
    exact pre_at p (by rw [List.getElem?_set_ne e]; exact hi)
theorem nd_at {α : Type} {L : List α} (nd : L.Nodup) {i j : Nat} {a : α} (hi : L[i]? = some a) (hj : L[j]? = some a) : i = j := by
  have h1 := (List.getElem?_eq_some_iff.mp hi)
  have h2 := (List.getElem?_eq_some_iff.mp hj)
  obtain ⟨l1, e1⟩ := h1
  obtain ⟨l2, e2⟩ := h2
  exact (List.getElem_inj nd).mp (e1.trans e2.symm)
theorem check_row_ok {d r : Nat} {s : Store} {ps : List Pr} (hr : mutAt s r = some (ps.map pairV)) (hg : RowG ps) : wr (clN (d + 1) id_check_row [.ref r] s) (Non s) noX := by
  show wr (runB (clN d) 3 b_check_row [.ref r] s) _ noX
  unfold b_check_row
  have ht : truV s (.ref r) = some true := by
    rw [tru_lst hr]
    cases ps with
    | nil => exact absurd rfl hg.ne
    | cons p r => rfl
  have hl := mut_len hr
  rw [List.length_map] at hl
  have hwk : wkOf s (.ref r) = some (.lst r (ps.map pairV).length) := o_wk (mut_lst hr)
  have hlen := hg.len
  have hset : ∀ {Q : Val → Store → Prop} {X : Nat → Val → Store → Prop}, Q (.int (ps.length : Int)) s → wr (ev (clN d) (.lsc x_check_row_0 (.tp [1, 2]) (.ex (.var 0)) .none [1, 2]) [some (.ref r), none, none] s) Q X := by
    intro Q X hQ
    rw [w_lsc, w_iex, w_var (v := .ref r) rfl, wr_ok, hwk, wr_ok]
    refine sc_of (n := (ps.map pairV).length) rfl (fun i s' ks => s = s' ∧ ks = (ps.take i).map fun p => (Sum.inl p.1 : Key)) ?_ ?_ (ps.map pairV).length 0 s [] (Nat.zero_add _) ⟨rfl, rfl⟩
    · rintro i _ ks hi ⟨rfl, rfl⟩
      rw [List.length_map] at hi
      have he : ps[i]? = some ps[i] := List.getElem?_eq_getElem hi
      refine ⟨pairV ps[i], _, item_lst rfl (mut_lst hr) (by rw [List.getElem?_map, he]; rfl), give2, ?_⟩
      unfold x_check_row_0
      simp only [w_varM, w_con, w_bin, w_neg, w_not, w_and, w_or, w_cmp, w_chain, w_ife, w_call, w_callp, w_star, w_blt, w_mth, w_idx, w_slc, w_lst, w_tup, w_tab, w_tin, w_dnew, w_rev, w_lc, w_lsc, w_dc, w_disp, w_get, w_fld, w_mk, w_meth, w_prop, w_nil, w_cons, w_onone, w_osome, w_tnone, w_tsome, w_tnot, w_tand, w_tor, w_tval, w_iex, w_irng1, w_irng2, w_irng3, w_izip, w_run, w_snil, w_scons, w_set, w_unp, w_seti, w_setf, w_exp, w_ret, w_retn, w_pass, w_ifs, w_loop, w_rais, w_try, wr_ok, wr_some, wr_none, wr_stuck, wr_bind, wr_quiet, wr_lift_ite, wr_ite, wo_ite, wo_next, wo_ret, wo_brk, wo_cnt, o_add, o_sub, o_mul, o_fdiv, o_mod, o_pow, o_neg, o_lt, o_le, o_gt, o_ge, o_eq, o_ne, o_eqs, o_nes, o_isB, o_notB, o_tbl, o_int, o_lst, decide_eq_true_eq, Bool.not_eq_true', decide_eq_false_iff_not, beq_iff_eq, List.map_cons, List.map_nil, List.length_cons, List.length_nil, List.replicate_succ, List.replicate_zero, List.cons_append, List.nil_append, List.getElem?_cons_zero, List.getElem?_cons_succ, List.set_cons_zero, List.set_cons_succ, Nat.reduceSub, Nat.reduceAdd, Nat.zero_add, Option.map_some, Option.map_none, c_na10, o_rng1, len_rng, len_lst, len_tup, Int.toNat_natCast, Int.reduceToNat, Int.reduceLE, Int.reduceLT, Nat.reducePow, Nat.reduceLT, and_self, if_true, if_false, ite_true, ite_false, true_and, and_true, reduceIte, wipeF]
      have hno : hasK ((ps.take i).map fun p => (Sum.inl p.1 : Key)) (.inl ps[i].1) = false := by
        unfold hasK
        rw [List.any_eq_false]
        intro k hk
        obtain ⟨q, hq, rfl⟩ := List.mem_map.mp hk
        intro e
        have e := Sum.inl.inj (of_decide_eq_true e)
        obtain ⟨j, hj⟩ := List.getElem?_of_mem hq
        have hjl := (List.getElem?_eq_some_iff.mp hj).1
        rw [List.length_take] at hjl
        rw [List.getElem?_take_of_lt (by omega)] at hj
        have := nd_at hg.nd (i := j) (j := i) (a := q.1) (by rw [List.getElem?_map, hj]; rfl) (by rw [List.getElem?_map, he, e]; rfl)
        omega
      refine ⟨_, rfl, by rw [List.length_map, List.length_take]; omega, ?_⟩
      unfold addK
      rw [hno, if_neg (by decide), List.take_add_one, he, List.map_append]
      rfl
    · rintro _ ks ⟨rfl, rfl⟩
      refine ⟨fits_lst rfl (mut_lst hr), ?_⟩
      rw [List.length_map, List.length_map, List.take_of_length_le (Nat.le_refl _)]
      exact hQ
  have h1 : ((ps.length : Int) < (ps.length : Int)) = False := eq_false (by omega)
  rw [w_run]
  refine w_cut (fun ρ s' => s = s' ∧ ρ = [some (.ref r), none, none]) ?_ ?_
  · have htt : wr (match truV s (.ref r) with | some b => Res.ok b s | none => .stuck) (fun b st1 => b = true ∧ s = st1) noX := by
      rw [ht, wr_ok]
      exact ⟨rfl, rfl⟩
    rw [w_ifs, w_tor, w_tnot, w_tval, w_var (v := .ref r) rfl, wr_ok]
    refine wr_mono htt ?_ fun _ _ _ z => z.elim
    rintro _ _ ⟨rfl, rfl⟩
    rw [Bool.not_true, if_neg (by decide), w_tval, w_cmp]
    refine hset ?_
    simp only [w_varM, w_con, w_bin, w_neg, w_not, w_and, w_or, w_cmp, w_chain, w_ife, w_call, w_callp, w_star, w_blt, w_mth, w_idx, w_slc, w_lst, w_tup, w_tab, w_tin, w_dnew, w_rev, w_lc, w_lsc, w_dc, w_disp, w_get, w_fld, w_mk, w_meth, w_prop, w_nil, w_cons, w_onone, w_osome, w_tnone, w_tsome, w_tnot, w_tand, w_tor, w_tval, w_iex, w_irng1, w_irng2, w_irng3, w_izip, w_run, w_snil, w_scons, w_set, w_unp, w_seti, w_setf, w_exp, w_ret, w_retn, w_pass, w_ifs, w_loop, w_rais, w_try, wr_ok, wr_some, wr_none, wr_stuck, wr_bind, wr_quiet, wr_lift_ite, wr_ite, wo_ite, wo_next, wo_ret, wo_brk, wo_cnt, o_add, o_sub, o_mul, o_fdiv, o_mod, o_pow, o_neg, o_lt, o_le, o_gt, o_ge, o_eq, o_ne, o_eqs, o_nes, o_isB, o_notB, o_tbl, o_int, o_lst, decide_eq_true_eq, Bool.not_eq_true', decide_eq_false_iff_not, beq_iff_eq, List.map_cons, List.map_nil, List.length_cons, List.length_nil, List.replicate_succ, List.replicate_zero, List.cons_append, List.nil_append, List.getElem?_cons_zero, List.getElem?_cons_succ, List.set_cons_zero, List.set_cons_succ, Nat.reduceSub, Nat.reduceAdd, Nat.zero_add, Option.map_some, Option.map_none, c_na10, o_rng1, len_rng, len_lst, len_tup, Int.toNat_natCast, Int.reduceToNat, Int.reduceLE, Int.reduceLT, Nat.reducePow, Nat.reduceLT, and_self, if_true, if_false, ite_true, ite_false, true_and, and_true, reduceIte, hl, h1]
  rintro _ _ ⟨rfl, rfl⟩
  simp only [w_varM, w_con, w_bin, w_neg, w_not, w_and, w_or, w_cmp, w_chain, w_ife, w_call, w_callp, w_star, w_blt, w_mth, w_idx, w_slc, w_lst, w_tup, w_tab, w_tin, w_dnew, w_rev, w_lc, w_lsc, w_dc, w_disp, w_get, w_fld, w_mk, w_meth, w_prop, w_nil, w_cons, w_onone, w_osome, w_tnone, w_tsome, w_tnot, w_tand, w_tor, w_tval, w_iex, w_irng1, w_irng2, w_irng3, w_izip, w_run, w_snil, w_scons, w_set, w_unp, w_seti, w_setf, w_exp, w_ret, w_retn, w_pass, w_ifs, w_loop, w_rais, w_try, wr_ok, wr_some, wr_none, wr_stuck, wr_bind, wr_quiet, wr_lift_ite, wr_ite, wo_ite, wo_next, wo_ret, wo_brk, wo_cnt, o_add, o_sub, o_mul, o_fdiv, o_mod, o_pow, o_neg, o_lt, o_le, o_gt, o_ge, o_eq, o_ne, o_eqs, o_nes, o_isB, o_notB, o_tbl, o_int, o_lst, decide_eq_true_eq, Bool.not_eq_true', decide_eq_false_iff_not, beq_iff_eq, List.map_cons, List.map_nil, List.length_cons, List.length_nil, List.replicate_succ, List.replicate_zero, List.cons_append, List.nil_append, List.getElem?_cons_zero, List.getElem?_cons_succ, List.set_cons_zero, List.set_cons_succ, Nat.reduceSub, Nat.reduceAdd, Nat.zero_add, Option.map_some, Option.map_none, c_na10, o_rng1, len_rng, len_lst, len_tup, Int.toNat_natCast, Int.reduceToNat, Int.reduceLE, Int.reduceLT, Nat.reducePow, Nat.reduceLT, and_self, if_true, if_false, ite_true, ite_false, true_and, and_true, reduceIte]
  exact ⟨rfl, pre_rfl⟩
/-! dicts of rows -/
def Arrs (s : Store) (kvs : List (Key × Val)) (al : List (Str × List Pr)) : Prop := kvs.length = al.length ∧ ∀ (i : Nat) (a : Str × List Pr), al[i]? = some a → ∃ r, kvs[i]? = some (.inr a.1, .ref r) ∧ mutAt s r = some (a.2.map pairV)
theorem Arrs.mono {s s' : Store} {kvs : List (Key × Val)} {al : List (Str × List Pr)} (p : s <+: s') (h : Arrs s kvs al) : Arrs s' kvs al := ⟨h.1, fun i a hi => let ⟨r, h1, h2⟩ := h.2 i a hi; ⟨r, h1, mut_pre p h2⟩⟩
theorem Arrs.setD {s : Store} {A : Nat} {kvs kv2 : List (Key × Val)} {al : List (Str × List Pr)} {o : Ob} (hA : s[A]? = some (.dct kv2)) (h : Arrs s kvs al) : Arrs (s.set A o) kvs al := ⟨h.1, fun i a hi => let ⟨r, h1, h2⟩ := h.2 i a hi; ⟨r, h1, mut_setD hA h2⟩⟩
theorem Arrs.setF {s : Store} {A : Nat} {kvs kv2 : List (Key × Val)} {al : List (Str × List Pr)} {o : Ob} (hA : s[A]? = some (.frd kv2)) (h : Arrs s kvs al) : Arrs (s.set A o) kvs al := ⟨h.1, fun i a hi => let ⟨r, h1, h2⟩ := h.2 i a hi; ⟨r, h1, mut_setF hA h2⟩⟩
theorem Arrs.keys {s : Store} {kvs : List (Key × Val)} {al : List (Str × List Pr)} (h : Arrs s kvs al) : kvs.map (·.1) = al.map fun a => (Sum.inr a.1 : Key) := by
  refine List.ext_getElem? fun i => ?_
  rw [List.getElem?_map, List.getElem?_map]
  cases e : al[i]? with
  | none =>
    have : kvs[i]? = none := by
      rw [List.getElem?_eq_none_iff] at e ⊢
      have := h.1
      omega
    rw [this]
    rfl
  | some a =>
    obtain ⟨r, h1, _⟩ := h.2 i a e
    rw [h1]
    rfl
theorem find_nd {L : List (Key × Val)} (nd : (L.map (·.1)).Nodup) {i : Nat} {q : Key × Val} (h : L[i]? = some q) : L.find? (fun kv => decide (kv.1 = q.1)) = some q := by
  induction L generalizing i with
  | nil => cases h
  | cons p r ih =>
    rw [List.map_cons, List.nodup_cons] at nd
    cases i with
    | zero =>
      cases h
      rw [List.find?_cons_of_pos (by exact decide_eq_true rfl)]
    | succ i =>
      have h' : r[i]? = some q := h
      have ne : ¬ p.1 = q.1 := fun e => nd.1 (by rw [e]; exact List.mem_map_of_mem (List.mem_of_getElem? h'))
      rw [List.find?_cons_of_neg (by rw [decide_eq_false ne]; decide)]
      exact ih nd.2 h'
theorem Arrs.idx {s s0 : Store} {c : Nat} {kvs : List (Key × Val)} {al : List (Str × List Pr)} (hA : Arrs s0 kvs al) (nd : (al.map (·.1)).Nodup) (hc : s[c]? = some (.dct kvs) ∨ s[c]? = some (.frd kvs)) {i : Nat} {a : Str × List Pr} (hi : al[i]? = some a) : ∃ r, idxV s (.ref c) (.str a.1) = some (.ref r) ∧ mutAt s0 r = some (a.2.map pairV) := by
  obtain ⟨r, h1, h2⟩ := hA.2 i a hi
  have nk : (kvs.map (·.1)).Nodup := by
    rw [hA.keys, show (al.map fun a => (Sum.inr a.1 : Key)) = (al.map (·.1)).map Sum.inr by rw [List.map_map]; rfl]
    exact List.pairwise_map.mpr (nd.imp fun {a b} h e => h (Sum.inr.inj e))
  have f := find_nd nk h1
  refine ⟨r, ?_, h2⟩
  have e : idxV s (.ref c) (.str a.1) = (match s[c]? with
      | some (.dct kvs) => (kvs.find? fun kv => decide (kv.1 = .inr a.1)).map (·.2)
      | some (.frd kvs) => (kvs.find? fun kv => decide (kv.1 = .inr a.1)).map (·.2)
      | _ => none) := rfl
  rw [e]
  have f' : (kvs.find? fun kv => decide (kv.1 = .inr a.1)) = some (.inr a.1, .ref r) := f
  rcases hc with hc | hc <;> (rw [hc]; dsimp only; rw [f']; rfl)
/-- a comprehension over a locked dict of rows -/
theorem dc_map {cl : Cl} {ρ : Fr} {st : Store} {c j : Nat} {ka : List (Key × Val)} {AL : List (Str × List Pr)} {kx vx : Ex} {G : List Pr → List Pr} {X : Nat → Val → Store → Prop} (hc : st[c]? = some (.frd ka)) (hA : Arrs st ka AL) (nd : (AL.map (·.1)).Nodup) (hl : AL.length ≤ 1000)
    (hk : ∀ (s : Store) (x : Str), wr (ev cl kx (ρ.set j (some (.str x))) s) (fun u s' => u = .str x ∧ s = s') noX)
    (hv : ∀ (s : Store) (r i : Nat) (a : Str × List Pr), st <+: s → AL[i]? = some a → idxV s (.ref c) (.str a.1) = some (.ref r) → mutAt s r = some (a.2.map pairV) → wr (ev cl vx (ρ.set j (some (.str a.1))) s) (NewRow s (G a.2)) noX) :
    wr (dcTurns (Tg.nm j).give (evTs cl .none) (ev cl kx) (ev cl vx) (.tup (ka.map fun kv => keyV kv.1)) ρ st.length (ka.map fun kv => keyV kv.1).length 0 (st ++ [.dct []])) (fun u s' => u = .ref st.length ∧ st <+: s' ∧ ∃ kc, s'[st.length]? = some (.dct kc) ∧ Arrs s' kc (AL.map fun q => (q.1, G q.2))) X := by
  refine dc_of (n := (ka.map fun kv => keyV kv.1).length) rfl (fun i s kvs => st <+: s ∧ s[st.length]? = some (.dct kvs) ∧ Arrs s kvs ((AL.take i).map fun q => (q.1, G q.2))) ?_ ?_ _ 0 _ [] (Nat.zero_add _) ⟨pre_app pre_rfl _, by rw [List.getElem?_append_right (Nat.le_refl _), Nat.sub_self]; rfl, rfl, fun i a h => by cases h⟩
  · rintro i s kvs hi ⟨pre, hD, hK⟩
    rw [List.length_map, hA.1] at hi
    have ha : AL[i]? = some AL[i] := List.getElem?_eq_getElem hi
    generalize AL[i] = a at ha
    obtain ⟨r0, e1, _⟩ := hA.2 i a ha
    have hit : (Wk.tup (ka.map fun kv => keyV kv.1)).item s i = some (.str a.1) := by
      show (ka.map fun kv => keyV kv.1)[i]? = _
      rw [List.getElem?_map, e1]
      rfl
    refine ⟨_, _, hit, give_nm, ?_⟩
    rw [w_tnone, if_pos rfl]
    refine wr_mono (hk s a.1) ?_ fun _ _ _ z => z
    rintro _ _ ⟨rfl, rfl⟩
    obtain ⟨r, h1, h2⟩ := hA.idx nd (.inr (pre_at pre hc)) ha
    refine wr_mono (hv s r i a pre ha h1 (mut_pre pre h2)) ?_ fun _ _ _ z => z
    rintro _ s2 ⟨pre2, q, rfl, hq0, hq⟩
    have hD2 := pre_at pre2 hD
    have hDl := at_lt hD
    have hkl : kvs.length = i := by rw [hK.1, List.length_map, List.length_take]; omega
    have hno : (kvs.any fun q => decide (q.1 = (Sum.inr a.1 : Key))) = false := by
      rw [List.any_eq_false]
      intro kv hkv e
      have e := of_decide_eq_true e
      have hm : kv.1 ∈ kvs.map (·.1) := List.mem_map_of_mem hkv
      rw [hK.keys, e, List.map_map] at hm
      obtain ⟨b, hb, eb⟩ := List.mem_map.mp hm
      have eb : b.1 = a.1 := Sum.inr.inj eb
      obtain ⟨k, hk2⟩ := List.getElem?_of_mem hb
      have hkl2 := (List.getElem?_eq_some_iff.mp hk2).1
      rw [List.length_take] at hkl2
      rw [List.getElem?_take_of_lt (by omega)] at hk2
      have := nd_at nd (i := k) (j := i) (a := a.1) (by rw [List.getElem?_map, hk2, ← eb]; rfl) (by rw [List.getElem?_map, ha]; rfl)
      omega
    have ep : putKV kvs (.inr a.1) (.ref q) = kvs ++ [(.inr a.1, .ref q)] := by
      unfold putKV
      rw [hno, if_neg (by decide)]
    refine ⟨_, rfl, hD2, by omega, pre_set (pre.trans pre2) (Nat.le_refl _), List.getElem?_set_self (at_lt hD2), ?_⟩
    rw [ep]
    have hK2 := (hK.mono pre2).setD (o := .dct (kvs ++ [(.inr a.1, .ref q)])) hD2
    have hq' : mutAt (s2.set st.length (.dct (kvs ++ [(.inr a.1, .ref q)]))) q = some ((G a.2).map pairV) := mut_setD hD2 hq
    have en : (AL.take (i + 1)).map (fun q => (q.1, G q.2)) = (AL.take i).map (fun q => (q.1, G q.2)) ++ [(a.1, G a.2)] := by
      rw [List.take_add_one, ha, List.map_append]
      rfl
    have hl1 : ((AL.take i).map fun q => (q.1, G q.2)).length = i := by rw [List.length_map, List.length_take]; omega
    rw [en]
    refine ⟨by rw [List.length_append, List.length_append, hK.1]; rfl, fun k b hb => ?_⟩
    by_cases hlt : k < i
    · rw [List.getElem?_append_left (by omega)] at hb
      obtain ⟨r, g1, g2⟩ := hK2.2 k b hb
      exact ⟨r, by rw [List.getElem?_append_left (by omega)]; exact g1, g2⟩
    · have hbl := (List.getElem?_eq_some_iff.mp hb).1
      rw [List.length_append, hl1] at hbl
      have hbl : k < i + 1 := hbl
      have ek : k = i := by omega
      subst ek
      rw [List.getElem?_append_right (by omega), hl1, Nat.sub_self] at hb
      have hb : (a.1, G a.2) = b := by simpa using hb
      subst hb
      refine ⟨q, ?_, hq'⟩
      rw [List.getElem?_append_right (by omega), hkl, Nat.sub_self]
      rfl
  · rintro s kvs ⟨pre, hD, hK⟩
    refine ⟨rfl, rfl, pre, kvs, hD, ?_⟩
    rw [List.length_map, hA.1, List.take_of_length_le (Nat.le_refl _)] at hK
    exact hK
end EVL

/-! ## Q4 -/
set_option maxRecDepth 10000
set_option maxHeartbeats 800000
namespace EVL
open PySem L2 EV
/-! a state is made -/
theorem sorted_keys {s : Store} {a : Nat} {kvs : List (Key × Val)} (h : s[a]? = some (.dct kvs)) (hK : Keyed kvs) (hl : kvs.length < 64) : ∃ ks : List Str, bltV .sorted [.ref a] s = some (.ref s.length, s ++ [.lst (ks.map .str)]) ∧ (∀ x ∈ ks, IsName x ∧ ∃ kv ∈ kvs, kv.1 = .inr x) ∧ ks.length < 64 := by
  have key : ∀ L : List (Key × Val), Keyed L → ∃ zs : List Str, keysS (L.map (·.1)) = some zs ∧ (∀ x ∈ zs, IsName x ∧ ∃ kv ∈ L, kv.1 = .inr x) ∧ zs.length = L.length := by
    intro L
    induction L with
    | nil => intro _; exact ⟨[], rfl, fun x h => absurd h List.not_mem_nil, rfl⟩
    | cons q r ih =>
      intro hq
      obtain ⟨x, ex, hx⟩ := hq q List.mem_cons_self
      obtain ⟨zs, h1, h2, h3⟩ := ih fun kv hkv => hq kv (List.mem_cons_of_mem _ hkv)
      refine ⟨x :: zs, ?_, fun y hy => ?_, by rw [List.length_cons, List.length_cons, h3]⟩
      · rw [List.map_cons, ex]
        show (keysS (r.map (·.1))).map (x :: ·) = _
        rw [h1]
        rfl
      · rcases List.mem_cons.mp hy with rfl | hy
        · exact ⟨hx, q, List.mem_cons_self, ex⟩
        · obtain ⟨g1, kv, g2, g3⟩ := h2 y hy
          exact ⟨g1, kv, List.mem_cons_of_mem _ g2, g3⟩
  obtain ⟨zs, h1, h2, h3⟩ := key kvs hK
  have hp : (sortS zs).Perm zs := List.mergeSort_perm zs _
  refine ⟨sortS zs, ?_, fun x hx => h2 x (hp.mem_iff.mp hx), by rw [hp.length_eq, h3]; exact hl⟩
  have e : bltV .sorted [.ref a] s = (match s[a]? with
    | some (.lst ws) => match sortV ws with
      | some us => alloc s (.lst us)
      | none => none
    | some (.fro ws) => match sortV ws with
      | some us => alloc s (.lst us)
      | none => none
    | some (.dct kvs) => match keysS (kvs.map (·.1)) with
      | some ks => if decide (ks.length < 64) then alloc s (.lst ((sortS ks).map .str)) else none
      | none => none
    | _ => none) := rfl
  rw [e, h]
  dsimp only
  rw [h1]
  dsimp only
  rw [if_pos (decide_eq_true (by rw [h3]; exact hl))]
  rfl
abbrev stF (n a b c : Nat) (x : Option Val) : Fr := [some (.ref n), some (.ref a), some (.ref b), some (.ref c), x]
/-- all but one as they were -/
def Keep (n : Nat) (s s' : Store) : Prop := s.length ≤ s'.length ∧ ∀ (i : Nat) (o : Ob), i ≠ n → s[i]? = some o → s'[i]? = some o
theorem Keep.refl {n : Nat} {s : Store} : Keep n s s := ⟨Nat.le_refl _, fun _ _ _ h => h⟩
theorem Keep.pre {n : Nat} {s s' s2 : Store} (h : Keep n s s') (p : s' <+: s2) : Keep n s s2 := ⟨Nat.le_trans h.1 p.length_le, fun i o hi ho => pre_at p (h.2 i o hi ho)⟩
theorem Keep.set {n : Nat} {s s' : Store} {o : Ob} (h : Keep n s s') : Keep n s (s'.set n o) := ⟨by rw [List.length_set]; exact h.1, fun i u hi hu => by rw [List.getElem?_set_ne (Ne.symm hi)]; exact h.2 i u hi hu⟩
theorem ins_set {s : Store} {n c : Nat} {fs : List (Str × Val)} (h : s[n]? = some (.ins c fs)) (o : Ob) : (s.set n o)[n]? = some o := List.getElem?_set_self (at_lt h)
theorem insAt_of {s : Store} {n c : Nat} {fs : List (Str × Val)} (h : s[n]? = some (.ins c fs)) : insAt c (.ref n) s = some fs := by
  show (match s[n]? with
    | some (.ins c' fs) => if c' = c then some fs else none
    | _ => none) = _
  rw [h]
  exact if_pos rfl
/-- o.f = e in a method -/
theorem setf_ok {cl : Cl} {ρ : Fr} {s s1 : Store} {c n : Nat} {f : Str} {e : Ex} {v : Val} {fs : List (Str × Val)} {D : En} (hρ : ρ[0]? = some (some (.ref n))) (he : ev cl e ρ s = .ok v s1) (hn : s1[n]? = some (.ins c fs)) (hl : fs.length < 1000) (hD : D.nx ρ (s1.set n (.ins c (putFV f v fs)))) : wo (EV.ex cl (.setf c (.var 0) f e) ρ s) D := by
  rw [w_setf, he, wr_ok, w_var hρ, wr_ok]
  show wo (match insAt c (.ref n) s1 with
      | some fs => if decide (fs.length < 1000) then Out.next ρ (s1.set n (.ins c (putFV f v fs))) else .stuck
      | none => .stuck) D
  rw [insAt_of hn]
  dsimp only
  rw [if_pos (decide_eq_true hl), wo_next]
  exact hD
theorem Keep.mut {n : Nat} {s s' : Store} (h : Keep n s s') {c : Nat} {fs : List (Str × Val)} (hn : s[n]? = some (.ins c fs)) {r : Nat} {vs : List Val} (hr : mutAt s r = some vs) : mutAt s' r = some vs := by
  have ne : r ≠ n := by
    rintro rfl
    rw [mut_at hr] at hn
    cases hn
  unfold mutAt
  rw [h.2 r _ ne (mut_at hr)]
theorem Keep.arrs {n : Nat} {s s' : Store} (h : Keep n s s') {c : Nat} {fs : List (Str × Val)} (hn : s[n]? = some (.ins c fs)) {kvs : List (Key × Val)} {al : List (Str × List Pr)} (hA : Arrs s kvs al) : Arrs s' kvs al :=
  ⟨hA.1, fun i a hi => let ⟨r, h1, h2⟩ := hA.2 i a hi; ⟨r, h1, h.mut hn h2⟩⟩
abbrev stFs (A B C : Nat) : List (Str × Val) := [("_places", .ref A), ("_numbers", .ref B), ("_arrays", .ref C)]
/-- what is passed for arrays -/
structure ALG (AL : List (Str × List Pr)) : Prop where
  nm : ∀ a ∈ AL, IsName a.1 ∧ RowG a.2
  nd : (AL.map (·.1)).Nodup
  len : AL.length < 64
theorem Arrs.keyed {s : Store} {kvs : List (Key × Val)} {AL : List (Str × List Pr)} (h : Arrs s kvs AL) (g : ALG AL) : Keyed kvs := fun kv hkv => by
  have hm : kv.1 ∈ kvs.map (·.1) := List.mem_map_of_mem hkv
  rw [h.keys] at hm
  obtain ⟨a, ha, e⟩ := List.mem_map.mp hm
  exact ⟨a.1, e.symm, (g.nm a ha).1⟩
theorem names_ok2 {d : Nat} {s : Store} {n a b c : Nat} {x0 : Option Val} {t : Nat} {l : List Sx} {e : Ex} {kvs : List (Key × Val)} {D : En} (hl : l = [(.exp (.call 3 (.cons (.var 4) .nil)))]) (he : ∀ s', ev (clN (d + 2)) e (stF n a b c x0) s' = .ok (.ref t) s') (ht : s[t]? = some (.dct kvs)) (hK : Keyed kvs) (hk : kvs.length < 64)
    (hD : ∀ x s', s <+: s' → D.nx (stF n a b c x) s') : wo (EV.ex (clN (d + 2)) (.loop (.nm 4) (.ex (.blt .sorted (.cons e .nil))) l) (stF n a b c x0) s) D := by
  obtain ⟨ks, h1, h2, h3⟩ := sorted_keys ht hK hk
  have hwk : wkOf (s ++ [Ob.lst (ks.map Val.str)]) (.ref s.length) = some (.lst s.length (ks.map Val.str).length) := o_wk (mut_lst mut_new)
  rw [w_loop, w_iex, w_blt, w_cons, he, wr_ok, w_nil, h1, wr_some, hwk, wr_ok]
  refine for_lst (ks.map Val.str) rfl (fun i ρ s' => s ++ [Ob.lst (ks.map Val.str)] <+: s' ∧ ∃ x, ρ = stF n a b c x) ⟨pre_rfl, _, rfl⟩ (fun i ρ s' q => pre_lst q.1 (mut_lst mut_new)) ?_ ?_
  · rintro i v _ s1 hv ⟨pre, x, rfl⟩
    obtain ⟨z, hz, rfl⟩ : ∃ z ∈ ks, v = .str z := by
      obtain ⟨z, hz, e⟩ := List.mem_map.mp (List.mem_of_getElem? hv)
      exact ⟨z, hz, e.symm⟩
    refine ⟨_, give_nm, ?_⟩
    rw [hl]
    simp only [w_varM, w_con, w_bin, w_neg, w_not, w_and, w_or, w_cmp, w_chain, w_ife, w_call, w_callp, w_star, w_blt, w_mth, w_idx, w_slc, w_lst, w_tup, w_tab, w_tin, w_dnew, w_rev, w_lc, w_lsc, w_dc, w_disp, w_get, w_fld, w_mk, w_meth, w_prop, w_nil, w_cons, w_onone, w_osome, w_tnone, w_tsome, w_tnot, w_tand, w_tor, w_tval, w_iex, w_irng1, w_irng2, w_irng3, w_izip, w_run, w_snil, w_scons, w_set, w_unp, w_seti, w_setf, w_exp, w_ret, w_retn, w_pass, w_ifs, w_loop, w_rais, w_try, wr_ok, wr_some, wr_none, wr_stuck, wr_bind, wr_quiet, wr_lift_ite, wr_ite, wo_ite, wo_next, wo_ret, wo_brk, wo_cnt, o_add, o_sub, o_mul, o_fdiv, o_mod, o_pow, o_neg, o_lt, o_le, o_gt, o_ge, o_eq, o_ne, o_eqs, o_nes, o_isB, o_notB, o_tbl, o_int, o_lst, decide_eq_true_eq, Bool.not_eq_true', decide_eq_false_iff_not, beq_iff_eq, List.map_cons, List.map_nil, List.length_cons, List.length_nil, List.replicate_succ, List.replicate_zero, List.cons_append, List.nil_append, List.getElem?_cons_zero, List.getElem?_cons_succ, List.set_cons_zero, List.set_cons_succ, Nat.reduceSub, Nat.reduceAdd, Nat.zero_add, Option.map_some, Option.map_none, c_na10, o_rng1, len_rng, len_lst, len_tup, Int.toNat_natCast, Int.reduceToNat, Int.reduceLE, Int.reduceLT, Nat.reducePow, Nat.reduceLT, and_self, if_true, if_false, ite_true, ite_false, true_and, and_true, reduceIte]
    refine wr_imp (check_name_ok (d := d) (h2 z hz).1) ?_
    rintro u s2 ⟨rfl, p2⟩
    exact ⟨pre.trans p2, _, rfl⟩
  · rintro _ s1 ⟨pre, x, rfl⟩
    exact hD x s1 ((pre_app pre_rfl _).trans pre)
end EVL

/-! ## Q5 -/
set_option maxRecDepth 10000
set_option maxHeartbeats 800000
namespace EVL
open PySem L2 EV
abbrev cS : Nat := 3
theorem init_ok {d : Nat} {s : Store} {n a b c : Nat} {kp kn ka : List (Key × Val)} {AL : List (Str × List Pr)} (hn : s[n]? = some (.ins cS [])) (ha : s[a]? = some (.dct kp)) (hb : s[b]? = some (.dct kn)) (hc : s[c]? = some (.dct ka))
    (kP : Keyed kp) (lp : kp.length < 64) (kN : Keyed kn) (ln : kn.length < 64) (hA : Arrs s ka AL) (g : ALG AL) :
    wr (clN (d + 3) id_State_init [.ref n, .ref a, .ref b, .ref c] s) (fun u s' => u = .non ∧ ∃ A B C kc, s'[n]? = some (.ins cS (stFs A B C)) ∧ s'[A]? = some (.dct kp) ∧ s'[B]? = some (.dct kn) ∧ s'[C]? = some (.dct kc) ∧ Arrs s' kc (AL.map fun q => (q.1, leastF q.2)) ∧ Keep n s s') noX := by
  show wr (runB (clN (d + 2)) 5 b_State_init [.ref n, .ref a, .ref b, .ref c] s) _ noX
  unfold b_State_init
  have la : ka.length < 64 := by rw [hA.1]; exact g.len
  rw [w_run]
  refine w_cut (fun ρ s' => s <+: s' ∧ ∃ x, ρ = stF n a b c x) ?_ ?_
  · exact names_ok2 (d := d) (a := a) (b := b) (c := c) (n := n) rfl (fun _ => rfl) ha kP lp fun x s' p => ⟨p, x, rfl⟩
  rintro _ s1 ⟨p1, x1, rfl⟩
  refine w_cut (fun ρ s' => s <+: s' ∧ ∃ x, ρ = stF n a b c x) ?_ ?_
  · exact names_ok2 (d := d) rfl (fun _ => rfl) (pre_at p1 hb) kN ln fun x s' p => ⟨p1.trans p, x, rfl⟩
  clear p1 x1 s1
  rintro _ s1 ⟨p1, x1, rfl⟩
  refine w_cut (fun ρ s' => s <+: s' ∧ ∃ x, ρ = stF n a b c x) ?_ ?_
  · obtain ⟨ks, h1, h2, h3⟩ := sorted_keys (pre_at p1 hc) (hA.keyed g) la
    have hwk : wkOf (s1 ++ [Ob.lst (ks.map Val.str)]) (.ref s1.length) = some (.lst s1.length (ks.map Val.str).length) := o_wk (mut_lst mut_new)
    rw [w_loop, w_iex, w_blt, w_cons, w_var (v := .ref c) rfl, wr_ok, w_nil, h1, wr_some, hwk, wr_ok]
    refine for_lst (ks.map Val.str) rfl (fun i ρ s' => s1 ++ [Ob.lst (ks.map Val.str)] <+: s' ∧ ∃ x, ρ = stF n a b c x) ⟨pre_rfl, _, rfl⟩ (fun i ρ s' q => pre_lst q.1 (mut_lst mut_new)) ?_ ?_
    · rintro i v _ s2 hv ⟨pre, x, rfl⟩
      obtain ⟨z, hz, rfl⟩ : ∃ z ∈ ks, v = .str z := by
        obtain ⟨z, hz, e⟩ := List.mem_map.mp (List.mem_of_getElem? hv)
        exact ⟨z, hz, e.symm⟩
      refine ⟨_, give_nm, ?_⟩
      obtain ⟨hzn, kv, hkv, ekv⟩ := h2 z hz
      have hm : kv.1 ∈ ka.map (·.1) := List.mem_map_of_mem hkv
      rw [hA.keys] at hm
      obtain ⟨al, hal, e⟩ := List.mem_map.mp hm
      have e : al.1 = z := by rw [ekv] at e; exact Sum.inr.inj e
      obtain ⟨k, hk⟩ := List.getElem?_of_mem hal
      have pall := p1.trans ((pre_app pre_rfl _).trans pre)
      show wo (EV.exs (clN (d + 2)) l_State_init_2 (stF n a b c (some (.str z))) s2) _
      unfold l_State_init_2
      simp only [w_varM, w_con, w_bin, w_neg, w_not, w_and, w_or, w_cmp, w_chain, w_ife, w_call, w_callp, w_star, w_blt, w_mth, w_idx, w_slc, w_lst, w_tup, w_tab, w_tin, w_dnew, w_rev, w_lc, w_lsc, w_dc, w_disp, w_get, w_fld, w_mk, w_meth, w_prop, w_nil, w_cons, w_onone, w_osome, w_tnone, w_tsome, w_tnot, w_tand, w_tor, w_tval, w_iex, w_irng1, w_irng2, w_irng3, w_izip, w_run, w_snil, w_scons, w_set, w_unp, w_seti, w_setf, w_exp, w_ret, w_retn, w_pass, w_ifs, w_loop, w_rais, w_try, wr_ok, wr_some, wr_none, wr_stuck, wr_bind, wr_quiet, wr_lift_ite, wr_ite, wo_ite, wo_next, wo_ret, wo_brk, wo_cnt, o_add, o_sub, o_mul, o_fdiv, o_mod, o_pow, o_neg, o_lt, o_le, o_gt, o_ge, o_eq, o_ne, o_eqs, o_nes, o_isB, o_notB, o_tbl, o_int, o_lst, decide_eq_true_eq, Bool.not_eq_true', decide_eq_false_iff_not, beq_iff_eq, List.map_cons, List.map_nil, List.length_cons, List.length_nil, List.replicate_succ, List.replicate_zero, List.cons_append, List.nil_append, List.getElem?_cons_zero, List.getElem?_cons_succ, List.set_cons_zero, List.set_cons_succ, Nat.reduceSub, Nat.reduceAdd, Nat.zero_add, Option.map_some, Option.map_none, c_na10, o_rng1, len_rng, len_lst, len_tup, Int.toNat_natCast, Int.reduceToNat, Int.reduceLE, Int.reduceLT, Nat.reducePow, Nat.reduceLT, and_self, if_true, if_false, ite_true, ite_false, true_and, and_true, reduceIte]
      refine wr_imp (check_name_ok (d := d) hzn) ?_
      rintro u s3 ⟨rfl, p3⟩
      obtain ⟨r, i1, i2⟩ := hA.idx g.nd (.inl (pre_at (pall.trans p3) hc)) hk
      rw [e] at i1
      simp only [w_varM, w_con, w_bin, w_neg, w_not, w_and, w_or, w_cmp, w_chain, w_ife, w_call, w_callp, w_star, w_blt, w_mth, w_idx, w_slc, w_lst, w_tup, w_tab, w_tin, w_dnew, w_rev, w_lc, w_lsc, w_dc, w_disp, w_get, w_fld, w_mk, w_meth, w_prop, w_nil, w_cons, w_onone, w_osome, w_tnone, w_tsome, w_tnot, w_tand, w_tor, w_tval, w_iex, w_irng1, w_irng2, w_irng3, w_izip, w_run, w_snil, w_scons, w_set, w_unp, w_seti, w_setf, w_exp, w_ret, w_retn, w_pass, w_ifs, w_loop, w_rais, w_try, wr_ok, wr_some, wr_none, wr_stuck, wr_bind, wr_quiet, wr_lift_ite, wr_ite, wo_ite, wo_next, wo_ret, wo_brk, wo_cnt, o_add, o_sub, o_mul, o_fdiv, o_mod, o_pow, o_neg, o_lt, o_le, o_gt, o_ge, o_eq, o_ne, o_eqs, o_nes, o_isB, o_notB, o_tbl, o_int, o_lst, decide_eq_true_eq, Bool.not_eq_true', decide_eq_false_iff_not, beq_iff_eq, List.map_cons, List.map_nil, List.length_cons, List.length_nil, List.replicate_succ, List.replicate_zero, List.cons_append, List.nil_append, List.getElem?_cons_zero, List.getElem?_cons_succ, List.set_cons_zero, List.set_cons_succ, Nat.reduceSub, Nat.reduceAdd, Nat.zero_add, Option.map_some, Option.map_none, c_na10, o_rng1, len_rng, len_lst, len_tup, Int.toNat_natCast, Int.reduceToNat, Int.reduceLE, Int.reduceLT, Nat.reducePow, Nat.reduceLT, and_self, if_true, if_false, ite_true, ite_false, true_and, and_true, reduceIte, i1]
      refine wr_imp (check_row_ok (d := d + 1) (mut_pre (pall.trans p3) i2) (g.nm al hal).2) ?_
      rintro u s4 ⟨rfl, p4⟩
      exact ⟨pre.trans (p3.trans p4), _, rfl⟩
    · rintro _ s2 ⟨pre, x, rfl⟩
      exact ⟨p1.trans ((pre_app pre_rfl _).trans pre), x, rfl⟩
  clear p1 x1 s1
  rintro _ s1 ⟨p1, x1, rfl⟩
  have e0 : ∀ x : Option Val, (stF n a b c x)[0]? = some (some (.ref n)) := fun _ => rfl
  -- _places
  have hn1 := pre_at p1 hn
  have hnl := at_lt hn
  refine w_cut (fun ρ s' => ρ = stF n a b c x1 ∧ Keep n s s' ∧ ∃ A, s'[n]? = some (.ins cS [("_places", .ref A)]) ∧ s'[A]? = some (.dct kp) ∧ A ≠ n) ?_ ?_
  · have hd := o_dictD (pre_at p1 ha)
    have he : ev (clN (d + 2)) (.blt .dict (.cons (.var 1) .nil)) (stF n a b c x1) s1 = .ok (.ref s1.length) (s1 ++ [.dct kp]) := by
      show liftO (bltV .dict [.ref a] s1) = _
      rw [hd]
      rfl
    have ne : s1.length ≠ n := by have := p1.length_le; omega
    refine setf_ok (e0 _) he (pre_at (pre_app pre_rfl _) hn1) (by decide) ⟨rfl, (Keep.refl.pre (p1.trans (pre_app pre_rfl _))).set, s1.length, List.getElem?_set_self (by rw [List.length_append]; have := p1.length_le; omega), ?_, ne⟩
    rw [List.getElem?_set_ne (Ne.symm ne), List.getElem?_append_right (Nat.le_refl _), Nat.sub_self]
    rfl
  rintro _ s2 ⟨rfl, k2, A, hn2, hA2, neA⟩
  have nb : b ≠ n := by rintro rfl; rw [hn] at hb; cases hb
  have nc : c ≠ n := by rintro rfl; rw [hn] at hc; cases hc
  refine w_cut (fun ρ s' => ρ = stF n a b c x1 ∧ Keep n s s' ∧ ∃ B, s'[n]? = some (.ins cS [("_places", .ref A), ("_numbers", .ref B)]) ∧ s'[A]? = some (.dct kp) ∧ s'[B]? = some (.dct kn) ∧ B ≠ n) ?_ ?_
  · have hd := o_dictD (k2.2 b _ nb hb)
    have he : ev (clN (d + 2)) (.blt .dict (.cons (.var 2) .nil)) (stF n a b c x1) s2 = .ok (.ref s2.length) (s2 ++ [.dct kn]) := by
      show liftO (bltV .dict [.ref b] s2) = _
      rw [hd]
      rfl
    have ne : s2.length ≠ n := by have := k2.1; omega
    have hf : putFV ("_numbers" : Str) (.ref s2.length) ([("_places", .ref A)] : List (Str × Val)) = ([("_places", .ref A), ("_numbers", .ref s2.length)] : List (Str × Val)) := by with_unfolding_all rfl
    refine setf_ok (e0 _) he (pre_at (pre_app pre_rfl _) hn2) (show 1 < 1000 by decide) ⟨rfl, (k2.pre (pre_app pre_rfl _)).set, s2.length, ?_, ?_, ?_, ne⟩
    · rw [hf]
      exact List.getElem?_set_self (by rw [List.length_append]; have := k2.1; omega)
    · rw [List.getElem?_set_ne (Ne.symm neA)]
      exact pre_at (pre_app pre_rfl _) hA2
    · rw [List.getElem?_set_ne (Ne.symm ne), List.getElem?_append_right (Nat.le_refl _), Nat.sub_self]
      rfl
  rintro _ s3 ⟨rfl, k3, B, hn3, hA3, hB3, neB⟩
  -- _arrays
  have hc3 := k3.2 c _ nc hc
  have hAr3 := k3.arrs hn hA
  rw [w_one, w_setf]
  refine w_lockd (n := c) (kvs := ka) rfl hc3 ?_
  have hfr : (s3.set c (.frd ka))[c]? = some (.frd ka) := List.getElem?_set_self (at_lt hc3)
  have hkeys : wr (evI (clN (d + 2)) (.keys (.var 3)) (stF n a b c x1) (s3.set c (.frd ka))) (fun w s' => w = .tup (ka.map fun kv => keyV kv.1) ∧ s3.set c (.frd ka) = s') noX := by
    rw [w_ikeys, w_var (v := .ref c) rfl, wr_ok]
    dsimp only
    rw [hfr]
    dsimp only
    rw [wr_ok]
    exact ⟨rfl, rfl⟩
  rw [w_dc]
  refine wr_mono hkeys ?_ fun _ _ _ z => z
  rintro _ _ ⟨rfl, rfl⟩
  refine wr_mono (dc_map (c := c) (j := 4) (G := leastF) hfr (hAr3.setD hc3) g.nd (by have := g.len; omega) ?_ ?_) ?_ fun _ _ _ z => z
  · intro s' x
    unfold x_State_init_3
    simp only [w_varM, w_con, w_bin, w_neg, w_not, w_and, w_or, w_cmp, w_chain, w_ife, w_call, w_callp, w_star, w_blt, w_mth, w_idx, w_slc, w_lst, w_tup, w_tab, w_tin, w_dnew, w_rev, w_lc, w_lsc, w_dc, w_disp, w_get, w_fld, w_mk, w_meth, w_prop, w_nil, w_cons, w_onone, w_osome, w_tnone, w_tsome, w_tnot, w_tand, w_tor, w_tval, w_iex, w_irng1, w_irng2, w_irng3, w_izip, w_run, w_snil, w_scons, w_set, w_unp, w_seti, w_setf, w_exp, w_ret, w_retn, w_pass, w_ifs, w_loop, w_rais, w_try, wr_ok, wr_some, wr_none, wr_stuck, wr_bind, wr_quiet, wr_lift_ite, wr_ite, wo_ite, wo_next, wo_ret, wo_brk, wo_cnt, o_add, o_sub, o_mul, o_fdiv, o_mod, o_pow, o_neg, o_lt, o_le, o_gt, o_ge, o_eq, o_ne, o_eqs, o_nes, o_isB, o_notB, o_tbl, o_int, o_lst, decide_eq_true_eq, Bool.not_eq_true', decide_eq_false_iff_not, beq_iff_eq, List.map_cons, List.map_nil, List.length_cons, List.length_nil, List.replicate_succ, List.replicate_zero, List.cons_append, List.nil_append, List.getElem?_cons_zero, List.getElem?_cons_succ, List.set_cons_zero, List.set_cons_succ, Nat.reduceSub, Nat.reduceAdd, Nat.zero_add, Option.map_some, Option.map_none, c_na10, o_rng1, len_rng, len_lst, len_tup, Int.toNat_natCast, Int.reduceToNat, Int.reduceLE, Int.reduceLT, Nat.reducePow, Nat.reduceLT, and_self, if_true, if_false, ite_true, ite_false, true_and, and_true, reduceIte, wipeF]
  · intro s' r i q pre hq hi hr
    unfold x_State_init_4
    simp only [w_varM, w_con, w_bin, w_neg, w_not, w_and, w_or, w_cmp, w_chain, w_ife, w_call, w_callp, w_star, w_blt, w_mth, w_idx, w_slc, w_lst, w_tup, w_tab, w_tin, w_dnew, w_rev, w_lc, w_lsc, w_dc, w_disp, w_get, w_fld, w_mk, w_meth, w_prop, w_nil, w_cons, w_onone, w_osome, w_tnone, w_tsome, w_tnot, w_tand, w_tor, w_tval, w_iex, w_irng1, w_irng2, w_irng3, w_izip, w_run, w_snil, w_scons, w_set, w_unp, w_seti, w_setf, w_exp, w_ret, w_retn, w_pass, w_ifs, w_loop, w_rais, w_try, wr_ok, wr_some, wr_none, wr_stuck, wr_bind, wr_quiet, wr_lift_ite, wr_ite, wo_ite, wo_next, wo_ret, wo_brk, wo_cnt, o_add, o_sub, o_mul, o_fdiv, o_mod, o_pow, o_neg, o_lt, o_le, o_gt, o_ge, o_eq, o_ne, o_eqs, o_nes, o_isB, o_notB, o_tbl, o_int, o_lst, decide_eq_true_eq, Bool.not_eq_true', decide_eq_false_iff_not, beq_iff_eq, List.map_cons, List.map_nil, List.length_cons, List.length_nil, List.replicate_succ, List.replicate_zero, List.cons_append, List.nil_append, List.getElem?_cons_zero, List.getElem?_cons_succ, List.set_cons_zero, List.set_cons_succ, Nat.reduceSub, Nat.reduceAdd, Nat.zero_add, Option.map_some, Option.map_none, c_na10, o_rng1, len_rng, len_lst, len_tup, Int.toNat_natCast, Int.reduceToNat, Int.reduceLE, Int.reduceLT, Nat.reducePow, Nat.reduceLT, and_self, if_true, if_false, ite_true, ite_false, true_and, and_true, reduceIte, wipeF, hi]
    exact least_row_ok (d := d + 1) hr (g.nm q (List.mem_of_getElem? hq)).2
  · rintro _ s4 ⟨rfl, p4, kc, hD, hK⟩
    have hc4 := pre_at p4 hfr
    have pk : s3 <+: s4.set c (.dct ka) := pre_unlock hc3 p4
    have k4 : Keep n s (s4.set c (.dct ka)) := k3.pre pk
    have hn4 := pre_at pk hn3
    have hDc : (s3.set c (Ob.frd ka)).length ≠ c := by rw [List.length_set]; have := at_lt hc3; omega
    have hD4 : (s4.set c (.dct ka))[(s3.set c (Ob.frd ka)).length]? = some (.dct kc) := by
      rw [List.getElem?_set_ne (Ne.symm hDc)]
      exact hD
    have hK4 := hK.setF (o := .dct ka) hc4
    refine ⟨ka, hc4, ?_⟩
    rw [w_var (e0 _), wr_ok]
    generalize (s3.set c (Ob.frd ka)).length = C at hD4
    generalize s4.set c (Ob.dct ka) = s5 at pk k4 hn4 hD4 hK4
    have hCn : C ≠ n := by rintro rfl; rw [hn4] at hD4; cases hD4
    have hf : putFV ("_arrays" : Str) (.ref C) ([("_places", .ref A), ("_numbers", .ref B)] : List (Str × Val)) = stFs A B C := by with_unfolding_all rfl
    show wo (match insAt cS (.ref n) s5 with
      | some fs => if decide (fs.length < 1000) then Out.next (stF n a b c x1) (s5.set n (.ins cS (putFV ("_arrays" : Str) (.ref C) fs))) else .stuck
      | none => .stuck) _
    rw [insAt_of hn4]
    dsimp only
    have hlen : ([("_places", .ref A), ("_numbers", .ref B)] : List (Str × Val)).length < 1000 := (show 2 < 1000 by decide)
    rw [if_pos (decide_eq_true hlen), wo_next, hf]
    refine ⟨rfl, A, B, C, kc, List.getElem?_set_self (at_lt hn4), ?_, ?_, ?_, ?_, k4.set⟩
    · rw [List.getElem?_set_ne (Ne.symm neA)]
      exact pre_at pk hA3
    · rw [List.getElem?_set_ne (Ne.symm neB)]
      exact pre_at pk hB3
    · rw [List.getElem?_set_ne (Ne.symm hCn)]
      exact hD4
    · exact Keep.arrs (n := n) (c := cS) Keep.refl.set hn4 hK4
end EVL

/-! ## Q6 -/
set_option maxRecDepth 10000
set_option maxHeartbeats 800000
namespace EVL
open PySem L2 EV
/-- a state in the store -/
def StAt (s : Store) (v : Val) (kp kn : List (Key × Val)) (AL : List (Str × List Pr)) : Prop := ∃ n A B C kc, v = .ref n ∧ s[n]? = some (.ins cS (stFs A B C)) ∧ s[A]? = some (.dct kp) ∧ s[B]? = some (.dct kn) ∧ s[C]? = some (.dct kc) ∧ Arrs s kc AL
theorem st_mono {s s' : Store} {v : Val} {kp kn : List (Key × Val)} {AL : List (Str × List Pr)} (p : s <+: s') : StAt s v kp kn AL → StAt s' v kp kn AL :=
  fun ⟨n, A, B, C, kc, e, h1, h2, h3, h4, h5⟩ => ⟨n, A, B, C, kc, e, pre_at p h1, pre_at p h2, pre_at p h3, pre_at p h4, h5.mono p⟩
theorem st_look {A B C : Nat} : (stFs A B C).lookup ("_arrays" : Str) = some (.ref C) ∧ (stFs A B C).lookup ("_places" : Str) = some (.ref A) ∧ (stFs A B C).lookup ("_numbers" : Str) = some (.ref B) := by
  refine ⟨?_, ?_, ?_⟩ <;> with_unfolding_all rfl
/-- C(places, numbers, arrays) -/
theorem mk_ok {d : Nat} {ρ : Fr} {s s1 : Store} {es : Exs} {a b c : Nat} {kp kn ka : List (Key × Val)} {AL : List (Str × List Pr)} {Q : Val → Store → Prop} {X : Nat → Val → Store → Prop} (he : evs (clN (d + 3)) es ρ s = .ok [.ref a, .ref b, .ref c] s1) (ha : s1[a]? = some (.dct kp)) (hb : s1[b]? = some (.dct kn)) (hc : s1[c]? = some (.dct ka))
    (kP : Keyed kp) (lp : kp.length < 64) (kN : Keyed kn) (ln : kn.length < 64) (hA : Arrs s1 ka AL) (g : ALG AL) (hQ : ∀ v s', s1 <+: s' → StAt s' v kp kn (AL.map fun q => (q.1, leastF q.2)) → Q v s') :
    wr (ev (clN (d + 3)) (.mk cS id_State_init es) ρ s) Q X := by
  rw [w_mk, he, wr_ok]
  have p0 : s1 <+: s1 ++ [Ob.ins cS []] := pre_app pre_rfl _
  have hn : (s1 ++ [Ob.ins cS []])[s1.length]? = some (.ins cS []) := by
    rw [List.getElem?_append_right (Nat.le_refl _), Nat.sub_self]
    rfl
  refine wr_mono (init_ok (d := d) hn (pre_at p0 ha) (pre_at p0 hb) (pre_at p0 hc) kP lp kN ln (hA.mono p0) g) ?_ fun _ _ _ z => z
  rintro u s' ⟨rfl, A, B, C, kc, h1, h2, h3, h4, h5, h6⟩
  refine ⟨rfl, hQ _ s' (pre_of fun i o hi => ?_) ⟨_, A, B, C, kc, rfl, h1, h2, h3, h4, h5⟩⟩
  have hil := at_lt hi
  exact h6.2 i o (by omega) (pre_at p0 hi)
theorem arrays_ok {d : Nat} {s : Store} {v : Val} {kp kn : List (Key × Val)} {AL : List (Str × List Pr)} (h : StAt s v kp kn AL) (nd : (AL.map (·.1)).Nodup) (hl : AL.length < 64) : wr (clN (d + 1) id_State_arrays [v] s) (fun u s' => s <+: s' ∧ ∃ D kd, u = .ref D ∧ s'[D]? = some (.dct kd) ∧ Arrs s' kd AL) noX := by
  obtain ⟨n, A, B, C, kc, rfl, hn, hA, hB, hC, hAr⟩ := h
  show wr (runB (clN d) 2 b_State_arrays [.ref n] s) _ noX
  unfold b_State_arrays
  rw [w_run, w_one, w_ret]
  have hpv : pv2 [some (Val.ref n), none] s (.fld cS (.var 0) ("_arrays" : Str)) = some (.ref C) := by
    show (match insAt cS (.ref n) s with
      | some fs => fs.lookup ("_arrays" : Str)
      | none => none) = _
    rw [insAt_of hn]
    exact st_look.1
  refine w_lockd (n := C) (kvs := kc) hpv hC ?_
  have hnC : C ≠ n := by rintro rfl; rw [hn] at hC; cases hC
  have hfr : (s.set C (.frd kc))[C]? = some (.frd kc) := List.getElem?_set_self (at_lt hC)
  have hn1 : (s.set C (.frd kc))[n]? = some (.ins cS (stFs A B C)) := by rw [List.getElem?_set_ne hnC]; exact hn
  have hfld : ∀ (ρ : Fr) (s' : Store) (Q : Val → Store → Prop) (X : Nat → Val → Store → Prop), ρ[0]? = some (some (.ref n)) → s'[n]? = some (.ins cS (stFs A B C)) → Q (.ref C) s' → wr (ev (clN d) (.fld cS (.var 0) ("_arrays" : Str)) ρ s') Q X := by
    intro ρ s' Q X h0 h1 hQ
    rw [w_fld, w_var h0, wr_ok]
    rw [insAt_of h1]
    dsimp only
    rw [st_look.1]
    dsimp only
    rw [wr_ok]
    exact hQ
  have hkeys : wr (evI (clN d) (.keys (.fld cS (.var 0) ("_arrays" : Str))) [some (Val.ref n), none] (s.set C (.frd kc))) (fun w s' => w = .tup (kc.map fun kv => keyV kv.1) ∧ s.set C (.frd kc) = s') noX := by
    rw [w_ikeys]
    refine hfld _ _ _ _ rfl hn1 ?_
    dsimp only
    rw [hfr]
    dsimp only
    rw [wr_ok]
    exact ⟨rfl, rfl⟩
  rw [w_dc]
  refine wr_mono hkeys ?_ fun _ _ _ z => z
  rintro _ _ ⟨rfl, rfl⟩
  refine wr_mono (dc_map (c := C) (j := 1) (G := fun q => q) hfr (hAr.setD hC) nd (by omega) ?_ ?_) ?_ fun _ _ _ z => z
  · intro s' x
    unfold x_State_arrays_0
    simp only [w_varM, w_con, w_bin, w_neg, w_not, w_and, w_or, w_cmp, w_chain, w_ife, w_call, w_callp, w_star, w_blt, w_mth, w_idx, w_slc, w_lst, w_tup, w_tab, w_tin, w_dnew, w_rev, w_lc, w_lsc, w_dc, w_disp, w_get, w_fld, w_mk, w_meth, w_prop, w_nil, w_cons, w_onone, w_osome, w_tnone, w_tsome, w_tnot, w_tand, w_tor, w_tval, w_iex, w_irng1, w_irng2, w_irng3, w_izip, w_run, w_snil, w_scons, w_set, w_unp, w_seti, w_setf, w_exp, w_ret, w_retn, w_pass, w_ifs, w_loop, w_rais, w_try, wr_ok, wr_some, wr_none, wr_stuck, wr_bind, wr_quiet, wr_lift_ite, wr_ite, wo_ite, wo_next, wo_ret, wo_brk, wo_cnt, o_add, o_sub, o_mul, o_fdiv, o_mod, o_pow, o_neg, o_lt, o_le, o_gt, o_ge, o_eq, o_ne, o_eqs, o_nes, o_isB, o_notB, o_tbl, o_int, o_lst, decide_eq_true_eq, Bool.not_eq_true', decide_eq_false_iff_not, beq_iff_eq, List.map_cons, List.map_nil, List.length_cons, List.length_nil, List.replicate_succ, List.replicate_zero, List.cons_append, List.nil_append, List.getElem?_cons_zero, List.getElem?_cons_succ, List.set_cons_zero, List.set_cons_succ, Nat.reduceSub, Nat.reduceAdd, Nat.zero_add, Option.map_some, Option.map_none, c_na10, o_rng1, len_rng, len_lst, len_tup, Int.toNat_natCast, Int.reduceToNat, Int.reduceLE, Int.reduceLT, Nat.reducePow, Nat.reduceLT, and_self, if_true, if_false, ite_true, ite_false, true_and, and_true, reduceIte, wipeF]
  · intro s' r i q pre hq hi hr
    unfold x_State_arrays_1
    rw [w_blt, w_cons, w_idx]
    refine hfld _ _ _ _ rfl (pre_at pre hn1) ?_
    simp only [w_varM, w_con, w_bin, w_neg, w_not, w_and, w_or, w_cmp, w_chain, w_ife, w_call, w_callp, w_star, w_blt, w_mth, w_idx, w_slc, w_lst, w_tup, w_tab, w_tin, w_dnew, w_rev, w_lc, w_lsc, w_dc, w_disp, w_get, w_fld, w_mk, w_meth, w_prop, w_nil, w_cons, w_onone, w_osome, w_tnone, w_tsome, w_tnot, w_tand, w_tor, w_tval, w_iex, w_irng1, w_irng2, w_irng3, w_izip, w_run, w_snil, w_scons, w_set, w_unp, w_seti, w_setf, w_exp, w_ret, w_retn, w_pass, w_ifs, w_loop, w_rais, w_try, wr_ok, wr_some, wr_none, wr_stuck, wr_bind, wr_quiet, wr_lift_ite, wr_ite, wo_ite, wo_next, wo_ret, wo_brk, wo_cnt, o_add, o_sub, o_mul, o_fdiv, o_mod, o_pow, o_neg, o_lt, o_le, o_gt, o_ge, o_eq, o_ne, o_eqs, o_nes, o_isB, o_notB, o_tbl, o_int, o_lst, decide_eq_true_eq, Bool.not_eq_true', decide_eq_false_iff_not, beq_iff_eq, List.map_cons, List.map_nil, List.length_cons, List.length_nil, List.replicate_succ, List.replicate_zero, List.cons_append, List.nil_append, List.getElem?_cons_zero, List.getElem?_cons_succ, List.set_cons_zero, List.set_cons_succ, Nat.reduceSub, Nat.reduceAdd, Nat.zero_add, Option.map_some, Option.map_none, c_na10, o_rng1, len_rng, len_lst, len_tup, Int.toNat_natCast, Int.reduceToNat, Int.reduceLE, Int.reduceLT, Nat.reducePow, Nat.reduceLT, and_self, if_true, if_false, ite_true, ite_false, true_and, and_true, reduceIte, wipeF, hi, o_listM hr]
    exact ⟨pre_app pre_rfl _, _, rfl, Nat.le_refl _, mut_new⟩
  · rintro _ s4 ⟨rfl, p4, kd, hD, hK⟩
    have hC4 := pre_at p4 hfr
    have hDc : (s.set C (Ob.frd kc)).length ≠ C := by rw [List.length_set]; have := at_lt hC; omega
    refine ⟨kc, hC4, pre_unlock hC p4, _, kd, rfl, ?_, ?_⟩
    · rw [List.getElem?_set_ne (Ne.symm hDc)]
      exact hD
    · have e : (AL.map fun q => (q.1, q.2)) = AL := by rw [show (fun q : Str × List Pr => (q.1, q.2)) = id from rfl, List.map_id]
      rw [e] at hK
      exact hK.setF hC4
end EVL

/-! ## Q7 -/
set_option maxRecDepth 10000
set_option maxHeartbeats 800000
namespace EVL
open PySem L2 EV
/-! the law's own defs -/
theorem asc_nd {ps : List Pr} (h : Asc ps) : (ps.map (·.1)).Nodup := List.pairwise_map.mpr (h.imp fun {a b} q e => by omega)
theorem RowG.perm {ps qs : List Pr} (h : RowG ps) (p : qs.Perm ps) : RowG qs := ⟨fun e => by subst e; exact h.ne (List.length_eq_zero_iff.mp (by rw [← p.length_eq]; rfl)), (p.map _).nodup_iff.mpr h.nd, by rw [p.length_eq]; exact h.len⟩
def lrLims : List Int := [60, 3, 60] ++ (List.replicate 60 [10, 5]).flatten
theorem lr_at {k : Nat} (hk : k < 60) : lrLims[3 + 2 * k]? = some 10 ∧ lrLims[4 + 2 * k]? = some 5 := by
  have : ∀ k : Fin 60, lrLims[3 + 2 * k.1]? = some 10 ∧ lrLims[4 + 2 * k.1]? = some 5 := by decide +kernel
  exact this ⟨k, hk⟩
abbrev loF (n m l : Nat) (p c : Int) (x y : Option Val) : Fr := [some (.ref n), some (.int p), some (.ref m), some (.int c), some (.ref l), x, y]
theorem long_row_ok {d n : Nat} {st : Store} {ns : List Int} {p : Int} (hs : lstAt st n = some (ns.map .int)) (hp : 0 ≤ p) :
    wr (clN (d + 3) id__law_long_row [.ref n, .int p] st) (fun v s' => st <+: s' ∧ ∃ q ps, v = .ref q ∧ mutAt s' q = some (ps.map pairV) ∧ RowG ps ∧ ps.length ≤ 60) noX := by
  show wr (runB (clN (d + 2)) 7 b__law_long_row [.ref n, .int p] st) _ noX
  unfold b__law_long_row
  rw [w_run]
  refine w_cut (fun ρ s' => st <+: s' ∧ ∃ m, Drawn s' m lrLims ∧ ρ = [some (.ref n), some (.int p), some (.ref m), none, none, none, none]) ?_ ?_
  · rw [w_set]
    refine wr_imp (drawn (d := d) (a := .var 0) (b := .var 1) (p := p) (n := n) (ls := lrLims) rfl rfl hs hp (by rfl) (by decide) (by decide)) ?_
    rintro _ s' ⟨pre, m, rfl, hm⟩
    exact ⟨pre, m, hm, rfl⟩
  rintro _ s1 ⟨p1, m, ⟨ds, hds, hdl, hb⟩, rfl⟩
  have hdl : ds.length = 123 := hdl
  have l0 : lineOk 0 = true := by decide
  refine w_cut (fun ρ s' => s1 = s' ∧ ρ = [some (.ref n), some (.int p), some (.ref m), some (.int (-40)), none, none, none]) (by simp only [w_varM, w_con, w_bin, w_neg, w_not, w_and, w_or, w_cmp, w_chain, w_ife, w_call, w_callp, w_star, w_blt, w_mth, w_idx, w_slc, w_lst, w_tup, w_tab, w_tin, w_dnew, w_rev, w_lc, w_lsc, w_dc, w_disp, w_get, w_fld, w_mk, w_meth, w_prop, w_nil, w_cons, w_onone, w_osome, w_tnone, w_tsome, w_tnot, w_tand, w_tor, w_tval, w_iex, w_irng1, w_irng2, w_irng3, w_izip, w_run, w_snil, w_scons, w_set, w_unp, w_seti, w_setf, w_exp, w_ret, w_retn, w_pass, w_ifs, w_loop, w_rais, w_try, wr_ok, wr_some, wr_none, wr_stuck, wr_bind, wr_quiet, wr_lift_ite, wr_ite, wo_ite, wo_next, wo_ret, wo_brk, wo_cnt, o_add, o_sub, o_mul, o_fdiv, o_mod, o_pow, o_neg, o_lt, o_le, o_gt, o_ge, o_eq, o_ne, o_eqs, o_nes, o_isB, o_notB, o_tbl, o_int, o_lst, decide_eq_true_eq, Bool.not_eq_true', decide_eq_false_iff_not, beq_iff_eq, List.map_cons, List.map_nil, List.length_cons, List.length_nil, List.replicate_succ, List.replicate_zero, List.cons_append, List.nil_append, List.getElem?_cons_zero, List.getElem?_cons_succ, List.set_cons_zero, List.set_cons_succ, Nat.reduceSub, Nat.reduceAdd, Nat.zero_add, Option.map_some, Option.map_none, c_na10, o_rng1, len_rng, len_lst, len_tup, Int.toNat_natCast, Int.reduceToNat, Int.reduceLE, Int.reduceLT, Nat.reducePow, Nat.reduceLT, and_self, if_true, if_false, ite_true, ite_false, true_and, and_true, reduceIte]) ?_
  rintro _ _ ⟨rfl, rfl⟩
  refine w_cut (fun ρ s' => s' = s1 ++ [.lst []] ∧ ρ = loF n m s1.length p (-40) none none) (by simp only [w_varM, w_con, w_bin, w_neg, w_not, w_and, w_or, w_cmp, w_chain, w_ife, w_call, w_callp, w_star, w_blt, w_mth, w_idx, w_slc, w_lst, w_tup, w_tab, w_tin, w_dnew, w_rev, w_lc, w_lsc, w_dc, w_disp, w_get, w_fld, w_mk, w_meth, w_prop, w_nil, w_cons, w_onone, w_osome, w_tnone, w_tsome, w_tnot, w_tand, w_tor, w_tval, w_iex, w_irng1, w_irng2, w_irng3, w_izip, w_run, w_snil, w_scons, w_set, w_unp, w_seti, w_setf, w_exp, w_ret, w_retn, w_pass, w_ifs, w_loop, w_rais, w_try, wr_ok, wr_some, wr_none, wr_stuck, wr_bind, wr_quiet, wr_lift_ite, wr_ite, wo_ite, wo_next, wo_ret, wo_brk, wo_cnt, o_add, o_sub, o_mul, o_fdiv, o_mod, o_pow, o_neg, o_lt, o_le, o_gt, o_ge, o_eq, o_ne, o_eqs, o_nes, o_isB, o_notB, o_tbl, o_int, o_lst, decide_eq_true_eq, Bool.not_eq_true', decide_eq_false_iff_not, beq_iff_eq, List.map_cons, List.map_nil, List.length_cons, List.length_nil, List.replicate_succ, List.replicate_zero, List.cons_append, List.nil_append, List.getElem?_cons_zero, List.getElem?_cons_succ, List.set_cons_zero, List.set_cons_succ, Nat.reduceSub, Nat.reduceAdd, Nat.zero_add, Option.map_some, Option.map_none, c_na10, o_rng1, len_rng, len_lst, len_tup, Int.toNat_natCast, Int.reduceToNat, Int.reduceLE, Int.reduceLT, Nat.reducePow, Nat.reduceLT, and_self, if_true, if_false, ite_true, ite_false, true_and, and_true, reduceIte, l0]) ?_
  rintro _ _ ⟨rfl, rfl⟩
  have g : ∀ (j : Nat) (hj : j < 123), ds[j]? = some (ds[j]'(by omega)) := fun j hj => List.getElem?_eq_getElem _
  have b0 := hb 0 _ 60 (g 0 (by decide)) rfl
  have b1 := hb 1 _ 3 (g 1 (by decide)) rfl
  have b2 := hb 2 _ 60 (g 2 (by decide)) rfl
  have i0 : atI (ds.map Val.int) 0 = some (.int _) := ix_at (k := 0) (g 0 (by decide))
  have i1 : atI (ds.map Val.int) 1 = some (.int _) := ix_at (k := 1) (g 1 (by decide))
  have i2 : atI (ds.map Val.int) 2 = some (.int _) := ix_at (k := 2) (g 2 (by decide))
  have hds1 : lstAt (s1 ++ [Ob.lst []]) m = some (ds.map .int) := pre_lst (pre_app pre_rfl _) hds
  obtain ⟨x0, hx0⟩ : ∃ x0, ds[0]'(by omega) = x0 := ⟨_, rfl⟩
  obtain ⟨x1, hx1⟩ : ∃ x1, ds[1]'(by omega) = x1 := ⟨_, rfl⟩
  obtain ⟨x2, hx2⟩ : ∃ x2, ds[2]'(by omega) = x2 := ⟨_, rfl⟩
  rw [hx0] at b0 i0
  rw [hx1] at b1 i1
  rw [hx2] at b2 i2
  have hr : rngOk (1 + x0) = true := rng_ok ⟨by omega, by omega⟩
  refine w_cut (fun ρ s' => st <+: s' ∧ lstAt s' m = some (ds.map .int) ∧ ∃ ps c x, mutAt s' s1.length = some (ps.map pairV) ∧ ps.length = (1 + x0).toNat ∧ Asc ps ∧ ρ = loF n m s1.length p c x none) ?_ ?_
  · rw [w_loop]
    simp only [w_varM, w_con, w_bin, w_neg, w_not, w_and, w_or, w_cmp, w_chain, w_ife, w_call, w_callp, w_star, w_blt, w_mth, w_idx, w_slc, w_lst, w_tup, w_tab, w_tin, w_dnew, w_rev, w_lc, w_lsc, w_dc, w_disp, w_get, w_fld, w_mk, w_meth, w_prop, w_nil, w_cons, w_onone, w_osome, w_tnone, w_tsome, w_tnot, w_tand, w_tor, w_tval, w_iex, w_irng1, w_irng2, w_irng3, w_izip, w_run, w_snil, w_scons, w_set, w_unp, w_seti, w_setf, w_exp, w_ret, w_retn, w_pass, w_ifs, w_loop, w_rais, w_try, wr_ok, wr_some, wr_none, wr_stuck, wr_bind, wr_quiet, wr_lift_ite, wr_ite, wo_ite, wo_next, wo_ret, wo_brk, wo_cnt, o_add, o_sub, o_mul, o_fdiv, o_mod, o_pow, o_neg, o_lt, o_le, o_gt, o_ge, o_eq, o_ne, o_eqs, o_nes, o_isB, o_notB, o_tbl, o_int, o_lst, decide_eq_true_eq, Bool.not_eq_true', decide_eq_false_iff_not, beq_iff_eq, List.map_cons, List.map_nil, List.length_cons, List.length_nil, List.replicate_succ, List.replicate_zero, List.cons_append, List.nil_append, List.getElem?_cons_zero, List.getElem?_cons_succ, List.set_cons_zero, List.set_cons_succ, Nat.reduceSub, Nat.reduceAdd, Nat.zero_add, Option.map_some, Option.map_none, c_na10, o_rng1, len_rng, len_lst, len_tup, Int.toNat_natCast, Int.reduceToNat, Int.reduceLE, Int.reduceLT, Nat.reducePow, Nat.reduceLT, and_self, if_true, if_false, ite_true, ite_false, true_and, and_true, reduceIte, o_idx hds1, i0, hr]
    refine for_rng (fun k ρ s' => st <+: s' ∧ lstAt s' m = some (ds.map .int) ∧ ∃ ps c x, mutAt s' s1.length = some (ps.map pairV) ∧ ps.length = k ∧ Asc ps ∧ (∀ e ∈ ps, e.1 ≤ c) ∧ ρ = loF n m s1.length p c x none) ⟨p1.trans (pre_app pre_rfl _), hds1, [], _, _, mut_new, rfl, .nil, fun e h => absurd h List.not_mem_nil, rfl⟩ ?_ ?_
    · rintro k _ s2 hk ⟨pre, hm2, ps, c, x, hps, hpl, hA, hc, rfl⟩
      refine ⟨_, give_nm, ?_⟩
      have hk60 : k < 60 := by omega
      have ez : (0 : Int) + (k : Int) = k := by omega
      rw [ez]
      show wo (EV.exs (clN (d + 2)) l__law_long_row_0 (loF n m s1.length p c (some (.int (k : Int))) none) s2) _
      unfold l__law_long_row_0
      have m2 : mulOk 2 (k : Int) = true := mulOk_l ⟨by decide, by decide⟩
      have j3 : atI (ds.map Val.int) (3 + 2 * (k : Int)) = some (.int (ds[3 + 2 * k]'(by omega))) := by
        rw [show (3 + 2 * (k : Int)) = ((3 + 2 * k : Nat) : Int) by omega]
        exact ix_at (g _ (by omega))
      have j4 : atI (ds.map Val.int) (4 + 2 * (k : Int)) = some (.int (ds[4 + 2 * k]'(by omega))) := by
        rw [show (4 + 2 * (k : Int)) = ((4 + 2 * k : Nat) : Int) by omega]
        exact ix_at (g _ (by omega))
      have c3 := hb (3 + 2 * k) _ 10 (g _ (by omega)) (lr_at hk60).1
      generalize ds[3 + 2 * k]'(by omega) = y at j3 c3
      generalize ds[4 + 2 * k]'(by omega) = z at j4
      have d2 : (0 : Int) < 2 + x1 := by omega
      have l2 : lineOk 2 = true := by decide
      have hpm : (ps.map pairV).length < 16777216 := by rw [List.length_map]; omega
      simp only [w_varM, w_con, w_bin, w_neg, w_not, w_and, w_or, w_cmp, w_chain, w_ife, w_call, w_callp, w_star, w_blt, w_mth, w_idx, w_slc, w_lst, w_tup, w_tab, w_tin, w_dnew, w_rev, w_lc, w_lsc, w_dc, w_disp, w_get, w_fld, w_mk, w_meth, w_prop, w_nil, w_cons, w_onone, w_osome, w_tnone, w_tsome, w_tnot, w_tand, w_tor, w_tval, w_iex, w_irng1, w_irng2, w_irng3, w_izip, w_run, w_snil, w_scons, w_set, w_unp, w_seti, w_setf, w_exp, w_ret, w_retn, w_pass, w_ifs, w_loop, w_rais, w_try, wr_ok, wr_some, wr_none, wr_stuck, wr_bind, wr_quiet, wr_lift_ite, wr_ite, wo_ite, wo_next, wo_ret, wo_brk, wo_cnt, o_add, o_sub, o_mul, o_fdiv, o_mod, o_pow, o_neg, o_lt, o_le, o_gt, o_ge, o_eq, o_ne, o_eqs, o_nes, o_isB, o_notB, o_tbl, o_int, o_lst, decide_eq_true_eq, Bool.not_eq_true', decide_eq_false_iff_not, beq_iff_eq, List.map_cons, List.map_nil, List.length_cons, List.length_nil, List.replicate_succ, List.replicate_zero, List.cons_append, List.nil_append, List.getElem?_cons_zero, List.getElem?_cons_succ, List.set_cons_zero, List.set_cons_succ, Nat.reduceSub, Nat.reduceAdd, Nat.zero_add, Option.map_some, Option.map_none, c_na10, o_rng1, len_rng, len_lst, len_tup, Int.toNat_natCast, Int.reduceToNat, Int.reduceLE, Int.reduceLT, Nat.reducePow, Nat.reduceLT, and_self, if_true, if_false, ite_true, ite_false, true_and, and_true, reduceIte, m2, o_idx hm2, j3, j4, i1, d2, l2, o_rapp hps, o_app hps, hpm]
      have ne : m ≠ s1.length := by
        have := hds
        unfold lstAt at this
        rintro rfl
        rw [List.getElem?_eq_none (Nat.le_refl _)] at this
        cases this
      refine ⟨pre_set pre p1.length_le, ?_, ps ++ [(c + 1 + y, z % (2 + x1))], _, _, ?_, by rw [List.length_append, hpl]; rfl, ?_, ?_, rfl⟩
      · unfold lstAt at hm2 ⊢
        rw [List.getElem?_set_ne (Ne.symm ne)]
        exact hm2
      · rw [List.map_append]
        exact mut_set hps
      · refine List.pairwise_append.mpr ⟨hA, List.pairwise_singleton _ _, fun a ha b hb2 => ?_⟩
        rw [List.mem_singleton] at hb2
        subst hb2
        have := hc a ha
        show a.1 < c + 1 + y
        omega
      · intro e he
        rcases List.mem_append.mp he with he | he
        · have := hc e he
          omega
        · rw [List.mem_singleton] at he
          subst he
          exact Int.le_refl _
    · rintro _ s2 ⟨pre, hm2, ps, c, x, hps, hpl, hA, hc, rfl⟩
      exact ⟨pre, hm2, ps, c, x, hps, hpl, hA, rfl⟩
  rintro _ s2 ⟨p2, hm2, ps, c, x, hps, hpl, hA, rfl⟩
  have hl1 : 1 ≤ ps.length := by omega
  have hl60 : ps.length ≤ 60 := by omega
  have hG : RowG ps := ⟨fun e => by subst e; simp at hl1, asc_nd hA, by omega⟩
  have hll := mut_len hps
  rw [List.length_map] at hll
  have hpos : (0 : Int) < (ps.length : Int) := by omega
  obtain ⟨cu, hcu, hcl⟩ : ∃ cu : Nat, x2 % (ps.length : Int) = (cu : Int) ∧ cu ≤ ps.length := by
    have h1 := Int.emod_nonneg x2 (show (ps.length : Int) ≠ 0 by omega)
    have h2 := Int.emod_lt_of_pos x2 hpos
    exact ⟨(x2 % (ps.length : Int)).toNat, by omega, by omega⟩
  refine w_cut (fun ρ s' => s2 = s' ∧ ρ = loF n m s1.length p c x (some (.int (cu : Int)))) ?_ ?_
  · simp only [w_varM, w_con, w_bin, w_neg, w_not, w_and, w_or, w_cmp, w_chain, w_ife, w_call, w_callp, w_star, w_blt, w_mth, w_idx, w_slc, w_lst, w_tup, w_tab, w_tin, w_dnew, w_rev, w_lc, w_lsc, w_dc, w_disp, w_get, w_fld, w_mk, w_meth, w_prop, w_nil, w_cons, w_onone, w_osome, w_tnone, w_tsome, w_tnot, w_tand, w_tor, w_tval, w_iex, w_irng1, w_irng2, w_irng3, w_izip, w_run, w_snil, w_scons, w_set, w_unp, w_seti, w_setf, w_exp, w_ret, w_retn, w_pass, w_ifs, w_loop, w_rais, w_try, wr_ok, wr_some, wr_none, wr_stuck, wr_bind, wr_quiet, wr_lift_ite, wr_ite, wo_ite, wo_next, wo_ret, wo_brk, wo_cnt, o_add, o_sub, o_mul, o_fdiv, o_mod, o_pow, o_neg, o_lt, o_le, o_gt, o_ge, o_eq, o_ne, o_eqs, o_nes, o_isB, o_notB, o_tbl, o_int, o_lst, decide_eq_true_eq, Bool.not_eq_true', decide_eq_false_iff_not, beq_iff_eq, List.map_cons, List.map_nil, List.length_cons, List.length_nil, List.replicate_succ, List.replicate_zero, List.cons_append, List.nil_append, List.getElem?_cons_zero, List.getElem?_cons_succ, List.set_cons_zero, List.set_cons_succ, Nat.reduceSub, Nat.reduceAdd, Nat.zero_add, Option.map_some, Option.map_none, c_na10, o_rng1, len_rng, len_lst, len_tup, Int.toNat_natCast, Int.reduceToNat, Int.reduceLE, Int.reduceLT, Nat.reducePow, Nat.reduceLT, and_self, if_true, if_false, ite_true, ite_false, true_and, and_true, reduceIte, o_idx hm2, i2, hll, hpos, hcu]
  rintro _ _ ⟨rfl, rfl⟩
  have hc1 : EV.cut (ps.map pairV) (some (cu : Int)) none = (ps.drop cu).map pairV := by
    rw [cut_pairs]
    unfold EV.cut
    rw [HT.sIx_none]
    have : HT.sIx ps.length 0 (some (cu : Int)) = cu := by
      show (if (cu : Int) < 0 then ((cu : Int) + (ps.length : Int)).toNat else min (cu : Int).toNat ps.length) = _
      rw [if_neg (by omega)]
      omega
    rw [this, List.take_of_length_le (by rw [List.length_drop]; exact Nat.le_refl _)]
  have hc2 : EV.cut (ps.map pairV) none (some (cu : Int)) = (ps.take cu).map pairV := by
    rw [cut_pairs]
    unfold EV.cut
    rw [HT.sIx_none]
    have : HT.sIx ps.length ps.length (some (cu : Int)) = cu := by
      show (if (cu : Int) < 0 then ((cu : Int) + (ps.length : Int)).toNat else min (cu : Int).toNat ps.length) = _
      rw [if_neg (by omega)]
      omega
    rw [this, List.drop_zero, Nat.sub_zero]
  have hperm : (ps.drop cu ++ ps.take cu).Perm ps := List.perm_append_comm.trans (by rw [List.take_append_drop])
  refine w_cut (fun ρ s' => st <+: s' ∧ lstAt s' m = some (ds.map .int) ∧ ∃ q x y, mutAt s' q = some ((ps.drop cu ++ ps.take cu).map pairV) ∧ ρ = loF n m q p c x y) ?_ ?_
  · have h1 := o_slcM (lo := some (cu : Int)) (hi := none) hps
    rw [hc1] at h1
    have hps2 := mut_pre (pre_app (pre_rfl (st := s2)) [Ob.lst ((ps.drop cu).map pairV)]) hps
    have h2 := o_slcM (lo := none) (hi := some (cu : Int)) hps2
    rw [hc2] at h2
    have hln : lineOk (((ps.drop cu).map pairV).length + ((ps.take cu).map pairV).length) = true := by
      rw [List.length_map, List.length_map, List.length_drop, List.length_take]
      exact lk1 (by omega)
    have h3 := o_cat (st := s2 ++ [Ob.lst ((ps.drop cu).map pairV)] ++ [Ob.lst ((ps.take cu).map pairV)]) (n := s2.length) (m := (s2 ++ [Ob.lst ((ps.drop cu).map pairV)]).length) (mut_pre (pre_app pre_rfl _) mut_new) mut_new hln
    simp only [w_varM, w_con, w_bin, w_neg, w_not, w_and, w_or, w_cmp, w_chain, w_ife, w_call, w_callp, w_star, w_blt, w_mth, w_idx, w_slc, w_lst, w_tup, w_tab, w_tin, w_dnew, w_rev, w_lc, w_lsc, w_dc, w_disp, w_get, w_fld, w_mk, w_meth, w_prop, w_nil, w_cons, w_onone, w_osome, w_tnone, w_tsome, w_tnot, w_tand, w_tor, w_tval, w_iex, w_irng1, w_irng2, w_irng3, w_izip, w_run, w_snil, w_scons, w_set, w_unp, w_seti, w_setf, w_exp, w_ret, w_retn, w_pass, w_ifs, w_loop, w_rais, w_try, wr_ok, wr_some, wr_none, wr_stuck, wr_bind, wr_quiet, wr_lift_ite, wr_ite, wo_ite, wo_next, wo_ret, wo_brk, wo_cnt, o_add, o_sub, o_mul, o_fdiv, o_mod, o_pow, o_neg, o_lt, o_le, o_gt, o_ge, o_eq, o_ne, o_eqs, o_nes, o_isB, o_notB, o_tbl, o_int, o_lst, decide_eq_true_eq, Bool.not_eq_true', decide_eq_false_iff_not, beq_iff_eq, List.map_cons, List.map_nil, List.length_cons, List.length_nil, List.replicate_succ, List.replicate_zero, List.cons_append, List.nil_append, List.getElem?_cons_zero, List.getElem?_cons_succ, List.set_cons_zero, List.set_cons_succ, Nat.reduceSub, Nat.reduceAdd, Nat.zero_add, Option.map_some, Option.map_none, c_na10, o_rng1, len_rng, len_lst, len_tup, Int.toNat_natCast, Int.reduceToNat, Int.reduceLE, Int.reduceLT, Nat.reducePow, Nat.reduceLT, and_self, if_true, if_false, ite_true, ite_false, true_and, and_true, reduceIte, h1, h2, h3]
    have pall : s2 <+: s2 ++ [Ob.lst ((ps.drop cu).map pairV)] ++ [Ob.lst ((ps.take cu).map pairV)] ++ [Ob.lst ((ps.drop cu).map pairV ++ (ps.take cu).map pairV)] := pre_app (pre_app (pre_app pre_rfl _) _) _
    refine ⟨p2.trans pall, pre_lst pall hm2, _, _, _, ?_, rfl⟩
    rw [List.map_append]
    exact mut_new
  rintro _ s3 ⟨p3, hm3, q, x', y', hq, rfl⟩
  have hG3 := hG.perm hperm
  have hl3 : (ps.drop cu ++ ps.take cu).length ≤ 60 := by rw [hperm.length_eq]; exact hl60
  generalize ps.drop cu ++ ps.take cu = rs at hq hG3 hl3
  refine w_cut (fun ρ s' => st <+: s' ∧ ∃ q rs x y, mutAt s' q = some (rs.map pairV) ∧ RowG rs ∧ rs.length ≤ 60 ∧ ρ = loF n m q p c x y) ?_ ?_
  · by_cases e : x1 = 1
    · subst e
      simp only [w_varM, w_con, w_bin, w_neg, w_not, w_and, w_or, w_cmp, w_chain, w_ife, w_call, w_callp, w_star, w_blt, w_mth, w_idx, w_slc, w_lst, w_tup, w_tab, w_tin, w_dnew, w_rev, w_lc, w_lsc, w_dc, w_disp, w_get, w_fld, w_mk, w_meth, w_prop, w_nil, w_cons, w_onone, w_osome, w_tnone, w_tsome, w_tnot, w_tand, w_tor, w_tval, w_iex, w_irng1, w_irng2, w_irng3, w_izip, w_run, w_snil, w_scons, w_set, w_unp, w_seti, w_setf, w_exp, w_ret, w_retn, w_pass, w_ifs, w_loop, w_rais, w_try, wr_ok, wr_some, wr_none, wr_stuck, wr_bind, wr_quiet, wr_lift_ite, wr_ite, wo_ite, wo_next, wo_ret, wo_brk, wo_cnt, o_add, o_sub, o_mul, o_fdiv, o_mod, o_pow, o_neg, o_lt, o_le, o_gt, o_ge, o_eq, o_ne, o_eqs, o_nes, o_isB, o_notB, o_tbl, o_int, o_lst, decide_eq_true_eq, Bool.not_eq_true', decide_eq_false_iff_not, beq_iff_eq, List.map_cons, List.map_nil, List.length_cons, List.length_nil, List.replicate_succ, List.replicate_zero, List.cons_append, List.nil_append, List.getElem?_cons_zero, List.getElem?_cons_succ, List.set_cons_zero, List.set_cons_succ, Nat.reduceSub, Nat.reduceAdd, Nat.zero_add, Option.map_some, Option.map_none, c_na10, o_rng1, len_rng, len_lst, len_tup, Int.toNat_natCast, Int.reduceToNat, Int.reduceLE, Int.reduceLT, Nat.reducePow, Nat.reduceLT, and_self, if_true, if_false, ite_true, ite_false, true_and, and_true, reduceIte, o_idx hm3, i1, o_revM hq]
      refine ⟨pre_app p3 _, _, rs.reverse, _, _, ?_, hG3.perm (List.reverse_perm rs), by rw [List.length_reverse]; exact hl3, rfl⟩
      rw [← List.map_reverse]
      exact mut_new
    · have eb : (x1 == 1) = false := beq_eq_false_iff_ne.mpr e
      simp only [w_varM, w_con, w_bin, w_neg, w_not, w_and, w_or, w_cmp, w_chain, w_ife, w_call, w_callp, w_star, w_blt, w_mth, w_idx, w_slc, w_lst, w_tup, w_tab, w_tin, w_dnew, w_rev, w_lc, w_lsc, w_dc, w_disp, w_get, w_fld, w_mk, w_meth, w_prop, w_nil, w_cons, w_onone, w_osome, w_tnone, w_tsome, w_tnot, w_tand, w_tor, w_tval, w_iex, w_irng1, w_irng2, w_irng3, w_izip, w_run, w_snil, w_scons, w_set, w_unp, w_seti, w_setf, w_exp, w_ret, w_retn, w_pass, w_ifs, w_loop, w_rais, w_try, wr_ok, wr_some, wr_none, wr_stuck, wr_bind, wr_quiet, wr_lift_ite, wr_ite, wo_ite, wo_next, wo_ret, wo_brk, wo_cnt, o_add, o_sub, o_mul, o_fdiv, o_mod, o_pow, o_neg, o_lt, o_le, o_gt, o_ge, o_eq, o_ne, o_eqs, o_nes, o_isB, o_notB, o_tbl, o_int, o_lst, decide_eq_true_eq, Bool.not_eq_true', decide_eq_false_iff_not, beq_iff_eq, List.map_cons, List.map_nil, List.length_cons, List.length_nil, List.replicate_succ, List.replicate_zero, List.cons_append, List.nil_append, List.getElem?_cons_zero, List.getElem?_cons_succ, List.set_cons_zero, List.set_cons_succ, Nat.reduceSub, Nat.reduceAdd, Nat.zero_add, Option.map_some, Option.map_none, c_na10, o_rng1, len_rng, len_lst, len_tup, Int.toNat_natCast, Int.reduceToNat, Int.reduceLE, Int.reduceLT, Nat.reducePow, Nat.reduceLT, and_self, if_true, if_false, ite_true, ite_false, true_and, and_true, reduceIte, o_idx hm3, i1, e, eb, Bool.false_eq_true, if_false]
      exact ⟨p3, q, rs, _, _, hq, hG3, hl3, rfl⟩
  rintro _ s4 ⟨p4, q4, rs4, x4, y4, hq4, hG4, hl4, rfl⟩
  simp only [w_varM, w_con, w_bin, w_neg, w_not, w_and, w_or, w_cmp, w_chain, w_ife, w_call, w_callp, w_star, w_blt, w_mth, w_idx, w_slc, w_lst, w_tup, w_tab, w_tin, w_dnew, w_rev, w_lc, w_lsc, w_dc, w_disp, w_get, w_fld, w_mk, w_meth, w_prop, w_nil, w_cons, w_onone, w_osome, w_tnone, w_tsome, w_tnot, w_tand, w_tor, w_tval, w_iex, w_irng1, w_irng2, w_irng3, w_izip, w_run, w_snil, w_scons, w_set, w_unp, w_seti, w_setf, w_exp, w_ret, w_retn, w_pass, w_ifs, w_loop, w_rais, w_try, wr_ok, wr_some, wr_none, wr_stuck, wr_bind, wr_quiet, wr_lift_ite, wr_ite, wo_ite, wo_next, wo_ret, wo_brk, wo_cnt, o_add, o_sub, o_mul, o_fdiv, o_mod, o_pow, o_neg, o_lt, o_le, o_gt, o_ge, o_eq, o_ne, o_eqs, o_nes, o_isB, o_notB, o_tbl, o_int, o_lst, decide_eq_true_eq, Bool.not_eq_true', decide_eq_false_iff_not, beq_iff_eq, List.map_cons, List.map_nil, List.length_cons, List.length_nil, List.replicate_succ, List.replicate_zero, List.cons_append, List.nil_append, List.getElem?_cons_zero, List.getElem?_cons_succ, List.set_cons_zero, List.set_cons_succ, Nat.reduceSub, Nat.reduceAdd, Nat.zero_add, Option.map_some, Option.map_none, c_na10, o_rng1, len_rng, len_lst, len_tup, Int.toNat_natCast, Int.reduceToNat, Int.reduceLE, Int.reduceLT, Nat.reducePow, Nat.reduceLT, and_self, if_true, if_false, ite_true, ite_false, true_and, and_true, reduceIte]
  exact ⟨p4, q4, rs4, rfl, hq4, hG4, hl4⟩
end EVL

/-! ## Q8 -/
set_option maxRecDepth 10000
set_option maxHeartbeats 800000
namespace EVL
open PySem L2 EV
theorem cell_ok {d q : Nat} {s : Store} {L : List Pr} {x : Int} (hq : mutAt s q = some (L.map pairV)) (hL : L ≠ []) : wr (clN (d + 1) id__law_cell [.ref q, .int x] s) (fun u s' => u = .int (cellF L x) ∧ s = s') noX := by
  show wr (runB (clN d) 5 b__law_cell [.ref q, .int x] s) _ noX
  unfold b__law_cell
  obtain ⟨e, he⟩ : ∃ e, L[0]? = some e := by
    cases L with
    | nil => exact absurd rfl hL
    | cons a r => exact ⟨a, rfl⟩
  have h0 : idxV s (.ref q) (.int 0) = some (pairV e) := (o_ix hq 0).trans (pair_at (i := 0) he)
  have eh : (L.head?.map (·.2)).getD 0 = e.2 := by
    cases L with
    | nil => cases he
    | cons a r => cases he; rfl
  rw [w_run]
  refine w_cut (fun ρ s' => s = s' ∧ ρ = [some (.ref q), some (.int x), some (.int e.2), none, none]) ?_ ?_
  · simp only [w_varM, w_con, w_bin, w_neg, w_not, w_and, w_or, w_cmp, w_chain, w_ife, w_call, w_callp, w_star, w_blt, w_mth, w_idx, w_slc, w_lst, w_tup, w_tab, w_tin, w_dnew, w_rev, w_lc, w_lsc, w_dc, w_disp, w_get, w_fld, w_mk, w_meth, w_prop, w_nil, w_cons, w_onone, w_osome, w_tnone, w_tsome, w_tnot, w_tand, w_tor, w_tval, w_iex, w_irng1, w_irng2, w_irng3, w_izip, w_run, w_snil, w_scons, w_set, w_unp, w_seti, w_setf, w_exp, w_ret, w_retn, w_pass, w_ifs, w_loop, w_rais, w_try, wr_ok, wr_some, wr_none, wr_stuck, wr_bind, wr_quiet, wr_lift_ite, wr_ite, wo_ite, wo_next, wo_ret, wo_brk, wo_cnt, o_add, o_sub, o_mul, o_fdiv, o_mod, o_pow, o_neg, o_lt, o_le, o_gt, o_ge, o_eq, o_ne, o_eqs, o_nes, o_isB, o_notB, o_tbl, o_int, o_lst, decide_eq_true_eq, Bool.not_eq_true', decide_eq_false_iff_not, beq_iff_eq, List.map_cons, List.map_nil, List.length_cons, List.length_nil, List.replicate_succ, List.replicate_zero, List.cons_append, List.nil_append, List.getElem?_cons_zero, List.getElem?_cons_succ, List.set_cons_zero, List.set_cons_succ, Nat.reduceSub, Nat.reduceAdd, Nat.zero_add, Option.map_some, Option.map_none, c_na10, o_rng1, len_rng, len_lst, len_tup, Int.toNat_natCast, Int.reduceToNat, Int.reduceLE, Int.reduceLT, Nat.reducePow, Nat.reduceLT, and_self, if_true, if_false, ite_true, ite_false, true_and, and_true, reduceIte, h0, p_1]
  rintro _ _ ⟨rfl, rfl⟩
  refine w_cut (fun ρ s' => s = s' ∧ ∃ a b, ρ = [some (.ref q), some (.int x), some (.int (cellF L x)), a, b]) ?_ ?_
  · have hwk : wkOf s (.ref q) = some (.lst q (L.map pairV).length) := o_wk (mut_lst hq)
    rw [w_loop, w_iex, w_var (v := .ref q) rfl, wr_ok, hwk, wr_ok]
    refine for_lst (L.map pairV) rfl (fun i ρ s' => s = s' ∧ ∃ a b, ρ = [some (.ref q), some (.int x), some (.int ((L.take i).foldl (cstep x) e.2)), a, b]) ⟨rfl, _, _, rfl⟩ (fun i ρ s' z => by rw [← z.1]; exact mut_lst hq) ?_ ?_
    · rintro i v _ _ hv ⟨rfl, a, b, rfl⟩
      have hi := (List.getElem?_eq_some_iff.mp hv).1
      rw [List.length_map] at hi
      have hei : L[i]? = some L[i] := List.getElem?_eq_getElem hi
      have ev : v = pairV L[i] := by
        rw [List.getElem?_map, hei] at hv
        exact (Option.some.inj hv).symm
      subst ev
      refine ⟨_, give2, ?_⟩
      generalize L[i] = f at hei
      have en : (L.take (i + 1)).foldl (cstep x) e.2 = cstep x ((L.take i).foldl (cstep x) e.2) f := by
        rw [List.take_add_one, hei]
        show (L.take i ++ [f]).foldl (cstep x) e.2 = _
        rw [List.foldl_append]
        rfl
      rw [en]
      generalize (L.take i).foldl (cstep x) e.2 = w
      unfold l__law_cell_0 cstep
      by_cases c : f.1 ≤ x
      · simp only [w_varM, w_con, w_bin, w_neg, w_not, w_and, w_or, w_cmp, w_chain, w_ife, w_call, w_callp, w_star, w_blt, w_mth, w_idx, w_slc, w_lst, w_tup, w_tab, w_tin, w_dnew, w_rev, w_lc, w_lsc, w_dc, w_disp, w_get, w_fld, w_mk, w_meth, w_prop, w_nil, w_cons, w_onone, w_osome, w_tnone, w_tsome, w_tnot, w_tand, w_tor, w_tval, w_iex, w_irng1, w_irng2, w_irng3, w_izip, w_run, w_snil, w_scons, w_set, w_unp, w_seti, w_setf, w_exp, w_ret, w_retn, w_pass, w_ifs, w_loop, w_rais, w_try, wr_ok, wr_some, wr_none, wr_stuck, wr_bind, wr_quiet, wr_lift_ite, wr_ite, wo_ite, wo_next, wo_ret, wo_brk, wo_cnt, o_add, o_sub, o_mul, o_fdiv, o_mod, o_pow, o_neg, o_lt, o_le, o_gt, o_ge, o_eq, o_ne, o_eqs, o_nes, o_isB, o_notB, o_tbl, o_int, o_lst, decide_eq_true_eq, Bool.not_eq_true', decide_eq_false_iff_not, beq_iff_eq, List.map_cons, List.map_nil, List.length_cons, List.length_nil, List.replicate_succ, List.replicate_zero, List.cons_append, List.nil_append, List.getElem?_cons_zero, List.getElem?_cons_succ, List.set_cons_zero, List.set_cons_succ, Nat.reduceSub, Nat.reduceAdd, Nat.zero_add, Option.map_some, Option.map_none, c_na10, o_rng1, len_rng, len_lst, len_tup, Int.toNat_natCast, Int.reduceToNat, Int.reduceLE, Int.reduceLT, Nat.reducePow, Nat.reduceLT, and_self, if_true, if_false, ite_true, ite_false, true_and, and_true, reduceIte, c]
        exact ⟨_, _, rfl⟩
      · simp only [w_varM, w_con, w_bin, w_neg, w_not, w_and, w_or, w_cmp, w_chain, w_ife, w_call, w_callp, w_star, w_blt, w_mth, w_idx, w_slc, w_lst, w_tup, w_tab, w_tin, w_dnew, w_rev, w_lc, w_lsc, w_dc, w_disp, w_get, w_fld, w_mk, w_meth, w_prop, w_nil, w_cons, w_onone, w_osome, w_tnone, w_tsome, w_tnot, w_tand, w_tor, w_tval, w_iex, w_irng1, w_irng2, w_irng3, w_izip, w_run, w_snil, w_scons, w_set, w_unp, w_seti, w_setf, w_exp, w_ret, w_retn, w_pass, w_ifs, w_loop, w_rais, w_try, wr_ok, wr_some, wr_none, wr_stuck, wr_bind, wr_quiet, wr_lift_ite, wr_ite, wo_ite, wo_next, wo_ret, wo_brk, wo_cnt, o_add, o_sub, o_mul, o_fdiv, o_mod, o_pow, o_neg, o_lt, o_le, o_gt, o_ge, o_eq, o_ne, o_eqs, o_nes, o_isB, o_notB, o_tbl, o_int, o_lst, decide_eq_true_eq, Bool.not_eq_true', decide_eq_false_iff_not, beq_iff_eq, List.map_cons, List.map_nil, List.length_cons, List.length_nil, List.replicate_succ, List.replicate_zero, List.cons_append, List.nil_append, List.getElem?_cons_zero, List.getElem?_cons_succ, List.set_cons_zero, List.set_cons_succ, Nat.reduceSub, Nat.reduceAdd, Nat.zero_add, Option.map_some, Option.map_none, c_na10, o_rng1, len_rng, len_lst, len_tup, Int.toNat_natCast, Int.reduceToNat, Int.reduceLE, Int.reduceLT, Nat.reducePow, Nat.reduceLT, and_self, if_true, if_false, ite_true, ite_false, true_and, and_true, reduceIte, c]
        exact ⟨_, _, rfl⟩
    · rintro _ _ ⟨rfl, a, b, rfl⟩
      rw [List.length_map, List.take_of_length_le (Nat.le_refl _)]
      refine ⟨rfl, a, b, ?_⟩
      unfold cellF
      rw [eh]
  rintro _ _ ⟨rfl, a, b, rfl⟩
  simp only [w_varM, w_con, w_bin, w_neg, w_not, w_and, w_or, w_cmp, w_chain, w_ife, w_call, w_callp, w_star, w_blt, w_mth, w_idx, w_slc, w_lst, w_tup, w_tab, w_tin, w_dnew, w_rev, w_lc, w_lsc, w_dc, w_disp, w_get, w_fld, w_mk, w_meth, w_prop, w_nil, w_cons, w_onone, w_osome, w_tnone, w_tsome, w_tnot, w_tand, w_tor, w_tval, w_iex, w_irng1, w_irng2, w_irng3, w_izip, w_run, w_snil, w_scons, w_set, w_unp, w_seti, w_setf, w_exp, w_ret, w_retn, w_pass, w_ifs, w_loop, w_rais, w_try, wr_ok, wr_some, wr_none, wr_stuck, wr_bind, wr_quiet, wr_lift_ite, wr_ite, wo_ite, wo_next, wo_ret, wo_brk, wo_cnt, o_add, o_sub, o_mul, o_fdiv, o_mod, o_pow, o_neg, o_lt, o_le, o_gt, o_ge, o_eq, o_ne, o_eqs, o_nes, o_isB, o_notB, o_tbl, o_int, o_lst, decide_eq_true_eq, Bool.not_eq_true', decide_eq_false_iff_not, beq_iff_eq, List.map_cons, List.map_nil, List.length_cons, List.length_nil, List.replicate_succ, List.replicate_zero, List.cons_append, List.nil_append, List.getElem?_cons_zero, List.getElem?_cons_succ, List.set_cons_zero, List.set_cons_succ, Nat.reduceSub, Nat.reduceAdd, Nat.zero_add, Option.map_some, Option.map_none, c_na10, o_rng1, len_rng, len_lst, len_tup, Int.toNat_natCast, Int.reduceToNat, Int.reduceLE, Int.reduceLT, Nat.reducePow, Nat.reduceLT, and_self, if_true, if_false, ite_true, ite_false, true_and, and_true, reduceIte]
theorem pair_pur (p : Pr) : Pur 1 (pairV p) := .inr ⟨_, rfl, by show 2 < 1000; decide, fun u hu => by
  simp only [List.mem_cons, List.not_mem_nil, or_false] at hu
  rcases hu with rfl | rfl <;> exact rfl⟩
theorem shaped_ok {d q : Nat} {s : Store} {L : List Pr} (hq : mutAt s q = some (L.map pairV)) (hL : L ≠ []) (hl : L.length ≤ 1000) (hA : Asc L) (hU : Unl L) (hS : Shp L) : wr (clN (d + 3) id__law_shaped [.ref q] s) (Tru s) noX := by
  show wr (runB (clN (d + 2)) 3 b__law_shaped [.ref q] s) _ noX
  unfold b__law_shaped
  obtain ⟨t1, t2, t3, t4, t5, t6⟩ := isi_lst hq
  have hll := mut_len hq
  rw [List.length_map] at hll
  have hpos : 0 < L.length := by
    cases L with
    | nil => exact absurd rfl hL
    | cons a r => exact Nat.succ_pos _
  have hz : (L.length : Int) ≠ 0 := by omega
  have hzb : ((L.length : Int) == 0) = false := beq_eq_false_iff_ne.mpr hz
  rw [w_run]
  refine w_cut (fun ρ s' => s = s' ∧ ρ = [some (.ref q), none, none]) ?_ ?_
  · simp only [w_varM, w_con, w_bin, w_neg, w_not, w_and, w_or, w_cmp, w_chain, w_ife, w_call, w_callp, w_star, w_blt, w_mth, w_idx, w_slc, w_lst, w_tup, w_tab, w_tin, w_dnew, w_rev, w_lc, w_lsc, w_dc, w_disp, w_get, w_fld, w_mk, w_meth, w_prop, w_nil, w_cons, w_onone, w_osome, w_tnone, w_tsome, w_tnot, w_tand, w_tor, w_tval, w_iex, w_irng1, w_irng2, w_irng3, w_izip, w_run, w_snil, w_scons, w_set, w_unp, w_seti, w_setf, w_exp, w_ret, w_retn, w_pass, w_ifs, w_loop, w_rais, w_try, wr_ok, wr_some, wr_none, wr_stuck, wr_bind, wr_quiet, wr_lift_ite, wr_ite, wo_ite, wo_next, wo_ret, wo_brk, wo_cnt, o_add, o_sub, o_mul, o_fdiv, o_mod, o_pow, o_neg, o_lt, o_le, o_gt, o_ge, o_eq, o_ne, o_eqs, o_nes, o_isB, o_notB, o_tbl, o_int, o_lst, decide_eq_true_eq, Bool.not_eq_true', decide_eq_false_iff_not, beq_iff_eq, List.map_cons, List.map_nil, List.length_cons, List.length_nil, List.replicate_succ, List.replicate_zero, List.cons_append, List.nil_append, List.getElem?_cons_zero, List.getElem?_cons_succ, List.set_cons_zero, List.set_cons_succ, Nat.reduceSub, Nat.reduceAdd, Nat.zero_add, Option.map_some, Option.map_none, c_na10, o_rng1, len_rng, len_lst, len_tup, Int.toNat_natCast, Int.reduceToNat, Int.reduceLE, Int.reduceLT, Nat.reducePow, Nat.reduceLT, and_self, if_true, if_false, ite_true, ite_false, true_and, and_true, reduceIte, o_isi t5, hll, hz, hzb, Bool.not_true, Bool.false_eq_true, if_false]
    rw [if_neg (by decide)]
    trivial
  rintro _ _ ⟨rfl, rfl⟩
  refine w_cut (fun ρ s' => s <+: s' ∧ ∃ y, ρ = [some (.ref q), y, none]) ?_ ?_
  · have hwk : wkOf s (.ref q) = some (.lst q (L.map pairV).length) := o_wk (mut_lst hq)
    rw [w_loop, w_iex, w_var (v := .ref q) rfl, wr_ok, hwk, wr_ok]
    refine for_lst (L.map pairV) rfl (fun i ρ s' => s <+: s' ∧ ∃ y, ρ = [some (.ref q), y, none]) ⟨pre_rfl, _, rfl⟩ (fun i ρ s' z => pre_lst z.1 (mut_lst hq)) ?_ ?_
    · rintro i v _ s1 hv ⟨pre, y, rfl⟩
      obtain ⟨f, hf, rfl⟩ : ∃ f ∈ L, v = pairV f := by
        obtain ⟨f, hf, e⟩ := List.mem_map.mp (List.mem_of_getElem? hv)
        exact ⟨f, hf, e.symm⟩
      refine ⟨_, give_nm, ?_⟩
      unfold l__law_shaped_0
      have e1 : bltV (.isi .tuple) [pairV f] s1 = some (.bl true, s1) := rfl
      have e2 : bltV .len [pairV f] s1 = some (.int 2, s1) := rfl
      have e3 : cmpV .ne (.int 2) (.int 2) s1 = some false := rfl
      have l2 : lineOk 2 = true := by decide
      simp only [w_varM, w_con, w_bin, w_neg, w_not, w_and, w_or, w_cmp, w_chain, w_ife, w_call, w_callp, w_star, w_blt, w_mth, w_idx, w_slc, w_lst, w_tup, w_tab, w_tin, w_dnew, w_rev, w_lc, w_lsc, w_dc, w_disp, w_get, w_fld, w_mk, w_meth, w_prop, w_nil, w_cons, w_onone, w_osome, w_tnone, w_tsome, w_tnot, w_tand, w_tor, w_tval, w_iex, w_irng1, w_irng2, w_irng3, w_izip, w_run, w_snil, w_scons, w_set, w_unp, w_seti, w_setf, w_exp, w_ret, w_retn, w_pass, w_ifs, w_loop, w_rais, w_try, wr_ok, wr_some, wr_none, wr_stuck, wr_bind, wr_quiet, wr_lift_ite, wr_ite, wo_ite, wo_next, wo_ret, wo_brk, wo_cnt, o_add, o_sub, o_mul, o_fdiv, o_mod, o_pow, o_neg, o_lt, o_le, o_gt, o_ge, o_eq, o_ne, o_eqs, o_nes, o_isB, o_notB, o_tbl, o_int, o_lst, decide_eq_true_eq, Bool.not_eq_true', decide_eq_false_iff_not, beq_iff_eq, List.map_cons, List.map_nil, List.length_cons, List.length_nil, List.replicate_succ, List.replicate_zero, List.cons_append, List.nil_append, List.getElem?_cons_zero, List.getElem?_cons_succ, List.set_cons_zero, List.set_cons_succ, Nat.reduceSub, Nat.reduceAdd, Nat.zero_add, Option.map_some, Option.map_none, c_na10, o_rng1, len_rng, len_lst, len_tup, Int.toNat_natCast, Int.reduceToNat, Int.reduceLE, Int.reduceLT, Nat.reducePow, Nat.reduceLT, and_self, if_true, if_false, ite_true, ite_false, true_and, and_true, reduceIte, e1, e2, e3, p_0, p_1, l2, Bool.not_true, Bool.false_eq_true, if_false]
      refine wr_imp (same_ok 1 d s1 (pairV f) (pair_pur f)) ?_
      rintro u s2 ⟨rfl, pre2⟩
      simp only [w_varM, w_con, w_bin, w_neg, w_not, w_and, w_or, w_cmp, w_chain, w_ife, w_call, w_callp, w_star, w_blt, w_mth, w_idx, w_slc, w_lst, w_tup, w_tab, w_tin, w_dnew, w_rev, w_lc, w_lsc, w_dc, w_disp, w_get, w_fld, w_mk, w_meth, w_prop, w_nil, w_cons, w_onone, w_osome, w_tnone, w_tsome, w_tnot, w_tand, w_tor, w_tval, w_iex, w_irng1, w_irng2, w_irng3, w_izip, w_run, w_snil, w_scons, w_set, w_unp, w_seti, w_setf, w_exp, w_ret, w_retn, w_pass, w_ifs, w_loop, w_rais, w_try, wr_ok, wr_some, wr_none, wr_stuck, wr_bind, wr_quiet, wr_lift_ite, wr_ite, wo_ite, wo_next, wo_ret, wo_brk, wo_cnt, o_add, o_sub, o_mul, o_fdiv, o_mod, o_pow, o_neg, o_lt, o_le, o_gt, o_ge, o_eq, o_ne, o_eqs, o_nes, o_isB, o_notB, o_tbl, o_int, o_lst, decide_eq_true_eq, Bool.not_eq_true', decide_eq_false_iff_not, beq_iff_eq, List.map_cons, List.map_nil, List.length_cons, List.length_nil, List.replicate_succ, List.replicate_zero, List.cons_append, List.nil_append, List.getElem?_cons_zero, List.getElem?_cons_succ, List.set_cons_zero, List.set_cons_succ, Nat.reduceSub, Nat.reduceAdd, Nat.zero_add, Option.map_some, Option.map_none, c_na10, o_rng1, len_rng, len_lst, len_tup, Int.toNat_natCast, Int.reduceToNat, Int.reduceLE, Int.reduceLT, Nat.reducePow, Nat.reduceLT, and_self, if_true, if_false, ite_true, ite_false, true_and, and_true, reduceIte, Bool.not_true, Bool.false_eq_true]
      exact ⟨pre.trans pre2, _, rfl⟩
    · rintro _ s1 ⟨pre, y, rfl⟩
      exact ⟨pre, y, rfl⟩
  rintro _ s1 ⟨p1, y, rfl⟩
  have hq1 := mut_pre p1 hq
  have hll1 := mut_len hq1
  rw [List.length_map] at hll1
  obtain ⟨e, he⟩ : ∃ e, L[0]? = some e := by
    cases L with
    | nil => exact absurd rfl hL
    | cons a r => exact ⟨a, rfl⟩
  have h0 : idxV s1 (.ref q) (.int 0) = some (pairV e) := (o_ix hq1 0).trans (pair_at (i := 0) he)
  by_cases h1 : L.length = 1
  · have e1 : (L.length : Int) = 1 := by omega
    have e0 : e.1 = 0 := by
      match L, h1 with
      | [a], _ => cases he; exact hS
    have eb : (e.1 == 0) = true := by rw [e0]; rfl
    have eb' : ((0 : Int) == 0) = true := rfl
    simp only [w_varM, w_con, w_bin, w_neg, w_not, w_and, w_or, w_cmp, w_chain, w_ife, w_call, w_callp, w_star, w_blt, w_mth, w_idx, w_slc, w_lst, w_tup, w_tab, w_tin, w_dnew, w_rev, w_lc, w_lsc, w_dc, w_disp, w_get, w_fld, w_mk, w_meth, w_prop, w_nil, w_cons, w_onone, w_osome, w_tnone, w_tsome, w_tnot, w_tand, w_tor, w_tval, w_iex, w_irng1, w_irng2, w_irng3, w_izip, w_run, w_snil, w_scons, w_set, w_unp, w_seti, w_setf, w_exp, w_ret, w_retn, w_pass, w_ifs, w_loop, w_rais, w_try, wr_ok, wr_some, wr_none, wr_stuck, wr_bind, wr_quiet, wr_lift_ite, wr_ite, wo_ite, wo_next, wo_ret, wo_brk, wo_cnt, o_add, o_sub, o_mul, o_fdiv, o_mod, o_pow, o_neg, o_lt, o_le, o_gt, o_ge, o_eq, o_ne, o_eqs, o_nes, o_isB, o_notB, o_tbl, o_int, o_lst, decide_eq_true_eq, Bool.not_eq_true', decide_eq_false_iff_not, beq_iff_eq, List.map_cons, List.map_nil, List.length_cons, List.length_nil, List.replicate_succ, List.replicate_zero, List.cons_append, List.nil_append, List.getElem?_cons_zero, List.getElem?_cons_succ, List.set_cons_zero, List.set_cons_succ, Nat.reduceSub, Nat.reduceAdd, Nat.zero_add, Option.map_some, Option.map_none, c_na10, o_rng1, len_rng, len_lst, len_tup, Int.toNat_natCast, Int.reduceToNat, Int.reduceLE, Int.reduceLT, Nat.reducePow, Nat.reduceLT, and_self, if_true, if_false, ite_true, ite_false, true_and, and_true, reduceIte, hll1, e1, h0, p_0, e0, eb', beq_self_eq_true]
    exact ⟨rfl, p1⟩
  · have hb1 : ((L.length : Int) == 1) = false := beq_eq_false_iff_ne.mpr (by omega)
    have hn1 : ¬ (L.length : Int) = 1 := by omega
    obtain ⟨f, hf⟩ : ∃ f, L[1]? = some f := ⟨_, List.getElem?_eq_getElem (by omega)⟩
    have g1 : idxV s1 (.ref q) (.int 1) = some (pairV f) := (o_ix hq1 1).trans (pair_at (i := 1) hf)
    have es : e.1 = f.1 - 1 := by
      match L, he, hf with
      | a :: b :: r, he, hf => cases he; cases hf; exact hS
    refine w_cut (fun ρ s' => s1 = s' ∧ ρ = [some (.ref q), y, none]) ?_ ?_
    · simp only [w_varM, w_con, w_bin, w_neg, w_not, w_and, w_or, w_cmp, w_chain, w_ife, w_call, w_callp, w_star, w_blt, w_mth, w_idx, w_slc, w_lst, w_tup, w_tab, w_tin, w_dnew, w_rev, w_lc, w_lsc, w_dc, w_disp, w_get, w_fld, w_mk, w_meth, w_prop, w_nil, w_cons, w_onone, w_osome, w_tnone, w_tsome, w_tnot, w_tand, w_tor, w_tval, w_iex, w_irng1, w_irng2, w_irng3, w_izip, w_run, w_snil, w_scons, w_set, w_unp, w_seti, w_setf, w_exp, w_ret, w_retn, w_pass, w_ifs, w_loop, w_rais, w_try, wr_ok, wr_some, wr_none, wr_stuck, wr_bind, wr_quiet, wr_lift_ite, wr_ite, wo_ite, wo_next, wo_ret, wo_brk, wo_cnt, o_add, o_sub, o_mul, o_fdiv, o_mod, o_pow, o_neg, o_lt, o_le, o_gt, o_ge, o_eq, o_ne, o_eqs, o_nes, o_isB, o_notB, o_tbl, o_int, o_lst, decide_eq_true_eq, Bool.not_eq_true', decide_eq_false_iff_not, beq_iff_eq, List.map_cons, List.map_nil, List.length_cons, List.length_nil, List.replicate_succ, List.replicate_zero, List.cons_append, List.nil_append, List.getElem?_cons_zero, List.getElem?_cons_succ, List.set_cons_zero, List.set_cons_succ, Nat.reduceSub, Nat.reduceAdd, Nat.zero_add, Option.map_some, Option.map_none, c_na10, o_rng1, len_rng, len_lst, len_tup, Int.toNat_natCast, Int.reduceToNat, Int.reduceLE, Int.reduceLT, Nat.reducePow, Nat.reduceLT, and_self, if_true, if_false, ite_true, ite_false, true_and, and_true, reduceIte, hll1, hb1, hn1, Bool.false_eq_true, if_false]
    rintro _ _ ⟨rfl, rfl⟩
    refine w_cut (fun ρ s' => s1 = s' ∧ ρ = [some (.ref q), y, none]) ?_ ?_
    · simp only [w_varM, w_con, w_bin, w_neg, w_not, w_and, w_or, w_cmp, w_chain, w_ife, w_call, w_callp, w_star, w_blt, w_mth, w_idx, w_slc, w_lst, w_tup, w_tab, w_tin, w_dnew, w_rev, w_lc, w_lsc, w_dc, w_disp, w_get, w_fld, w_mk, w_meth, w_prop, w_nil, w_cons, w_onone, w_osome, w_tnone, w_tsome, w_tnot, w_tand, w_tor, w_tval, w_iex, w_irng1, w_irng2, w_irng3, w_izip, w_run, w_snil, w_scons, w_set, w_unp, w_seti, w_setf, w_exp, w_ret, w_retn, w_pass, w_ifs, w_loop, w_rais, w_try, wr_ok, wr_some, wr_none, wr_stuck, wr_bind, wr_quiet, wr_lift_ite, wr_ite, wo_ite, wo_next, wo_ret, wo_brk, wo_cnt, o_add, o_sub, o_mul, o_fdiv, o_mod, o_pow, o_neg, o_lt, o_le, o_gt, o_ge, o_eq, o_ne, o_eqs, o_nes, o_isB, o_notB, o_tbl, o_int, o_lst, decide_eq_true_eq, Bool.not_eq_true', decide_eq_false_iff_not, beq_iff_eq, List.map_cons, List.map_nil, List.length_cons, List.length_nil, List.replicate_succ, List.replicate_zero, List.cons_append, List.nil_append, List.getElem?_cons_zero, List.getElem?_cons_succ, List.set_cons_zero, List.set_cons_succ, Nat.reduceSub, Nat.reduceAdd, Nat.zero_add, Option.map_some, Option.map_none, c_na10, o_rng1, len_rng, len_lst, len_tup, Int.toNat_natCast, Int.reduceToNat, Int.reduceLE, Int.reduceLT, Nat.reducePow, Nat.reduceLT, and_self, if_true, if_false, ite_true, ite_false, true_and, and_true, reduceIte, h0, g1, p_0, es, beq_self_eq_true, Bool.not_true, Bool.false_eq_true, if_false]
    rintro _ _ ⟨rfl, rfl⟩
    have hr : rngOk ((L.length : Int) - 1) = true := rng_ok ⟨by omega, by omega⟩
    have hn : ((L.length : Int) - 1).toNat = L.length - 1 := by omega
    rw [w_one, w_ret, w_blt, w_cons, w_lc, w_irng1]
    simp only [w_varM, w_con, w_bin, w_neg, w_not, w_and, w_or, w_cmp, w_chain, w_ife, w_call, w_callp, w_star, w_blt, w_mth, w_idx, w_slc, w_lst, w_tup, w_tab, w_tin, w_dnew, w_rev, w_lc, w_lsc, w_dc, w_disp, w_get, w_fld, w_mk, w_meth, w_prop, w_nil, w_cons, w_onone, w_osome, w_tnone, w_tsome, w_tnot, w_tand, w_tor, w_tval, w_iex, w_irng1, w_irng2, w_irng3, w_izip, w_run, w_snil, w_scons, w_set, w_unp, w_seti, w_setf, w_exp, w_ret, w_retn, w_pass, w_ifs, w_loop, w_rais, w_try, wr_ok, wr_some, wr_none, wr_stuck, wr_bind, wr_quiet, wr_lift_ite, wr_ite, wo_ite, wo_next, wo_ret, wo_brk, wo_cnt, o_add, o_sub, o_mul, o_fdiv, o_mod, o_pow, o_neg, o_lt, o_le, o_gt, o_ge, o_eq, o_ne, o_eqs, o_nes, o_isB, o_notB, o_tbl, o_int, o_lst, decide_eq_true_eq, Bool.not_eq_true', decide_eq_false_iff_not, beq_iff_eq, List.map_cons, List.map_nil, List.length_cons, List.length_nil, List.replicate_succ, List.replicate_zero, List.cons_append, List.nil_append, List.getElem?_cons_zero, List.getElem?_cons_succ, List.set_cons_zero, List.set_cons_succ, Nat.reduceSub, Nat.reduceAdd, Nat.zero_add, Option.map_some, Option.map_none, c_na10, o_rng1, len_rng, len_lst, len_tup, Int.toNat_natCast, Int.reduceToNat, Int.reduceLE, Int.reduceLT, Nat.reducePow, Nat.reduceLT, and_self, if_true, if_false, ite_true, ite_false, true_and, and_true, reduceIte, hll1, hr, hn]
    refine lc_of (n := L.length - 1) rfl (fun i s' acc => acc = (List.replicate i true).map .bl ∧ s1 <+: s' ∧ mutAt s' s1.length = some acc) ?_ ?_ (L.length - 1) 0 _ [] (Nat.zero_add _) ⟨rfl, pre_app pre_rfl _, mut_new⟩
    · rintro i s' _ hi ⟨rfl, pre, hm⟩
      refine ⟨.int (0 + (i : Int)), _, rfl, give_nm, ?_⟩
      have ez : (0 : Int) + (i : Int) = i := by omega
      obtain ⟨a, ha⟩ : ∃ a, L[i]? = some a := ⟨_, List.getElem?_eq_getElem (by omega)⟩
      obtain ⟨b, hb⟩ : ∃ b, L[i + 1]? = some b := ⟨_, List.getElem?_eq_getElem (by omega)⟩
      have hqi := mut_pre pre hq1
      have ia : idxV s' (.ref q) (.int (i : Int)) = some (pairV a) := (o_ix hqi _).trans (pair_at ha)
      have ib : idxV s' (.ref q) (.int ((i : Int) + 1)) = some (pairV b) := (o_ix hqi _).trans (by
        rw [show ((i : Int) + 1) = ((i + 1 : Nat) : Int) by omega]
        exact pair_at hb)
      have hlt : a.1 < b.1 := by
        have h1 := (List.getElem?_eq_some_iff.mp ha)
        have h2 := (List.getElem?_eq_some_iff.mp hb)
        obtain ⟨l1, q1⟩ := h1
        obtain ⟨l2, q2⟩ := h2
        rw [← q1, ← q2]
        exact List.pairwise_iff_getElem.mp hA i (i + 1) l1 l2 (by omega)
      have hne := hU i a b ha hb
      have hneb : (a.2 == b.2) = false := beq_eq_false_iff_ne.mpr hne
      unfold x__law_shaped_1
      simp only [w_varM, w_con, w_bin, w_neg, w_not, w_and, w_or, w_cmp, w_chain, w_ife, w_call, w_callp, w_star, w_blt, w_mth, w_idx, w_slc, w_lst, w_tup, w_tab, w_tin, w_dnew, w_rev, w_lc, w_lsc, w_dc, w_disp, w_get, w_fld, w_mk, w_meth, w_prop, w_nil, w_cons, w_onone, w_osome, w_tnone, w_tsome, w_tnot, w_tand, w_tor, w_tval, w_iex, w_irng1, w_irng2, w_irng3, w_izip, w_run, w_snil, w_scons, w_set, w_unp, w_seti, w_setf, w_exp, w_ret, w_retn, w_pass, w_ifs, w_loop, w_rais, w_try, wr_ok, wr_some, wr_none, wr_stuck, wr_bind, wr_quiet, wr_lift_ite, wr_ite, wo_ite, wo_next, wo_ret, wo_brk, wo_cnt, o_add, o_sub, o_mul, o_fdiv, o_mod, o_pow, o_neg, o_lt, o_le, o_gt, o_ge, o_eq, o_ne, o_eqs, o_nes, o_isB, o_notB, o_tbl, o_int, o_lst, decide_eq_true_eq, Bool.not_eq_true', decide_eq_false_iff_not, beq_iff_eq, List.map_cons, List.map_nil, List.length_cons, List.length_nil, List.replicate_succ, List.replicate_zero, List.cons_append, List.nil_append, List.getElem?_cons_zero, List.getElem?_cons_succ, List.set_cons_zero, List.set_cons_succ, Nat.reduceSub, Nat.reduceAdd, Nat.zero_add, Option.map_some, Option.map_none, c_na10, o_rng1, len_rng, len_lst, len_tup, Int.toNat_natCast, Int.reduceToNat, Int.reduceLE, Int.reduceLT, Nat.reducePow, Nat.reduceLT, and_self, if_true, if_false, ite_true, ite_false, true_and, and_true, reduceIte, wipeF, ez, ia, ib, p_0, p_1, hlt, hneb, hne, Bool.not_false, decide_true]
      refine ⟨hm, by rw [List.length_map, List.length_replicate]; omega, ?_, pre_set pre (Nat.le_refl _), mut_set hm⟩
      rw [List.map_replicate]
      exact (List.replicate_succ' (n := i) (a := Val.bl true)).symm
    · rintro s' _ ⟨rfl, pre, hm⟩
      refine ⟨rfl, ?_⟩
      rw [o_all (mut_lst hm), wr_some, all_rep]
      exact ⟨rfl, p1.trans pre⟩
end EVL

/-! ## Q9 -/
set_option maxRecDepth 10000
set_option maxHeartbeats 1600000
namespace EVL
open PySem L2 EV
abbrev lwF (a b c d e f g h i j : Option Val) : Fr := [some (.ref 0), a, b, c, d, e, f, g, h, i, j]
theorem isName_of {x : Str} (h1 : 1 ≤ x.cps.size) (h2 : x.cps.size ≤ 6) (h : (x.cps.toList.all fun c => decide (97 ≤ c ∧ c ≤ 122)) = true) : IsName x := ⟨h1, h2, fun i c hc => of_decide_eq_true (List.all_eq_true.mp h c (by rw [← Array.getElem?_toList] at hc; exact List.mem_of_getElem? hc))⟩
theorem nm_even : IsName ("even" : Str) := isName_of (by decide +kernel) (by decide +kernel) (by decide +kernel)
theorem nm_row : IsName ("row" : Str) := isName_of (by decide +kernel) (by decide +kernel) (by decide +kernel)
/-- a comprehension of pairs -/
theorem lc_pairs {cl : Cl} {ρ : Fr} {st : Store} {i j q : Nat} {el : Ex} {ps : List Pr} {G : Pr → Pr} {Q : Val → Store → Prop} {X : Nat → Val → Store → Prop} {own : List Nat} {v : Ex} (hv : ev cl v ρ st = .ok (.ref q) st) (hq : mutAt st q = some (ps.map pairV)) (hl : ps.length ≤ 1000)
    (he : ∀ s p, st <+: s → wr (ev cl el (((wipeF ρ own).set i (some (.int p.1))).set j (some (.int p.2))) s) (fun u s' => u = pairV (G p) ∧ s = s') noX)
    (hQ : ∀ s', st <+: s' → mutAt s' st.length = some ((ps.map G).map pairV) → Q (.ref st.length) s') : wr (ev cl (.lc el (.tp [i, j]) (.ex v) .none own) ρ st) Q X := by
  have hwk : wkOf st (.ref q) = some (.lst q (ps.map pairV).length) := o_wk (mut_lst hq)
  rw [w_lc, w_iex, hv, wr_ok, hwk, wr_ok]
  refine lc_of (n := (ps.map pairV).length) rfl (fun k s acc => st <+: s ∧ mutAt s st.length = some acc ∧ acc = ((ps.take k).map G).map pairV) ?_ ?_ _ 0 _ [] (Nat.zero_add _) ⟨pre_app pre_rfl _, mut_new, rfl⟩
  · rintro k s _ hk ⟨pre, hm, rfl⟩
    rw [List.length_map] at hk
    have hp : ps[k]? = some ps[k] := List.getElem?_eq_getElem hk
    refine ⟨pairV ps[k], _, item_lst rfl (pre_lst pre (mut_lst hq)) (by rw [List.getElem?_map, hp]; rfl), give2, ?_⟩
    rw [w_tnone, if_pos rfl]
    refine wr_mono (he s ps[k] pre) ?_ fun _ _ _ z => z
    rintro _ _ ⟨rfl, rfl⟩
    refine ⟨hm, by rw [List.length_map, List.length_map, List.length_take]; omega, pre_set pre (Nat.le_refl _), mut_set hm, ?_⟩
    rw [List.take_add_one, hp]
    simp only [List.map_append, List.map_cons, List.map_nil, Option.toList]
  · rintro s _ ⟨pre, hm, rfl⟩
    rw [List.length_map, List.take_of_length_le (Nat.le_refl _)] at hm
    exact ⟨fits_lst rfl (pre_lst pre (mut_lst hq)), hQ s pre hm⟩
theorem sc_pos {v : Val} (h : Scale v) : ∃ a b c e : Int, v = .tup [.int a, .int b, .int c, .int e] ∧ 1 ≤ a ∧ (∀ k : Int, mulOk k a = true) ∧ (∀ k : Int, mulOk k c = true) := by
  obtain ⟨a, b, c, e, rfl, ha, hc, _, _⟩ := h
  exact ⟨a, b, c, e, rfl, ha.1, fun k => mulOk_r ⟨by omega, ha.2⟩, fun k => mulOk_r ⟨by omega, hc.2⟩⟩
theorem sc_nd {ps : List Pr} {a b : Int} {f : Int → Int} (ha : 1 ≤ a) (h : RowG ps) : RowG (ps.map fun p => (p.1 * a + b, f p.2)) := by
  refine ⟨fun e => h.ne (List.map_eq_nil_iff.mp e), ?_, by rw [List.length_map]; exact h.len⟩
  rw [List.map_map]
  have e : ((fun q : Pr => q.1) ∘ fun p : Pr => (p.1 * a + b, f p.2)) = (fun x : Int => x * a + b) ∘ fun p : Pr => p.1 := rfl
  rw [e, ← List.map_map]
  refine List.pairwise_map.mpr (h.nd.imp fun {x y} hne q => hne ?_)
  have q : x * a = y * a := by
    have q : x * a + b = y * a + b := q
    omega
  exact Int.eq_of_mul_eq_mul_right (by omega) q
theorem fl_nd {ps : List Pr} {c : Int} (h : RowG ps) : RowG (ps.map fun p => (p.1, c)) := by
  have := sc_nd (a := 1) (b := 0) (f := fun _ => c) (by decide) h
  have e : (ps.map fun p : Pr => (p.1 * 1 + 0, c)) = ps.map fun p => (p.1, c) := by
    refine List.map_congr_left fun p _ => ?_
    rw [Int.mul_one, Int.add_zero]
  rw [e] at this
  exact this
end EVL

/-! ## Q10 -/
set_option maxRecDepth 10000
set_option maxHeartbeats 1600000
namespace EVL
open PySem L2 EV
/-- the two rows of the law's state -/
abbrev AL2 (fl rw : List Pr) : List (Str × List Pr) := [("even", fl), ("row", rw)]
theorem al2_nd (fl rw : List Pr) : ((AL2 fl rw).map (·.1)).Nodup := by
  show ([("even" : Str), "row"] : List Str).Nodup
  decide +kernel
theorem al2_g {fl rw : List Pr} (h1 : RowG fl) (h2 : RowG rw) : ALG (AL2 fl rw) where
  nm := fun a ha => by
    simp only [List.mem_cons, List.not_mem_nil, or_false] at ha
    rcases ha with rfl | rfl
    · exact ⟨nm_even, h1⟩
    · exact ⟨nm_row, h2⟩
  nd := al2_nd fl rw
  len := (show 2 < 64 by decide)
theorem evs_c {cl : Cl} {ρ : Fr} {s s1 s2 : Store} {e : Ex} {es : Exs} {v : Val} {vs : List Val} (h : ev cl e ρ s = .ok v s1) (t : evs cl es ρ s1 = .ok vs s2) : evs cl (.cons e es) ρ s = .ok (v :: vs) s2 := by
  show (ev cl e ρ s).bind (fun v st1 => (evs cl es ρ st1).bind fun vs st2 => .ok (v :: vs) st2) = _
  rw [h]
  show (evs cl es ρ s1).bind (fun vs st2 => .ok (v :: vs) st2) = _
  rw [t]
  rfl
theorem merge2 {x y : Nat} : mergeKV [] ((([("even" : Str), "row"] : List Str).map Sum.inr).zip [Val.ref x, Val.ref y]) = [(.inr "even", .ref x), (.inr "row", .ref y)] := by with_unfolding_all rfl
/-- the state that the law makes -/
theorem state_ok {d : Nat} {s : Store} {a b : Option Val} {rq fq : Nat} {fl rw : List Pr} {c e f g h i : Option Val} {Q : Val → Store → Prop} {X : Nat → Val → Store → Prop} (hr : mutAt s rq = some (rw.map pairV)) (hf : mutAt s fq = some (fl.map pairV)) (g1 : RowG fl) (g2 : RowG rw)
    (hQ : ∀ v s', s <+: s' → StAt s' v [] [] (AL2 (leastF fl) (leastF rw)) → Q v s') :
    wr (ev (clN (d + 3)) (.mk 3 15 (.cons .dnew (.cons .dnew (.cons (.disp [("even" : Str), ("row" : Str)] (.cons (.blt .list (.cons (.var 4) .nil)) (.cons (.blt .list (.cons (.var 3) .nil)) .nil))) .nil)))) (lwF a b (some (.ref rq)) (some (.ref fq)) c e f g h i) s) Q X := by
  generalize hS1 : s ++ [Ob.dct []] = S1
  generalize hS2 : S1 ++ [Ob.dct []] = S2
  generalize hS3 : S2 ++ [Ob.dct []] = S3
  have p1 : s <+: S1 := by rw [← hS1]; exact pre_app pre_rfl _
  have p2 : S1 <+: S2 := by rw [← hS2]; exact pre_app pre_rfl _
  have p3 : S2 <+: S3 := by rw [← hS3]; exact pre_app pre_rfl _
  have hf3 := mut_pre (p1.trans (p2.trans p3)) hf
  have hr3 := mut_pre (p1.trans (p2.trans p3)) hr
  have o1 := o_listM hf3
  generalize hS4 : S3 ++ [Ob.lst (fl.map pairV)] = S4 at o1
  have p4 : S3 <+: S4 := by rw [← hS4]; exact pre_app pre_rfl _
  have o2 := o_listM (mut_pre p4 hr3)
  generalize hS5 : S4 ++ [Ob.lst (rw.map pairV)] = S5 at o2
  have p5 : S4 <+: S5 := by rw [← hS5]; exact pre_app pre_rfl _
  have h1 : S1[s.length]? = some (.dct []) := by rw [← hS1, List.getElem?_append_right (Nat.le_refl _), Nat.sub_self]; rfl
  have h2 : S2[S1.length]? = some (.dct []) := by rw [← hS2, List.getElem?_append_right (Nat.le_refl _), Nat.sub_self]; rfl
  have h3 : S3[S2.length]? = some (.dct []) := by rw [← hS3, List.getElem?_append_right (Nat.le_refl _), Nat.sub_self]; rfl
  have m4 : mutAt S4 S3.length = some (fl.map pairV) := by rw [← hS4]; exact mut_new
  have m5 : mutAt S5 S4.length = some (rw.map pairV) := by rw [← hS5]; exact mut_new
  have h35 : S5[S2.length]? = some (.dct []) := pre_at (p4.trans p5) h3
  have hd : ev (clN (d + 3)) (.disp [("even" : Str), ("row" : Str)] (.cons (.blt .list (.cons (.var 4) .nil)) (.cons (.blt .list (.cons (.var 3) .nil)) .nil))) (lwF a b (some (.ref rq)) (some (.ref fq)) c e f g h i) S2 = .ok (.ref S2.length) (S5.set S2.length (.dct [(.inr "even", .ref S3.length), (.inr "row", .ref S4.length)])) := by
    have hb : ∀ (x : Val) (y : Store), liftO (some (x, y)) = Res.ok x y := fun _ _ => rfl
    show (((liftO (bltV .list [.ref fq] (S2 ++ [Ob.dct []]))).bind fun v st1 => ((liftO (bltV .list [.ref rq] st1)).bind fun w st2 => Res.bind (.ok [] st2) fun vs st3 => .ok (w :: vs) st3).bind fun vs st2 => .ok (v :: vs) st2).bind fun vs st1 => match st1[S2.length]? with
      | some (.dct []) => if decide (vs.length = 2 ∧ 2 ≤ 15) then Res.ok (Val.ref S2.length) (st1.set S2.length (.dct (mergeKV [] ((([("even" : Str), "row"] : List Str).map Sum.inr).zip vs)))) else .stuck
      | _ => .stuck) = _
    rw [hS3, o1, hb]
    show (((liftO (bltV .list [.ref rq] S4)).bind fun w st2 => Res.bind (.ok [] st2) fun vs st3 => .ok (w :: vs) st3).bind fun vs st2 => Res.ok (Val.ref S3.length :: vs) st2).bind _ = _
    rw [o2, hb]
    show (match S5[S2.length]? with
      | some (.dct []) => if decide (([Val.ref S3.length, Val.ref S4.length] : List Val).length = 2 ∧ 2 ≤ 15) then Res.ok (Val.ref S2.length) (S5.set S2.length (.dct (mergeKV [] ((([("even" : Str), "row"] : List Str).map Sum.inr).zip [Val.ref S3.length, Val.ref S4.length])))) else .stuck
      | _ => .stuck) = _
    rw [h35, merge2]
    exact if_pos (decide_eq_true ⟨rfl, by decide⟩)
  generalize hS6 : S5.set S2.length (.dct [(.inr "even", .ref S3.length), (.inr "row", .ref S4.length)]) = S6 at hd
  have he : evs (clN (d + 3)) (.cons .dnew (.cons .dnew (.cons (.disp [("even" : Str), ("row" : Str)] (.cons (.blt .list (.cons (.var 4) .nil)) (.cons (.blt .list (.cons (.var 3) .nil)) .nil))) .nil))) (lwF a b (some (.ref rq)) (some (.ref fq)) c e f g h i) s = .ok [.ref s.length, .ref S1.length, .ref S2.length] S6 := by
    refine evs_c (s1 := S1) (by rw [← hS1]; rfl) (evs_c (s1 := S2) (by rw [← hS2]; rfl) (evs_c (s1 := S6) hd rfl))
  have l1 : s.length < S1.length := by rw [← hS1, List.length_append]; exact Nat.lt_succ_self _
  have l2 : S1.length < S2.length := by rw [← hS2, List.length_append]; exact Nat.lt_succ_self _
  have k1 : S6[s.length]? = some (.dct []) := by rw [← hS6, List.getElem?_set_ne (by omega)]; exact pre_at (p2.trans (p3.trans (p4.trans p5))) h1
  have k2 : S6[S1.length]? = some (.dct []) := by rw [← hS6, List.getElem?_set_ne (by omega)]; exact pre_at (p3.trans (p4.trans p5)) h2
  have k3 : S6[S2.length]? = some (.dct [(.inr "even", .ref S3.length), (.inr "row", .ref S4.length)]) := by rw [← hS6]; exact List.getElem?_set_self (at_lt h35)
  have ka : Arrs S6 [(.inr "even", .ref S3.length), (.inr "row", .ref S4.length)] (AL2 fl rw) := by
    refine ⟨rfl, fun j q hq => ?_⟩
    match j, hq with
    | 0, hq => cases hq; exact ⟨_, rfl, by rw [← hS6]; exact mut_setD h35 (mut_pre p5 m4)⟩
    | 1, hq => cases hq; exact ⟨_, rfl, by rw [← hS6]; exact mut_setD h35 m5⟩
    | j + 2, hq => cases hq
  refine mk_ok (d := d) he k1 k2 k3 (fun kv h => absurd h List.not_mem_nil) (by decide) (fun kv h => absurd h List.not_mem_nil) (by decide) ka (al2_g g1 g2) fun v s' pre hst => hQ v s' ?_ hst
  refine pre_of fun j o hj => pre_at pre ?_
  have hjl := at_lt hj
  rw [← hS6, List.getElem?_set_ne (by omega)]
  exact pre_at (p1.trans (p2.trans (p3.trans (p4.trans p5)))) hj
end EVL

/-! ## Q11 -/
set_option maxRecDepth 10000
set_option maxHeartbeats 1600000
namespace EVL
open PySem L2 EV
theorem len_dct {s : Store} {n : Nat} {kvs : List (Key × Val)} (h : s[n]? = some (.dct kvs)) : bltV .len [.ref n] s = some (.int kvs.length, s) := by
  show (match s[n]? with
    | some (.lst ws) => some (Val.int ws.length, s)
    | some (.fro ws) => some (Val.int ws.length, s)
    | some (.dct kvs) => some (.int kvs.length, s)
    | _ => none) = _
  rw [h]
/-- state.arrays -/
theorem prop_ok {d : Nat} {ρ : Fr} {s : Store} {v : Val} {j : Nat} {kp kn : List (Key × Val)} {AL : List (Str × List Pr)} {Q : Val → Store → Prop} {X : Nat → Val → Store → Prop} (hj : ρ[j]? = some (some v)) (h : StAt s v kp kn AL) (nd : (AL.map (·.1)).Nodup) (hl : AL.length < 64)
    (hQ : ∀ s' D kd, s <+: s' → s'[D]? = some (.dct kd) → Arrs s' kd AL → Q (.ref D) s') : wr (ev (clN (d + 1)) (.prop 3 16 (.var j)) ρ s) Q X := by
  have h' := h
  obtain ⟨n, A, B, C, kc, rfl, hn, _⟩ := h'
  rw [w_prop, w_var hj, wr_ok, insAt_of hn]
  show wr (clN (d + 1) 16 [.ref n] s).quiet Q X
  rw [wr_quiet]
  refine wr_mono (arrays_ok (d := d) h nd hl) ?_ fun _ _ _ z => z
  rintro u s' ⟨pre, D, kd, rfl, h1, h2⟩
  exact hQ s' D kd pre h1 h2
/-- one turn of the law's loop -/
theorem spot_turn {s : Store} {qe D : Nat} {kd : List (Key × Val)} {rw fl : List Pr} {a b c d e : Option Val} {j : Option Val} {En0 : En} {p : Pr} (hg : RowG rw) (hE : mutAt s qe = some ((sortP rw).map pairV)) (hD : s[D]? = some (.dct kd)) (hA : Arrs s kd (AL2 fl (leastF rw)))
    (hN : ∀ j, En0.nx (lwF a b c d e (some (.ref D)) (some (.ref qe)) (some (.int p.1)) (some (.int p.2)) j) s) : wo (EV.exs (clN 30) l_law_3 (lwF a b c d e (some (.ref D)) (some (.ref qe)) (some (.int p.1)) (some (.int p.2)) j) s) En0 := by
  obtain ⟨r, i1, m1⟩ := hA.idx (al2_nd _ _) (.inl hD) (i := 1) rfl
  have i1 : idxV s (.ref D) (.str "row") = some (.ref r) := i1
  have m1 : mutAt s r = some ((leastF rw).map pairV) := m1
  unfold l_law_3
  have l3 : lineOk 3 = true := by decide
  have hit : wr (evI (clN 30) (.ex (.tup (.cons (.bin .sub (.var 8) (.con (.int 1))) (.cons (.var 8) (.cons (.bin .add (.var 8) (.con (.int 1))) .nil))))) (lwF a b c d e (some (.ref D)) (some (.ref qe)) (some (.int p.1)) (some (.int p.2)) j) s) (fun w s' => w = .tup [.int (p.1 - 1), .int p.1, .int (p.1 + 1)] ∧ s = s') (fun c v st => False) := by
    rw [w_iex]
    simp only [w_varM, w_con, w_bin, w_neg, w_not, w_and, w_or, w_cmp, w_chain, w_ife, w_call, w_callp, w_star, w_blt, w_mth, w_idx, w_slc, w_lst, w_tup, w_tab, w_tin, w_dnew, w_rev, w_lc, w_lsc, w_dc, w_disp, w_get, w_fld, w_mk, w_meth, w_prop, w_nil, w_cons, w_onone, w_osome, w_tnone, w_tsome, w_tnot, w_tand, w_tor, w_tval, w_iex, w_irng1, w_irng2, w_irng3, w_izip, w_run, w_snil, w_scons, w_set, w_unp, w_seti, w_setf, w_exp, w_ret, w_retn, w_pass, w_ifs, w_loop, w_rais, w_try, wr_ok, wr_some, wr_none, wr_stuck, wr_bind, wr_quiet, wr_lift_ite, wr_ite, wo_ite, wo_next, wo_ret, wo_brk, wo_cnt, o_add, o_sub, o_mul, o_fdiv, o_mod, o_pow, o_neg, o_lt, o_le, o_gt, o_ge, o_eq, o_ne, o_eqs, o_nes, o_isB, o_notB, o_tbl, o_int, o_lst, decide_eq_true_eq, Bool.not_eq_true', decide_eq_false_iff_not, beq_iff_eq, List.map_cons, List.map_nil, List.length_cons, List.length_nil, List.replicate_succ, List.replicate_zero, List.cons_append, List.nil_append, List.getElem?_cons_zero, List.getElem?_cons_succ, List.set_cons_zero, List.set_cons_succ, Nat.reduceSub, Nat.reduceAdd, Nat.zero_add, Option.map_some, Option.map_none, c_na10, o_rng1, len_rng, len_lst, len_tup, Int.toNat_natCast, Int.reduceToNat, Int.reduceLE, Int.reduceLT, Nat.reducePow, Nat.reduceLT, and_self, if_true, if_false, ite_true, ite_false, true_and, and_true, reduceIte, l3]
    show wr (Res.ok (Wk.tup [.int (p.1 - 1), .int p.1, .int (p.1 + 1)]) s) _ _
    rw [wr_ok]
    exact ⟨rfl, rfl⟩
  rw [w_one, w_loop]
  refine wr_mono hit ?_ fun _ _ _ z => z.elim
  rintro _ _ ⟨rfl, rfl⟩
  refine for_tup (fun i ρ s' => s = s' ∧ ∃ j, ρ = lwF a b c d e (some (.ref D)) (some (.ref qe)) (some (.int p.1)) (some (.int p.2)) j) ⟨rfl, _, rfl⟩ ?_ ?_
  · rintro i v _ _ hv ⟨rfl, j, rfl⟩
    obtain ⟨x, rfl⟩ : ∃ x, v = .int x := by
      have := List.mem_of_getElem? hv
      simp only [List.mem_cons, List.not_mem_nil, or_false] at this
      rcases this with rfl | rfl | rfl <;> exact ⟨_, rfl⟩
    refine ⟨_, give_nm, ?_⟩
    show wo (EV.exs (clN 30) l_law_2 (lwF a b c d e (some (.ref D)) (some (.ref qe)) (some (.int p.1)) (some (.int p.2)) (some (.int x))) s) _
    unfold l_law_2
    simp only [w_varM, w_con, w_bin, w_neg, w_not, w_and, w_or, w_cmp, w_chain, w_ife, w_call, w_callp, w_star, w_blt, w_mth, w_idx, w_slc, w_lst, w_tup, w_tab, w_tin, w_dnew, w_rev, w_lc, w_lsc, w_dc, w_disp, w_get, w_fld, w_mk, w_meth, w_prop, w_nil, w_cons, w_onone, w_osome, w_tnone, w_tsome, w_tnot, w_tand, w_tor, w_tval, w_iex, w_irng1, w_irng2, w_irng3, w_izip, w_run, w_snil, w_scons, w_set, w_unp, w_seti, w_setf, w_exp, w_ret, w_retn, w_pass, w_ifs, w_loop, w_rais, w_try, wr_ok, wr_some, wr_none, wr_stuck, wr_bind, wr_quiet, wr_lift_ite, wr_ite, wo_ite, wo_next, wo_ret, wo_brk, wo_cnt, o_add, o_sub, o_mul, o_fdiv, o_mod, o_pow, o_neg, o_lt, o_le, o_gt, o_ge, o_eq, o_ne, o_eqs, o_nes, o_isB, o_notB, o_tbl, o_int, o_lst, decide_eq_true_eq, Bool.not_eq_true', decide_eq_false_iff_not, beq_iff_eq, List.map_cons, List.map_nil, List.length_cons, List.length_nil, List.replicate_succ, List.replicate_zero, List.cons_append, List.nil_append, List.getElem?_cons_zero, List.getElem?_cons_succ, List.set_cons_zero, List.set_cons_succ, Nat.reduceSub, Nat.reduceAdd, Nat.zero_add, Option.map_some, Option.map_none, c_na10, o_rng1, len_rng, len_lst, len_tup, Int.toNat_natCast, Int.reduceToNat, Int.reduceLE, Int.reduceLT, Nat.reducePow, Nat.reduceLT, and_self, if_true, if_false, ite_true, ite_false, true_and, and_true, reduceIte]
    refine wr_imp (cell_ok (d := 29) hE (sort_ne hg.ne)) ?_
    rintro _ _ ⟨rfl, rfl⟩
    simp only [w_varM, w_con, w_bin, w_neg, w_not, w_and, w_or, w_cmp, w_chain, w_ife, w_call, w_callp, w_star, w_blt, w_mth, w_idx, w_slc, w_lst, w_tup, w_tab, w_tin, w_dnew, w_rev, w_lc, w_lsc, w_dc, w_disp, w_get, w_fld, w_mk, w_meth, w_prop, w_nil, w_cons, w_onone, w_osome, w_tnone, w_tsome, w_tnot, w_tand, w_tor, w_tval, w_iex, w_irng1, w_irng2, w_irng3, w_izip, w_run, w_snil, w_scons, w_set, w_unp, w_seti, w_setf, w_exp, w_ret, w_retn, w_pass, w_ifs, w_loop, w_rais, w_try, wr_ok, wr_some, wr_none, wr_stuck, wr_bind, wr_quiet, wr_lift_ite, wr_ite, wo_ite, wo_next, wo_ret, wo_brk, wo_cnt, o_add, o_sub, o_mul, o_fdiv, o_mod, o_pow, o_neg, o_lt, o_le, o_gt, o_ge, o_eq, o_ne, o_eqs, o_nes, o_isB, o_notB, o_tbl, o_int, o_lst, decide_eq_true_eq, Bool.not_eq_true', decide_eq_false_iff_not, beq_iff_eq, List.map_cons, List.map_nil, List.length_cons, List.length_nil, List.replicate_succ, List.replicate_zero, List.cons_append, List.nil_append, List.getElem?_cons_zero, List.getElem?_cons_succ, List.set_cons_zero, List.set_cons_succ, Nat.reduceSub, Nat.reduceAdd, Nat.zero_add, Option.map_some, Option.map_none, c_na10, o_rng1, len_rng, len_lst, len_tup, Int.toNat_natCast, Int.reduceToNat, Int.reduceLE, Int.reduceLT, Nat.reducePow, Nat.reduceLT, and_self, if_true, if_false, ite_true, ite_false, true_and, and_true, reduceIte, i1]
    refine wr_imp (cell_ok (d := 29) m1 (least_ne hg)) ?_
    rintro _ _ ⟨rfl, rfl⟩
    have e1 := cell_least hg x
    simp only [w_varM, w_con, w_bin, w_neg, w_not, w_and, w_or, w_cmp, w_chain, w_ife, w_call, w_callp, w_star, w_blt, w_mth, w_idx, w_slc, w_lst, w_tup, w_tab, w_tin, w_dnew, w_rev, w_lc, w_lsc, w_dc, w_disp, w_get, w_fld, w_mk, w_meth, w_prop, w_nil, w_cons, w_onone, w_osome, w_tnone, w_tsome, w_tnot, w_tand, w_tor, w_tval, w_iex, w_irng1, w_irng2, w_irng3, w_izip, w_run, w_snil, w_scons, w_set, w_unp, w_seti, w_setf, w_exp, w_ret, w_retn, w_pass, w_ifs, w_loop, w_rais, w_try, wr_ok, wr_some, wr_none, wr_stuck, wr_bind, wr_quiet, wr_lift_ite, wr_ite, wo_ite, wo_next, wo_ret, wo_brk, wo_cnt, o_add, o_sub, o_mul, o_fdiv, o_mod, o_pow, o_neg, o_lt, o_le, o_gt, o_ge, o_eq, o_ne, o_eqs, o_nes, o_isB, o_notB, o_tbl, o_int, o_lst, decide_eq_true_eq, Bool.not_eq_true', decide_eq_false_iff_not, beq_iff_eq, List.map_cons, List.map_nil, List.length_cons, List.length_nil, List.replicate_succ, List.replicate_zero, List.cons_append, List.nil_append, List.getElem?_cons_zero, List.getElem?_cons_succ, List.set_cons_zero, List.set_cons_succ, Nat.reduceSub, Nat.reduceAdd, Nat.zero_add, Option.map_some, Option.map_none, c_na10, o_rng1, len_rng, len_lst, len_tup, Int.toNat_natCast, Int.reduceToNat, Int.reduceLE, Int.reduceLT, Nat.reducePow, Nat.reduceLT, and_self, if_true, if_false, ite_true, ite_false, true_and, and_true, reduceIte, e1, beq_self_eq_true, Bool.not_true, Bool.false_eq_true]
    exact ⟨_, rfl⟩
  · rintro _ _ ⟨rfl, j, rfl⟩
    exact hN j
theorem law_true (ns : List Int) (hn : ns.length ≤ 63) : ∃ st, clN 31 14 [.ref 0] [.fro (ns.map .int)] = .ok (.bl true) st := by
  have hs : lstAt [Ob.fro (ns.map .int)] 0 = some (ns.map .int) := rfl
  have key : wr (clN 31 14 [.ref 0] [.fro (ns.map .int)]) (fun v _ => v = .bl true) noX := by
    show wr (runB (clN 30) 11 b_law [.ref 0] [.fro (ns.map .int)]) _ noX
    unfold b_law
    generalize hst : [Ob.fro (ns.map .int)] = st at hs
    rw [w_run]
    refine w_cut (fun ρ s' => st <+: s' ∧ ∃ q ps, mutAt s' q = some (ps.map pairV) ∧ RowG ps ∧ ps.length ≤ 60 ∧ ρ = lwF (some (.ref q)) none none none none none none none none none) ?_ ?_
    · simp only [w_varM, w_con, w_bin, w_neg, w_not, w_and, w_or, w_cmp, w_chain, w_ife, w_call, w_callp, w_star, w_blt, w_mth, w_idx, w_slc, w_lst, w_tup, w_tab, w_tin, w_dnew, w_rev, w_lc, w_lsc, w_dc, w_disp, w_get, w_fld, w_mk, w_meth, w_prop, w_nil, w_cons, w_onone, w_osome, w_tnone, w_tsome, w_tnot, w_tand, w_tor, w_tval, w_iex, w_irng1, w_irng2, w_irng3, w_izip, w_run, w_snil, w_scons, w_set, w_unp, w_seti, w_setf, w_exp, w_ret, w_retn, w_pass, w_ifs, w_loop, w_rais, w_try, wr_ok, wr_some, wr_none, wr_stuck, wr_bind, wr_quiet, wr_lift_ite, wr_ite, wo_ite, wo_next, wo_ret, wo_brk, wo_cnt, o_add, o_sub, o_mul, o_fdiv, o_mod, o_pow, o_neg, o_lt, o_le, o_gt, o_ge, o_eq, o_ne, o_eqs, o_nes, o_isB, o_notB, o_tbl, o_int, o_lst, decide_eq_true_eq, Bool.not_eq_true', decide_eq_false_iff_not, beq_iff_eq, List.map_cons, List.map_nil, List.length_cons, List.length_nil, List.replicate_succ, List.replicate_zero, List.cons_append, List.nil_append, List.getElem?_cons_zero, List.getElem?_cons_succ, List.set_cons_zero, List.set_cons_succ, Nat.reduceSub, Nat.reduceAdd, Nat.zero_add, Option.map_some, Option.map_none, c_na10, o_rng1, len_rng, len_lst, len_tup, Int.toNat_natCast, Int.reduceToNat, Int.reduceLE, Int.reduceLT, Nat.reducePow, Nat.reduceLT, and_self, if_true, if_false, ite_true, ite_false, true_and, and_true, reduceIte]
      refine wr_imp (long_row_ok (d := 27) hs (by decide)) ?_
      rintro v s' ⟨pre, q, ps, rfl, h1, h2, h3⟩
      exact ⟨pre, q, ps, h1, h2, h3, rfl⟩
    rintro _ s1 ⟨p1, q, ps, hq, hg, hl, rfl⟩
    refine w_cut (fun ρ s' => s1 <+: s' ∧ ∃ sc, Scale sc ∧ ρ = lwF (some (.ref q)) (some sc) none none none none none none none none) ?_ ?_
    · simp only [w_varM, w_con, w_bin, w_neg, w_not, w_and, w_or, w_cmp, w_chain, w_ife, w_call, w_callp, w_star, w_blt, w_mth, w_idx, w_slc, w_lst, w_tup, w_tab, w_tin, w_dnew, w_rev, w_lc, w_lsc, w_dc, w_disp, w_get, w_fld, w_mk, w_meth, w_prop, w_nil, w_cons, w_onone, w_osome, w_tnone, w_tsome, w_tnot, w_tand, w_tor, w_tval, w_iex, w_irng1, w_irng2, w_irng3, w_izip, w_run, w_snil, w_scons, w_set, w_unp, w_seti, w_setf, w_exp, w_ret, w_retn, w_pass, w_ifs, w_loop, w_rais, w_try, wr_ok, wr_some, wr_none, wr_stuck, wr_bind, wr_quiet, wr_lift_ite, wr_ite, wo_ite, wo_next, wo_ret, wo_brk, wo_cnt, o_add, o_sub, o_mul, o_fdiv, o_mod, o_pow, o_neg, o_lt, o_le, o_gt, o_ge, o_eq, o_ne, o_eqs, o_nes, o_isB, o_notB, o_tbl, o_int, o_lst, decide_eq_true_eq, Bool.not_eq_true', decide_eq_false_iff_not, beq_iff_eq, List.map_cons, List.map_nil, List.length_cons, List.length_nil, List.replicate_succ, List.replicate_zero, List.cons_append, List.nil_append, List.getElem?_cons_zero, List.getElem?_cons_succ, List.set_cons_zero, List.set_cons_succ, Nat.reduceSub, Nat.reduceAdd, Nat.zero_add, Option.map_some, Option.map_none, c_na10, o_rng1, len_rng, len_lst, len_tup, Int.toNat_natCast, Int.reduceToNat, Int.reduceLE, Int.reduceLT, Nat.reducePow, Nat.reduceLT, and_self, if_true, if_false, ite_true, ite_false, true_and, and_true, reduceIte]
      refine wr_imp (scale_ok (d := 26) (pre_lst p1 hs) (by decide)) ?_
      rintro sc s' ⟨pre, h⟩
      exact ⟨pre, sc, h, rfl⟩
    rintro _ s2 ⟨p2, sc, hsc, rfl⟩
    obtain ⟨sa, sb, sc2, se, rfl, hsa, hma, hmc⟩ := sc_pos hsc
    have hq2 := mut_pre p2 hq
    have k0 : ∀ s : Store, idxV s (.tup [.int sa, .int sb, .int sc2, .int se]) (.int 0) = some (.int sa) := fun _ => rfl
    have k1 : ∀ s : Store, idxV s (.tup [.int sa, .int sb, .int sc2, .int se]) (.int 1) = some (.int sb) := fun _ => rfl
    have k2 : ∀ s : Store, idxV s (.tup [.int sa, .int sb, .int sc2, .int se]) (.int 2) = some (.int sc2) := fun _ => rfl
    have k3 : ∀ s : Store, idxV s (.tup [.int sa, .int sb, .int sc2, .int se]) (.int 3) = some (.int se) := fun _ => rfl
    have l1 : lineOk 1 = true := by decide
    have l2 : lineOk 2 = true := by decide
    -- the row
    obtain ⟨rw, hrw⟩ : ∃ rw, ps.map (fun p => (p.1 * sa + sb, p.2 * sc2 + se)) = rw := ⟨_, rfl⟩
    have grw : RowG rw := by rw [← hrw]; exact sc_nd (f := fun x => x * sc2 + se) hsa hg
    have lrw : rw.length ≤ 60 := by rw [← hrw, List.length_map]; exact hl
    refine w_cut (fun ρ s' => s2 <+: s' ∧ ∃ rq, mutAt s' rq = some (rw.map pairV) ∧ ρ = lwF (some (.ref q)) (some (.tup [.int sa, .int sb, .int sc2, .int se])) (some (.ref rq)) none none none none none none none) ?_ ?_
    · rw [w_set]
      refine lc_pairs (G := fun p => (p.1 * sa + sb, p.2 * sc2 + se)) (own := [8, 9]) rfl hq2 (by omega) ?_ ?_
      · intro s' p pre
        unfold x_law_0
        simp only [w_varM, w_con, w_bin, w_neg, w_not, w_and, w_or, w_cmp, w_chain, w_ife, w_call, w_callp, w_star, w_blt, w_mth, w_idx, w_slc, w_lst, w_tup, w_tab, w_tin, w_dnew, w_rev, w_lc, w_lsc, w_dc, w_disp, w_get, w_fld, w_mk, w_meth, w_prop, w_nil, w_cons, w_onone, w_osome, w_tnone, w_tsome, w_tnot, w_tand, w_tor, w_tval, w_iex, w_irng1, w_irng2, w_irng3, w_izip, w_run, w_snil, w_scons, w_set, w_unp, w_seti, w_setf, w_exp, w_ret, w_retn, w_pass, w_ifs, w_loop, w_rais, w_try, wr_ok, wr_some, wr_none, wr_stuck, wr_bind, wr_quiet, wr_lift_ite, wr_ite, wo_ite, wo_next, wo_ret, wo_brk, wo_cnt, o_add, o_sub, o_mul, o_fdiv, o_mod, o_pow, o_neg, o_lt, o_le, o_gt, o_ge, o_eq, o_ne, o_eqs, o_nes, o_isB, o_notB, o_tbl, o_int, o_lst, decide_eq_true_eq, Bool.not_eq_true', decide_eq_false_iff_not, beq_iff_eq, List.map_cons, List.map_nil, List.length_cons, List.length_nil, List.replicate_succ, List.replicate_zero, List.cons_append, List.nil_append, List.getElem?_cons_zero, List.getElem?_cons_succ, List.set_cons_zero, List.set_cons_succ, Nat.reduceSub, Nat.reduceAdd, Nat.zero_add, Option.map_some, Option.map_none, c_na10, o_rng1, len_rng, len_lst, len_tup, Int.toNat_natCast, Int.reduceToNat, Int.reduceLE, Int.reduceLT, Nat.reducePow, Nat.reduceLT, and_self, if_true, if_false, ite_true, ite_false, true_and, and_true, reduceIte, wipeF, k0, k1, k2, k3, hma, hmc, l2]
      · intro s' pre hm
        rw [hrw] at hm
        exact ⟨pre, _, hm, rfl⟩
    rintro _ s3 ⟨p3, rq, hrq, rfl⟩
    -- the flat one
    obtain ⟨fl, hfl⟩ : ∃ fl, rw.map (fun p => (p.1, se)) = fl := ⟨_, rfl⟩
    have gfl : RowG fl := by rw [← hfl]; exact fl_nd grw
    have efl : leastF fl = [(0, se)] := least_one gfl fun e he => by
      rw [← hfl] at he
      obtain ⟨p, _, rfl⟩ := List.mem_map.mp he
      rfl
    refine w_cut (fun ρ s' => s3 <+: s' ∧ ∃ fq, mutAt s' fq = some (fl.map pairV) ∧ ρ = lwF (some (.ref q)) (some (.tup [.int sa, .int sb, .int sc2, .int se])) (some (.ref rq)) (some (.ref fq)) none none none none none none) ?_ ?_
    · rw [w_set]
      refine lc_pairs (G := fun p => (p.1, se)) (own := [8, 9]) rfl hrq (by omega) ?_ ?_
      · intro s' p pre
        unfold x_law_1
        simp only [w_varM, w_con, w_bin, w_neg, w_not, w_and, w_or, w_cmp, w_chain, w_ife, w_call, w_callp, w_star, w_blt, w_mth, w_idx, w_slc, w_lst, w_tup, w_tab, w_tin, w_dnew, w_rev, w_lc, w_lsc, w_dc, w_disp, w_get, w_fld, w_mk, w_meth, w_prop, w_nil, w_cons, w_onone, w_osome, w_tnone, w_tsome, w_tnot, w_tand, w_tor, w_tval, w_iex, w_irng1, w_irng2, w_irng3, w_izip, w_run, w_snil, w_scons, w_set, w_unp, w_seti, w_setf, w_exp, w_ret, w_retn, w_pass, w_ifs, w_loop, w_rais, w_try, wr_ok, wr_some, wr_none, wr_stuck, wr_bind, wr_quiet, wr_lift_ite, wr_ite, wo_ite, wo_next, wo_ret, wo_brk, wo_cnt, o_add, o_sub, o_mul, o_fdiv, o_mod, o_pow, o_neg, o_lt, o_le, o_gt, o_ge, o_eq, o_ne, o_eqs, o_nes, o_isB, o_notB, o_tbl, o_int, o_lst, decide_eq_true_eq, Bool.not_eq_true', decide_eq_false_iff_not, beq_iff_eq, List.map_cons, List.map_nil, List.length_cons, List.length_nil, List.replicate_succ, List.replicate_zero, List.cons_append, List.nil_append, List.getElem?_cons_zero, List.getElem?_cons_succ, List.set_cons_zero, List.set_cons_succ, Nat.reduceSub, Nat.reduceAdd, Nat.zero_add, Option.map_some, Option.map_none, c_na10, o_rng1, len_rng, len_lst, len_tup, Int.toNat_natCast, Int.reduceToNat, Int.reduceLE, Int.reduceLT, Nat.reducePow, Nat.reduceLT, and_self, if_true, if_false, ite_true, ite_false, true_and, and_true, reduceIte, wipeF, k3, l2]
      · intro s' pre hm
        rw [hfl] at hm
        exact ⟨pre, _, hm, rfl⟩
    rintro _ s4 ⟨p4, fq, hfq, rfl⟩
    have hrq4 := mut_pre p4 hrq
    refine w_cut (fun ρ s' => s4 <+: s' ∧ ∃ v, StAt s' v [] [] (AL2 (leastF fl) (leastF rw)) ∧ ρ = lwF (some (.ref q)) (some (.tup [.int sa, .int sb, .int sc2, .int se])) (some (.ref rq)) (some (.ref fq)) (some v) none none none none none) ?_ ?_
    · rw [w_set]
      refine state_ok (d := 27) hrq4 hfq gfl grw ?_
      intro v s' pre h
      exact ⟨pre, v, h, rfl⟩
    rintro _ s5 ⟨p5, v, hv, rfl⟩
    have hrq5 := mut_pre p5 hrq4
    rw [efl] at hv
    have hnd := al2_nd [(0, se)] (leastF rw)
    refine w_cut (fun ρ s' => s5 <+: s' ∧ ∃ D kd, s'[D]? = some (.dct kd) ∧ Arrs s' kd (AL2 [(0, se)] (leastF rw)) ∧ ρ = lwF (some (.ref q)) (some (.tup [.int sa, .int sb, .int sc2, .int se])) (some (.ref rq)) (some (.ref fq)) (some v) (some (.ref D)) none none none none) ?_ ?_
    · rw [w_set]
      refine prop_ok (d := 29) rfl hv hnd (show 2 < 64 by decide) ?_
      intro s' D kd pre h1 h2
      exact ⟨pre, D, kd, h1, h2, rfl⟩
    rintro _ s6 ⟨p6, D, kd, hD, hA, rfl⟩
    have hv6 := st_mono p6 hv
    have hrq6 := mut_pre p6 hrq5
    obtain ⟨r0, i0, m0⟩ := hA.idx hnd (.inl hD) (i := 0) rfl
    obtain ⟨r1, i1, m1⟩ := hA.idx hnd (.inl hD) (i := 1) rfl
    have i0 : idxV s6 (.ref D) (.str "even") = some (.ref r0) := i0
    have i1 : idxV s6 (.ref D) (.str "row") = some (.ref r1) := i1
    have m0 : mutAt s6 r0 = some [pairV (0, se)] := m0
    have m1 : mutAt s6 r1 = some ((leastF rw).map pairV) := m1
    have hll : (leastF rw).length ≤ 1000 := Nat.le_trans (least_len rw) (by omega)
    refine w_cut (fun ρ s' => s6 <+: s' ∧ ρ = lwF (some (.ref q)) (some (.tup [.int sa, .int sb, .int sc2, .int se])) (some (.ref rq)) (some (.ref fq)) (some v) (some (.ref D)) none none none none) ?_ ?_
    · have p7 : s6 <+: s6 ++ [Ob.lst [Val.tup [.int 0, .int se]]] := pre_app pre_rfl _
      simp only [w_varM, w_con, w_bin, w_neg, w_not, w_and, w_or, w_cmp, w_chain, w_ife, w_call, w_callp, w_star, w_blt, w_mth, w_idx, w_slc, w_lst, w_tup, w_tab, w_tin, w_dnew, w_rev, w_lc, w_lsc, w_dc, w_disp, w_get, w_fld, w_mk, w_meth, w_prop, w_nil, w_cons, w_onone, w_osome, w_tnone, w_tsome, w_tnot, w_tand, w_tor, w_tval, w_iex, w_irng1, w_irng2, w_irng3, w_izip, w_run, w_snil, w_scons, w_set, w_unp, w_seti, w_setf, w_exp, w_ret, w_retn, w_pass, w_ifs, w_loop, w_rais, w_try, wr_ok, wr_some, wr_none, wr_stuck, wr_bind, wr_quiet, wr_lift_ite, wr_ite, wo_ite, wo_next, wo_ret, wo_brk, wo_cnt, o_add, o_sub, o_mul, o_fdiv, o_mod, o_pow, o_neg, o_lt, o_le, o_gt, o_ge, o_eq, o_ne, o_eqs, o_nes, o_isB, o_notB, o_tbl, o_int, o_lst, decide_eq_true_eq, Bool.not_eq_true', decide_eq_false_iff_not, beq_iff_eq, List.map_cons, List.map_nil, List.length_cons, List.length_nil, List.replicate_succ, List.replicate_zero, List.cons_append, List.nil_append, List.getElem?_cons_zero, List.getElem?_cons_succ, List.set_cons_zero, List.set_cons_succ, Nat.reduceSub, Nat.reduceAdd, Nat.zero_add, Option.map_some, Option.map_none, c_na10, o_rng1, len_rng, len_lst, len_tup, Int.toNat_natCast, Int.reduceToNat, Int.reduceLE, Int.reduceLT, Nat.reducePow, Nat.reduceLT, and_self, if_true, if_false, ite_true, ite_false, true_and, and_true, reduceIte, i0, k3, l1, l2]
      refine wr_imp (same_row (d := 25) (row := [Val.tup [.int 0, .int se]]) (mut_pre p7 m0) mut_new (show 1 ≤ 100 by decide) (by
        intro w hw
        rw [List.mem_singleton] at hw
        subst hw
        rcases pair_pur (0, se) with h | ⟨vs, e, h1, h2⟩
        · cases h
        · exact .inr ⟨vs, e, h1, fun u hu => .inl (h2 u hu)⟩)) ?_
      rintro u s7 ⟨rfl, p8⟩
      have hD7 := pre_at (p7.trans p8) hD
      have hA7 := hA.mono (p7.trans p8)
      obtain ⟨r2, i2, m2⟩ := hA7.idx hnd (.inl hD7) (i := 1) rfl
      have i2 : idxV s7 (.ref D) (.str "row") = some (.ref r2) := i2
      have m2 : mutAt s7 r2 = some ((leastF rw).map pairV) := m2
      simp only [w_varM, w_con, w_bin, w_neg, w_not, w_and, w_or, w_cmp, w_chain, w_ife, w_call, w_callp, w_star, w_blt, w_mth, w_idx, w_slc, w_lst, w_tup, w_tab, w_tin, w_dnew, w_rev, w_lc, w_lsc, w_dc, w_disp, w_get, w_fld, w_mk, w_meth, w_prop, w_nil, w_cons, w_onone, w_osome, w_tnone, w_tsome, w_tnot, w_tand, w_tor, w_tval, w_iex, w_irng1, w_irng2, w_irng3, w_izip, w_run, w_snil, w_scons, w_set, w_unp, w_seti, w_setf, w_exp, w_ret, w_retn, w_pass, w_ifs, w_loop, w_rais, w_try, wr_ok, wr_some, wr_none, wr_stuck, wr_bind, wr_quiet, wr_lift_ite, wr_ite, wo_ite, wo_next, wo_ret, wo_brk, wo_cnt, o_add, o_sub, o_mul, o_fdiv, o_mod, o_pow, o_neg, o_lt, o_le, o_gt, o_ge, o_eq, o_ne, o_eqs, o_nes, o_isB, o_notB, o_tbl, o_int, o_lst, decide_eq_true_eq, Bool.not_eq_true', decide_eq_false_iff_not, beq_iff_eq, List.map_cons, List.map_nil, List.length_cons, List.length_nil, List.replicate_succ, List.replicate_zero, List.cons_append, List.nil_append, List.getElem?_cons_zero, List.getElem?_cons_succ, List.set_cons_zero, List.set_cons_succ, Nat.reduceSub, Nat.reduceAdd, Nat.zero_add, Option.map_some, Option.map_none, c_na10, o_rng1, len_rng, len_lst, len_tup, Int.toNat_natCast, Int.reduceToNat, Int.reduceLE, Int.reduceLT, Nat.reducePow, Nat.reduceLT, and_self, if_true, if_false, ite_true, ite_false, true_and, and_true, reduceIte, Bool.not_true, Bool.false_eq_true, i2]
      refine wr_imp (shaped_ok (d := 27) m2 (least_ne grw) hll (least_asc grw) (least_unl grw) (least_shp grw)) ?_
      rintro u s8 ⟨rfl, p9⟩
      simp only [w_varM, w_con, w_bin, w_neg, w_not, w_and, w_or, w_cmp, w_chain, w_ife, w_call, w_callp, w_star, w_blt, w_mth, w_idx, w_slc, w_lst, w_tup, w_tab, w_tin, w_dnew, w_rev, w_lc, w_lsc, w_dc, w_disp, w_get, w_fld, w_mk, w_meth, w_prop, w_nil, w_cons, w_onone, w_osome, w_tnone, w_tsome, w_tnot, w_tand, w_tor, w_tval, w_iex, w_irng1, w_irng2, w_irng3, w_izip, w_run, w_snil, w_scons, w_set, w_unp, w_seti, w_setf, w_exp, w_ret, w_retn, w_pass, w_ifs, w_loop, w_rais, w_try, wr_ok, wr_some, wr_none, wr_stuck, wr_bind, wr_quiet, wr_lift_ite, wr_ite, wo_ite, wo_next, wo_ret, wo_brk, wo_cnt, o_add, o_sub, o_mul, o_fdiv, o_mod, o_pow, o_neg, o_lt, o_le, o_gt, o_ge, o_eq, o_ne, o_eqs, o_nes, o_isB, o_notB, o_tbl, o_int, o_lst, decide_eq_true_eq, Bool.not_eq_true', decide_eq_false_iff_not, beq_iff_eq, List.map_cons, List.map_nil, List.length_cons, List.length_nil, List.replicate_succ, List.replicate_zero, List.cons_append, List.nil_append, List.getElem?_cons_zero, List.getElem?_cons_succ, List.set_cons_zero, List.set_cons_succ, Nat.reduceSub, Nat.reduceAdd, Nat.zero_add, Option.map_some, Option.map_none, c_na10, o_rng1, len_rng, len_lst, len_tup, Int.toNat_natCast, Int.reduceToNat, Int.reduceLE, Int.reduceLT, Nat.reducePow, Nat.reduceLT, and_self, if_true, if_false, ite_true, ite_false, true_and, and_true, reduceIte, Bool.not_true, Bool.false_eq_true]
      exact p7.trans (p8.trans p9)
    rintro _ s7 ⟨p7, rfl⟩
    have hD7 := pre_at p7 hD
    have hA7 := hA.mono p7
    have hv7 := st_mono p7 hv6
    have hrq7 := mut_pre p7 hrq6
    refine w_cut (fun ρ s' => s7 <+: s' ∧ ∃ qe, mutAt s' qe = some ((sortP rw).map pairV) ∧ ρ = lwF (some (.ref q)) (some (.tup [.int sa, .int sb, .int sc2, .int se])) (some (.ref rq)) (some (.ref fq)) (some v) (some (.ref D)) (some (.ref qe)) none none none) ?_ ?_
    · simp only [w_varM, w_con, w_bin, w_neg, w_not, w_and, w_or, w_cmp, w_chain, w_ife, w_call, w_callp, w_star, w_blt, w_mth, w_idx, w_slc, w_lst, w_tup, w_tab, w_tin, w_dnew, w_rev, w_lc, w_lsc, w_dc, w_disp, w_get, w_fld, w_mk, w_meth, w_prop, w_nil, w_cons, w_onone, w_osome, w_tnone, w_tsome, w_tnot, w_tand, w_tor, w_tval, w_iex, w_irng1, w_irng2, w_irng3, w_izip, w_run, w_snil, w_scons, w_set, w_unp, w_seti, w_setf, w_exp, w_ret, w_retn, w_pass, w_ifs, w_loop, w_rais, w_try, wr_ok, wr_some, wr_none, wr_stuck, wr_bind, wr_quiet, wr_lift_ite, wr_ite, wo_ite, wo_next, wo_ret, wo_brk, wo_cnt, o_add, o_sub, o_mul, o_fdiv, o_mod, o_pow, o_neg, o_lt, o_le, o_gt, o_ge, o_eq, o_ne, o_eqs, o_nes, o_isB, o_notB, o_tbl, o_int, o_lst, decide_eq_true_eq, Bool.not_eq_true', decide_eq_false_iff_not, beq_iff_eq, List.map_cons, List.map_nil, List.length_cons, List.length_nil, List.replicate_succ, List.replicate_zero, List.cons_append, List.nil_append, List.getElem?_cons_zero, List.getElem?_cons_succ, List.set_cons_zero, List.set_cons_succ, Nat.reduceSub, Nat.reduceAdd, Nat.zero_add, Option.map_some, Option.map_none, c_na10, o_rng1, len_rng, len_lst, len_tup, Int.toNat_natCast, Int.reduceToNat, Int.reduceLE, Int.reduceLT, Nat.reducePow, Nat.reduceLT, and_self, if_true, if_false, ite_true, ite_false, true_and, and_true, reduceIte, o_sortPs hrq7]
      exact ⟨pre_app pre_rfl _, _, mut_new, rfl⟩
    rintro _ s8 ⟨p8, qe, hqe, rfl⟩
    have hD8 := pre_at p8 hD7
    have hA8 := hA7.mono p8
    have hv8 := st_mono p8 hv7
    obtain ⟨r3, i3, m3⟩ := hA8.idx hnd (.inl hD8) (i := 1) rfl
    have i3 : idxV s8 (.ref D) (.str "row") = some (.ref r3) := i3
    have m3 : mutAt s8 r3 = some ((leastF rw).map pairV) := m3
    refine w_cut (fun ρ s' => s8 <+: s' ∧ ∃ a b c, ρ = lwF (some (.ref q)) (some (.tup [.int sa, .int sb, .int sc2, .int se])) (some (.ref rq)) (some (.ref fq)) (some v) (some (.ref D)) (some (.ref qe)) a b c) ?_ ?_
    · have hcat := o_cat hqe m3 (by rw [List.length_map, List.length_map, sort_len]; have := least_len rw; exact lk1 (by omega))
      rw [← List.map_append] at hcat
      have p9 : s8 <+: s8 ++ [Ob.lst ((sortP rw ++ leastF rw).map pairV)] := pre_app pre_rfl _
      have hwk : wkOf (s8 ++ [Ob.lst ((sortP rw ++ leastF rw).map pairV)]) (.ref s8.length) = some (.lst s8.length ((sortP rw ++ leastF rw).map pairV).length) := o_wk (mut_lst mut_new)
      rw [w_loop, w_iex, w_bin, w_var (v := .ref qe) rfl, wr_ok, w_idx, w_var (v := .ref D) rfl, wr_ok, w_con, i3, Option.map_some, wr_some, hcat, wr_some, hwk, wr_ok]
      refine for_lst _ rfl (fun i ρ s' => s8 ++ [Ob.lst ((sortP rw ++ leastF rw).map pairV)] = s' ∧ ∃ a b c, ρ = lwF (some (.ref q)) (some (.tup [.int sa, .int sb, .int sc2, .int se])) (some (.ref rq)) (some (.ref fq)) (some v) (some (.ref D)) (some (.ref qe)) a b c) ⟨rfl, _, _, _, rfl⟩ (fun i ρ s' z => by rw [← z.1]; exact mut_lst mut_new) ?_ ?_
      · rintro i w _ _ hw ⟨rfl, a, b, c, rfl⟩
        obtain ⟨p, hp, rfl⟩ : ∃ p ∈ sortP rw ++ leastF rw, w = pairV p := by
          obtain ⟨p, hp, e⟩ := List.mem_map.mp (List.mem_of_getElem? hw)
          exact ⟨p, hp, e.symm⟩
        refine ⟨_, give2, ?_⟩
        exact spot_turn grw (mut_pre p9 hqe) (pre_at p9 hD8) (hA8.mono p9) fun j => ⟨rfl, _, _, _, rfl⟩
      · rintro _ _ ⟨rfl, a, b, c, rfl⟩
        exact ⟨p9, a, b, c, rfl⟩
    rintro _ s9 ⟨p9, a, b, c, rfl⟩
    have hD9 := pre_at p9 hD8
    have hA9 := hA8.mono p9
    have hv9 := st_mono p9 hv8
    have hkd : (kd.length : Int) = 2 := by rw [hA.1]; rfl
    have e2 : cmpV .eq (.int 2) (.int 2) s9 = some true := rfl
    rw [w_one]
    have hlen := len_dct hD9
    rw [hkd] at hlen
    have hand : ∀ Q X, Q (.bl true) s9 → wr (ev (clN 30) (.cmp .eq (.blt .len (.cons (.var 6) .nil)) (.con (.int 2))) (lwF (some (.ref q)) (some (.tup [.int sa, .int sb, .int sc2, .int se])) (some (.ref rq)) (some (.ref fq)) (some v) (some (.ref D)) (some (.ref qe)) a b c) s9) Q X := by
      intro Q X hQ
      simp only [w_varM, w_con, w_bin, w_neg, w_not, w_and, w_or, w_cmp, w_chain, w_ife, w_call, w_callp, w_star, w_blt, w_mth, w_idx, w_slc, w_lst, w_tup, w_tab, w_tin, w_dnew, w_rev, w_lc, w_lsc, w_dc, w_disp, w_get, w_fld, w_mk, w_meth, w_prop, w_nil, w_cons, w_onone, w_osome, w_tnone, w_tsome, w_tnot, w_tand, w_tor, w_tval, w_iex, w_irng1, w_irng2, w_irng3, w_izip, w_run, w_snil, w_scons, w_set, w_unp, w_seti, w_setf, w_exp, w_ret, w_retn, w_pass, w_ifs, w_loop, w_rais, w_try, wr_ok, wr_some, wr_none, wr_stuck, wr_bind, wr_quiet, wr_lift_ite, wr_ite, wo_ite, wo_next, wo_ret, wo_brk, wo_cnt, o_add, o_sub, o_mul, o_fdiv, o_mod, o_pow, o_neg, o_lt, o_le, o_gt, o_ge, o_eq, o_ne, o_eqs, o_nes, o_isB, o_notB, o_tbl, o_int, o_lst, decide_eq_true_eq, Bool.not_eq_true', decide_eq_false_iff_not, beq_iff_eq, List.map_cons, List.map_nil, List.length_cons, List.length_nil, List.replicate_succ, List.replicate_zero, List.cons_append, List.nil_append, List.getElem?_cons_zero, List.getElem?_cons_succ, List.set_cons_zero, List.set_cons_succ, Nat.reduceSub, Nat.reduceAdd, Nat.zero_add, Option.map_some, Option.map_none, c_na10, o_rng1, len_rng, len_lst, len_tup, Int.toNat_natCast, Int.reduceToNat, Int.reduceLE, Int.reduceLT, Nat.reducePow, Nat.reduceLT, and_self, if_true, if_false, ite_true, ite_false, true_and, and_true, reduceIte, hlen, beq_self_eq_true]
      exact hQ
    rw [w_ret, w_and]
    refine hand _ _ ?_
    dsimp only
    rw [w_call, w_cons, w_idx]
    refine prop_ok (d := 29) rfl hv9 hnd (show 2 < 64 by decide) ?_
    intro s10 D2 kd2 p10 hD2 hA2
    obtain ⟨r4, i4, m4⟩ := hA2.idx hnd (.inl hD2) (i := 1) rfl
    have i4 : idxV s10 (.ref D2) (.str "row") = some (.ref r4) := i4
    have m4 : mutAt s10 r4 = some ((leastF rw).map pairV) := m4
    obtain ⟨r5, i5, m5⟩ := (hA9.mono p10).idx hnd (.inl (pre_at p10 hD9)) (i := 1) rfl
    have i5 : idxV s10 (.ref D) (.str "row") = some (.ref r5) := i5
    have m5 : mutAt s10 r5 = some ((leastF rw).map pairV) := m5
    simp only [w_varM, w_con, w_bin, w_neg, w_not, w_and, w_or, w_cmp, w_chain, w_ife, w_call, w_callp, w_star, w_blt, w_mth, w_idx, w_slc, w_lst, w_tup, w_tab, w_tin, w_dnew, w_rev, w_lc, w_lsc, w_dc, w_disp, w_get, w_fld, w_mk, w_meth, w_prop, w_nil, w_cons, w_onone, w_osome, w_tnone, w_tsome, w_tnot, w_tand, w_tor, w_tval, w_iex, w_irng1, w_irng2, w_irng3, w_izip, w_run, w_snil, w_scons, w_set, w_unp, w_seti, w_setf, w_exp, w_ret, w_retn, w_pass, w_ifs, w_loop, w_rais, w_try, wr_ok, wr_some, wr_none, wr_stuck, wr_bind, wr_quiet, wr_lift_ite, wr_ite, wo_ite, wo_next, wo_ret, wo_brk, wo_cnt, o_add, o_sub, o_mul, o_fdiv, o_mod, o_pow, o_neg, o_lt, o_le, o_gt, o_ge, o_eq, o_ne, o_eqs, o_nes, o_isB, o_notB, o_tbl, o_int, o_lst, decide_eq_true_eq, Bool.not_eq_true', decide_eq_false_iff_not, beq_iff_eq, List.map_cons, List.map_nil, List.length_cons, List.length_nil, List.replicate_succ, List.replicate_zero, List.cons_append, List.nil_append, List.getElem?_cons_zero, List.getElem?_cons_succ, List.set_cons_zero, List.set_cons_succ, Nat.reduceSub, Nat.reduceAdd, Nat.zero_add, Option.map_some, Option.map_none, c_na10, o_rng1, len_rng, len_lst, len_tup, Int.toNat_natCast, Int.reduceToNat, Int.reduceLE, Int.reduceLT, Nat.reducePow, Nat.reduceLT, and_self, if_true, if_false, ite_true, ite_false, true_and, and_true, reduceIte, i4, i5]
    refine wr_imp (same_row (d := 25) (row := (leastF rw).map pairV) m4 m5 (by rw [List.length_map]; have := least_len rw; omega) (by
      intro w hw
      obtain ⟨p, _, rfl⟩ := List.mem_map.mp hw
      rcases pair_pur p with h | ⟨vs, e, h1, h2⟩
      · cases h
      · exact .inr ⟨vs, e, h1, fun u hu => .inl (h2 u hu)⟩)) ?_
    rintro u s11 ⟨rfl, p11⟩
    rfl
  obtain ⟨v, st, e, rfl⟩ := wr_ex key
  exact ⟨st, e⟩
end EVL

/-! ## K02H -/
set_option maxRecDepth 100000
set_option maxHeartbeats 0
theorem EVL.law_room : L2.Room 64 PySem.callerA := ⟨rfl, by decide, by decide⟩
namespace EVL
open PySem L2 EV
abbrev R : PySem.W.OpenRow := PySem.W.OpenLaw.row PySem.Challenge.rw_allcells_k02_rows_in_least_form
abbrev hk : PySem.W.Hook := hookP 6 fa fn ts ex prs
def ob (s : PySem.W.SharedT) : AlP := obsP 6 fa fn ts ex prs (HandSHeadRun.getT s)
theorem ob_eq (s : PySem.W.SharedT) : ob s = hk.obs s.abs := obsP_eq (HandSHeadRun.getT_eq s)
def loose : List Str := (["_wall", "CellError", "InvalidName", "InvalidRow", "is_name", "copied", "check_name", "check_row", "least_row", "State", "_law_figure", "_law_draws", "_law_long", "_law_same", "_law_scale", "_law_long_row", "_law_cell", "_law_shaped"] : List Str)
theorem run (w : World) : HandSHeadRun.RunEq R (PySem.W.view R.prog [23]) hk ob 4000 loose w := by
  intro os
  kernel_rfl
end EVL
open PySem PySem.W PySem.Calls PyProof.Rows
theorem PySem.Challenge.cw_allcells_k02_rows_in_least_form_holds : PySem.Challenge.rw_allcells_k02_rows_in_least_form.Holds := by
  w_on; o_law
  refine HandSHeadRun.head_any (r := OpenLaw.row PySem.Challenge.rw_allcells_k02_rows_in_least_form) (q := view (OpenLaw.row PySem.Challenge.rw_allcells_k02_rows_in_least_form).prog [23]) (H := EVL.hk) (ob := EVL.ob) (M := 4000) (loose := EVL.loose) (d := HandSHeadRun.topDef (OpenLaw.row PySem.Challenge.rw_allcells_k02_rows_in_least_form).prog 23) (kwd := []) EVL.ob_eq
    (by kernel_rfl) (fun s => by kernel_rfl) EVL.run (by kernel_rfl) (by kernel_rfl) (by kernel_rfl) (by rfl) (by first | assumption | decide +kernel) (by decide +kernel) ⟨rfl, rfl, rfl, rfl, rfl, by decide +kernel⟩ ?hw ?hc
  case hw => w_witness2
  case hc =>
    refine EV.law_end (l := PySem.Challenge.rw_allcells_k02_rows_in_least_form) (n := 63) (k := 64) (x := ("_law_script" : Str)) EVL.law_room rfl (by kernel_rfl) (by decide) ?F
    intro w mg fa h Y G hmg0
    obtain ⟨K, KX, c, c3⟩ := Y
    have hmg : mg ("law" : PySem.Str) = some (.ref fa) := by
      have e : (HandSHeadRun.topDef (OpenLaw.row PySem.Challenge.rw_allcells_k02_rows_in_least_form).prog 23).name = ("law" : PySem.Str) := by kernel_rfl
      rw [← e]
      exact hmg0
    have C := EVL.facts (P := PySem.Challenge.pw_allcells_k02_rows_in_least_form) (w := w) KX G c.t c.more c3
    obtain ⟨fd, h1, h2⟩ := EVL.law_fin C hmg 30
    exact ⟨K, fd, _, KX, h1, fun H b ns hn hO hS => EV.law_sp hO hS (EVL.law_true ns hn), fun base _ _ => h2 base⟩
