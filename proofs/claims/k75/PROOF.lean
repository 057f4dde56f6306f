import PyProof.Rows.All
import Wide.All
import OpenK.AllK
import Wide.FinOn
import HandS.ForMost
import HandS.ForExc
import HandS.TupAny
import HandS.Wide
import HandS.Style
import HandS.Deep
import HandS.IsInst
import HandS.CallSlots
import HandS.Conv
import HandS.SortInts
import HandS.SortRule
import HandS.Star
import HandS.Zip
import HandS.NoneIn
import HandS.Small
import HandS.TupLen
import HandS.More
import HandS.RaiseMore
import HandS.Defaults
import HandS.ExcInit
import HandS.TryOnly
import HandS.HeadHook4
import HandS.SetBool
import HandS.SetKeys
import HandS.Dict
import HandS.DictComp
import HandS.Property
import HandS.TryMany
import HandS.Flow
import HandS.Head0
import HandS.Head1
import HandS.Head2
import HandS.HeadEnd
import HandS.HeadWalk
import PySem.Challenge.RW_allcells_k75_texts_of_terms_and_statemen
set_option Elab.async false
set_option linter.all false
set_option autoImplicit false
/-! ## EvCore -/
set_option maxRecDepth 100000
set_option maxHeartbeats 4000000
/-! EvCore: values and a store of plain Lean that the machine's values and heap are held against. -/
namespace EV
open PySem L2

inductive Val where
  | non | bl (b : Bool) | int (i : Int) | str (x : Str) | ref (n : Nat) | tup (vs : List Val)
  deriving Inhabited
inductive Ob where
  | lst (vs : List Val) | fro (vs : List Val) | dct (kvs : List (Key × Val)) | frd (kvs : List (Key × Val)) | ins (c : Nat) (fs : List (Str × Val))
  deriving Inhabited
abbrev Store := List Ob
inductive Res (α : Type) where
  | ok (a : α) (st : Store) | exc (c : Nat) (v : Val) (st : Store) | stuck
@[inline] def Res.bind {α β : Type} (r : Res α) (f : α → Store → Res β) : Res β := match r with
  | .ok a st => f a st
  | .exc c v st => .exc c v st
  | .stuck => .stuck

section
variable (K : PySem.W.Frag)
mutual
inductive RepV (μ : List Addr) (H : Hp) : Val → V → Prop
  | non : RepV μ H .non .non
  | bl (b : Bool) : RepV μ H (.bl b) (.bl b)
  | int (i : Int) : RepV μ H (.int i) (.int i)
  | str (x : Str) : RepV μ H (.str x) (.str x)
  | ref {n : Nat} {a : Addr} (h : μ[n]? = some a) : RepV μ H (.ref n) (.ref a)
  | tup {a : Addr} {vs : List Val} {xs : List V} (h : SqT K H a xs) (r : RepL μ H vs xs) : RepV μ H (.tup vs) (.ref a)
inductive RepL (μ : List Addr) (H : Hp) : List Val → List V → Prop
  | nil : RepL μ H [] []
  | cons {v : Val} {x : V} {vs : List Val} {xs : List V} (h : RepV μ H v x) (t : RepL μ H vs xs) : RepL μ H (v :: vs) (x :: xs)
end
structure Le0 (μ : List Addr) (H : Hp) (μ' : List Addr) (H' : Hp) : Prop where
  pre : μ <+: μ'
  tup : ∀ a xs, Rd H a (.tup xs) → Rd H' a (.tup xs)
structure Le (μ : List Addr) (H : Hp) (μ' : List Addr) (H' : Hp) : Prop where
  pre : μ <+: μ'
  tup : ∀ a xs, Rd H a (.tup xs) → Rd H' a (.tup xs)
  frz : ∀ a ob u, H a = some (.frz ob u) → H' a = some (.frz ob u)
  ext : ∀ a F, H a = some (.ext F) → H' a = some (.ext F)
end

section
variable {K : PySem.W.Frag} {μ μ' μ'' : List Addr} {H H' H'' : Hp}
theorem Le.refl : Le μ H μ H := ⟨List.prefix_refl _, fun _ _ h => h, fun _ _ _ h => h, fun _ _ h => h⟩
theorem Le.trans (a : Le μ H μ' H') (b : Le μ' H' μ'' H'') : Le μ H μ'' H'' := ⟨a.pre.trans b.pre, fun p xs h => b.tup p xs (a.tup p xs h), fun p o u h => b.frz p o u (a.frz p o u h), fun p F h => b.ext p F (a.ext p F h)⟩
theorem Le.to0 (a : Le μ H μ' H') : Le0 μ H μ' H' := ⟨a.pre, a.tup⟩
theorem Le0.at_ (a : Le0 μ H μ' H') {n : Nat} {p : Addr} (h : μ[n]? = some p) : μ'[n]? = some p := by
  obtain ⟨t, rfl⟩ := a.pre
  rw [List.getElem?_append_left (List.getElem?_eq_some_iff.mp h).1]
  exact h
theorem Le.at_ (a : Le μ H μ' H') {n : Nat} {p : Addr} (h : μ[n]? = some p) : μ'[n]? = some p := a.to0.at_ h
theorem Le0.sq (a : Le0 μ H μ' H') {p : Addr} {xs : List V} (h : SqT K H p xs) : SqT K H' p xs := by
  rcases h with h | h
  · exact .inl (a.tup p xs h)
  · exact .inr h
theorem Le.sq (a : Le μ H μ' H') {p : Addr} {xs : List V} (h : SqT K H p xs) : SqT K H' p xs := a.to0.sq h
mutual
theorem RepV.mono0 (l : Le0 μ H μ' H') : ∀ {v : Val} {x : V}, RepV K μ H v x → RepV K μ' H' v x
  | _, _, .non => .non
  | _, _, .bl b => .bl b
  | _, _, .int i => .int i
  | _, _, .str x => .str x
  | _, _, .ref h => .ref (l.at_ h)
  | _, _, .tup h r => .tup (l.sq h) (RepL.mono0 l r)
theorem RepL.mono0 (l : Le0 μ H μ' H') : ∀ {vs : List Val} {xs : List V}, RepL K μ H vs xs → RepL K μ' H' vs xs
  | _, _, .nil => .nil
  | _, _, .cons h t => .cons (RepV.mono0 l h) (RepL.mono0 l t)
end
theorem RepV.mono (l : Le μ H μ' H') {v : Val} {x : V} (h : RepV K μ H v x) : RepV K μ' H' v x := RepV.mono0 l.to0 h
theorem RepL.mono (l : Le μ H μ' H') {vs : List Val} {xs : List V} (h : RepL K μ H vs xs) : RepL K μ' H' vs xs := RepL.mono0 l.to0 h
theorem RepL.length : ∀ {vs : List Val} {xs : List V}, RepL K μ H vs xs → vs.length = xs.length
  | _, _, .nil => rfl
  | _, _, .cons _ t => by rw [List.length_cons, List.length_cons, RepL.length t]
theorem RepL.append : ∀ {vs ws : List Val} {xs ys : List V}, RepL K μ H vs xs → RepL K μ H ws ys → RepL K μ H (vs ++ ws) (xs ++ ys)
  | _, _, _, _, .nil, s => s
  | _, _, _, _, .cons h t, s => .cons h (RepL.append t s)
theorem RepL.get : ∀ {vs : List Val} {xs : List V} {i : Nat} {v : Val}, RepL K μ H vs xs → vs[i]? = some v → ∃ x, xs[i]? = some x ∧ RepV K μ H v x
  | _, _, _, _, .nil, e => by simp at e
  | _, _, 0, _, .cons h _, e => by simp at e; subst e; exact ⟨_, rfl, h⟩
  | _, _, i + 1, v, .cons _ t, e => by
    obtain ⟨x, h1, h2⟩ := RepL.get (i := i) (v := v) t (by simpa using e)
    exact ⟨x, by simpa using h1, h2⟩
theorem RepL.getR : ∀ {vs : List Val} {xs : List V} {i : Nat} {x : V}, RepL K μ H vs xs → xs[i]? = some x → ∃ v, vs[i]? = some v ∧ RepV K μ H v x
  | _, _, _, _, .nil, e => by simp at e
  | _, _, 0, _, .cons h _, e => by simp at e; subst e; exact ⟨_, rfl, h⟩
  | _, _, i + 1, x, .cons _ t, e => by
    obtain ⟨v, h1, h2⟩ := RepL.getR (i := i) (x := x) t (by simpa using e)
    exact ⟨v, by simpa using h1, h2⟩
theorem RepL.set : ∀ {vs : List Val} {xs : List V} {i : Nat} {v : Val} {x : V}, RepL K μ H vs xs → RepV K μ H v x → RepL K μ H (vs.set i v) (xs.set i x)
  | _, _, _, _, _, .nil, _ => .nil
  | _, _, 0, _, _, .cons _ t, r => .cons r t
  | _, _, i + 1, _, _, .cons h t, r => .cons h (RepL.set t r)
theorem RepL.drop : ∀ {vs : List Val} {xs : List V} (n : Nat), RepL K μ H vs xs → RepL K μ H (vs.drop n) (xs.drop n)
  | _, _, 0, h => h
  | _, _, _ + 1, .nil => .nil
  | _, _, n + 1, .cons _ t => RepL.drop n t
theorem RepL.take : ∀ {vs : List Val} {xs : List V} (n : Nat), RepL K μ H vs xs → RepL K μ H (vs.take n) (xs.take n)
  | _, _, 0, _ => .nil
  | _, _, _ + 1, .nil => .nil
  | _, _, n + 1, .cons h t => .cons h (RepL.take n t)
theorem RepL.reverse : ∀ {vs : List Val} {xs : List V}, RepL K μ H vs xs → RepL K μ H vs.reverse xs.reverse
  | _, _, .nil => .nil
  | _, _, .cons h t => by
    rw [List.reverse_cons, List.reverse_cons]
    exact RepL.append (RepL.reverse t) (.cons h .nil)
theorem RepL.flat_replicate {vs : List Val} {xs : List V} (h : RepL K μ H vs xs) : ∀ n : Nat, RepL K μ H (List.replicate n vs).flatten (List.replicate n xs).flatten
  | 0 => .nil
  | n + 1 => by
    rw [List.replicate_succ, List.replicate_succ, List.flatten_cons, List.flatten_cons]
    exact RepL.append h (RepL.flat_replicate h n)
theorem RepL.ints : ∀ ns : List Int, RepL K μ H (ns.map Val.int) (ns.map V.int)
  | [] => .nil
  | n :: ns => .cons (.int n) (RepL.ints ns)
end

/-- a list that nobody changes: known to the object, or written by the top -/
def SqF (K : PySem.W.Frag) (H : Hp) (a : Addr) (xs : List V) : Prop := (∃ ob, H a = some (.frz ob (.lst xs))) ∨
  ∃ (ob : Obj) (items : Array Value) (e : Nat),
    K.lookup a = some ob ∧ ob.cls = .type "list" ∧ ob.dict = none ∧
    ob.data = .seq items e ∧ items.size ≤ sizeLine ∧ Vals xs items.toList
theorem SqF.sql {K : PySem.W.Frag} {H : Hp} {a : Addr} {xs : List V} (h : SqF K H a xs) : SqL K H a xs := by
  rcases h with ⟨ob, h⟩ | h
  · exact .inl (.inr ⟨ob, h⟩)
  · exact .inr h
/-- an object of the store, as it is tracked -/
def RepO (K : PySem.W.Frag) (CA : Nat → Addr) (μ : List Addr) (H : Hp) : Ob → HO → Prop
  | .lst vs, .lst xs => RepL K μ H vs xs
  | .dct kvs, .dK kxs => kvs.map (·.1) = kxs.map (·.1) ∧ RepL K μ H (kvs.map (·.2)) (kxs.map (·.2))
  | .frd kvs, .frz _ (.dK kxs) => kvs.map (·.1) = kxs.map (·.1) ∧ RepL K μ H (kvs.map (·.2)) (kxs.map (·.2))
  | .ins c fs, .ins C _ gs => C = CA c ∧ fs.map (·.1) = gs.map (·.1) ∧ RepL K μ H (fs.map (·.2)) (gs.map (·.2))
  | _, _ => False
def isFro : Ob → Bool
  | .fro _ => true
  | _ => false
def ObAt (K : PySem.W.Frag) (CA : Nat → Addr) (μ : List Addr) (H : Hp) (a : Addr) (o : Ob) : Prop :=
  (isFro o = false ∧ ∃ ho, H a = some ho ∧ RepO K CA μ H o ho) ∨ ∃ vs xs, o = .fro vs ∧ SqF K H a xs ∧ RepL K μ H vs xs
structure Rel (K : PySem.W.Frag) (CA : Nat → Addr) (μ : List Addr) (st : Store) (H : Hp) : Prop where
  len : μ.length = st.length
  inj : ∀ (i j : Nat) (a : Addr) (o u : Ob), μ[i]? = some a → μ[j]? = some a → st[i]? = some o → st[j]? = some u → isFro o = false → isFro u = false → i = j
  ob : ∀ (n : Nat) (o : Ob), st[n]? = some o → ∃ a, μ[n]? = some a ∧ ObAt K CA μ H a o

section
variable {K : PySem.W.Frag} {CA : Nat → Addr} {μ μ' : List Addr} {H H' : Hp} {st : Store}
theorem RepO.mono0 (l : Le0 μ H μ' H') {o : Ob} {ho : HO} (h : RepO K CA μ H o ho) : RepO K CA μ' H' o ho := by
  cases o <;> cases ho <;> first
    | exact h.elim
    | exact RepL.mono0 l h
    | exact ⟨h.1, RepL.mono0 l h.2⟩
    | exact ⟨h.1, h.2.1, RepL.mono0 l h.2.2⟩
    | (rename_i u; cases u <;> first | exact h.elim | exact ⟨h.1, RepL.mono0 l h.2⟩)
theorem RepO.mono (l : Le μ H μ' H') {o : Ob} {ho : HO} (h : RepO K CA μ H o ho) : RepO K CA μ' H' o ho := h.mono0 l.to0
theorem ObAt.mono0 (l : Le0 μ H μ' H') {a : Addr} (k : ∀ u, H a = some u → H' a = some u) {o : Ob} (h : ObAt K CA μ H a o) : ObAt K CA μ' H' a o := by
  rcases h with ⟨f, ho, h1, h2⟩ | ⟨vs, xs, e, h1, h2⟩
  · exact .inl ⟨f, ho, k _ h1, h2.mono0 l⟩
  · refine .inr ⟨vs, xs, e, ?_, h2.mono0 l⟩
    rcases h1 with ⟨ob, h1⟩ | h1
    · exact .inl ⟨ob, k _ h1⟩
    · exact .inr h1
theorem ObAt.mono (l : Le μ H μ' H') {a : Addr} (k : ∀ u, H a = some u → H' a = some u) {o : Ob} (h : ObAt K CA μ H a o) : ObAt K CA μ' H' a o := h.mono0 l.to0 k
theorem Rel.at_ (R : Rel K CA μ st H) {n : Nat} {a : Addr} {o : Ob} (hm : μ[n]? = some a) (h : st[n]? = some o) : ObAt K CA μ H a o := by
  obtain ⟨b, h1, h2⟩ := R.ob n o h
  rw [hm] at h1; cases h1
  exact h2
theorem Rel.real (R : Rel K CA μ st H) {n : Nat} {a : Addr} {o : Ob} (hm : μ[n]? = some a) (h : st[n]? = some o) (f : isFro o = false) : ∃ ho, H a = some ho ∧ RepO K CA μ H o ho := by
  rcases R.at_ hm h with ⟨_, z⟩ | ⟨vs, xs, e, _⟩
  · exact z
  · subst e; cases f
theorem Le.of_new {p : Addr} {o : HO} (hp : H p = none) : Le μ H (μ ++ [p]) (upd H p o) := by
  refine ⟨List.prefix_append _ _, fun a xs h => ?_, fun a ob u h => by rw [upd_ne (ne_of_none h hp)]; exact h, fun a F h => by rw [upd_ne (ne_of_none h hp)]; exact h⟩
  rcases h with h | ⟨ob, h⟩
  · exact .inl (by rw [upd_ne (ne_of_none h hp)]; exact h)
  · exact .inr ⟨ob, by rw [upd_ne (ne_of_none h hp)]; exact h⟩
theorem Le.of_fresh {p : Addr} {o : HO} (hp : H p = none) : Le μ H μ (upd H p o) := by
  refine ⟨List.prefix_refl _, fun a xs h => ?_, fun a ob u h => by rw [upd_ne (ne_of_none h hp)]; exact h, fun a F h => by rw [upd_ne (ne_of_none h hp)]; exact h⟩
  rcases h with h | ⟨ob, h⟩
  · exact .inl (by rw [upd_ne (ne_of_none h hp)]; exact h)
  · exact .inr ⟨ob, by rw [upd_ne (ne_of_none h hp)]; exact h⟩
theorem keep_new {p a : Addr} {o : HO} (hp : H p = none) : ∀ u, H a = some u → upd H p o a = some u := fun u e => by rw [upd_ne (ne_of_none e hp)]; exact e
/-- a thing beside the store is laid (a tuple) -/
theorem Rel.beside (R : Rel K CA μ st H) {p : Addr} {o : HO} (hp : H p = none) : Rel K CA μ st (upd H p o) := by
  refine ⟨R.len, R.inj, fun n ob h => ?_⟩
  obtain ⟨a, h1, h2⟩ := R.ob n ob h
  exact ⟨a, h1, h2.mono (.of_fresh hp) (keep_new hp)⟩
theorem RepO.real {o : Ob} {ho : HO} (h : RepO K CA μ H o ho) : isFro o = false := by
  cases o <;> first | rfl | (cases ho <;> exact h.elim)
/-- a new object of the store -/
theorem Rel.alloc (R : Rel K CA μ st H) {p : Addr} {o : HO} {ob : Ob} (hp : H p = none) (h : RepO K CA μ H ob o) : Rel K CA (μ ++ [p]) (st ++ [ob]) (upd H p o) := by
  have l : Le μ H (μ ++ [p]) (upd H p o) := .of_new hp
  have hl := R.len
  have last : ∀ {i : Nat} {u : Ob}, (st ++ [ob])[i]? = some u → ¬ i < st.length → i = st.length ∧ u = ob := fun {i u} e hi => by
    rw [List.getElem?_append_right (Nat.le_of_not_lt hi)] at e
    have hz : i - st.length = 0 := by
      rcases Nat.eq_zero_or_pos (i - st.length) with z | z
      · exact z
      · rw [List.getElem?_eq_none (by rw [List.length_singleton]; exact z)] at e; cases e
    rw [hz] at e
    exact ⟨by omega, by simpa using e.symm⟩
  have noP : ∀ {i : Nat} {u : Ob}, i < st.length → (μ ++ [p])[i]? = some p → (st ++ [ob])[i]? = some u → isFro u = false → False := fun {i u} hi e1 e2 f => by
    rw [List.getElem?_append_left (by rw [hl]; exact hi)] at e1
    rw [List.getElem?_append_left hi] at e2
    obtain ⟨ho, h1, _⟩ := R.real e1 e2 f
    rw [hp] at h1; cases h1
  have lastM : ∀ {a : Addr}, (μ ++ [p])[st.length]? = some a → a = p := fun {a} e => by
    rw [← hl, List.getElem?_append_right (Nat.le_refl _), Nat.sub_self] at e
    exact (Option.some.inj e).symm
  refine ⟨by rw [List.length_append, List.length_append, hl]; rfl, ?_, fun n o' h' => ?_⟩
  · intro i j a o1 u1 ei ej si sj fo fu
    by_cases hi : i < st.length
    · by_cases hj : j < st.length
      · rw [List.getElem?_append_left (by rw [hl]; exact hi)] at ei
        rw [List.getElem?_append_left (by rw [hl]; exact hj)] at ej
        rw [List.getElem?_append_left hi] at si
        rw [List.getElem?_append_left hj] at sj
        exact R.inj i j a o1 u1 ei ej si sj fo fu
      · obtain ⟨rfl, rfl⟩ := last sj hj
        have e := lastM ej
        subst e
        exact (noP hi ei si fo).elim
    · obtain ⟨rfl, rfl⟩ := last si hi
      have e := lastM ei
      subst e
      by_cases hj : j < st.length
      · exact (noP hj ej sj fu).elim
      · exact (last sj hj).1.symm
  · by_cases hn : n < st.length
    · rw [List.getElem?_append_left hn] at h'
      obtain ⟨a, h1, h2⟩ := R.ob n o' h'
      exact ⟨a, l.at_ h1, h2.mono l (keep_new hp)⟩
    · obtain ⟨rfl, rfl⟩ := last h' hn
      refine ⟨p, ?_, .inl ⟨h.real, o, upd_same, h.mono l⟩⟩
      rw [← hl, List.getElem?_append_right (Nat.le_refl _), Nat.sub_self]
      rfl
theorem alloc_at (R : Rel K CA μ st H) {p : Addr} : (μ ++ [p])[st.length]? = some p := by
  rw [← R.len, List.getElem?_append_right (Nat.le_refl _), Nat.sub_self]
  rfl
/-- what is no tuple -/
def NoTup : HO → Prop
  | .tup _ => False
  | .frz _ _ => False
  | .ext _ => False
  | _ => True
theorem Le.of_write {a : Addr} {ho o : HO} (h : H a = some ho) (nt : NoTup ho) : Le μ H μ (upd H a o) := by
  have ne : ∀ {b} u, H b = some u → ¬ NoTup u → b ≠ a := fun {b} u e n z => by
    subst z
    rw [h] at e; cases e
    exact n nt
  refine ⟨List.prefix_refl _, fun b xs q => ?_, fun b ob u q => by rw [upd_ne (ne _ q fun z => z)]; exact q, fun b F q => by rw [upd_ne (ne _ q fun z => z)]; exact q⟩
  rcases q with q | ⟨ob, q⟩
  · exact .inl (by rw [upd_ne (ne _ q fun z => z)]; exact q)
  · exact .inr ⟨ob, by rw [upd_ne (ne _ q fun z => z)]; exact q⟩
/-- an object of the store is changed -/
theorem Rel.write (R : Rel K CA μ st H) {n : Nat} {a : Addr} {ho o : HO} {old ob : Ob} (hm : μ[n]? = some a) (hs : st[n]? = some old) (hf : isFro old = false) (h : H a = some ho) (nt : NoTup ho) (new : RepO K CA μ H ob o) : Rel K CA μ (st.set n ob) (upd H a o) := by
  have l : Le μ H μ (upd H a o) := .of_write h nt
  have hn : n < st.length := (List.getElem?_eq_some_iff.mp hs).1
  have back : ∀ {i : Nat} {u : Ob}, (st.set n ob)[i]? = some u → isFro u = false → ∃ u', st[i]? = some u' ∧ isFro u' = false := fun {i u} e f => by
    by_cases z : n = i
    · subst z; exact ⟨old, hs, hf⟩
    · rw [List.getElem?_set_ne z] at e; exact ⟨u, e, f⟩
  refine ⟨by rw [List.length_set]; exact R.len, ?_, fun m o' h' => ?_⟩
  · intro i j b o1 u1 ei ej si sj fo fu
    obtain ⟨o2, s2, f2⟩ := back si fo
    obtain ⟨u2, t2, g2⟩ := back sj fu
    exact R.inj i j b o2 u2 ei ej s2 t2 f2 g2
  · by_cases e : n = m
    · subst e
      rw [List.getElem?_set_self hn] at h'
      cases h'
      exact ⟨a, hm, .inl ⟨new.real, o, upd_same, new.mono l⟩⟩
    · rw [List.getElem?_set_ne e] at h'
      obtain ⟨b, h1, h2⟩ := R.ob m o' h'
      refine ⟨b, h1, ?_⟩
      rcases h2 with ⟨f, hb, h3, h4⟩ | ⟨vs, xs, eo, h3, h4⟩
      · refine .inl ⟨f, hb, ?_, h4.mono l⟩
        rw [upd_ne]
        · exact h3
        · intro z
          subst z
          exact e (R.inj n m b old o' hm h1 hs h' hf f)
      · refine .inr ⟨vs, xs, eo, ?_, h4.mono l⟩
        rcases h3 with ⟨w, h3⟩ | h3
        · refine .inl ⟨w, ?_⟩
          rw [upd_ne]
          · exact h3
          · intro z
            subst z
            rw [h] at h3; cases h3
            exact nt
        · exact .inr h3
theorem Le0.of_ext {a : Addr} {F G : Heap → Prop} (h : H a = some (.ext F)) : Le0 μ H μ (upd H a (.ext G)) := by
  have ne : ∀ {b} u, H b = some u → u ≠ .ext F → b ≠ a := fun {b} u e n z => by
    subst z
    rw [h] at e; cases e
    exact n rfl
  refine ⟨List.prefix_refl _, fun b xs q => ?_⟩
  rcases q with q | ⟨ob, q⟩
  · exact .inl (by rw [upd_ne (ne _ q fun z => by cases z)]; exact q)
  · exact .inr ⟨ob, by rw [upd_ne (ne _ q fun z => by cases z)]; exact q⟩
/-- a thing that the store doesn't hold is changed -/
theorem Rel.ext (R : Rel K CA μ st H) {a : Addr} {F G : Heap → Prop} (h : H a = some (.ext F)) : Rel K CA μ st (upd H a (.ext G)) := by
  have l : Le0 μ H μ (upd H a (.ext G)) := .of_ext h
  refine ⟨R.len, R.inj, fun m o' h' => ?_⟩
  obtain ⟨b, h1, h2⟩ := R.ob m o' h'
  refine ⟨b, h1, ?_⟩
  rcases h2 with ⟨f, hb, h3, h4⟩ | ⟨vs, xs, eo, h3, h4⟩
  · refine .inl ⟨f, hb, ?_, h4.mono0 l⟩
    rw [upd_ne]
    · exact h3
    · intro z
      subst z
      rw [h] at h3
      cases h3
      cases o' <;> exact h4
  · refine .inr ⟨vs, xs, eo, ?_, RepL.mono0 l h4⟩
    rcases h3 with ⟨w, h3⟩ | h3
    · refine .inl ⟨w, ?_⟩
      rw [upd_ne]
      · exact h3
      · intro z
        subst z
        rw [h] at h3; cases h3
    · exact .inr h3
/-- a dict is locked -/
theorem Rel.lock (R : Rel K CA μ st H) {n : Nat} {a : Addr} {kvs : List (Key × Val)} {kxs : List (Key × V)} (od : Obj) (hm : μ[n]? = some a) (hs : st[n]? = some (.dct kvs)) (h : H a = some (.dK kxs)) (h1 : kvs.map (·.1) = kxs.map (·.1)) (h2 : RepL K μ H (kvs.map (·.2)) (kxs.map (·.2))) :
    Le μ H μ (upd H a (.frz od (.dK kxs))) ∧ Rel K CA μ (st.set n (.frd kvs)) (upd H a (.frz od (.dK kxs))) :=
  ⟨.of_write h (by exact True.intro), R.write hm hs rfl h (by exact True.intro) (o := .frz od (.dK kxs)) (ob := .frd kvs) ⟨h1, h2⟩⟩
theorem Le0.of_unlock {a : Addr} {od : Obj} {kxs : List (Key × V)} {o : HO} (h : H a = some (.frz od (.dK kxs))) : Le0 μ H μ (upd H a o) := by
  refine ⟨List.prefix_refl _, fun b xs q => ?_⟩
  have ne : b ≠ a := fun z => by
    subst z
    rcases q with q | ⟨ob, q⟩
    · rw [h] at q; cases q
    · rw [h] at q; cases q
  rcases q with q | ⟨ob, q⟩
  · exact .inl (by rw [upd_ne ne]; exact q)
  · exact .inr ⟨ob, by rw [upd_ne ne]; exact q⟩
/-- .. and unlocked -/
theorem Rel.unlock (R : Rel K CA μ st H) {n : Nat} {a : Addr} {kvs : List (Key × Val)} {kxs : List (Key × V)} {od : Obj} (hm : μ[n]? = some a) (hs : st[n]? = some (.frd kvs)) (h : H a = some (.frz od (.dK kxs))) : Rel K CA μ (st.set n (.dct kvs)) (upd H a (.dK kxs)) := by
  have l : Le0 μ H μ (upd H a (.dK kxs)) := .of_unlock h
  have hn : n < st.length := (List.getElem?_eq_some_iff.mp hs).1
  obtain ⟨ho, e1, e2⟩ := R.real hm hs rfl
  rw [h] at e1
  cases e1
  have back : ∀ {i : Nat} {u : Ob}, (st.set n (.dct kvs))[i]? = some u → isFro u = false → ∃ u', st[i]? = some u' ∧ isFro u' = false := fun {i u} e f => by
    by_cases z : n = i
    · subst z; exact ⟨_, hs, rfl⟩
    · rw [List.getElem?_set_ne z] at e; exact ⟨u, e, f⟩
  refine ⟨by rw [List.length_set]; exact R.len, ?_, fun m o' h' => ?_⟩
  · intro i j b o1 u1 ei ej si sj fo fu
    obtain ⟨o2, s2, f2⟩ := back si fo
    obtain ⟨u2, t2, g2⟩ := back sj fu
    exact R.inj i j b o2 u2 ei ej s2 t2 f2 g2
  · by_cases e : n = m
    · subst e
      rw [List.getElem?_set_self hn] at h'
      cases h'
      exact ⟨a, hm, .inl ⟨rfl, .dK kxs, upd_same, e2.1, RepL.mono0 l e2.2⟩⟩
    · rw [List.getElem?_set_ne e] at h'
      obtain ⟨b, h1, h2⟩ := R.ob m o' h'
      refine ⟨b, h1, ?_⟩
      rcases h2 with ⟨f, hb, h3, h4⟩ | ⟨vs, xs, eo, h3, h4⟩
      · refine .inl ⟨f, hb, ?_, h4.mono0 l⟩
        rw [upd_ne]
        · exact h3
        · intro z
          subst z
          exact e (R.inj n m b _ o' hm h1 hs h' rfl f)
      · refine .inr ⟨vs, xs, eo, ?_, RepL.mono0 l h4⟩
        rcases h3 with ⟨w, h3⟩ | h3
        · refine .inl ⟨w, ?_⟩
          rw [upd_ne]
          · exact h3
          · intro z
            subst z
            rw [h] at h3
            cases h3
        · exact .inr h3
end

/-! ### the frame's values -/
abbrev Fr := List (Option Val)
structure RepE (K : PySem.W.Frag) (μ : List Addr) (H : Hp) (ρ : Fr) (σ : L2.St) : Prop where
  len : ρ.length = σ.length
  at_ : ∀ (i : Nat) (v : Val), ρ[i]? = some (some v) → ∃ x, σ[i]? = some (some x) ∧ RepV K μ H v x
section
variable {K : PySem.W.Frag} {μ μ' : List Addr} {H H' : Hp} {ρ : Fr} {σ : L2.St}
theorem RepE.mono (l : Le μ H μ' H') (r : RepE K μ H ρ σ) : RepE K μ' H' ρ σ :=
  ⟨r.len, fun i v h => let ⟨x, h1, h2⟩ := r.at_ i v h; ⟨x, h1, h2.mono l⟩⟩
theorem RepE.set (r : RepE K μ H ρ σ) {i : Nat} {v : Val} {x : V} (h : RepV K μ H v x) : RepE K μ H (ρ.set i (some v)) (σ.set i (some x)) := by
  refine ⟨by rw [List.length_set, List.length_set]; exact r.len, fun j w e => ?_⟩
  by_cases z : i = j
  · subst z
    by_cases hi : i < ρ.length
    · rw [List.getElem?_set_self hi] at e
      cases e
      exact ⟨x, by rw [List.getElem?_set_self (by rw [← r.len]; exact hi)], h⟩
    · rw [List.getElem?_eq_none (by rw [List.length_set]; exact Nat.le_of_not_lt hi)] at e
      cases e
  · rw [List.getElem?_set_ne z] at e ⊢
    exact r.at_ j w e
theorem RepE.unset (r : RepE K μ H ρ σ) {i : Nat} : RepE K μ H (ρ.set i none) (σ.set i none) := by
  refine ⟨by rw [List.length_set, List.length_set]; exact r.len, fun j w e => ?_⟩
  by_cases z : i = j
  · subst z
    by_cases hi : i < ρ.length
    · rw [List.getElem?_set_self hi] at e
      cases e
    · rw [List.getElem?_eq_none (by rw [List.length_set]; exact Nat.le_of_not_lt hi)] at e
      cases e
  · rw [List.getElem?_set_ne z] at e ⊢
    exact r.at_ j w e
theorem RepE.wipe (r : RepE K μ H ρ σ) : ∀ vs : List Nat, ∃ ρ', ρ' = vs.foldr (fun i q => q.set i none) ρ ∧ RepE K μ H ρ' (L2.wipe σ vs)
  | [] => ⟨ρ, rfl, r⟩
  | i :: vs => by
    obtain ⟨ρ', e, h⟩ := RepE.wipe r vs
    refine ⟨ρ'.set i none, by rw [List.foldr_cons, e], ?_⟩
    show RepE K μ H _ ((L2.wipe σ vs).set i none)
    exact h.unset
end
end EV

/-! ## EvAst -/
set_option maxRecDepth 100000
set_option maxHeartbeats 4000000
/-! EvAst: a small syntax without places, and what it computes over the store. -/
namespace EV
open PySem L2

inductive BOp where
  | add | sub | mul | fdiv | mod | pow
  deriving DecidableEq
inductive COp where
  | eq | ne | lt | le | gt | ge | isN | notN | inn | notin
  deriving DecidableEq
/-- a built-in type's name, a built-in function, a method -/
inductive Ty where
  | int | bool | str | list | tuple | dict
  deriving DecidableEq
inductive Bf where
  | len | int | max | min | abs | all | any | sum | sorted | list | tuple | dict | str | isi (T : Ty)
inductive Mf where
  | append | join | pop
/-- what a for or a comprehension gives its items to -/
inductive Tg where
  | nm (i : Nat) | tp (is : List Nat)
mutual
inductive Ex where
  | var (i : Nat)
  | con (v : Val)
  | bin (o : BOp) (a b : Ex)
  | neg (a : Ex)
  | not (a : Tx)
  | and (a b : Ex)
  | or (a b : Ex)
  | cmp (o : COp) (a b : Ex)
  | chain (o o' : COp) (a b c : Ex)
  | ife (t : Tx) (a b : Ex)
  | call (f : Nat) (args : Exs)
  | callp (f : Nat) (perm : List Nat) (args : Exs)
  | tab (kvs : List (Str × Val)) (e : Ex)
  | tin (neg : Bool) (kvs : List (Str × Val)) (e : Ex)
  | dnew
  | rev (e : Ex)
  | blt (f : Bf) (args : Exs)
  | mth (m : Mf) (o : Ex) (args : Exs)
  | fld (c : Nat) (o : Ex) (f : Str)
  | mk (c id : Nat) (args : Exs)
  | meth (c id : Nat) (m : Str) (o : Ex) (args : Exs)
  | prop (c id : Nat) (o : Ex)
  | idx (o i : Ex)
  | slc (o : Ex) (lo hi : Exo)
  | lst (es : Exs)
  | tup (es : Exs)
  | lc (elt : Ex) (t : Tg) (it : Ir) (ifs : Txo) (own : List Nat)
  | lsc (elt : Ex) (t : Tg) (it : Ir) (ifs : Txo) (own : List Nat)
  | dc (k v : Ex) (t : Tg) (it : Ir) (ifs : Txo) (own : List Nat)
  | disp (ks : List Str) (es : Exs)
  | get (o k d : Ex)
  | never
inductive Tx where
  | val (e : Ex) | not (a : Tx) | and (a b : Tx) | or (a b : Tx)
inductive Txo where
  | none | some (t : Tx)
inductive Exs where
  | nil | cons (e : Ex) (es : Exs) | star (e : Ex) (es : Exs)
inductive Exo where
  | none | some (e : Ex)
inductive Ir where
  | ex (e : Ex)
  | rng1 (a : Ex)
  | rng2 (a b : Ex)
  | rng3 (a b c : Ex)
  | zip2 (a b : Ex)
  | never
end
inductive Sx where
  | set (i : Nat) (e : Ex)
  | unp (is : List Nat) (e : Ex)
  | seti (o i e : Ex)
  | setf (c : Nat) (o : Ex) (f : Str) (e : Ex)
  | exp (e : Ex)
  | ret (e : Ex)
  | retn
  | pass | brk | cnt
  | ite (c : Tx) (a b : List Sx)
  | loop (t : Tg) (it : Ir) (body : List Sx)
  | wh (n : Nat) (c : Tx) (body : List Sx)
  | loopd (t : Tg) (e : Ex) (body : List Sx)
  | rais (c : Nat) (e : Ex)
  | tryo (body : List Sx) (hs ns : List Nat) (suite : List Sx)
  | never

/-! ### operations -/
def liftO {α : Type} : Option (α × Store) → Res α
  | some (v, st) => .ok v st
  | none => .stuck
def lstAt (st : Store) (n : Nat) : Option (List Val) := match st[n]? with
  | some (.lst vs) => some vs
  | some (.fro vs) => some vs
  | _ => none
def mutAt (st : Store) (n : Nat) : Option (List Val) := match st[n]? with
  | some (.lst vs) => some vs
  | _ => none
/-- the items of a list or a tuple -/
def seqOf (st : Store) : Val → Option (List Val)
  | .ref n => lstAt st n
  | .tup vs => some vs
  | _ => none
def lineOk (n : Nat) : Bool := decide (n ≤ 16777216)
def alloc (st : Store) (o : Ob) : Option (Val × Store) := some (.ref st.length, st ++ [o])
def allocL (st : Store) (vs : List Val) : Option (Val × Store) := if lineOk vs.length then alloc st (.lst vs) else none
def mulOk (i j : Int) : Bool := decide (-(2 ^ 64) < i ∧ i < 2 ^ 64) || decide (-(2 ^ 64) < j ∧ j < 2 ^ 64) || decide (i.natAbs.log2 + j.natAbs.log2 < 1000000)
def binV (o : BOp) (v u : Val) (st : Store) : Option (Val × Store) := match o, v, u with
  | .add, .int i, .int j => some (.int (i + j), st)
  | .add, .str x, .str y => if lineOk (x.length + y.length) then some (.str (x ++ y), st) else none
  | .add, .ref n, .ref m => match mutAt st n, mutAt st m with
    | some xs, some ys => allocL st (xs ++ ys)
    | _, _ => none
  | .add, .tup xs, .tup ys => if lineOk (xs.length + ys.length) then some (.tup (xs ++ ys), st) else none
  | .sub, .int i, .int j => some (.int (i - j), st)
  | .mul, .int i, .int j => if mulOk i j then some (.int (i * j), st) else none
  | .mul, .ref n, .int k => match mutAt st n with
    | some xs => if decide (-(2 ^ 63) ≤ k ∧ k < 2 ^ 63) && lineOk (xs.length * k.toNat) then alloc st (.lst (List.replicate k.toNat xs).flatten) else none
    | none => none
  | .fdiv, .int i, .int j => if decide (0 < j ∧ j.natAbs.log2 < 9000) then some (.int (i / j), st) else none
  | .mod, .int i, .int j => if decide (0 < j) then some (.int (i % j), st) else none
  | .pow, .int i, .int j => if decide (0 ≤ j ∧ j ≤ 1000000 ∧ i.natAbs < 2 ^ 64) then some (.int (i ^ j.toNat), st) else none
  | _, _, _ => none
def negV : Val → Option Val
  | .int i => some (.int (-i))
  | _ => none
/-- a value without any object: none, a bool, an int, a text -/
def flat : Val → Bool
  | .non => true | .bl _ => true | .int _ => true | .str _ => true
  | _ => false
/-- == of such values -/
def eqF : Val → Val → Bool
  | .non, .non => true
  | .bl a, .bl b => a == b
  | .bl p, .int j => (if p then 1 else 0) == j
  | .int i, .bl q => i == (if q then 1 else 0)
  | .int a, .int b => a == b
  | .str a, .str b => a == b
  | _, _ => false
mutual
/-- a value as a tree (None where it is none of these) -/
def pyOf (st : Store) : Nat → Val → Option PyData
  | _, .non => some .none
  | _, .bl b => some (.bool b)
  | _, .int i => some (.int i)
  | _, .str x => some (.str x)
  | 0, _ => none
  | k + 1, .ref n => match lstAt st n with
    | some vs => (pyAll st k vs).map .list
    | none => none
  | k + 1, .tup vs => (pyAll st k vs).map .tuple
def pyAll (st : Store) : Nat → List Val → Option (List PyData)
  | _, [] => some []
  | 0, _ :: _ => none
  | k + 1, v :: vs => match pyOf st k v, pyAll st k vs with
    | some d, some ds => some (d :: ds)
    | _, _ => none
end
def eqS (st : Store) (v u : Val) : Option Bool :=
  if flat v && flat u then some (eqF v u) else
  match pyOf st 100000 v, pyOf st 100000 u with
  | some d, some e => if SeqAt.shaped d && SeqAt.shaped e then some (PyData.eqv d e) else none
  | _, _ => none
def inS (st : Store) (v u : Val) : Option Bool := match u with
  | .str y => match v with
    | .str x => some (!(Builtin.Str.occurrences y x 0 y.length 1).isEmpty)
    | _ => none
  | .ref n => match st[n]? with
    | some (.dct kvs) => match v with
      | .int i => some (kvs.any fun kv => decide (kv.1 = .inl i))
      | .str x => some (kvs.any fun kv => decide (kv.1 = .inr x))
      | _ => none
    | some (.lst vs) => if flat v && vs.all flat then some (vs.any fun w => eqF w v) else none
    | some (.fro vs) => if flat v && vs.all flat then some (vs.any fun w => eqF w v) else none
    | _ => none
  | .tup vs => if flat v && vs.all flat then some (vs.any fun w => eqF w v) else none
  | _ => none
def cmpV (o : COp) (v u : Val) (st : Store) : Option Bool := match o with
  | .eq => eqS st v u
  | .ne => (eqS st v u).map (!·)
  | .isN => match u with
    | .non => some (match v with | .non => true | _ => false)
    | .bl b => (match v with | .bl a => some (a == b) | _ => none)
    | _ => none
  | .notN => match u with
    | .non => some (match v with | .non => false | _ => true)
    | .bl b => (match v with | .bl a => some (!(a == b)) | _ => none)
    | _ => none
  | .inn => inS st v u
  | .notin => (inS st v u).map (!·)
  | .lt => match v, u with
    | .int i, .int j => some (decide (i < j))
    | .str x, .str y => some (decide (x.cps.toList < y.cps.toList))
    | _, _ => none
  | .le => match v, u with
    | .int i, .int j => some (decide (i ≤ j))
    | .str x, .str y => some (!decide (y.cps.toList < x.cps.toList))
    | _, _ => none
  | .gt => match v, u with
    | .int i, .int j => some (decide (j < i))
    | .str x, .str y => some (decide (y.cps.toList < x.cps.toList))
    | _, _ => none
  | .ge => match v, u with
    | .int i, .int j => some (decide (j ≤ i))
    | .str x, .str y => some (!decide (x.cps.toList < y.cps.toList))
    | _, _ => none
/-- a value's truth -/
def truV (st : Store) : Val → Option Bool
  | .non => some false
  | .bl b => some b
  | .int i => some (i != 0)
  | .str x => if lineOk x.length then some ((x.length : Int) != 0) else none
  | .tup vs => some (!vs.isEmpty)
  | .ref n => match st[n]? with
    | some (.lst vs) => some (!vs.isEmpty)
    | some (.fro vs) => some (!vs.isEmpty)
    | some (.dct kvs) => some (!kvs.isEmpty)
    | _ => none
def idxV (st : Store) (v u : Val) : Option Val := match u with
  | .int i => match v with
    | .ref n => match lstAt st n with
      | some vs => atI vs i
      | none => match st[n]? with
        | some (.dct kvs) => (kvs.find? fun kv => decide (kv.1 = .inl i)).map (·.2)
        | _ => none
    | .tup vs => atI vs i
    | .str z => if lineOk z.length then (atI z.cps.toList i).map fun c => .str ⟨#[c]⟩ else none
    | _ => none
  | .str x => match v with
    | .ref n => match st[n]? with
      | some (.dct kvs) => (kvs.find? fun kv => decide (kv.1 = .inr x)).map (·.2)
      | some (.frd kvs) => (kvs.find? fun kv => decide (kv.1 = .inr x)).map (·.2)
      | _ => none
    | _ => none
  | _ => none
def cut {α : Type} (xs : List α) (lo hi : Option Int) : List α := (xs.drop (HT.sIx xs.length 0 lo)).take (HT.sIx xs.length xs.length hi - HT.sIx xs.length 0 lo)
def slcV (v : Val) (lo hi : Option Int) (st : Store) : Option (Val × Store) := match v with
  | .ref n => match lstAt st n with
    | some vs => alloc st (.lst (cut vs lo hi))
    | none => none
  | .tup vs => some (.tup (cut vs lo hi), st)
  | .str z => if lineOk z.length then some (.str (cutS z lo hi), st) else none
  | _ => none
def revV (v : Val) (st : Store) : Option (Val × Store) := match v with
  | .ref n => match lstAt st n with
    | some vs => alloc st (.lst vs.reverse)
    | none => none
  | _ => none
/-! ### built-in functions -/
def intsOf : List Val → Option (List Int)
  | [] => some []
  | .int i :: vs => (intsOf vs).map (i :: ·)
  | _ => none
def boolsOf : List Val → Option (List Bool)
  | [] => some []
  | .bl i :: vs => (boolsOf vs).map (i :: ·)
  | _ => none
def strsOf : List Val → Option (List Str)
  | [] => some []
  | .str i :: vs => (strsOf vs).map (i :: ·)
  | _ => none
def pairsOf : List Val → Option (List (Int × Int))
  | [] => some []
  | .tup [.int i, .int j] :: vs => (pairsOf vs).map ((i, j) :: ·)
  | _ => none
def leS (a b : Str) : Bool := !decide (b.cps.toList < a.cps.toList)
def leP (a b : Int × Int) : Bool := decide (a.1 < b.1 ∨ (a.1 = b.1 ∧ a.2 ≤ b.2))
def sortI (ns : List Int) : List Int := ns.mergeSort fun a b => decide (a ≤ b)
def sortS (ns : List Str) : List Str := ns.mergeSort leS
def sortP (ns : List (Int × Int)) : List (Int × Int) := ns.mergeSort leP
def keyV : Key → Val
  | .inl i => .int i
  | .inr x => .str x
def keysS : List Key → Option (List Str)
  | [] => some []
  | .inr x :: ks => (keysS ks).map (x :: ·)
  | _ => none
def sortV (vs : List Val) : Option (List Val) := match intsOf vs with
  | some ns => some ((sortI ns).map .int)
  | none => match strsOf vs with
    | some zs => if decide (zs.length < 64) then some ((sortS zs).map .str) else none
    | none => match pairsOf vs with
      | some ps => some ((sortP ps).map fun p => .tup [.int p.1, .int p.2])
      | none => none
def tyOf (st : Store) : Val → Option Ty
  | .bl _ => some .bool
  | .int _ => some .int
  | .str _ => some .str
  | .tup _ => some .tuple
  | .ref n => match st[n]? with
    | some (.lst _) => some .list
    | some (.dct _) => some .dict
    | _ => none
  | .non => none
def isiV (T : Ty) (st : Store) : Val → Option Bool
  | .non => some false
  | v => (tyOf st v).map fun t => decide (t = T) || (decide (t = .bool) && decide (T = .int))
def maxI : List Int → Option Int
  | [] => none
  | n :: ns => some (ns.foldl (fun a b => if b > a then b else a) n)
def minI : List Int → Option Int
  | [] => none
  | n :: ns => some (ns.foldl (fun a b => if b < a then b else a) n)
def bltV (f : Bf) (vs : List Val) (st : Store) : Option (Val × Store) := match f, vs with
  | .len, [.str z] => if lineOk z.length then some (.int z.length, st) else none
  | .len, [.tup ws] => some (.int ws.length, st)
  | .len, [.ref n] => match st[n]? with
    | some (.lst ws) => some (.int ws.length, st)
    | some (.fro ws) => some (.int ws.length, st)
    | some (.dct kvs) => some (.int kvs.length, st)
    | _ => none
  | .int, [.int i] => some (.int i, st)
  | .int, [.bl b] => some (.int (if b then 1 else 0), st)
  | .str, [.int i] => if decide (i.natAbs.log2 < 1920) then some (.str (toString i), st) else none
  | .str, [.str z] => some (.str z, st)
  | .max, [.int i, .int j] => some (.int (if j > i then j else i), st)
  | .min, [.int i, .int j] => some (.int (if j < i then j else i), st)
  | .max, [.ref n] => match lstAt st n with
    | some ws => match intsOf ws with
      | some ns => (maxI ns).map fun m => (.int m, st)
      | none => none
    | none => none
  | .min, [.ref n] => match lstAt st n with
    | some ws => match intsOf ws with
      | some ns => (minI ns).map fun m => (.int m, st)
      | none => none
    | none => none
  | .abs, [.int i] => some (.int (if i < 0 then -i else i), st)
  | .all, [.ref n] => match lstAt st n with
    | some ws => (boolsOf ws).map fun bs => (.bl (bs.all id), st)
    | none => none
  | .any, [.ref n] => match lstAt st n with
    | some ws => (boolsOf ws).map fun bs => (.bl (bs.any id), st)
    | none => none
  | .sum, [.ref n] => match lstAt st n with
    | some ws => (intsOf ws).map fun ns => (.int ns.sum, st)
    | none => none
  | .sorted, [.ref n] => match st[n]? with
    | some (.lst ws) => match sortV ws with
      | some us => alloc st (.lst us)
      | none => none
    | some (.fro ws) => match sortV ws with
      | some us => alloc st (.lst us)
      | none => none
    | some (.dct kvs) => match keysS (kvs.map (·.1)) with
      | some ks => if decide (ks.length < 64) then alloc st (.lst ((sortS ks).map .str)) else none
      | none => none
    | _ => none
  | .list, [.ref n] => match st[n]? with
    | some (.lst ws) => alloc st (.lst ws)
    | some (.fro ws) => alloc st (.lst ws)
    | some (.dct kvs) => alloc st (.lst (kvs.map fun kv => keyV kv.1))
    | _ => none
  | .list, [.tup ws] => alloc st (.lst ws)
  | .tuple, [.ref n] => match lstAt st n with
    | some ws => some (.tup ws, st)
    | none => none
  | .tuple, [.tup ws] => some (.tup ws, st)
  | .dict, [.ref n] => match st[n]? with
    | some (.dct kvs) => alloc st (.dct kvs)
    | _ => none
  | .isi T, [v] => (isiV T st v).map fun b => (.bl b, st)
  | _, _ => none
def mthV (m : Mf) (v : Val) (vs : List Val) (st : Store) : Option (Val × Store) := match m, v, vs with
  | .append, .ref n, [u] => match mutAt st n with
    | some ws => if decide (ws.length < 16777216) then some (.non, st.set n (.lst (ws ++ [u]))) else none
    | none => none
  | .pop, .ref n, [] => match mutAt st n with
    | some ws => match ws[ws.length - 1]? with
      | some y => some (y, st.set n (.lst ws.dropLast))
      | none => none
    | none => none
  | .pop, .ref n, [.int i] => match mutAt st n with
    | some ws => match seqIndex? i ws.length with
      | some k => match ws[k]? with
        | some y => if decide (-2 ^ 63 ≤ i ∧ i < 2 ^ 63) then some (y, st.set n (.lst (ws.eraseIdx k))) else none
        | none => none
      | none => none
    | none => none
  | .join, .str z, [.ref n] => match lstAt st n with
    | some ws => match strsOf ws with
      | some zs => if decide ((zs.map (·.length)).sum + zs.length * z.length ≤ 16777216) then some (.str (Txt.join z zs), st) else none
      | none => none
    | none => none
  | _, _, _ => none
/-- the receiver is of the method's type -/
def rcv (m : Mf) (v : Val) (st : Store) : Bool := match m, v with
  | .append, .ref n => (mutAt st n).isSome
  | .pop, .ref n => (mutAt st n).isSome
  | .join, .str _ => true
  | _, _ => false
/-- the flow out of a statement -/
inductive Out where
  | next (ρ : Fr) (st : Store) | ret (v : Val) (st : Store) | brk (ρ : Fr) (st : Store) | cnt (ρ : Fr) (st : Store) | exc (c : Nat) (v : Val) (ρ : Fr) (st : Store) | stuck
def wipeF (ρ : Fr) : List Nat → Fr
  | [] => ρ
  | i :: is => (wipeF ρ is).set i none
def setAll : List Nat → List Val → Fr → Option Fr
  | [], [], ρ => some ρ
  | i :: is, v :: vs, ρ => setAll is vs (ρ.set i (some v))
  | _, _, _ => none
def Tg.give (t : Tg) (v : Val) (ρ : Fr) (st : Store) : Option Fr := match t with
  | .nm i => some (ρ.set i (some v))
  | .tp is => match v with
    | .tup vs => setAll is vs ρ
    | .ref n => match lstAt st n with
      | some vs => setAll is vs ρ
      | none => none
    | _ => none
/-- what is walked: how many turns, and the item of each turn (read off the store there) -/
inductive Wk where
  | lst (n : Nat) (len : Nat) | tup (vs : List Val) | rng (lo : Int) (len : Nat) | rngc (lo c : Int) (len : Nat) | txt (z : Str) | zipL (n k m l : Nat) | zipT (vs us : List Val)
/-- the texts' signs -/
def signs (z : Str) : List Val := z.cps.toList.map fun c => .str ⟨#[c]⟩
def Wk.len : Wk → Nat
  | .lst _ k => k
  | .tup vs => vs.length
  | .rng _ k => k
  | .rngc _ _ k => k
  | .txt z => z.cps.size
  | .zipL _ k _ l => min k l
  | .zipT vs us => min vs.length us.length
def Wk.item (w : Wk) (st : Store) (i : Nat) : Option Val := match w with
  | .lst n k => match lstAt st n with
    | some vs => if vs.length = k then vs[i]? else none
    | none => none
  | .tup vs => vs[i]?
  | .rng lo _ => some (.int (lo + i))
  | .rngc lo c _ => some (.int (lo + i * c))
  | .txt z => (z.cps[i]?).map fun c => .str ⟨#[c]⟩
  | .zipL n k m l => match lstAt st n, lstAt st m with
    | some vs, some us => if vs.length = k ∧ us.length = l then match vs[i]?, us[i]? with
        | some v, some u => some (.tup [v, u])
        | _, _ => none
      else none
    | _, _ => none
  | .zipT vs us => match vs[i]?, us[i]? with
    | some v, some u => some (.tup [v, u])
    | _, _ => none
def Wk.fits (w : Wk) (st : Store) : Bool := match w with
  | .lst n k => match lstAt st n with
    | some vs => decide (vs.length = k)
    | none => false
  | .zipL n k m l => match lstAt st n, lstAt st m with
    | some vs, some us => decide (vs.length = k ∧ us.length = l)
    | _, _ => false
  | _ => true
def wkOf (st : Store) : Val → Option Wk
  | .ref n => (lstAt st n).map fun vs => .lst n vs.length
  | .tup vs => some (.tup vs)
  | .str z => some (.txt z)
  | _ => none
def zipOf (st : Store) : Val → Val → Option Wk
  | .ref n, .ref m => match lstAt st n, lstAt st m with
    | some vs, some us => some (.zipL n vs.length m us.length)
    | _, _ => none
  | .tup vs, .tup us => some (.zipT vs us)
  | _, _ => none
def rngOk (i : Int) : Bool := decide (-(2 ^ 62) ≤ i ∧ i < 2 ^ 62)
/-- what an expression is by the frame alone: a name, or an item of a tuple -/
def pv (ρ : Fr) : Ex → Option Val
  | .var i => match ρ[i]? with
    | some (some v) => some v
    | _ => none
  | .idx (.var i) (.con (.int k)) => match ρ[i]? with
    | some (some (.tup vs)) => atI vs k
    | _ => none
  | _ => none
/-- a locked dict is unlocked -/
def thawS (n : Nat) (st : Store) : Option Store := match st[n]? with
  | some (.frd kvs) => some (st.set n (.dct kvs))
  | _ => none
def thaw (n : Nat) : Out → Out
  | .next ρ st => match thawS n st with
    | some st' => .next ρ st'
    | none => .stuck
  | .ret v st => match thawS n st with
    | some st' => .ret v st'
    | none => .stuck
  | _ => .stuck
/-- the items at some places, in their order -/
def permL {α : Type} (perm : List Nat) (l : List α) : List α := perm.filterMap fun i => l[i]?
/-- no exception goes through -/
def Res.quiet {α : Type} : Res α → Res α
  | .ok a st => .ok a st
  | _ => .stuck
/-- the turns of a comprehension: r turns are left, i are gone -/
def lcTurns (g : Val → Fr → Store → Option Fr) (tt : Fr → Store → Res Bool) (el : Fr → Store → Res Val) (w : Wk) (ρ : Fr) (D : Nat) : Nat → Nat → Store → Res Val
  | 0, _, st => if w.fits st then .ok (.ref D) st else .stuck
  | r + 1, i, st => match w.item st i with
    | none => .stuck
    | some v => match g v ρ st with
      | none => .stuck
      | some ρ' => (tt ρ' st).quiet.bind fun b st1 => if b then (el ρ' st1).quiet.bind fun y st2 => match mutAt st2 D with
          | some acc => if decide (acc.length < 16777216) then lcTurns g tt el w ρ D r (i + 1) (st2.set D (.lst (acc ++ [y]))) else .stuck
          | none => .stuck
        else lcTurns g tt el w ρ D r (i + 1) st1
def putKV (kvs : List (Key × Val)) (k : Key) (v : Val) : List (Key × Val) :=
  if (kvs.any fun q => decide (q.1 = k)) = true then List.map (fun q : Key × Val => if q.1 = k then (q.1, v) else q) kvs else kvs ++ [(k, v)]
def mergeKV (kvs more : List (Key × Val)) : List (Key × Val) := more.foldl (fun acc kv => putKV acc kv.1 kv.2) kvs
def keyOf : Val → Option Key
  | .int j => some (.inl j)
  | .str z => some (.inr z)
  | _ => none
/-- a dict comprehension's turns -/
def dcTurns (g : Val → Fr → Store → Option Fr) (tt : Fr → Store → Res Bool) (kx vx : Fr → Store → Res Val) (w : Wk) (ρ : Fr) (D : Nat) : Nat → Nat → Store → Res Val
  | 0, _, st => if w.fits st then .ok (.ref D) st else .stuck
  | r + 1, i, st => match w.item st i with
    | none => .stuck
    | some v => match g v ρ st with
      | none => .stuck
      | some ρ' => (tt ρ' st).quiet.bind fun b st1 => if b then (kx ρ' st1).quiet.bind fun y st2 => (vx ρ' st2).quiet.bind fun z st3 => match keyOf y with
          | some k => match st3[D]? with
            | some (.dct kvs) => if decide (kvs.length < 16777216) then dcTurns g tt kx vx w ρ D r (i + 1) (st3.set D (.dct (putKV kvs k z))) else .stuck
            | _ => .stuck
          | none => .stuck
        else dcTurns g tt kx vx w ρ D r (i + 1) st1
/-- an instance's fields -/
def insAt (c : Nat) (v : Val) (st : Store) : Option (List (Str × Val)) := match v with
  | .ref n => match st[n]? with
    | some (.ins c' fs) => if c' = c then some fs else none
    | _ => none
  | _ => none
def putFV (f : Str) (v : Val) : List (Str × Val) → List (Str × Val)
  | [] => [(f, v)]
  | (g, x) :: r => if g = f then (g, v) :: r else (g, x) :: putFV f v r
def hasK (ks : List Key) (c : Key) : Bool := ks.any fun q => decide (q = c)
def addK (ks : List Key) (c : Key) : List Key := if hasK ks c then ks else ks ++ [c]
/-- a set comprehension's turns: the keys found -/
def scTurns (g : Val → Fr → Store → Option Fr) (tt : Fr → Store → Res Bool) (el : Fr → Store → Res Val) (w : Wk) (ρ : Fr) : Nat → Nat → Store → List Key → Res Val
  | 0, _, st, ks => if w.fits st then .ok (.int ks.length) st else .stuck
  | r + 1, i, st, ks => match w.item st i with
    | none => .stuck
    | some v => match g v ρ st with
      | none => .stuck
      | some ρ' => (tt ρ' st).quiet.bind fun b st1 => if b then (el ρ' st1).quiet.bind fun y st2 => match y with
          | .int j => if decide (ks.length + 1 < 4096) then scTurns g tt el w ρ r (i + 1) st2 (addK ks (.inl j)) else .stuck
          | .str z => if decide (ks.length + 1 < 4096) then scTurns g tt el w ρ r (i + 1) st2 (addK ks (.inr z)) else .stuck
          | _ => .stuck
        else scTurns g tt el w ρ r (i + 1) st1 ks

abbrev Cl := Nat → List Val → Store → Res Val
section
variable (cl : Cl)
mutual
def ev : Ex → Fr → Store → Res Val
  | .var i, ρ, st => match ρ[i]? with
    | some (some v) => .ok v st
    | _ => .stuck
  | .con v, _, st => .ok v st
  | .bin o a b, ρ, st => (ev a ρ st).bind fun v st1 => (ev b ρ st1).bind fun u st2 => liftO (binV o v u st2)
  | .neg a, ρ, st => (ev a ρ st).bind fun v st1 => liftO ((negV v).map fun w => (w, st1))
  | .not a, ρ, st => (evT a ρ st).bind fun b st1 => .ok (.bl (!b)) st1
  | .and a b, ρ, st => (ev a ρ st).bind fun v st1 => match v with
    | .bl true => ev b ρ st1
    | .bl false => .ok (.bl false) st1
    | _ => .stuck
  | .or a b, ρ, st => (ev a ρ st).bind fun v st1 => match v with
    | .bl true => .ok (.bl true) st1
    | .bl false => ev b ρ st1
    | _ => .stuck
  | .cmp o a b, ρ, st => (ev a ρ st).bind fun v st1 => (ev b ρ st1).bind fun u st2 => liftO ((cmpV o v u st2).map fun k => (.bl k, st2))
  | .chain o o' a b c, ρ, st => (ev a ρ st).bind fun v st1 => (ev b ρ st1).bind fun u st2 => match cmpV o v u st2 with
    | some true => (ev c ρ st2).bind fun w st3 => liftO ((cmpV o' u w st3).map fun k => (.bl k, st3))
    | some false => .ok (.bl false) st2
    | none => .stuck
  | .ife t a b, ρ, st => (evT t ρ st).bind fun k st1 => if k then ev a ρ st1 else ev b ρ st1
  | .call f args, ρ, st => (evs args ρ st).bind fun vs st1 => cl f vs st1
  | .callp f perm args, ρ, st => (evs args ρ st).bind fun vs st1 => cl f (permL perm vs) st1
  | .tab kvs e, ρ, st => (ev e ρ st).bind fun v st1 => match v with
    | .str z => match kvs.lookup z with
      | some u => .ok u st1
      | none => .stuck
    | _ => .stuck
  | .tin neg kvs e, ρ, st => (ev e ρ st).bind fun v st1 => match v with
    | .str z => .ok (.bl (neg != (kvs.lookup z).isSome)) st1
    | _ => .stuck
  | .dnew, _, st => .ok (.ref st.length) (st ++ [.dct []])
  | .rev e, ρ, st => (ev e ρ st).bind fun v st1 => liftO (revV v st1)
  | .blt f args, ρ, st => (evs args ρ st).bind fun vs st1 => liftO (bltV f vs st1)
  | .mth m o args, ρ, st => (ev o ρ st).bind fun v st1 => if rcv m v st1 then (evs args ρ st1).bind fun vs st2 => liftO (mthV m v vs st2) else .stuck
  | .fld c o f, ρ, st => (ev o ρ st).bind fun v st1 => match insAt c v st1 with
    | some fs => match fs.lookup f with
      | some w => .ok w st1
      | none => .stuck
    | none => .stuck
  | .mk c id args, ρ, st => (evs args ρ st).bind fun vs st1 => (cl id (.ref st1.length :: vs) (st1 ++ [.ins c []])).quiet.bind fun v st2 => match v with
    | .non => .ok (.ref st1.length) st2
    | _ => .stuck
  | .meth c id m o args, ρ, st => (ev o ρ st).bind fun v st1 => match insAt c v st1 with
    | some fs => if (fs.lookup m).isNone then (evs args ρ st1).bind fun vs st2 => (cl id (v :: vs) st2).quiet else .stuck
    | none => .stuck
  | .prop c id o, ρ, st => (ev o ρ st).bind fun v st1 => match insAt c v st1 with
    | some _ => (cl id [v] st1).quiet
    | none => .stuck
  | .idx o i, ρ, st => (ev o ρ st).bind fun v st1 => (ev i ρ st1).bind fun u st2 => liftO ((idxV st2 v u).map fun w => (w, st2))
  | .slc o lo hi, ρ, st => (ev o ρ st).bind fun v st1 => (evo lo ρ st1).bind fun l st2 => (evo hi ρ st2).bind fun h st3 => liftO (slcV v l h st3)
  | .lst es, ρ, st => (evs es ρ st).bind fun vs st1 => liftO (allocL st1 vs)
  | .tup es, ρ, st => (evs es ρ st).bind fun vs st1 => if lineOk vs.length then .ok (.tup vs) st1 else .stuck
  | .lc elt t it ifs own, ρ, st => (evI it ρ st).bind fun w st1 => lcTurns (t.give) (evTs ifs) (ev elt) w (wipeF ρ own) st1.length w.len 0 (st1 ++ [.lst []])
  | .lsc elt t it ifs own, ρ, st => (evI it ρ st).bind fun w st1 => scTurns (t.give) (evTs ifs) (ev elt) w (wipeF ρ own) w.len 0 st1 []
  | .dc k v t it ifs own, ρ, st => (evI it ρ st).bind fun w st1 => dcTurns (t.give) (evTs ifs) (ev k) (ev v) w (wipeF ρ own) st1.length w.len 0 (st1 ++ [.dct []])
  | .disp ks es, ρ, st => (evs es ρ (st ++ [.dct []])).bind fun vs st1 => match st1[st.length]? with
    | some (.dct []) => if decide (vs.length = ks.length ∧ ks.length ≤ 15) then .ok (.ref st.length) (st1.set st.length (.dct (mergeKV [] ((ks.map Sum.inr).zip vs)))) else .stuck
    | _ => .stuck
  | .get o k d, ρ, st => (ev o ρ st).bind fun v st1 => match v with
    | .ref n => match st1[n]? with
      | some (.dct _) => (ev k ρ st1).bind fun y st2 => (ev d ρ st2).bind fun z st3 => match st3[n]? with
        | some (.dct kvs) => match keyOf y with
          | some kk => .ok (((kvs.find? fun kv => decide (kv.1 = kk)).map (·.2)).getD z) st3
          | none => .stuck
        | _ => .stuck
      | _ => .stuck
    | _ => .stuck
  | .never, _, _ => .stuck
def evs : Exs → Fr → Store → Res (List Val)
  | .nil, _, st => .ok [] st
  | .cons e es, ρ, st => (ev e ρ st).bind fun v st1 => (evs es ρ st1).bind fun vs st2 => .ok (v :: vs) st2
  | .star e es, ρ, st => (ev e ρ st).bind fun v st1 => match seqOf st1 v with
    | some ws => (evs es ρ st1).bind fun vs st2 => .ok (ws ++ vs) st2
    | none => .stuck
/-- a slice's part -/
def evo : Exo → Fr → Store → Res (Option Int)
  | .none, _, st => .ok none st
  | .some e, ρ, st => (ev e ρ st).bind fun v st1 => match v with
    | .int i => .ok (some i) st1
    | _ => .stuck
/-- a comprehension's test -/
def evTs : Txo → Fr → Store → Res Bool
  | .none, _, st => .ok true st
  | .some e, ρ, st => evT e ρ st
/-- as a test -/
def evT : Tx → Fr → Store → Res Bool
  | .not a, ρ, st => (evT a ρ st).bind fun b st1 => .ok (!b) st1
  | .and a b, ρ, st => (evT a ρ st).bind fun k st1 => if k then evT b ρ st1 else .ok false st1
  | .or a b, ρ, st => (evT a ρ st).bind fun k st1 => if k then .ok true st1 else evT b ρ st1
  | .val e, ρ, st => (ev e ρ st).bind fun v st1 => match truV st1 v with
    | some b => .ok b st1
    | none => .stuck
def evI : Ir → Fr → Store → Res Wk
  | .ex e, ρ, st => (ev e ρ st).bind fun v st1 => match wkOf st1 v with
    | some w => .ok w st1
    | none => .stuck
  | .rng1 a, ρ, st => (ev a ρ st).bind fun v st1 => match v with
    | .int j => if rngOk j then .ok (.rng 0 j.toNat) st1 else .stuck
    | _ => .stuck
  | .rng2 a b, ρ, st => (ev a ρ st).bind fun v st1 => (ev b ρ st1).bind fun u st2 => match v, u with
    | .int i, .int j => if rngOk i && rngOk j then .ok (.rng i (j - i).toNat) st2 else .stuck
    | _, _ => .stuck
  | .rng3 a b c, ρ, st => (ev a ρ st).bind fun v st1 => (ev b ρ st1).bind fun u st2 => (ev c ρ st2).bind fun w st3 => match v, u, w with
    | .int i, .int j, .int c => if decide (c ≠ 0 ∧ c.natAbs < 1073741824 ∧ 0 ≤ Builtin.Range.rangeSize i j c) && Builtin.Range.small i j c then .ok (.rngc i c (Builtin.Range.rangeSize i j c).toNat) st3 else .stuck
    | _, _, _ => .stuck
  | .zip2 a b, ρ, st => (ev a ρ st).bind fun v st1 => (ev b ρ st1).bind fun u st2 => match zipOf st2 v u with
    | some w => .ok w st2
    | none => .stuck
  | .never, _, _ => .stuck
end
end
/-- the turns of a for -/
def forTurns (g : Val → Fr → Store → Option Fr) (body : Fr → Store → Out) (w : Wk) : Nat → Nat → Fr → Store → Out
  | 0, _, ρ, st => if w.fits st then .next ρ st else .stuck
  | r + 1, i, ρ, st => match w.item st i with
    | none => .stuck
    | some v => match g v ρ st with
      | none => .stuck
      | some ρ' => match body ρ' st with
        | .next ρ2 st2 => forTurns g body w r (i + 1) ρ2 st2
        | .cnt ρ2 st2 => forTurns g body w r (i + 1) ρ2 st2
        | .brk ρ2 st2 => .next ρ2 st2
        | o => o
/-- the turns of a while: so many at most -/
def whTurns (c : Fr → Store → Res Bool) (body : Fr → Store → Out) : Nat → Fr → Store → Out
  | 0, _, _ => .stuck
  | r + 1, ρ, st => match c ρ st with
    | .ok k st1 => if k then (match body ρ st1 with
        | .next ρ2 st2 => whTurns c body r ρ2 st2
        | .cnt ρ2 st2 => whTurns c body r ρ2 st2
        | .brk ρ2 st2 => .next ρ2 st2
        | o => o) else .next ρ st1
    | .exc d v st1 => .exc d v ρ st1
    | .stuck => .stuck
def Res.out {α : Type} (r : Res α) (ρ : Fr) (f : α → Store → Out) : Out := match r with
  | .ok a st => f a st
  | .exc c v st => .exc c v ρ st
  | .stuck => .stuck
/-- o[i] = v -/
def setiV (o i v : Val) (st : Store) : Option Store := match o with
  | .ref n => match st[n]? with
    | some (.lst vs) => match i with
      | .int j => match ixN vs.length j with
        | some k => some (st.set n (.lst (vs.set k v)))
        | none => none
      | _ => none
    | some (.dct kvs) => if decide (kvs.length < 16777216) then match i with
        | .int j => some (st.set n (.dct (putKV kvs (.inl j) v)))
        | .str z => some (st.set n (.dct (putKV kvs (.inr z) v)))
        | _ => none
      else none
    | _ => none
  | _ => none
section
variable (cl : Cl)
mutual
def ex : Sx → Fr → Store → Out
  | .set i e, ρ, st => (ev cl e ρ st).out ρ fun v st1 => .next (ρ.set i (some v)) st1
  | .unp is e, ρ, st => (ev cl e ρ st).out ρ fun v st1 => match (Tg.tp is).give v ρ st1 with
    | some ρ' => .next ρ' st1
    | none => .stuck
  | .seti o i e, ρ, st => (ev cl e ρ st).out ρ fun v st1 => (ev cl o ρ st1).out ρ fun u st2 => (ev cl i ρ st2).out ρ fun w st3 => match setiV u w v st3 with
    | some st4 => .next ρ st4
    | none => .stuck
  | .setf c o f e, ρ, st => (ev cl e ρ st).out ρ fun v st1 => (ev cl o ρ st1).out ρ fun u st2 => match u with
    | .ref n => match insAt c u st2 with
      | some fs => if decide (fs.length < 1000) then .next ρ (st2.set n (.ins c (putFV f v fs))) else .stuck
      | none => .stuck
    | _ => .stuck
  | .exp e, ρ, st => (ev cl e ρ st).out ρ fun _ st1 => .next ρ st1
  | .ret e, ρ, st => (ev cl e ρ st).out ρ fun v st1 => .ret v st1
  | .retn, _, st => .ret .non st
  | .pass, ρ, st => .next ρ st
  | .brk, ρ, st => .brk ρ st
  | .cnt, ρ, st => .cnt ρ st
  | .ite c a b, ρ, st => (evT cl c ρ st).out ρ fun k st1 => if k then exs a ρ st1 else exs b ρ st1
  | .loop t it body, ρ, st => (evI cl it ρ st).out ρ fun w st1 => forTurns t.give (exs body) w w.len 0 ρ st1
  | .wh n c body, ρ, st => whTurns (evT cl c) (exs body) n ρ st
  | .loopd t e body, ρ, st => match pv ρ e with
    | some (.ref n) => match st[n]? with
      | some (.dct kvs) => thaw n (forTurns t.give (exs body) (.tup (kvs.map fun kv => keyV kv.1)) kvs.length 0 ρ (st.set n (.frd kvs)))
      | _ => .stuck
    | _ => .stuck
  | .rais c e, ρ, st => (ev cl e ρ st).out ρ fun v st1 => .exc c v ρ st1
  | .tryo body hs ns suite, ρ, st => match exs body ρ st with
    | .exc c v ρ1 st1 => if hs.contains c then exs suite ρ1 st1 else if ns.contains c then .exc c v ρ1 st1 else .stuck
    | o => o
  | .never, _, _ => .stuck
def exs : List Sx → Fr → Store → Out
  | [], ρ, st => .next ρ st
  | s :: ss, ρ, st => match ex s ρ st with
    | .next ρ1 st1 => exs ss ρ1 st1
    | o => o
end
/-- a def's body, from its arguments -/
def runB (n : Nat) (body : List Sx) (vs : List Val) (st : Store) : Res Val := match exs cl body (vs.map some ++ List.replicate (n - vs.length) none) st with
  | .next _ st => .ok .non st
  | .ret v st => .ok v st
  | .exc c v _ st => .exc c v st
  | _ => .stuck
end
example (cl : Cl) (v : Val) (ρ : Fr) (st : Store) : ev cl (.tup (.cons (.con v) .nil)) ρ st = .ok (.tup [v]) st := rfl
end EV

/-! ## EvSem -/
set_option maxRecDepth 100000
set_option maxHeartbeats 4000000
/-! EvSem: what the small syntax computes is what the machine does: operations and expressions. -/
namespace EV
open PySem L2

theorem PE.imp {X : Cx} {e : Expr} {t t' : TE} (h : PE X e t) (hi : ∀ σ H Q, t' σ H Q → t σ H Q) : PE X e t' := ⟨fun pins s σ H Q I q => h.run pins s σ H Q I (hi σ H Q q)⟩
theorem PA.imp {X : Cx} {e : List Expr} {t t' : TA} (h : PA X e t) (hi : ∀ σ H Q, t' σ H Q → t σ H Q) : PA X e t' := ⟨fun pos pins s σ H Q I q => h.run pos pins s σ H Q I (hi σ H Q q)⟩
theorem PT.imp {X : Cx} {e : Expr} {t t' : TT} (h : PT X e t) (hi : ∀ σ H Q, t' σ H Q → t σ H Q) : PT X e t' := ⟨fun pins s σ H Q I q => h.run pins s σ H Q I (hi σ H Q q)⟩
theorem PO.imp {X : Cx} {e : Option Expr} {t t' : TO} (h : PO X e t) (hi : ∀ σ H Q, t' σ H Q → t σ H Q) : PO X e t' := ⟨fun pins s σ H Q I q => h.run pins s σ H Q I (hi σ H Q q)⟩
theorem PS.imp {X : Cx} {e : Stmt} {t t' : TS} (h : PS X e t) (hi : ∀ D σ H, t' D σ H → t D σ H) : PS X e t' := ⟨fun pins s σ H D I q => h.run pins s σ H D I (hi D σ H q)⟩
theorem PSs.imp {X : Cx} {e : List Stmt} {t t' : TS} (h : PSs X e t) (hi : ∀ D σ H, t' D σ H → t D σ H) : PSs X e t' := ⟨fun pins s σ H D I q => h.run pins s σ H D I (hi D σ H q)⟩

abbrev valueF : Str := "value"
section
variable {α β γ δ : Type}
/-- what is wanted of a result -/
def Post (K : PySem.W.Frag) (CA : Nat → Addr) (W : WX) (RV : List Addr → Hp → α → β → Prop) (σ : L2.St) (μ : List Addr) (H : Hp) (Q : β → Hp → Prop) : Res α → Prop
  | .ok a st => ∀ μ' H' b, Le μ H μ' H' → Rel K CA μ' st H' → RV μ' H' a b → Q b H'
  | .exc c v st => ∀ μ' H' x d, Le μ H μ' H' → Rel K CA μ' st H' → RepV K μ' H' v x → H' d = some (.xd [(valueF, x)]) → W (.ref (CA c)) (some d) σ H'
  | .stuck => False
def tG (K : PySem.W.Frag) (CA : Nat → Addr) (W : WX) (RV : List Addr → Hp → α → β → Prop) (f : Fr → Store → Res α) : L2.St → Hp → (β → Hp → Prop) → Prop :=
  fun σ H Q => ∃ μ ρ st, Rel K CA μ st H ∧ RepE K μ H ρ σ ∧ Post K CA W RV σ μ H Q (f ρ st)
variable {K : PySem.W.Frag} {CA : Nat → Addr} {W : WX} {RV : List Addr → Hp → α → β → Prop} {RU : List Addr → Hp → γ → δ → Prop} {σ : L2.St} {μ : List Addr} {H : Hp} {Q Q' : β → Hp → Prop} {R' : δ → Hp → Prop}
theorem Post.imp {r : Res α} (h : Post K CA W RV σ μ H Q r) (hi : ∀ b H', Q b H' → Q' b H') : Post K CA W RV σ μ H Q' r := by
  cases r with
  | ok a st => exact fun μ' H' b l R v => hi _ _ (h μ' H' b l R v)
  | exc c v st => exact h
  | stuck => exact h
theorem Post.bind {r : Res α} {g : α → Store → Res γ} (h : Post K CA W RU σ μ H R' (r.bind g)) :
    Post K CA W RV σ μ H (fun b H1 => ∃ μ1 a st1, Le μ H μ1 H1 ∧ Rel K CA μ1 st1 H1 ∧ RV μ1 H1 a b ∧ Post K CA W RU σ μ1 H1 R' (g a st1)) r := by
  cases r with
  | ok a st =>
    intro μ' H' b l R v
    refine ⟨μ', a, st, l, R, v, ?_⟩
    have h : Post K CA W RU σ μ H R' (g a st) := h
    cases e : g a st with
    | ok c st2 => rw [e] at h; exact fun μ2 H2 d l2 => h μ2 H2 d (l.trans l2)
    | exc c w st2 => rw [e] at h; exact fun μ2 H2 d x l2 => h μ2 H2 d x (l.trans l2)
    | stuck => rw [e] at h; exact h.elim
  | exc c v st => exact h
  | stuck => exact h
end
abbrev RVal (K : PySem.W.Frag) : List Addr → Hp → Val → V → Prop := fun μ H => RepV K μ H
abbrev RVals (K : PySem.W.Frag) : List Addr → Hp → List Val → List V → Prop := fun μ H => RepL K μ H
abbrev REq (α : Type) : List Addr → Hp → α → α → Prop := fun _ _ a b => a = b
abbrev tE (K : PySem.W.Frag) (CA : Nat → Addr) (W : WX) (f : Fr → Store → Res Val) : TE := tG K CA W (RVal K) f
abbrev tA (K : PySem.W.Frag) (CA : Nat → Addr) (W : WX) (f : Fr → Store → Res (List Val)) : TA := tG K CA W (RVals K) f
abbrev tT (K : PySem.W.Frag) (CA : Nat → Addr) (W : WX) (f : Fr → Store → Res Bool) : TT := tG K CA W (REq Bool) f
abbrev tOi (K : PySem.W.Frag) (CA : Nat → Addr) (W : WX) (f : Fr → Store → Res (Option Int)) : TO := tG K CA W (REq (Option Int)) f

/-- what is wanted of an operation's result -/
def PostO (K : PySem.W.Frag) (CA : Nat → Addr) (μ : List Addr) (H : Hp) (Q : V → Hp → Prop) : Option (Val × Store) → Prop
  | some (w, st) => ∀ μ' H' z, Le μ H μ' H' → Rel K CA μ' st H' → RepV K μ' H' w z → Q z H'
  | none => False
section
variable {K : PySem.W.Frag} {CA : Nat → Addr} {W : WX} {σ : L2.St} {μ : List Addr} {H : Hp} {Q : V → Hp → Prop} {st : Store}
theorem Post.o {r : Option (Val × Store)} (h : Post K CA W (RVal K) σ μ H Q (liftO r)) : PostO K CA μ H Q r := by
  cases r with
  | none => exact h
  | some p => exact h
/-- a value without anything new -/
theorem PostO.val (R : Rel K CA μ st H) {w : Val} {z : V} (h : PostO K CA μ H Q (some (w, st))) (r : RepV K μ H w z) : Q z H := h μ H z .refl R r
theorem PostO.new (R : Rel K CA μ st H) {o : Ob} {p : Addr} {ho : HO} (hp : H p = none) (h : PostO K CA μ H Q (alloc st o)) (r : RepO K CA μ H o ho) : Q (.ref p) (upd H p ho) :=
  h _ _ _ (.of_new hp) (R.alloc hp r) (.ref (alloc_at R))
theorem PostO.newTup (R : Rel K CA μ st H) {vs : List Val} {p : Addr} {xs : List V} (hp : H p = none) (h : PostO K CA μ H Q (some (.tup vs, st))) (r : RepL K μ H vs xs) : Q (.ref p) (upd H p (.tup xs)) :=
  h _ _ _ (.of_fresh hp) (R.beside hp) (.tup (.of upd_same) (r.mono (.of_fresh hp)))
theorem Rel.lst (R : Rel K CA μ st H) {n : Nat} {a : Addr} {vs : List Val} (hm : μ[n]? = some a) (h : lstAt st n = some vs) : ∃ xs, SqL K H a xs ∧ RepL K μ H vs xs := by
  unfold lstAt at h
  cases e : st[n]? with
  | none => rw [e] at h; cases h
  | some o =>
    rw [e] at h
    cases o with
    | lst ws =>
      obtain ⟨ho, h1, h2⟩ := R.real hm e rfl
      cases h
      cases ho <;> first | exact h2.elim | exact ⟨_, .of h1, h2⟩
    | fro ws =>
      cases h
      rcases R.at_ hm e with ⟨f, _⟩ | ⟨vs, xs, eo, h1, h2⟩
      · cases f
      · cases eo; exact ⟨xs, h1.sql, h2⟩
    | _ => cases h
theorem Rel.mut (R : Rel K CA μ st H) {n : Nat} {a : Addr} {vs : List Val} (hm : μ[n]? = some a) (h : mutAt st n = some vs) : ∃ xs, H a = some (.lst xs) ∧ RepL K μ H vs xs := by
  unfold mutAt at h
  cases e : st[n]? with
  | none => rw [e] at h; cases h
  | some o =>
    rw [e] at h
    cases o with
    | lst ws =>
      obtain ⟨ho, h1, h2⟩ := R.real hm e rfl
      cases h
      cases ho <;> first | exact h2.elim | exact ⟨_, h1, h2⟩
    | _ => cases h
theorem Rel.dct (R : Rel K CA μ st H) {n : Nat} {a : Addr} {kvs : List (Key × Val)} (hm : μ[n]? = some a) (h : st[n]? = some (.dct kvs)) : ∃ kxs, H a = some (.dK kxs) ∧ kvs.map (·.1) = kxs.map (·.1) ∧ RepL K μ H (kvs.map (·.2)) (kxs.map (·.2)) := by
  obtain ⟨ho, h1, h2⟩ := R.real hm h rfl
  cases ho <;> first | exact h2.elim | exact ⟨_, h1, h2⟩
theorem Rel.frd (R : Rel K CA μ st H) {n : Nat} {a : Addr} {kvs : List (Key × Val)} (hm : μ[n]? = some a) (h : st[n]? = some (.frd kvs)) : ∃ ob kxs, H a = some (.frz ob (.dK kxs)) ∧ kvs.map (·.1) = kxs.map (·.1) ∧ RepL K μ H (kvs.map (·.2)) (kxs.map (·.2)) := by
  obtain ⟨ho, h1, h2⟩ := R.real hm h rfl
  cases ho <;> first | exact h2.elim | (rename_i ob u; cases u <;> first | exact h2.elim | exact ⟨_, _, h1, h2⟩)
theorem mut_at {n : Nat} {vs : List Val} (h : mutAt st n = some vs) : st[n]? = some (.lst vs) := by
  unfold mutAt at h
  cases e : st[n]? with
  | none => rw [e] at h; cases h
  | some o => rw [e] at h; cases o <;> first | (cases h; rfl) | cases h
theorem line_le {n : Nat} (h : lineOk n = true) : n ≤ sizeLine := by
  rw [sizeLine_eq]
  exact of_decide_eq_true h
end

/-- an operation on two values, over the store -/
def rD (K : PySem.W.Frag) (CA : Nat → Addr) (o : Val → Val → Store → Option (Val × Store)) : R2 := fun x y H Q => ∃ μ v u st, Rel K CA μ st H ∧ RepV K μ H v x ∧ RepV K μ H u y ∧ PostO K CA μ H Q (o v u st)
section
variable {X : Cx} {CA : Nat → Addr}
theorem bin_ok (o : BOp) : OpR X (binaryOp (match o with | .add => .Add | .sub => .Sub | .mul => .Mult | .fdiv => .FloorDiv | .mod => .Mod | .pow => .Pow)) (rD X.K CA (binV o)) := by
  intro pins s σ H x y v u Q I rx ry h
  obtain ⟨μ, v', u', st, R, rv, ru, q⟩ := h
  cases o with
  | add =>
    cases rv with
    | int i =>
      cases ru with
      | int j => exact op_add pins s σ H _ _ v u Q I rx ry ⟨i, j, rfl, rfl, q.val R (.int _)⟩
      | _ => exact q.elim
    | str a =>
      cases ru with
      | str b =>
        unfold binV at q
        dsimp only at q
        split at q
        · rename_i hl
          exact op_add_str pins s σ H _ _ v u Q I rx ry ⟨a, b, rfl, rfl, line_le hl, q.val R (.str _)⟩
        · exact q.elim
      | _ => exact q.elim
    | @ref n a hn =>
      cases ru with
      | @ref m b hm =>
        unfold binV at q
        dsimp only at q
        split at q
        · rename_i xs ys e1 e2
          obtain ⟨zs, h1, r1⟩ := R.mut hn e1
          obtain ⟨ws, h2, r2⟩ := R.mut hm e2
          unfold allocL at q
          split at q
          · rename_i hl
            have l1 := r1.length
            have l2 := r2.length
            have hl' := line_le hl
            rw [List.length_append] at hl'
            exact op_cat pins s σ H _ _ v u Q I rx ry ⟨a, b, zs, ws, rfl, rfl, h1, h2, by omega, fun p hp => q.new R (ho := .lst (zs ++ ws)) hp (r1.append r2)⟩
          · exact q.elim
        · exact q.elim
      | _ => exact q.elim
    | @tup a vs xs h1 r1 =>
      cases ru with
      | @tup b us ys h2 r2 =>
        unfold binV at q
        dsimp only at q
        split at q
        · rename_i hl
          have l1 := r1.length
          have l2 := r2.length
          have hl' := line_le hl
          refine op_catA pins s σ H _ _ v u Q I rx ry ⟨a, b, xs, ys, rfl, rfl, h1, h2, by omega, fun e => ?_, fun e1 e2 => ?_, fun _ _ p hp => q.newTup R hp (r1.append r2)⟩
          · subst e
            cases r1
            exact q.val R (.tup h2 r2)
          · subst e2
            cases r2
            rw [List.append_nil] at q
            exact q.val R (.tup h1 r1)
        · exact q.elim
      | _ => exact q.elim
    | _ => exact q.elim
  | sub =>
    cases rv with
    | int i =>
      cases ru with
      | int j => exact op_sub pins s σ H _ _ v u Q I rx ry ⟨i, j, rfl, rfl, q.val R (.int _)⟩
      | _ => exact q.elim
    | _ => exact q.elim
  | mul =>
    cases rv with
    | int i =>
      cases ru with
      | int j =>
        unfold binV at q
        dsimp only at q
        split at q
        · rename_i hl
          unfold mulOk at hl
          simp only [Bool.or_eq_true, decide_eq_true_eq] at hl
          rcases hl with (hl | hl) | hl
          · exact op_mul pins s σ H _ _ v u Q I rx ry ⟨i, j, rfl, rfl, .inl hl, q.val R (.int _)⟩
          · exact op_mul pins s σ H _ _ v u Q I rx ry ⟨i, j, rfl, rfl, .inr hl, q.val R (.int _)⟩
          · exact op_mulW pins s σ H _ _ v u Q I rx ry ⟨i, j, rfl, rfl, hl, q.val R (.int _)⟩
        · exact q.elim
      | _ => exact q.elim
    | @ref n a hn =>
      cases ru with
      | int k =>
        unfold binV at q
        dsimp only at q
        split at q
        · rename_i xs e1
          obtain ⟨zs, h1, r1⟩ := R.mut hn e1
          split at q
          · rename_i hl
            simp only [Bool.and_eq_true, decide_eq_true_eq] at hl
            have l1 := r1.length
            have hl' := line_le hl.2
            exact op_rep pins s σ H _ _ v u Q I rx ry ⟨a, k, zs, rfl, rfl, h1, hl.1.1, hl.1.2, by rw [← l1]; exact hl', fun p hp => q.new R (ho := .lst (List.replicate k.toNat zs).flatten) hp (r1.flat_replicate _)⟩
          · exact q.elim
        · exact q.elim
      | _ => exact q.elim
    | _ => exact q.elim
  | fdiv =>
    cases rv with
    | int i =>
      cases ru with
      | int j =>
        unfold binV at q
        dsimp only at q
        split at q
        · rename_i hl
          exact op_fdivW pins s σ H _ _ v u Q I rx ry ⟨i, j, rfl, rfl, (by have z := of_decide_eq_true hl; exact z), q.val R (.int _)⟩
        · exact q.elim
      | _ => exact q.elim
    | _ => exact q.elim
  | mod =>
    cases rv with
    | int i =>
      cases ru with
      | int j =>
        unfold binV at q
        dsimp only at q
        split at q
        · rename_i hl
          exact op_mod pins s σ H _ _ v u Q I rx ry ⟨i, j, rfl, rfl, of_decide_eq_true hl, q.val R (.int _)⟩
        · exact q.elim
      | _ => exact q.elim
    | _ => exact q.elim
  | pow =>
    cases rv with
    | int i =>
      cases ru with
      | int j =>
        unfold binV at q
        dsimp only at q
        split at q
        · rename_i hl
          exact op_pow pins s σ H _ _ v u Q I rx ry ⟨i, j, rfl, rfl, (by have z := of_decide_eq_true hl; exact z), q.val R (.int _)⟩
        · exact q.elim
      | _ => exact q.elim
    | _ => exact q.elim
theorem neg_ok : UnR X (unaryOp .USub) (fun x H Q => ∃ μ v st, Rel X.K CA μ st H ∧ RepV X.K μ H v x ∧ PostO X.K CA μ H Q ((negV v).map fun w => (w, st))) := by
  intro pins s σ H x v Q I rx h
  obtain ⟨μ, v', st, R, rv, q⟩ := h
  cases rv with
  | int i => exact un_neg pins s σ H _ v Q I rx ⟨i, rfl, q.val R (.int _)⟩
  | _ => exact q.elim
end
end EV

/-! ## EvSem2 -/
set_option maxRecDepth 100000
set_option maxHeartbeats 4000000
/-! EvSem2: comparisons, truth, subscripts, slices. -/
namespace EV
open PySem L2

section
variable {K : PySem.W.Frag} {CA : Nat → Addr} {μ : List Addr} {H : Hp} {st : Store}
/-- a flat value -/
theorem flat_rep {v : Val} {x : V} (r : RepV K μ H v x) (f : flat v = true) : flatV x = true := by
  cases r <;> first | rfl | cases f
theorem flat_all : ∀ {vs : List Val} {xs : List V}, RepL K μ H vs xs → vs.all flat = true → xs.all flatV = true
  | _, _, .nil, _ => rfl
  | _, _, .cons h t, f => by
    rw [List.all_cons, Bool.and_eq_true] at f ⊢
    exact ⟨flat_rep h f.1, flat_all t f.2⟩
theorem eqF_rep {v u : Val} {x y : V} (r : RepV K μ H v x) (s : RepV K μ H u y) (f : flat v = true) (g : flat u = true) : eqV x y = eqF v u := by
  cases r <;> first
    | (cases f; done)
    | (cases s <;> first | (cases g; done) | rfl)
theorem inF_rep {v : Val} {x : V} (r : RepV K μ H v x) (f : flat v = true) : ∀ {vs : List Val} {xs : List V}, RepL K μ H vs xs → vs.all flat = true → inV x xs = vs.any fun w => eqF w v
  | _, _, .nil, _ => rfl
  | _, _, .cons h t, g => by
    rw [List.all_cons, Bool.and_eq_true] at g
    show (_ :: _ : List V).any _ = (_ :: _ : List Val).any _
    rw [List.any_cons, List.any_cons, eqF_rep h r g.1 f]
    exact congrArg _ (inF_rep r f t g.2)
mutual
theorem py_rep (R : Rel K CA μ st H) : ∀ (k : Nat) (v : Val) (x : V) (d : PyData), RepV K μ H v x → pyOf st k v = some d → Dp K H x d
  | _, _, _, _, .non, e => by simp only [pyOf] at e; cases e; exact .non
  | _, _, _, _, .bl b, e => by simp only [pyOf] at e; cases e; exact .bl b
  | _, _, _, _, .int b, e => by simp only [pyOf] at e; cases e; exact .int b
  | _, _, _, _, .str b, e => by simp only [pyOf] at e; cases e; exact .str b
  | 0, _, _, _, .ref h, e => by simp only [pyOf] at e; cases e
  | 0, _, _, _, .tup h r, e => by simp only [pyOf] at e; cases e
  | k + 1, _, _, _, @RepV.ref _ _ _ n a h, e => by
    simp only [pyOf] at e
    split at e
    · rename_i vs hl
      obtain ⟨xs, hs, r⟩ := R.lst h hl
      obtain ⟨ds, hd, rfl⟩ := Option.map_eq_some_iff.mp e
      exact .lst hs (py_all R k vs xs ds r hd)
    · cases e
  | k + 1, _, _, _, @RepV.tup _ _ _ a vs xs h r, e => by
    simp only [pyOf] at e
    obtain ⟨ds, hd, rfl⟩ := Option.map_eq_some_iff.mp e
    exact .tup h (py_all R k vs xs ds r hd)
theorem py_all (R : Rel K CA μ st H) : ∀ (k : Nat) (vs : List Val) (xs : List V) (ds : List PyData), RepL K μ H vs xs → pyAll st k vs = some ds → DpAll K H xs ds
  | _, _, _, _, .nil, e => by simp only [pyAll] at e; cases e; exact .nil
  | 0, _, _, _, .cons h t, e => by simp only [pyAll] at e; cases e
  | k + 1, _, _, _, @RepL.cons _ _ _ v x vs xs h t, e => by
    simp only [pyAll] at e
    split at e
    · rename_i d ds h1 h2
      cases e
      exact .cons (py_rep R k v x d h h1) (py_all R k vs xs ds t h2)
    · cases e
end
theorem find_rep {k : Key} : ∀ {kvs : List (Key × Val)} {kxs : List (Key × V)}, kvs.map (·.1) = kxs.map (·.1) → RepL K μ H (kvs.map (·.2)) (kxs.map (·.2)) →
    (∀ v, (kvs.find? fun kv => decide (kv.1 = k)).map (·.2) = some v → ∃ x, valV kxs k = some x ∧ RepV K μ H v x) ∧ ((kvs.any fun kv => decide (kv.1 = k)) = (valV kxs k).isSome)
  | [], [], _, _ => ⟨fun v h => by simp at h, rfl⟩
  | [], _ :: _, e, _ => by simp at e
  | _ :: _, [], e, _ => by simp at e
  | (a, v) :: kvs, (b, x) :: kxs, e, r => by
    rw [List.map_cons, List.map_cons] at e
    obtain ⟨e1, e2⟩ := List.cons.inj e
    have e1 : a = b := e1
    subst e1
    cases r with
    | cons h t =>
      obtain ⟨i1, i2⟩ := find_rep (k := k) e2 t
      by_cases z : a = k
      · refine ⟨fun w hw => ?_, ?_⟩
        · rw [List.find?_cons_of_pos (by simpa using z)] at hw
          cases hw
          refine ⟨x, ?_, h⟩
          unfold valV
          rw [List.find?_cons_of_pos (by simpa using z)]
          rfl
        · rw [List.any_cons, decide_eq_true z]
          unfold valV
          rw [List.find?_cons_of_pos (by simpa using z)]
          rfl
      · refine ⟨fun w hw => ?_, ?_⟩
        · rw [List.find?_cons_of_neg (by simpa using z)] at hw
          obtain ⟨y, hy, r⟩ := i1 w hw
          refine ⟨y, ?_, r⟩
          unfold valV
          rw [List.find?_cons_of_neg (by simpa using z)]
          exact hy
        · rw [List.any_cons, decide_eq_false z, Bool.false_or, i2]
          unfold valV
          rw [List.find?_cons_of_neg (by simpa using z)]
theorem atI_rep {vs : List Val} {xs : List V} {i : Int} {v : Val} (r : RepL K μ H vs xs) (h : atI vs i = some v) : ∃ x, atI xs i = some x ∧ RepV K μ H v x := by
  unfold atI at h ⊢
  rw [← r.length]
  cases e : ixN vs.length i with
  | none => rw [e] at h; cases h
  | some j =>
    rw [e] at h
    exact r.get h
theorem cut_rep {vs : List Val} {xs : List V} {lo hi : Option Int} (r : RepL K μ H vs xs) : RepL K μ H (cut vs lo hi) (cutV xs lo hi) := by
  unfold cut cutV
  rw [r.length]
  exact (r.drop _).take _
end
/-- a comparison over the store -/
def rC (K : PySem.W.Frag) (CA : Nat → Addr) (o : Val → Val → Store → Option Bool) : R2 := fun x y H Q => ∃ μ v u st, Rel K CA μ st H ∧ RepV K μ H v x ∧ RepV K μ H u y ∧ ∃ k, o v u st = some k ∧ Q (.bl k) H
def copOf : COp → CmpOp
  | .eq => .Eq | .ne => .NotEq | .lt => .Lt | .le => .LtE | .gt => .Gt | .ge => .GtE | .isN => .Is | .notN => .IsNot | .inn => .In | .notin => .NotIn
section
variable {X : Cx} {CA : Nat → Addr}
theorem flat_scal {K : PySem.W.Frag} {μ : List Addr} {H : Hp} {v u : Val} {x y : V} (r : RepV K μ H v x) (s : RepV K μ H u y) (f : flat v = true) (g : flat u = true) (h : scal x y = true) : decide (x = y) = eqF v u := by
  cases r <;> first
    | (cases f; done)
    | (cases s <;> first | (cases g; done) | (cases h; done) | exact dec_int | exact dec_bl | exact dec_str | simp [eqF])
theorem eq_ok (hu : X.A.units + 64 < cLine) : OpR X (compareOp .Eq) (rC X.K CA fun v u st => eqS st v u) := by
  intro pins s σ H x y v u Q I rx ry h
  obtain ⟨μ, v', u', st, R, rv, ru, k, e, q⟩ := h
  have e : eqS st v' u' = some k := e
  unfold eqS at e
  by_cases f : (flat v' && flat u') = true
  · rw [if_pos f] at e
    cases e
    rw [Bool.and_eq_true] at f
    by_cases hs : scal x y = true
    · exact op_eq pins s σ H x y v u Q I rx ry ⟨hs, by rw [flat_scal rv ru f.1 f.2 hs]; exact q⟩
    · refine op_eqD hu pins s σ H x y v u Q I rx ry ?_
      cases rv <;> first
        | (cases f.1; done)
        | (cases ru <;> first
          | (cases f.2; done)
          | (exact absurd rfl hs)
          | exact ⟨_, _, .bl _, .int _, rfl, rfl, q⟩
          | exact ⟨_, _, .int _, .bl _, rfl, rfl, q⟩)
  · rw [if_neg f] at e
    split at e
    · rename_i d d' h1 h2
      split at e
      · rename_i hsh
        cases e
        rw [Bool.and_eq_true] at hsh
        exact op_eqD hu pins s σ H x y v u Q I rx ry ⟨d, d', py_rep R _ _ _ _ rv h1, py_rep R _ _ _ _ ru h2, hsh.1, hsh.2, q⟩
      · cases e
    · cases e
theorem ne_ok (hu : X.A.units + 64 < cLine) : OpR X (compareOp .NotEq) (rC X.K CA fun v u st => (eqS st v u).map (!·)) := by
  intro pins s σ H x y v u Q I rx ry h
  obtain ⟨μ, v', u', st, R, rv, ru, k', e', q'⟩ := h
  obtain ⟨k, e, rfl⟩ := Option.map_eq_some_iff.mp e'
  have e : eqS st v' u' = some k := e
  unfold eqS at e
  by_cases f : (flat v' && flat u') = true
  · rw [if_pos f] at e
    cases e
    rw [Bool.and_eq_true] at f
    by_cases hs : scal x y = true
    · exact op_ne pins s σ H x y v u Q I rx ry ⟨hs, by rw [flat_scal rv ru f.1 f.2 hs]; exact q'⟩
    · refine op_neD hu pins s σ H x y v u Q I rx ry ?_
      cases rv <;> first
        | (cases f.1; done)
        | (cases ru <;> first
          | (cases f.2; done)
          | (exact absurd rfl hs)
          | exact ⟨_, _, .bl _, .int _, rfl, rfl, q'⟩
          | exact ⟨_, _, .int _, .bl _, rfl, rfl, q'⟩)
  · rw [if_neg f] at e
    split at e
    · rename_i d d' h1 h2
      split at e
      · rename_i hsh
        cases e
        rw [Bool.and_eq_true] at hsh
        exact op_neD hu pins s σ H x y v u Q I rx ry ⟨d, d', py_rep R _ _ _ _ rv h1, py_rep R _ _ _ _ ru h2, hsh.1, hsh.2, q'⟩
      · cases e
    · cases e
theorem in_ok (hu : X.A.units + 64 < cLine) (neg : Bool) : OpR X (compareOp (if neg then .NotIn else .In)) (rC X.K CA fun v u st => (inS st v u).map fun k => if neg then !k else k) := by
  intro pins s σ H x y v u Q I rx ry h
  obtain ⟨μ, v', u', st, R, rv, ru, k', e', q'⟩ := h
  obtain ⟨k, e, rfl⟩ := Option.map_eq_some_iff.mp e'
  have seq : ∀ (p : Addr) (xs : List V) (vs : List Val), y = .ref p → (SqL X.K H p xs ∨ SqT X.K H p xs) → RepL X.K μ H vs xs → (if flat v' && vs.all flat then some (vs.any fun w => eqF w v') else none) = some k →
      wpAny (model X.prog X.w) X.A (compareOp (if neg then .NotIn else .In) v u) (EP X pins σ Q) X.xe s := fun p xs vs ey hq r ek => by
    split at ek
    · rename_i f
      cases ek
      rw [Bool.and_eq_true] at f
      have z := inF_rep rv f.1 r f.2
      cases neg with
      | true => exact op_notIn_seq pins s σ H x y v u Q I rx ry ⟨p, xs, ey, hq, flat_rep rv f.1, flat_all r f.2, by rw [if_pos rfl, z]; exact q'⟩
      | false => exact op_in_seq pins s σ H x y v u Q I rx ry ⟨p, xs, ey, hq, flat_rep rv f.1, flat_all r f.2, by rw [if_neg Bool.false_ne_true, z]; exact q'⟩
    · cases ek
  cases ru with
  | str b =>
    cases rv with
    | str a =>
      have e : some (!(Builtin.Str.occurrences b a 0 b.length 1).isEmpty) = some k := e
      cases e
      cases neg with
      | true => exact op_notin_str pins s σ H _ _ v u Q I rx ry ⟨a, b, rfl, rfl, q'⟩
      | false => exact op_in_str pins s σ H _ _ v u Q I rx ry ⟨a, b, rfl, rfl, q'⟩
    | _ => cases e
  | @tup p vs xs h r => exact seq p xs vs rfl (.inr h) r e
  | @ref n p hn =>
    have e : inS st v' _ = some k := e
    unfold inS at e
    dsimp only at e
    split at e
    · rename_i kvs ho
      obtain ⟨kxs, h1, h2, h3⟩ := R.dct hn ho
      have dk : ∀ (kk : Key), x = kV kk → (kvs.any fun kv => decide (kv.1 = kk)) = k → wpAny (model X.prog X.w) X.A (compareOp (if neg then .NotIn else .In) v u) (EP X pins σ Q) X.xe s := fun kk ex ek => by
        have g := DGet.k (k := kk) h1
        rw [← ex] at g
        obtain rfl : u = Value.ref p := ry
        have z := (find_rep (k := kk) h2 h3).2
        rw [ek] at z
        cases neg with
        | true => exact d_notIn (A := X.A) (by omega) I g rx fun s3 I3 => ⟨.bl (!(valV kxs kk).isSome), H, I3, rfl, by rw [← z]; exact q'⟩
        | false => exact d_in (A := X.A) (by omega) I g rx fun s3 I3 => ⟨.bl (valV kxs kk).isSome, H, I3, rfl, by rw [← z]; exact q'⟩
      cases rv with
      | int i => exact dk (.inl i) rfl (Option.some.inj e)
      | str z => exact dk (.inr z) rfl (Option.some.inj e)
      | _ => cases e
    · rename_i vs ho
      obtain ⟨xs, h1, h2⟩ := R.lst hn (show lstAt st n = some vs by unfold lstAt; rw [ho])
      exact seq p xs vs rfl (.inl h1) h2 e
    · rename_i vs ho
      obtain ⟨xs, h1, h2⟩ := R.lst hn (show lstAt st n = some vs by unfold lstAt; rw [ho])
      exact seq p xs vs rfl (.inl h1) h2 e
    · cases e
  | _ => cases e
theorem op_isB (neg : Bool) : OpR X (compareOp (if neg then .IsNot else .Is)) fun x y H Q => ∃ a b, x = .bl a ∧ y = .bl b ∧ Q (.bl (if neg then !(a == b) else a == b)) H := by
  rintro pins s σ H _ _ v u Q I rx ry ⟨a, b, rfl, rfl, q⟩
  have rx : v = .bool a := rx
  have ry : u = .bool b := ry
  subst rx ry
  have e : compareOp (if neg then .IsNot else .Is) (.bool a) (.bool b) = pure (.bool (if neg then !(a == b) else a == b)) := by cases neg <;> cases a <;> cases b <;> rfl
  rw [e]
  exact wpAny_pure ⟨.bl (if neg then !(a == b) else a == b), H, I, rfl, q⟩
theorem cmp_ok (hu : X.A.units + 64 < cLine) (o : COp) : OpR X (compareOp (copOf o)) (rC X.K CA fun v u st => cmpV o v u st) := by
  cases o with
  | eq => exact eq_ok hu
  | ne => exact ne_ok hu
  | inn =>
    intro pins s σ H x y v u Q I rx ry h
    obtain ⟨μ, v', u', st, R, rv, ru, k, e, q⟩ := h
    exact in_ok (CA := CA) hu false pins s σ H x y v u Q I rx ry ⟨μ, v', u', st, R, rv, ru, k, by show (inS st v' u').map _ = some k; rw [show inS st v' u' = some k from e]; rfl, q⟩
  | notin => exact in_ok (CA := CA) hu true
  | isN =>
    intro pins s σ H x y v u Q I rx ry h
    obtain ⟨μ, v', u', st, R, rv, ru, k, e, q⟩ := h
    cases ru with
    | non =>
      refine op_isN pins s σ H _ _ v u Q I rx ry ⟨rfl, ?_⟩
      cases rv <;> (cases e; simpa using q)
    | bl b => cases rv with
      | bl a => cases e; exact op_isB false pins s σ H _ _ v u Q I rx ry ⟨a, b, rfl, rfl, q⟩
      | _ => cases e
    | _ => cases e
  | notN =>
    intro pins s σ H x y v u Q I rx ry h
    obtain ⟨μ, v', u', st, R, rv, ru, k, e, q⟩ := h
    cases ru with
    | non =>
      refine op_notN pins s σ H _ _ v u Q I rx ry ⟨rfl, ?_⟩
      cases rv <;> (cases e; simpa using q)
    | bl b => cases rv with
      | bl a => cases e; exact op_isB true pins s σ H _ _ v u Q I rx ry ⟨a, b, rfl, rfl, q⟩
      | _ => cases e
    | _ => cases e
  | lt =>
    intro pins s σ H x y v u Q I rx ry h
    obtain ⟨μ, v', u', st, R, rv, ru, k, e, q⟩ := h
    cases rv with
    | int i => cases ru with
      | int j => cases e; exact op_lt pins s σ H _ _ v u Q I rx ry ⟨i, j, rfl, rfl, q⟩
      | _ => cases e
    | str i => cases ru with
      | str j => cases e; exact op_lt_str pins s σ H _ _ v u Q I rx ry ⟨i, j, rfl, rfl, q⟩
      | _ => cases e
    | _ => cases ru <;> cases e
  | le =>
    intro pins s σ H x y v u Q I rx ry h
    obtain ⟨μ, v', u', st, R, rv, ru, k, e, q⟩ := h
    cases rv with
    | int i => cases ru with
      | int j => cases e; exact op_le pins s σ H _ _ v u Q I rx ry ⟨i, j, rfl, rfl, q⟩
      | _ => cases e
    | str i => cases ru with
      | str j => cases e; exact op_le_str pins s σ H _ _ v u Q I rx ry ⟨i, j, rfl, rfl, q⟩
      | _ => cases e
    | _ => cases ru <;> cases e
  | gt =>
    intro pins s σ H x y v u Q I rx ry h
    obtain ⟨μ, v', u', st, R, rv, ru, k, e, q⟩ := h
    cases rv with
    | int i => cases ru with
      | int j => cases e; exact op_gt pins s σ H _ _ v u Q I rx ry ⟨i, j, rfl, rfl, q⟩
      | _ => cases e
    | str i => cases ru with
      | str j => cases e; exact op_gt_str pins s σ H _ _ v u Q I rx ry ⟨i, j, rfl, rfl, q⟩
      | _ => cases e
    | _ => cases ru <;> cases e
  | ge =>
    intro pins s σ H x y v u Q I rx ry h
    obtain ⟨μ, v', u', st, R, rv, ru, k, e, q⟩ := h
    cases rv with
    | int i => cases ru with
      | int j => cases e; exact op_ge pins s σ H _ _ v u Q I rx ry ⟨i, j, rfl, rfl, q⟩
      | _ => cases e
    | str i => cases ru with
      | str j => cases e; exact op_ge_str pins s σ H _ _ v u Q I rx ry ⟨i, j, rfl, rfl, q⟩
      | _ => cases e
    | _ => cases ru <;> cases e
end

/-! ### truth -/
def rTr (K : PySem.W.Frag) (CA : Nat → Addr) : V → Hp → (Bool → Hp → Prop) → Prop := fun x H Q => ∃ μ v st, Rel K CA μ st H ∧ RepV K μ H v x ∧ ∃ k, truV st v = some k ∧ Q k H
theorem isEmpty_rep {K : PySem.W.Frag} {μ : List Addr} {H : Hp} {vs : List Val} {xs : List V} (r : RepL K μ H vs xs) : vs.isEmpty = xs.isEmpty := by cases r <;> rfl
section
variable {X : Cx} {CA : Nat → Addr}
theorem tru_ok' : TruR X (rTr X.K CA) := by
  intro pins s σ H x v Q I rx h
  obtain ⟨μ, v', st, R, rv, k, e, q⟩ := h
  refine L2.tru_ok pins s σ H x v Q I rx ⟨k, ?_, q⟩
  cases rv with
  | non => cases e; rfl
  | bl b => cases e; rfl
  | int i => cases e; rfl
  | str z =>
    have e : (if lineOk z.length then some ((z.length : Int) != 0) else none) = some k := e
    split at e
    · rename_i hl
      cases e
      exact ⟨line_le hl, rfl⟩
    · cases e
  | @tup a vs xs h r =>
    cases e
    exact .inr (.inl ⟨xs, h, by rw [isEmpty_rep r]⟩)
  | @ref n a hn =>
    unfold truV at e
    dsimp only at e
    split at e
    · rename_i vs ho
      cases e
      obtain ⟨xs, h1, h2⟩ := R.lst hn (show lstAt st n = some vs by unfold lstAt; rw [ho])
      exact .inl ⟨xs, h1, by rw [isEmpty_rep h2]⟩
    · rename_i vs ho
      cases e
      obtain ⟨xs, h1, h2⟩ := R.lst hn (show lstAt st n = some vs by unfold lstAt; rw [ho])
      exact .inl ⟨xs, h1, by rw [isEmpty_rep h2]⟩
    · rename_i kvs ho
      cases e
      obtain ⟨kxs, h1, h2, h3⟩ := R.dct hn ho
      refine .inr (.inr ⟨kxs, h1, ?_⟩)
      have z : kvs.length = kxs.length := by simpa using congrArg List.length h2
      cases kvs <;> cases kxs <;> first | rfl | simp at z
    · cases e
end
/-! ### subscripts -/
section
variable {X : Cx} {CA : Nat → Addr}
def oIdx (v u : Val) (st : Store) : Option (Val × Store) := (idxV st v u).map fun w => (w, st)
theorem idx_ok (hu : X.A.units + 64 < cLine) : IxR X (rD X.K CA oIdx) := by
  intro value slice pins s σ H x y v u Q I rx ry h hs
  obtain ⟨μ, v', u', st, R, rv, ru, q⟩ := h
  unfold oIdx at q
  cases e : idxV st v' u' with
  | none => rw [e] at q; exact q.elim
  | some w =>
    rw [e] at q
    have q : PostO X.K CA μ H Q (some (w, st)) := q
    have dk : ∀ (n : Nat) (a : Addr) (kvs : List (Key × Val)) (kk : Key), x = .ref a → y = kV kk → μ[n]? = some a → st[n]? = some (.dct kvs) → (kvs.find? fun kv => decide (kv.1 = kk)).map (·.2) = some w →
        wpAny (model X.prog X.w) X.A (PyProof.Rows.subscriptTail value slice v u) (EP X pins σ Q) X.xe s := fun n a kvs kk ex ey hn ho hf => by
      obtain ⟨kxs, h1, h2, h3⟩ := R.dct hn ho
      obtain ⟨z, hz, r⟩ := (find_rep (k := kk) h2 h3).1 w hf
      have g := DGet.k (k := kk) h1
      rw [hz, ← ey] at g
      rw [ex] at rx
      obtain rfl : v = Value.ref a := rx
      exact PyProof.Rows.tail_any (dict_typeIs I g) PySem.F.slot_dict_getitem.lookup (d_getItem (A := X.A) (by omega) I g ry fun w' s3 I3 rw' => ⟨z, H, I3, rw', q.val R r⟩) hs
    have dk' : ∀ (n : Nat) (a : Addr) (kvs : List (Key × Val)) (kk : Key), x = .ref a → y = kV kk → μ[n]? = some a → st[n]? = some (.frd kvs) → (kvs.find? fun kv => decide (kv.1 = kk)).map (·.2) = some w →
        wpAny (model X.prog X.w) X.A (PyProof.Rows.subscriptTail value slice v u) (EP X pins σ Q) X.xe s := fun n a kvs kk ex ey hn ho hf => by
      obtain ⟨ob, kxs, h1, h2, h3⟩ := R.frd hn ho
      obtain ⟨z, hz, r⟩ := (find_rep (k := kk) h2 h3).1 w hf
      have g : DGet H a (kV kk) (valV kxs kk) := .inl ⟨kxs, kk, .inr ⟨ob, h1⟩, rfl, rfl⟩
      rw [hz, ← ey] at g
      rw [ex] at rx
      obtain rfl : v = Value.ref a := rx
      exact PyProof.Rows.tail_any (dict_typeIs I g) PySem.F.slot_dict_getitem.lookup (d_getItem (A := X.A) (by omega) I g ry fun w' s3 I3 rw' => ⟨z, H, I3, rw', q.val R r⟩) hs
    cases ru with
    | int i =>
      cases rv with
      | @ref n a hn =>
        unfold idxV at e
        dsimp only at e
        split at e
        · rename_i vs hl
          obtain ⟨xs, h1, h2⟩ := R.lst hn hl
          obtain ⟨z, hz, r⟩ := atI_rep h2 e
          exact ix_list value slice pins s σ H _ _ v u Q I rx ry ⟨a, xs, i, z, rfl, rfl, h1, hz, q.val R r⟩ hs
        · split at e
          · rename_i kvs ho
            exact dk n a kvs (.inl i) rfl rfl hn ho e
          · cases e
      | @tup a vs xs h1 h2 =>
        obtain ⟨z, hz, r⟩ := atI_rep h2 e
        exact ix_tup value slice pins s σ H _ _ v u Q I rx ry ⟨a, xs, i, z, rfl, rfl, h1, hz, q.val R r⟩ hs
      | str z =>
        have e : (if lineOk z.length then (atI z.cps.toList i).map fun c => Val.str ⟨#[c]⟩ else none) = some w := e
        split at e
        · rename_i hl
          obtain ⟨c, hc, rfl⟩ := Option.map_eq_some_iff.mp e
          exact ix_str value slice pins s σ H _ _ v u Q I rx ry ⟨z, i, c, rfl, rfl, line_le hl, hc, q.val R (.str _)⟩ hs
        · cases e
      | _ => cases e
    | str z =>
      cases rv with
      | @ref n a hn =>
        unfold idxV at e
        dsimp only at e
        split at e
        · rename_i kvs ho
          exact dk n a kvs (.inr z) rfl rfl hn ho e
        · rename_i kvs ho
          exact dk' n a kvs (.inr z) rfl rfl hn ho e
        · cases e
      | _ => cases e
    | _ => cases e
def rSl (K : PySem.W.Frag) (CA : Nat → Addr) : V → Option Int → Option Int → Hp → VK → Prop := fun x lo hi H Q => ∃ μ v st, Rel K CA μ st H ∧ RepV K μ H v x ∧ PostO K CA μ H Q (slcV v lo hi st)
theorem slc_ok : SlR X (rSl X.K CA) := by
  intro pins s σ H x v vl vu lo hi sl Q I rx hs pl pu h
  obtain ⟨μ, v', st, R, rv, q⟩ := h
  cases rv with
  | @ref n a hn =>
    unfold slcV at q
    dsimp only at q
    split at q
    · rename_i vs hl
      obtain ⟨xs, h1, h2⟩ := R.lst hn hl
      exact sl_list pins s σ H _ v vl vu lo hi sl Q I rx hs pl pu ⟨a, xs, rfl, h1, fun p hp => q.new R (ho := .lst (cutV xs lo hi)) hp (cut_rep h2)⟩
    · exact q.elim
  | @tup a vs xs h1 h2 =>
    refine sl_tupA pins s σ H _ v vl vu lo hi sl Q I rx hs pl pu ⟨a, xs, rfl, h1, fun z => ?_, fun _ p hp => q.newTup R hp (cut_rep h2)⟩
    have e : cut vs lo hi = vs := by
      unfold cut
      rw [h2.length, z.1, z.2, List.drop_zero, Nat.sub_zero, ← h2.length, List.take_length]
    exact q.val R (w := .tup (cut vs lo hi)) (by rw [e]; exact .tup h1 h2)
  | str z =>
    unfold slcV at q
    dsimp only at q
    split at q
    · rename_i hl
      exact sl_str pins s σ H _ v vl vu lo hi sl Q I rx hs pl pu ⟨z, rfl, line_le hl, q.val R (.str _)⟩
    · exact q.elim
  | _ => exact q.elim
end
end EV

/-! ## EvRules -/
set_option maxRecDepth 100000
set_option maxHeartbeats 4000000
/-! EvRules: the judgements (DE, DA, DT, DO) and a rule a construct. -/
namespace EV
open PySem L2

/-- what the small syntax leans on: own defs, built-in functions, methods of built-in types; the classes' places -/
structure Lib where
  cl : Cl
  CA : Nat → Addr
abbrev Lib.e (L : Lib) := ev L.cl
abbrev Lib.es (L : Lib) := evs L.cl
abbrev Lib.o (L : Lib) := evo L.cl
abbrev Lib.t (L : Lib) := evT L.cl
abbrev Lib.ts (L : Lib) := evTs L.cl
abbrev Lib.i (L : Lib) := evI L.cl
def DE (L : Lib) (X : Cx) (W : WX) (e : Expr) (x : Ex) : Prop := PE X e (tE X.K L.CA W (L.e x))
def DA (L : Lib) (X : Cx) (W : WX) (e : List Expr) (x : Exs) : Prop := PA X e (tA X.K L.CA W (L.es x))
def DT (L : Lib) (X : Cx) (W : WX) (e : Expr) (x : Tx) : Prop := PT X e (tT X.K L.CA W (L.t x))
def DW (L : Lib) (X : Cx) (W : WX) (e : Expr) (x : Tx) : Prop := PW X e (tT X.K L.CA W (L.t x))
def DO (L : Lib) (X : Cx) (W : WX) (e : Option Expr) (x : Exo) : Prop := PO X e (tOi X.K L.CA W (L.o x))
section
variable {L : Lib} {X : Cx} {W : WX} {a b c e : Expr} {es : List Expr} {x y z : Ex} {xs : Exs} {pos : Pos}
theorem PW.imp {X : Cx} {e : Expr} {t t' : TT} (h : PW X e t) (hi : ∀ σ H Q, t' σ H Q → t σ H Q) : PW X e t' := ⟨fun wh pins s σ H Q I q => h.run wh pins s σ H Q I (hi σ H Q q)⟩
theorem DW.t {t : Tx} (h : DW L X W e t) : DT L X W e t := L2.PW.pt h

theorem d_var (i : Nat) {n : Str} (hN : X.N[i]? = some n := by rfl) (hv : Vis X.env.scope n := by first | exact Or.inl rfl | exact Or.inr (Or.inl rfl) | exact Or.inr (Or.inr rfl)) (hd : (n == ("__debug__" : Str)) = false := by decide)
    (hcd : (n == ("__classdict__" : Str)) = false := by decide) : DE L X W (.Name n pos) (.var i) := by
  refine PE.imp (pe_var hN hv hd hcd) fun σ H Q h => ?_
  obtain ⟨μ, ρ, st, R, E, P⟩ := h
  have P : Post X.K L.CA W (RVal X.K) σ μ H Q (match ρ[i]? with | some (some v) => .ok v st | _ => .stuck) := P
  split at P
  · rename_i v hv
    obtain ⟨w, h1, h2⟩ := E.at_ i v hv
    exact ⟨w, h1, P μ H w .refl R h2⟩
  · exact P.elim
theorem con_imp {v : Val} {w : V} (r : ∀ μ H, RepV X.K μ H v w) (h : PE X e (tC w)) : DE L X W e (.con v) := by
  refine PE.imp h fun σ H Q h => ?_
  obtain ⟨μ, ρ, st, R, E, P⟩ := h
  exact P μ H w .refl R (r μ H)
theorem d_int {i : Int} {j : Nat} : DE L X W (.Constant (.int i) j pos) (.con (.int i)) := con_imp (fun _ _ => .int i) pe_int
theorem d_bl {b : Bool} {j : Nat} : DE L X W (.Constant (.bool b) j pos) (.con (.bl b)) := con_imp (fun _ _ => .bl b) pe_bl
theorem d_non {j : Nat} : DE L X W (.Constant .none j pos) (.con .non) := con_imp (fun _ _ => .non) pe_non
theorem d_str {z : Str} {j : Nat} : DE L X W (.Constant (.str z) j pos) (.con (.str z)) := con_imp (fun _ _ => .str z) pe_str

/-- two expressions and an operation on their values -/
theorem op_imp {r : R2} {o : Val → Val → Store → Res Val} {f : Fr → Store → Res Val} {σ : L2.St} {H : Hp} {Q : VK} (hf : ∀ ρ st, f ρ st = (L.e x ρ st).bind fun v st1 => (L.e y ρ st1).bind fun u st2 => o v u st2)
    (ho : ∀ μ v u st w z H, Rel X.K L.CA μ st H → RepV X.K μ H v w → RepV X.K μ H u z → Post X.K L.CA W (RVal X.K) σ μ H Q (o v u st) → r w z H Q)
    (h : tE X.K L.CA W f σ H Q) : tOp r (tE X.K L.CA W (L.e x)) (tE X.K L.CA W (L.e y)) σ H Q := by
  obtain ⟨μ, ρ, st, R, E, P⟩ := h
  rw [hf] at P
  refine ⟨μ, ρ, st, R, E, P.bind.imp fun w H1 h1 => ?_⟩
  obtain ⟨μ1, v, st1, l1, R1, rv, P1⟩ := h1
  refine ⟨μ1, ρ, st1, R1, E.mono l1, P1.bind.imp fun z H2 h2 => ?_⟩
  obtain ⟨μ2, u, st2, l2, R2, ru, P2⟩ := h2
  exact ho μ2 v u st2 w z H2 R2 (rv.mono l2) ru P2
def bopOf : BOp → Operator
  | .add => .Add | .sub => .Sub | .mul => .Mult | .fdiv => .FloorDiv | .mod => .Mod | .pow => .Pow
theorem d_bin (o : BOp) (ha : DE L X W a x) (hb : DE L X W b y) : DE L X W (.BinOp a (bopOf o) b pos) (.bin o x y) := by
  have ho : OpR X (binaryOp (bopOf o)) (rD X.K L.CA (binV o)) := by
    have z := bin_ok (X := X) (CA := L.CA) o
    cases o <;> exact z
  refine PE.imp (pe_op ho ha hb) fun σ H Q h => op_imp (fun _ _ => rfl) (fun μ v u st w z H R rv ru P => ⟨μ, v, u, st, R, rv, ru, P.o⟩) h
theorem d_neg (ha : DE L X W a x) : DE L X W (.UnaryOp .USub a pos) (.neg x) := by
  refine PE.imp (pe_un (neg_ok (CA := L.CA)) ha) fun σ H Q h => ?_
  obtain ⟨μ, ρ, st, R, E, P⟩ := h
  refine ⟨μ, ρ, st, R, E, (Post.bind (RV := RVal X.K) P).imp fun w H1 h1 => ?_⟩
  obtain ⟨μ1, v, st1, l1, R1, rv, P1⟩ := h1
  exact ⟨μ1, v, st1, R1, rv, P1.o⟩
theorem d_cmp (o : COp) (hu : X.A.units + 64 < cLine) (ha : DE L X W a x) (hb : DE L X W b y) (hm : behindInMarks (copOf o) b = false) : DE L X W (.Compare a [copOf o] [b] pos) (.cmp o x y) := by
  refine PE.imp (pe_cmpR (cmp_ok (CA := L.CA) hu o) ha hb hm) fun σ H Q h => op_imp (fun _ _ => rfl) (fun μ v u st w z H R rv ru P => ?_) h
  have q := P.o
  cases e : cmpV o v u st with
  | none => rw [e] at q; exact q.elim
  | some k => rw [e] at q; exact ⟨μ, v, u, st, R, rv, ru, k, e, PostO.val (w := .bl k) R q (.bl k)⟩
theorem d_idx (hu : X.A.units + 64 < cLine) (ha : DE L X W a x) (hb : DE L X W b y) (hs : PlainIx b := by intro _ _; rfl) : DE L X W (.Subscript a b pos) (.idx x y) :=
  PE.imp (pe_ix (idx_ok (CA := L.CA) hu) ha hb hs) fun σ H Q h => op_imp (fun _ _ => rfl) (fun μ v u st w z H R rv ru P => ⟨μ, v, u, st, R, rv, ru, P.o⟩) h
/-! ### parts of slices -/
theorem do_none : DO L X W none .none := by
  refine PO.imp po_none fun σ H Q h => ?_
  obtain ⟨μ, ρ, st, R, E, P⟩ := h
  exact P μ H none .refl R rfl
theorem do_some (ha : DE L X W a x) (hp : ∀ {te : TE}, PE X a te → PO X (some a) (tPart te) := by intro _ h; exact po_some h) : DO L X W (some a) (.some x) := by
  refine PO.imp (hp ha) fun σ H Q h => ?_
  obtain ⟨μ, ρ, st, R, E, P⟩ := h
  refine ⟨μ, ρ, st, R, E, (Post.bind (RV := RVal X.K) P).imp fun w H1 h1 => ?_⟩
  obtain ⟨μ1, v, st1, l1, R1, rv, P1⟩ := h1
  cases rv with
  | int i => exact ⟨i, rfl, P1 μ1 H1 (some i) .refl R1 rfl⟩
  | _ => exact P1.elim
theorem d_slc {lo hi : Option Expr} {l h : Exo} {p2 : Pos} (ha : DE L X W a x) (hl : DO L X W lo l) (hh : DO L X W hi h) : DE L X W (.Subscript a (.Slice lo hi none p2) pos) (.slc x l h) := by
  refine PE.imp (pe_slice (slc_ok (CA := L.CA)) ha hl hh) fun σ H Q q => ?_
  obtain ⟨μ, ρ, st, R, E, P⟩ := q
  refine ⟨μ, ρ, st, R, E, (Post.bind (RV := RVal X.K) P).imp fun w H1 h1 => ?_⟩
  obtain ⟨μ1, v, st1, l1, R1, rv, P1⟩ := h1
  refine ⟨μ1, ρ, st1, R1, E.mono l1, (Post.bind (RV := REq (Option Int)) P1).imp fun w2 H2 h2 => ?_⟩
  obtain ⟨μ2, u, st2, l2, R2, e2, P2⟩ := h2
  subst e2
  refine ⟨μ2, ρ, st2, R2, E.mono (l1.trans l2), (Post.bind (RV := REq (Option Int)) P2).imp fun w3 H3 h3 => ?_⟩
  obtain ⟨μ3, u3, st3, l3, R3, e3, P3⟩ := h3
  subst e3
  exact ⟨μ3, v, st3, R3, rv.mono (l2.trans l3), P3.o⟩
/-! ### argument lists, displays -/
theorem da_nil : DA L X W [] .nil := by
  refine PA.imp pa_nil fun σ H Q h => ?_
  obtain ⟨μ, ρ, st, R, E, P⟩ := h
  exact P μ H [] .refl R .nil
theorem da_cons (ha : DE L X W e x) (hr : DA L X W es xs) (hs : starEach (e :: es) X.env = (false, eval e X.env) :: starEach es X.env := by rfl) : DA L X W (e :: es) (.cons x xs) := by
  refine PA.imp (pa_cons ha hr hs) fun σ H Q h => ?_
  obtain ⟨μ, ρ, st, R, E, P⟩ := h
  refine ⟨μ, ρ, st, R, E, (Post.bind (RV := RVal X.K) P).imp fun w H1 h1 => ?_⟩
  obtain ⟨μ1, v, st1, l1, R1, rv, P1⟩ := h1
  refine ⟨μ1, ρ, st1, R1, E.mono l1, (Post.bind (RV := RVals X.K) P1).imp fun ws H2 h2 => ?_⟩
  obtain ⟨μ2, vs, st2, l2, R2, rvs, P2⟩ := h2
  exact P2 μ2 H2 _ .refl R2 (.cons (rv.mono l2) rvs)
theorem da_star {p : Pos} (ha : DE L X W e x) (hr : DA L X W es xs) (hs : starEach (.Starred e p :: es) X.env = (true, eval e X.env) :: starEach es X.env := by rfl) : DA L X W (.Starred e p :: es) (.star x xs) := by
  refine PA.imp (StX.pa_star ha hr hs) fun σ H Q h => ?_
  obtain ⟨μ, ρ, st, R, E, P⟩ := h
  refine ⟨μ, ρ, st, R, E, (Post.bind (RV := RVal X.K) P).imp fun w H1 h1 => ?_⟩
  obtain ⟨μ1, v, st1, l1, R1, rv, P1⟩ := h1
  split at P1
  · rename_i vs hv
    have key : ∃ (p : Addr) (zs : List V), w = V.ref p ∧ (SqT X.K H1 p zs ∨ SqL X.K H1 p zs) ∧ RepL X.K μ1 H1 vs zs := by
      cases rv with
      | @ref n a hn =>
        obtain ⟨zs, h1, h2⟩ := R1.lst hn hv
        exact ⟨a, zs, rfl, .inr h1, h2⟩
      | @tup a us zs h1 h2 =>
        cases hv
        exact ⟨a, zs, rfl, .inl h1, h2⟩
      | _ => cases hv
    obtain ⟨p, zs, rfl, hz, hrep⟩ := key
    refine ⟨p, zs, rfl, hz, μ1, ρ, st1, R1, E.mono l1, (Post.bind (RV := RVals X.K) P1).imp fun ws H2 h2 => ?_⟩
    obtain ⟨μ2, us, st2, l2, R2, rvs, P2⟩ := h2
    exact P2 μ2 H2 _ .refl R2 ((hrep.mono l2).append rvs)
  · exact P1.elim
theorem d_tup {k : Nat} (h : DA L X W es xs) : DE L X W (.Tuple es k pos) (.tup xs) := by
  refine PE.imp (pe_tup h) fun σ H Q h => ?_
  obtain ⟨μ, ρ, st, R, E, P⟩ := h
  refine ⟨μ, ρ, st, R, E, (Post.bind (RV := RVals X.K) P).imp fun ws H1 h1 => ?_⟩
  obtain ⟨μ1, vs, st1, l1, R1, rvs, P1⟩ := h1
  split at P1
  · rename_i hl
    refine ⟨by rw [← rvs.length]; exact line_le hl, fun p hp => ?_⟩
    exact P1 _ _ _ (.of_fresh hp) (R1.beside hp) (.tup (.of upd_same) (rvs.mono (.of_fresh hp)))
  · exact P1.elim
theorem d_lst (h : DA L X W es xs) : DE L X W (.List es pos) (.lst xs) := by
  refine PE.imp (pe_lst h) fun σ H Q h => ?_
  obtain ⟨μ, ρ, st, R, E, P⟩ := h
  refine ⟨μ, ρ, st, R, E, (Post.bind (RV := RVals X.K) P).imp fun ws H1 h1 => ?_⟩
  obtain ⟨μ1, vs, st1, l1, R1, rvs, P1⟩ := h1
  have q := P1.o
  unfold allocL at q
  split at q
  · rename_i hl
    exact ⟨by rw [← rvs.length]; exact line_le hl, fun p hp => q.new R1 (ho := .lst ws) hp rvs⟩
  · exact q.elim
/-! ### and, or as values -/
theorem d_one {op : BoolOp} (h : DE L X W a x) : DE L X W (.BoolOp op [a] pos) x := pe_one h
theorem d_and {rest : List Expr} (ha : DE L X W a x) (hb : DE L X W (.BoolOp .And (b :: rest) pos) y) : DE L X W (.BoolOp .And (a :: b :: rest) pos) (.and x y) := by
  refine PE.imp (pe_and ha hb) fun σ H Q h => ?_
  obtain ⟨μ, ρ, st, R, E, P⟩ := h
  refine ⟨μ, ρ, st, R, E, (Post.bind (RV := RVal X.K) P).imp fun w H1 h1 => ?_⟩
  obtain ⟨μ1, v, st1, l1, R1, rv, P1⟩ := h1
  cases rv with
  | bl k =>
    refine ⟨k, rfl, ?_⟩
    cases k with
    | true => exact iteT ⟨μ1, ρ, st1, R1, E.mono l1, P1⟩
    | false => exact iteF (P1 μ1 H1 _ .refl R1 (.bl _))
  | _ => exact P1.elim
theorem d_or {rest : List Expr} (ha : DE L X W a x) (hb : DE L X W (.BoolOp .Or (b :: rest) pos) y) : DE L X W (.BoolOp .Or (a :: b :: rest) pos) (.or x y) := by
  refine PE.imp (pe_or ha hb) fun σ H Q h => ?_
  obtain ⟨μ, ρ, st, R, E, P⟩ := h
  refine ⟨μ, ρ, st, R, E, (Post.bind (RV := RVal X.K) P).imp fun w H1 h1 => ?_⟩
  obtain ⟨μ1, v, st1, l1, R1, rv, P1⟩ := h1
  cases rv with
  | bl k =>
    refine ⟨k, rfl, ?_⟩
    cases k with
    | true => exact iteT (P1 μ1 H1 _ .refl R1 (.bl _))
    | false => exact iteF ⟨μ1, ρ, st1, R1, E.mono l1, P1⟩
  | _ => exact P1.elim
/-! ### tests -/
theorem dt_val (ha : DE L X W a x) (he : ∀ whole, isTrue a X.env whole = (do let v ← whole; standAt a.pos; holding [v] (truthy v)) := by intro _; rfl) : DT L X W a (.val x) := by
  refine PT.imp (pt_truth ha he) fun σ H Q h => ?_
  obtain ⟨μ, ρ, st, R, E, P⟩ := h
  refine ⟨μ, ρ, st, R, E, (Post.bind (RV := RVal X.K) P).imp fun w H1 h1 => ?_⟩
  obtain ⟨μ1, v, st1, l1, R1, rv, P1⟩ := h1
  split at P1
  · rename_i k ek
    refine ⟨k, ?_, P1 μ1 H1 k .refl R1 rfl⟩
    cases rv with
    | non => cases ek; rfl
    | bl b => cases ek; rfl
    | int i => cases ek; rfl
    | str z =>
      have e : (if lineOk z.length then some ((z.length : Int) != 0) else none) = some k := ek
      split at e
      · rename_i hl
        cases e
        exact ⟨line_le hl, rfl⟩
      · cases e
    | @tup p vs ws h r =>
      cases ek
      exact .inr (.inl ⟨ws, h, by rw [isEmpty_rep r]⟩)
    | @ref n p hn =>
      unfold truV at ek
      dsimp only at ek
      split at ek
      · rename_i vs ho
        cases ek
        obtain ⟨ws, h1, h2⟩ := R1.lst hn (show lstAt st1 n = some vs by unfold lstAt; rw [ho])
        exact .inl ⟨ws, h1, by rw [isEmpty_rep h2]⟩
      · rename_i vs ho
        cases ek
        obtain ⟨ws, h1, h2⟩ := R1.lst hn (show lstAt st1 n = some vs by unfold lstAt; rw [ho])
        exact .inl ⟨ws, h1, by rw [isEmpty_rep h2]⟩
      · rename_i kvs ho
        cases ek
        obtain ⟨kxs, h1, h2, h3⟩ := R1.dct hn ho
        refine .inr (.inr ⟨kxs, h1, ?_⟩)
        have z : kvs.length = kxs.length := by simpa using congrArg List.length h2
        cases kvs <;> cases kxs <;> first | rfl | simp at z
      · cases ek
  · exact P1.elim
/-- a value that is a bool, as a test -/
theorem tst_imp {t : TE} {f : Fr → Store → Res Val} {σ : L2.St} {H : Hp} {Q : Bool → Hp → Prop} (hi : ∀ σ H Q, tE X.K L.CA W f σ H Q → t σ H Q) (hb : ∀ ρ st v st', f ρ st = .ok v st' → ∃ k, v = .bl k)
    (h : tT X.K L.CA W (fun ρ st => (f ρ st).bind fun v st1 => match truV st1 v with | some b => .ok b st1 | none => .stuck) σ H Q) : tTest t σ H Q := by
  refine hi σ H _ ?_
  obtain ⟨μ, ρ, st, R, E, P⟩ := h
  refine ⟨μ, ρ, st, R, E, ?_⟩
  dsimp only at P
  cases e : f ρ st with
  | ok v st' =>
    rw [e] at P
    obtain ⟨k, rfl⟩ := hb ρ st v st' e
    intro μ' H' b l R' rb
    cases rb
    exact ⟨k, rfl, P μ' H' k l R' rfl⟩
  | exc c v st' => rw [e] at P; exact P
  | stuck => rw [e] at P; exact P
theorem bind_ok {α β : Type} {r : Res α} {f : α → Store → Res β} {v : β} {st : Store} (h : r.bind f = .ok v st) : ∃ a st1, r = .ok a st1 ∧ f a st1 = .ok v st := by
  cases r with
  | ok a st1 => exact ⟨a, st1, rfl, h⟩
  | exc _ _ _ => cases h
  | stuck => cases h
theorem dt_cmp (o : COp) (hu : X.A.units + 64 < cLine) (ha : DE L X W a x) (hb : DE L X W b y) (hm : behindInMarks (copOf o) b = false) : DT L X W (.Compare a [copOf o] [b] pos) (.val (.cmp o x y)) := by
  refine PT.imp (pt_cmpR (cmp_ok (CA := L.CA) hu o) ha hb hm) fun σ H Q h => tst_imp (f := L.e (.cmp o x y)) (fun σ H Q h => op_imp (fun _ _ => rfl) (fun μ v u st w z H R rv ru P => ?_) h) (fun ρ st v st' h => ?_) h
  · have q := P.o
    cases e : cmpV o v u st with
    | none => rw [e] at q; exact q.elim
    | some k => rw [e] at q; exact ⟨μ, v, u, st, R, rv, ru, k, e, PostO.val (w := .bl k) R q (.bl k)⟩
  · obtain ⟨v1, st1, h1, h⟩ := bind_ok h
    obtain ⟨v2, st2, h2, h⟩ := bind_ok h
    cases e : cmpV o v1 v2 st2 with
    | none => rw [e] at h; cases h
    | some k => rw [e] at h; cases h; exact ⟨k, rfl⟩
/-- a op b op' c -/
theorem chain_imp {o o' : COp} {σ : L2.St} {H : Hp} {Q : VK} (h : tE X.K L.CA W (L.e (.chain o o' x y z)) σ H Q) :
    tChain (rC X.K L.CA fun v u st => cmpV o v u st) (rC X.K L.CA fun v u st => cmpV o' v u st) (tE X.K L.CA W (L.e x)) (tE X.K L.CA W (L.e y)) (tE X.K L.CA W (L.e z)) σ H Q := by
  obtain ⟨μ, ρ, st, R, E, P⟩ := h
  refine ⟨μ, ρ, st, R, E, (Post.bind (RV := RVal X.K) P).imp fun w H1 h1 => ?_⟩
  obtain ⟨μ1, v, st1, l1, R1, rv, P1⟩ := h1
  refine ⟨μ1, ρ, st1, R1, E.mono l1, (Post.bind (RV := RVal X.K) P1).imp fun w2 H2 h2 => ?_⟩
  obtain ⟨μ2, u, st2, l2, R2, ru, P2⟩ := h2
  split at P2
  · rename_i e
    refine ⟨μ2, v, u, st2, R2, rv.mono l2, ru, true, e, true, rfl, iteT ?_⟩
    refine ⟨μ2, ρ, st2, R2, E.mono (l1.trans l2), (Post.bind (RV := RVal X.K) P2).imp fun w3 H3 h3 => ?_⟩
    obtain ⟨μ3, u3, st3, l3, R3, r3, P3⟩ := h3
    have q := P3.o
    cases e : cmpV o' u u3 st3 with
    | none => rw [e] at q; exact q.elim
    | some k => rw [e] at q; exact ⟨μ3, u, u3, st3, R3, ru.mono l3, r3, k, e, PostO.val (w := .bl k) R3 q (.bl k)⟩
  · rename_i e
    exact ⟨μ2, v, u, st2, R2, rv.mono l2, ru, false, e, false, rfl, iteF (P2 μ2 H2 _ .refl R2 (.bl _))⟩
  · exact P2.elim
theorem d_chain (o o' : COp) (hu : X.A.units + 64 < cLine) (ha : DE L X W a x) (hb : DE L X W b y) (hc : DE L X W c z) (hm : lastMarks [copOf o, copOf o'] [b, c] = false) :
    DE L X W (.Compare a [copOf o, copOf o'] [b, c] pos) (.chain o o' x y z) := PE.imp (pe_chain (cmp_ok (CA := L.CA) hu o) (cmp_ok (CA := L.CA) hu o') ha hb hc hm) fun σ H Q h => chain_imp h
theorem dt_chain (o o' : COp) (hu : X.A.units + 64 < cLine) (ha : DE L X W a x) (hb : DE L X W b y) (hc : DE L X W c z) (hm : lastMarks [copOf o, copOf o'] [b, c] = false) :
    DT L X W (.Compare a [copOf o, copOf o'] [b, c] pos) (.val (.chain o o' x y z)) := by
  refine PT.imp (pt_chain (cmp_ok (CA := L.CA) hu o) (cmp_ok (CA := L.CA) hu o') ha hb hc hm) fun σ H Q h => tst_imp (f := L.e (.chain o o' x y z)) (fun σ H Q h => chain_imp h) (fun ρ st v st' h => ?_) h
  obtain ⟨v1, st1, h1, h⟩ := bind_ok h
  obtain ⟨v2, st2, h2, h⟩ := bind_ok h
  split at h
  · obtain ⟨v3, st3, h3, h⟩ := bind_ok h
    cases e : cmpV o' v2 v3 st3 with
    | none => rw [e] at h; cases h
    | some k => rw [e] at h; cases h; exact ⟨k, rfl⟩
  · cases h; exact ⟨false, rfl⟩
  · cases h
theorem dt_not {t : Tx} (ha : DT L X W a t) : DT L X W (.UnaryOp .Not a pos) (.not t) := by
  refine PT.imp (pt_not ha) fun σ H Q h => ?_
  obtain ⟨μ, ρ, st, R, E, P⟩ := h
  refine ⟨μ, ρ, st, R, E, (Post.bind (RV := REq Bool) P).imp fun w H1 h1 => ?_⟩
  obtain ⟨μ1, v, st1, l1, R1, rv, P1⟩ := h1
  subst rv
  exact P1 μ1 H1 _ .refl R1 rfl
theorem dw_and1 {t : Tx} (ha : DT L X W a t) : DW L X W (.BoolOp .And [a] pos) t := pw_and1 ha
theorem dw_or1 {t : Tx} (ha : DT L X W a t) : DW L X W (.BoolOp .Or [a] pos) t := pw_or1 ha
theorem dw_and {t u : Tx} {rest : List Expr} (ha : DT L X W a t) (hb : DW L X W (.BoolOp .And (b :: rest) pos) u) : DW L X W (.BoolOp .And (a :: b :: rest) pos) (.and t u) := by
  refine PW.imp (pw_and ha hb) fun σ H Q h => ?_
  obtain ⟨μ, ρ, st, R, E, P⟩ := h
  refine ⟨μ, ρ, st, R, E, (Post.bind (RV := REq Bool) P).imp fun w H1 h1 => ?_⟩
  obtain ⟨μ1, v, st1, l1, R1, rv, P1⟩ := h1
  subst rv
  cases v with
  | true => exact iteT ⟨μ1, ρ, st1, R1, E.mono l1, P1⟩
  | false => exact iteF (P1 μ1 H1 _ .refl R1 rfl)
theorem dw_or {t u : Tx} {rest : List Expr} (ha : DT L X W a t) (hb : DW L X W (.BoolOp .Or (b :: rest) pos) u) : DW L X W (.BoolOp .Or (a :: b :: rest) pos) (.or t u) := by
  refine PW.imp (pw_or ha hb) fun σ H Q h => ?_
  obtain ⟨μ, ρ, st, R, E, P⟩ := h
  refine ⟨μ, ρ, st, R, E, (Post.bind (RV := REq Bool) P).imp fun w H1 h1 => ?_⟩
  obtain ⟨μ1, v, st1, l1, R1, rv, P1⟩ := h1
  subst rv
  cases v with
  | true => exact iteT (P1 μ1 H1 _ .refl R1 rfl)
  | false => exact iteF ⟨μ1, ρ, st1, R1, E.mono l1, P1⟩
theorem d_ife {t : Tx} (hc : DT L X W c t) (ha : DE L X W a x) (hb : DE L X W b y) : DE L X W (.IfExp c a b pos) (.ife t x y) := by
  refine PE.imp (pe_ifExp hc ha hb) fun σ H Q h => ?_
  obtain ⟨μ, ρ, st, R, E, P⟩ := h
  refine ⟨μ, ρ, st, R, E, (Post.bind (RV := REq Bool) P).imp fun w H1 h1 => ?_⟩
  obtain ⟨μ1, v, st1, l1, R1, rv, P1⟩ := h1
  subst rv
  cases v with
  | true => exact iteT ⟨μ1, ρ, st1, R1, E.mono l1, P1⟩
  | false => exact iteF ⟨μ1, ρ, st1, R1, E.mono l1, P1⟩
end
end EV

/-! ## EvIter -/
set_option maxRecDepth 100000
set_option maxHeartbeats 4000000
/-! EvIter: what is walked, targets, comprehensions. -/
namespace EV
open PySem L2

/-- the walk w is the machine's walk J, as long as the store is held -/
structure Wit (K : PySem.W.Frag) (CA : Nat → Addr) (μ0 : List Addr) (H0 : Hp) (w : Wk) (J : L2.It) : Prop where
  go : ∀ μ st H i v, Le μ0 H0 μ H → Rel K CA μ st H → i < w.len → w.item st i = some v → J.go i H ∧ ∀ x H', J.yld i H x H' → Le μ H μ H' ∧ Rel K CA μ st H' ∧ RepV K μ H' v x
  stop : ∀ μ st H, Le μ0 H0 μ H → Rel K CA μ st H → w.fits st = true → J.stop w.len H
def RWk (K : PySem.W.Frag) (CA : Nat → Addr) : List Addr → Hp → Wk → L2.It → Prop := fun μ H w J => Wit K CA μ H w J
abbrev tI (K : PySem.W.Frag) (CA : Nat → Addr) (W : WX) (f : Fr → Store → Res Wk) : TI := tG K CA W (RWk K CA) f
theorem PI.imp {X : Cx} {tg e : Expr} {t t' : TI} (h : PI X tg e t) (hi : ∀ σ H Q, t' σ H Q → t σ H Q) : PI X tg e t' := ⟨fun pins s σ H R I q => h.run pins s σ H R I (hi σ H R q)⟩
def DI (L : Lib) (X : Cx) (W : WX) (tg e : Expr) (x : Ir) : Prop := PI X tg e (tI X.K L.CA W (L.i x))

section
variable {K : PySem.W.Frag} {CA : Nat → Addr} {μ0 : List Addr} {H0 : Hp}
theorem wit_lst {n : Nat} {a : Addr} {k : Nat} (hm : μ0[n]? = some a) : Wit K CA μ0 H0 (.lst n k) (Itl K a) where
  go := fun μ st H i v l R hi h => by
    unfold Wk.item at h
    dsimp only at h
    split at h
    · rename_i vs hl
      split at h
      · obtain ⟨xs, h1, h2⟩ := R.lst (l.at_ hm) hl
        obtain ⟨x, hx, r⟩ := h2.get h
        refine ⟨⟨xs, x, h1, hx⟩, fun y H' q => ?_⟩
        obtain ⟨rfl, q⟩ := q
        have e := q xs h1
        rw [hx] at e
        cases e
        exact ⟨.refl, R, r⟩
      · cases h
    · cases h
  stop := fun μ st H l R h => by
    unfold Wk.fits at h
    dsimp only at h
    split at h
    · rename_i vs hl
      have e := of_decide_eq_true h
      obtain ⟨xs, h1, h2⟩ := R.lst (l.at_ hm) hl
      exact ⟨xs, h1, by rw [← h2.length, e]; exact Nat.le_refl _⟩
    · cases h
theorem sqT_inj {a : Addr} {xs ys : List V} (hX : True) : True := trivial
theorem wit_tup {a : Addr} {vs : List Val} {xs : List V} (h : SqT K H0 a xs) (r : RepL K μ0 H0 vs xs) (inj : ∀ μ H ys, Le μ0 H0 μ H → SqT K H a ys → ys = xs) : Wit K CA μ0 H0 (.tup vs) (Itt K a) where
  go := fun μ st H i v l R hi hv => by
    obtain ⟨x, hx, rx⟩ := (r.mono l).get hv
    refine ⟨⟨xs, x, l.sq h, hx⟩, fun y H' q => ?_⟩
    obtain ⟨rfl, q⟩ := q
    have e := q xs (l.sq h)
    rw [hx] at e
    cases e
    exact ⟨.refl, R, rx⟩
  stop := fun μ st H l R _ => ⟨xs, l.sq h, by rw [← r.length]; exact Nat.le_refl _⟩
theorem wit_tup' {a : Addr} {vs : List Val} {xs : List V} (h : SqT K H0 a xs) (r : RepL K μ0 H0 vs xs) : Wit K CA μ0 H0 (.tup vs) (Itt K a) where
  go := fun μ st H i v l R hi hv => by
    obtain ⟨x, hx, rx⟩ := (r.mono l).get hv
    refine ⟨⟨xs, x, l.sq h, hx⟩, fun y H' q => ?_⟩
    obtain ⟨rfl, q⟩ := q
    have e := q xs (l.sq h)
    rw [hx] at e
    cases e
    exact ⟨.refl, R, rx⟩
  stop := fun μ st H l R _ => ⟨xs, l.sq h, by rw [← r.length]; exact Nat.le_refl _⟩
theorem wit_rng {lo : Int} {n : Nat} : Wit K CA μ0 H0 (.rng lo n) (Itr lo n) where
  go := fun μ st H i v l R hi hv => by
    cases hv
    refine ⟨hi, fun y H' q => ?_⟩
    obtain ⟨rfl, rfl⟩ := q
    exact ⟨.refl, R, .int _⟩
  stop := fun μ st H l R _ => Nat.le_refl _
theorem wit_rngc {lo c : Int} {n : Nat} : Wit K CA μ0 H0 (.rngc lo c n) (Itc lo c n) where
  go := fun μ st H i v l R hi hv => by
    cases hv
    refine ⟨hi, fun y H' q => ?_⟩
    obtain ⟨rfl, rfl⟩ := q
    exact ⟨.refl, R, .int _⟩
  stop := fun μ st H l R _ => Nat.le_refl _
/-- the keys of a dict that is locked -/
theorem wit_dct {d : Addr} {od : Obj} {kvs : List (Key × Val)} {kxs : List (Key × V)} (h : H0 d = some (.frz od (.dK kxs))) (hk : kvs.map (·.1) = kxs.map (·.1)) : Wit K CA μ0 H0 (.tup (kvs.map fun kv => keyV kv.1)) (Itk d od kxs) where
  go := fun μ st H i v l R hi hv => by
    have hlen : kvs.length = kxs.length := by simpa using congrArg List.length hk
    have hi' : i < kvs.length := by
      have hi : i < (kvs.map fun kv => keyV kv.1).length := hi
      rw [List.length_map] at hi
      exact hi
    refine ⟨⟨l.frz _ _ _ h, by omega⟩, fun y H' q => ?_⟩
    obtain ⟨rfl, k, v', hk', rfl⟩ := q
    have e1 : (kvs.map (·.1))[i]? = some k := by rw [hk, List.getElem?_map, hk']; rfl
    have e2 : (kvs.map fun kv => keyV kv.1)[i]? = some (keyV k) := by
      rw [List.getElem?_map] at e1 ⊢
      cases e3 : kvs[i]? with
      | none => rw [e3] at e1; cases e1
      | some kv =>
        rw [e3] at e1
        have e1 : kv.1 = k := Option.some.inj e1
        rw [← e1]
        rfl
    have hv : (kvs.map fun kv => keyV kv.1)[i]? = some v := hv
    rw [e2] at hv
    cases hv
    refine ⟨.refl, R, ?_⟩
    cases k with
    | inl i => exact .int i
    | inr z => exact .str z
  stop := fun μ st H l R _ => ⟨l.frz _ _ _ h, by
    have hlen : kvs.length = kxs.length := by simpa using congrArg List.length hk
    show kxs.length ≤ (kvs.map fun kv => keyV kv.1).length
    rw [List.length_map]
    omega⟩
theorem wit_txt {z : Str} : Wit K CA μ0 H0 (.txt z) (Its z) where
  go := fun μ st H i v l R hi hv => by
    refine ⟨hi, fun y H' q => ?_⟩
    obtain ⟨rfl, c, hc, rfl⟩ := q
    obtain ⟨c', hc', rfl⟩ := Option.map_eq_some_iff.mp hv
    rw [hc] at hc'
    cases hc'
    exact ⟨.refl, R, .str _⟩
  stop := fun μ st H l R _ => Nat.le_refl _
theorem wit_zipL {n m k l : Nat} {a b : Addr} (hn : μ0[n]? = some a) (hm : μ0[m]? = some b) : Wit K CA μ0 H0 (.zipL n k m l) (Itz K a b) where
  go := fun μ st H i v le R hi h => by
    unfold Wk.item at h
    dsimp only at h
    split at h
    · rename_i vs us h1 h2
      split at h
      · split at h
        · rename_i v1 v2 e1 e2
          cases h
          obtain ⟨xs, q1, r1⟩ := R.lst (le.at_ hn) h1
          obtain ⟨ys, q2, r2⟩ := R.lst (le.at_ hm) h2
          obtain ⟨x, hx, rx⟩ := r1.get e1
          obtain ⟨y, hy, ry⟩ := r2.get e2
          refine ⟨⟨xs, ys, x, y, q1, q2, hx, hy⟩, fun w H' q => ?_⟩
          obtain ⟨T, x', y', rfl, hT, rfl, z1, z2⟩ := q
          have f1 := z1 xs q1
          have f2 := z2 ys q2
          rw [hx] at f1
          rw [hy] at f2
          cases f1
          cases f2
          exact ⟨.of_fresh hT, R.beside hT, .tup (.of upd_same) (.cons (rx.mono (.of_fresh hT)) (.cons (ry.mono (.of_fresh hT)) .nil))⟩
        · cases h
      · cases h
    · cases h
  stop := fun μ st H le R h => by
    unfold Wk.fits at h
    dsimp only at h
    split at h
    · rename_i vs us h1 h2
      have e := of_decide_eq_true h
      obtain ⟨xs, q1, r1⟩ := R.lst (le.at_ hn) h1
      obtain ⟨ys, q2, r2⟩ := R.lst (le.at_ hm) h2
      refine ⟨xs, ys, q1, q2, ?_⟩
      have l1 := r1.length
      have l2 := r2.length
      show xs.length ≤ min k l ∨ ys.length ≤ min k l
      omega
    · cases h
theorem wit_zipT {a b : Addr} {vs us : List Val} {xs ys : List V} (h1 : SqT K H0 a xs) (h2 : SqT K H0 b ys) (r1 : RepL K μ0 H0 vs xs) (r2 : RepL K μ0 H0 us ys) : Wit K CA μ0 H0 (.zipT vs us) (RZ.ItzT K a b) where
  go := fun μ st H i v le R hi h => by
    unfold Wk.item at h
    dsimp only at h
    split at h
    · rename_i v1 v2 e1 e2
      cases h
      obtain ⟨x, hx, rx⟩ := (r1.mono le).get e1
      obtain ⟨y, hy, ry⟩ := (r2.mono le).get e2
      refine ⟨⟨xs, ys, x, y, le.sq h1, le.sq h2, hx, hy⟩, fun w H' q => ?_⟩
      obtain ⟨T, x', y', rfl, hT, rfl, z1, z2⟩ := q
      have f1 := z1 xs (le.sq h1)
      have f2 := z2 ys (le.sq h2)
      rw [hx] at f1
      rw [hy] at f2
      cases f1
      cases f2
      exact ⟨.of_fresh hT, R.beside hT, .tup (.of upd_same) (.cons (rx.mono (.of_fresh hT)) (.cons (ry.mono (.of_fresh hT)) .nil))⟩
    · cases h
  stop := fun μ st H le R h => by
    refine ⟨xs, ys, le.sq h1, le.sq h2, ?_⟩
    have l1 := r1.length
    have l2 := r2.length
    show xs.length ≤ min vs.length us.length ∨ ys.length ≤ min vs.length us.length
    omega
end
section
variable {L : Lib} {X : Cx} {W : WX} {a b e tg : Expr} {x y : Ex} {pos : Pos}
def iAny (K : PySem.W.Frag) (te : TE) : TI := fun σ H R => te σ H fun v H1 => (∃ a, v = .ref a ∧ (∃ xs, SqL K H1 a xs) ∧ R (Itl K a) H1) ∨ (∃ a, v = .ref a ∧ (∃ xs, SqT K H1 a xs) ∧ R (Itt K a) H1) ∨ ∃ z, v = .str z ∧ R (Its z) H1
theorem pi_any {te : TE} (he : PE X e te) : PI X tg e (iAny X.K te) := by
  refine ⟨fun pins s σ H R I h => ?_⟩
  refine thn (he.run pins s σ H _ I h) fun v s1 ⟨y, H1, I1, r1, q⟩ => ?_
  rcases q with ⟨a, rfl, q1, q2⟩ | ⟨a, rfl, q1, q2⟩ | ⟨z, rfl, q2⟩
  · cases r1
    obtain ⟨xs, q1⟩ := q1
    obtain ⟨its, rv, p, hz⟩ := I1.list q1
    refine wpAny_pyIter_list p.isList ?_
    refine ⟨s1.heap.objs.size, [s1.heap.objs.size], _, _, H1, rfl, I1.kept (t' := s1.toks) fun b o e => Heap.get?_push_of_some _ e, turn_list a _, ⟨_, Heap.get?_push_size _ rfl, rfl, rfl⟩, fun b hb => ?_, q2⟩
    have e : b = s1.heap.objs.size := by simpa using hb
    subst e
    exact I1.fpOk (Nat.le_refl _) (I1.hok.fresh (Nat.le_refl _))
  · cases r1
    obtain ⟨xs, q1⟩ := q1
    obtain ⟨its, rv, p, hz⟩ := I1.tuple q1
    refine wpAny_pyIter_tuple (show s1.heap.IsTuple a its.toArray from p) ?_
    refine ⟨s1.heap.objs.size, [s1.heap.objs.size], _, _, H1, rfl, I1.kept (t' := s1.toks) fun b o e => Heap.get?_push_of_some _ e, turn_tuple a _, ⟨_, Heap.get?_push_size _ rfl, rfl, rfl⟩, fun b hb => ?_, q2⟩
    have e : b = s1.heap.objs.size := by simpa using hb
    subst e
    exact I1.fpOk (Nat.le_refl _) (I1.hok.fresh (Nat.le_refl _))
  · obtain ⟨t, rfl⟩ := r1
    cases ha : z.cps.all (· < 128)
    · exact wpAny_pyIter_wide ha (pi_one (tk := s1.toks) I1 _ (turn_str _ z t "str_iterator" (.inr rfl)) ⟨_, Heap.get?_push_size _ rfl, rfl, rfl⟩ q2)
    · exact wpAny_pyIter_ascii ha (pi_one (tk := s1.toks) I1 _ (turn_str _ z t "str_ascii_iterator" (.inl rfl)) ⟨_, Heap.get?_push_size _ rfl, rfl, rfl⟩ q2)
theorem di_ex (ha : DE L X W a x) : DI L X W tg a (.ex x) := by
  refine PI.imp (pi_any ha) fun σ H R h => ?_
  obtain ⟨μ, ρ, st, Rl, E, P⟩ := h
  refine ⟨μ, ρ, st, Rl, E, (Post.bind (RV := RVal X.K) P).imp fun w H1 h1 => ?_⟩
  obtain ⟨μ1, v, st1, l1, R1, rv, P1⟩ := h1
  split at P1
  · rename_i wk ek
    cases rv with
    | str z =>
      cases ek
      exact .inr (.inr ⟨z, rfl, P1 μ1 H1 _ .refl R1 wit_txt⟩)
    | @tup p vs xs h r =>
      cases ek
      exact .inr (.inl ⟨p, rfl, ⟨xs, h⟩, P1 μ1 H1 _ .refl R1 (wit_tup' h r)⟩)
    | @ref n p hn =>
      obtain ⟨vs, hl, rfl⟩ := Option.map_eq_some_iff.mp ek
      obtain ⟨xs, h1, h2⟩ := R1.lst hn hl
      exact .inl ⟨p, rfl, ⟨xs, h1⟩, P1 μ1 H1 _ .refl R1 (wit_lst hn)⟩
    | _ => cases ek
  · exact P1.elim
theorem di_rng1 {p : Pos} (hg : Gl X "range") (hm : X.mg "range" = none) (ha : DE L X W a x) (h1 : starEach [a] X.env = (false, eval a X.env) :: starEach [] X.env := by rfl) (hs : starEach [a] X.env = [(false, eval a X.env)] := by rfl) :
    DI L X W tg (.Call (.Name "range" p) [a] [] pos) (.rng1 x) := by
  refine PI.imp (pi_range1 hg hm (pa_cons ha pa_nil h1) hs) fun σ H R h => ?_
  obtain ⟨μ, ρ, st, Rl, E, P⟩ := h
  refine ⟨μ, ρ, st, Rl, E, (Post.bind (RV := RVal X.K) P).imp fun w H1 h1 => ?_⟩
  obtain ⟨μ1, v, st1, l1, R1, rv, P1⟩ := h1
  cases rv with
  | int j =>
    dsimp only at P1
    split at P1
    · rename_i hr
      have z := of_decide_eq_true hr
      exact ⟨j, rfl, z.1, z.2, P1 μ1 H1 _ .refl R1 wit_rng⟩
    · exact P1.elim
  | _ => exact P1.elim
theorem di_rng2 {p : Pos} (hg : Gl X "range") (hm : X.mg "range" = none) (ha : DE L X W a x) (hb : DE L X W b y) (h1 : starEach [a, b] X.env = (false, eval a X.env) :: starEach [b] X.env := by rfl) (h2 : starEach [b] X.env = (false, eval b X.env) :: starEach [] X.env := by rfl)
    (hs : starEach [a, b] X.env = [(false, eval a X.env), (false, eval b X.env)] := by rfl) (hs2 : starEach [b] X.env = [(false, eval b X.env)] := by rfl) :
    DI L X W tg (.Call (.Name "range" p) [a, b] [] pos) (.rng2 x y) := by
  refine PI.imp (pi_range2 hg hm (pa_cons ha (pa_cons hb pa_nil h2) h1) hs hs2) fun σ H R h => ?_
  obtain ⟨μ, ρ, st, Rl, E, P⟩ := h
  refine ⟨μ, ρ, st, Rl, E, (Post.bind (RV := RVal X.K) P).imp fun w H1 h1 => ?_⟩
  obtain ⟨μ1, v, st1, l1, R1, rv, P1⟩ := h1
  refine ⟨μ1, ρ, st1, R1, E.mono l1, (Post.bind (RV := RVal X.K) P1).imp fun w2 H2 h2 => ?_⟩
  obtain ⟨μ2, u, st2, l2, R2, ru, P2⟩ := h2
  cases rv with
  | int i =>
    cases ru with
    | int j =>
      dsimp only at P2
      split at P2
      · rename_i hr
        rw [Bool.and_eq_true] at hr
        have z1 := of_decide_eq_true hr.1
        have z2 := of_decide_eq_true hr.2
        exact ⟨i, j, rfl, ⟨z1.1, z1.2, z2.1, z2.2⟩, P2 μ2 H2 _ .refl R2 wit_rng⟩
      · exact P2.elim
    | _ => exact P2.elim
  | _ => exact P2.elim
theorem di_rng3 {c : Expr} {z : Ex} {p : Pos} (hg : Gl X "range") (hm : X.mg "range" = none) (ha : DE L X W a x) (hb : DE L X W b y) (hc : DE L X W c z) (h1 : starEach [a, b, c] X.env = (false, eval a X.env) :: starEach [b, c] X.env := by rfl) (h2 : starEach [b, c] X.env = (false, eval b X.env) :: starEach [c] X.env := by rfl) (h3 : starEach [c] X.env = (false, eval c X.env) :: starEach [] X.env := by rfl)
    (hpl : (backTo pos (starEach [b, c] X.env)).any (·.1) = false := by rfl) :
    DI L X W tg (.Call (.Name "range" p) [a, b, c] [] pos) (.rng3 x y z) := by
  refine PI.imp (pi_range3 hg hm (pa_cons ha (pa_cons hb (pa_cons hc pa_nil h3) h2) h1) h1 hpl) fun σ H R h => ?_
  obtain ⟨μ, ρ, st, Rl, E, P⟩ := h
  refine ⟨μ, ρ, st, Rl, E, (Post.bind (RV := RVal X.K) P).imp fun w H1 h1 => ?_⟩
  obtain ⟨μ1, v, st1, l1, R1, rv, P1⟩ := h1
  refine ⟨μ1, ρ, st1, R1, E.mono l1, (Post.bind (RV := RVal X.K) P1).imp fun w2 H2 h2 => ?_⟩
  obtain ⟨μ2, u, st2, l2, R2, ru, P2⟩ := h2
  refine ⟨μ2, ρ, st2, R2, E.mono (l1.trans l2), (Post.bind (RV := RVal X.K) P2).imp fun w3 H3 h3 => ?_⟩
  obtain ⟨μ3, t, st3, l3, R3, rt, P3⟩ := h3
  cases rv with
  | int i =>
    cases ru with
    | int j =>
      cases rt with
      | int c =>
        dsimp only at P3
        split at P3
        · rename_i hr
          rw [Bool.and_eq_true] at hr
          have z1 := of_decide_eq_true hr.1
          exact ⟨i, j, c, _, rfl, ⟨z1.1, z1.2.1, hr.2, (Int.toNat_of_nonneg z1.2.2).symm⟩, P3 μ3 H3 _ .refl R3 wit_rngc⟩
        · exact P3.elim
      | _ => exact P3.elim
    | _ => exact P3.elim
  | _ => exact P3.elim
theorem di_zip {p tpos : Pos} {elts : List Expr} {kk : Nat} (hg : Gl X "zip") (hm : X.mg "zip" = none) (ha : DE L X W a x) (hb : DE L X W b y) (h2 : starEach [b] X.env = (false, eval b X.env) :: starEach [] X.env := by rfl)
    (hs : starEach [a, b] X.env = (false, eval a X.env) :: starEach [b] X.env := by rfl) (hpl : (backTo pos (starEach [b] X.env)).any (·.1) = false := by rfl) :
    DI L X W (.Tuple elts kk tpos) (.Call (.Name "zip" p) [a, b] [] pos) (.zip2 x y) := by
  refine PI.imp (RZ.pi_zipA hg hm (pa_cons ha (pa_cons hb pa_nil h2) hs) hs hpl) fun σ H R h => ?_
  obtain ⟨μ, ρ, st, Rl, E, P⟩ := h
  refine ⟨μ, ρ, st, Rl, E, (Post.bind (RV := RVal X.K) P).imp fun w H1 h1 => ?_⟩
  obtain ⟨μ1, v, st1, l1, R1, rv, P1⟩ := h1
  refine ⟨μ1, ρ, st1, R1, E.mono l1, (Post.bind (RV := RVal X.K) P1).imp fun w2 H2 h2 => ?_⟩
  obtain ⟨μ2, u, st2, l2, R2, ru, P2⟩ := h2
  split at P2
  · rename_i wk ek
    cases rv with
    | @ref n p1 hn =>
      cases ru with
      | @ref m p2 hm2 =>
        unfold zipOf at ek
        dsimp only at ek
        split at ek
        · rename_i vs us e1 e2
          cases ek
          obtain ⟨xs, h1, r1⟩ := R2.lst (l2.at_ hn) e1
          obtain ⟨ys, h2, r2⟩ := R2.lst hm2 e2
          exact ⟨p1, p2, xs, ys, rfl, .inl ⟨h1, h2, P2 μ2 H2 _ .refl R2 (wit_zipL (l2.at_ hn) hm2)⟩⟩
        · cases ek
      | _ => cases ek
    | @tup p1 vs xs h1 r1 =>
      cases ru with
      | @tup p2 us ys h2 r2 =>
        cases ek
        exact ⟨p1, p2, xs, ys, rfl, .inr ⟨l2.sq h1, h2, P2 μ2 H2 _ .refl R2 (wit_zipT (l2.sq h1) h2 (r1.mono l2) r2)⟩⟩
      | _ => cases ek
    | _ => cases ek
  · exact P2.elim
end

/-! ### targets -/
def Tg.slots : Tg → List Nat
  | .nm i => [i]
  | .tp is => is
structure DG (CA : Nat → Addr) (X : Cx) (tg : Expr) (t : Tg) (g : TG) : Prop where
  pg : PG X tg g
  ok : ∀ μ H v x ρ σ ρ' st (Q : L2.St → Hp → Prop), Rel X.K CA μ st H → RepV X.K μ H v x → RepE X.K μ H ρ σ → t.give v ρ st = some ρ' → (∀ σ', RepE X.K μ H ρ' σ' → (∀ vs : List Nat, (∀ i ∈ t.slots, i ∈ vs) → wipe σ' vs = wipe σ vs) → Q σ' H) → g x σ H Q
theorem wipe_set {σ : L2.St} {i : Nat} {x : Option V} : ∀ {vs : List Nat}, i ∈ vs → wipe (σ.set i x) vs = wipe σ vs
  | [], h => by simp at h
  | v :: vs, h => by
    show (wipe (σ.set i x) vs).set v none = (wipe σ vs).set v none
    by_cases e : i = v
    · subst e
      by_cases h2 : i ∈ vs
      · rw [wipe_set h2]
      · have aux : ∀ (vs : List Nat) (τ : L2.St), i ∉ vs → wipe (τ.set i x) vs = (wipe τ vs).set i x := by
          intro vs
          induction vs with
          | nil => intro τ _; rfl
          | cons w ws ih =>
            intro τ hn
            rw [List.mem_cons, not_or] at hn
            show (wipe (τ.set i x) ws).set w none = ((wipe τ ws).set w none).set i x
            rw [ih τ hn.2, List.set_comm _ _ hn.1]
        rw [aux vs σ h2, List.set_set]
    · rw [List.mem_cons] at h
      rcases h with h | h
      · exact absurd h e
      · rw [wipe_set h]
section
variable {CA : Nat → Addr} {X : Cx} {pos : Pos}
theorem dg_nm (i : Nat) {n : Str} (hN : X.N.Nodup) (hi : X.N[i]? = some n) (hx : Loc X.env.scope n) (hf : X.fn n = true ∨ X.env.scope.names.lookup n = some .local) : DG CA X (.Name n pos) (.nm i) (gName i) where
  pg := pg_name hN hi hx hf
  ok := fun μ H v x ρ σ ρ' st Q _ r e h q => by
    cases h
    exact q _ (e.set r) fun vs hv => wipe_set (hv i (by simp [Tg.slots]))
/-- the names of a tuple -/
inductive DGs (X : Cx) : List Expr → List Nat → TGs → Prop where
  | nil : DGs X [] [] gNil
  | cons {e : Expr} {es : List Expr} {i : Nat} {is : List Nat} {g : TGs} {n : Str} {pos : Pos} (he : e = .Name n pos) (hN : X.N.Nodup) (hi : X.N[i]? = some n) (hx : Loc X.env.scope n) (hf : X.fn n = true ∨ X.env.scope.names.lookup n = some .local) (t : DGs X es is g) : DGs X (e :: es) (i :: is) (gCons (gName i) g)
theorem DGs.pgs : ∀ {es : List Expr} {is : List Nat} {g : TGs}, DGs X es is g → PGs X es g
  | _, _, _, .nil => pgs_nil
  | _, _, _, .cons he hN hi hx hf t => by
    subst he
    exact pgs_cons (pg_name hN hi hx hf) t.pgs
theorem DGs.len : ∀ {es : List Expr} {is : List Nat} {g : TGs}, DGs X es is g → (assignEach es X.env).length = is.length ∧ (assignEach es X.env).findIdx? (·.1) = none
  | _, _, _, .nil => ⟨rfl, rfl⟩
  | _, _, _, .cons he hN hi hx hf t => by
    subst he
    obtain ⟨h1, h2⟩ := t.len
    refine ⟨by show (assignEach _ X.env).length + 1 = _; rw [h1]; rfl, ?_⟩
    show List.findIdx? _ ((false, _) :: assignEach _ X.env) = none
    rw [List.findIdx?_cons]
    simp [h2]
theorem DGs.ok {K : PySem.W.Frag} : ∀ {es : List Expr} {is : List Nat} {g : TGs}, DGs X es is g → ∀ μ H vs xs ρ σ ρ' (Q : L2.St → Hp → Prop), RepL K μ H vs xs → RepE K μ H ρ σ → setAll is vs ρ = some ρ' →
    (∀ σ', RepE K μ H ρ' σ' → (∀ ws : List Nat, (∀ i ∈ is, i ∈ ws) → wipe σ' ws = wipe σ ws) → Q σ' H) → g xs σ H Q
  | _, _, _, .nil, μ, H, vs, xs, ρ, σ, ρ', Q, r, e, h, q => by
    cases r with
    | nil => cases h; exact ⟨rfl, q σ e fun _ _ => rfl⟩
    | cons a b => cases h
  | _, _, _, .cons he hN hi hx hf t, μ, H, vs, xs, ρ, σ, ρ', Q, r, e, h, q => by
    cases r with
    | nil => cases h
    | cons a b =>
      refine ⟨_, _, rfl, ?_⟩
      refine t.ok μ H _ _ _ _ ρ' Q b (e.set a) h fun σ' e' w => q σ' e' fun ws hw => ?_
      rw [w ws fun i hi => hw i (List.mem_cons_of_mem _ hi)]
      exact wipe_set (hw _ List.mem_cons_self)
theorem setAll_len : ∀ (is : List Nat) (vs : List Val) (ρ ρ' : Fr), setAll is vs ρ = some ρ' → vs.length = is.length
  | [], [], _, _, _ => rfl
  | [], _ :: _, _, _, h => by cases h
  | _ :: _, [], _, _, h => by cases h
  | i :: is, a :: b, ρ, ρ', h => by
    show b.length + 1 = is.length + 1
    rw [setAll_len is b _ ρ' h]
/-- (a, b) = a tuple or a list -/
def gTL (K : PySem.W.Frag) (n : Nat) (t : TGs) : TG := fun v σ H Q => gTup K n t v σ H Q ∨ L2.gUnl K n t v σ H Q
theorem dg_tp {es : List Expr} {is : List Nat} {g : TGs} {k : Nat} (hc : X.calm = true) (t : DGs X es is g) : DG CA X (.Tuple es k pos) (.tp is) (gTL X.K is.length g) where
  pg := ⟨fun pins s σ H v u Q I r h => by
    rcases h with h | h
    · exact (pg_tup hc t.pgs t.len.1 t.len.2).run pins s σ H v u Q I r h
    · exact (L2.pg_unl hc t.pgs t.len.1 t.len.2).run pins s σ H v u Q I r h⟩
  ok := fun μ H v x ρ σ ρ' st Q R r e h q => by
    cases r with
    | @tup a vs xs hs rl => exact .inl ⟨a, xs, rfl, hs, by rw [← rl.length]; exact setAll_len is vs ρ ρ' h, t.ok μ H vs xs ρ σ ρ' Q rl e h fun σ' e' w => q σ' e' w⟩
    | @ref n a hn =>
      unfold Tg.give at h
      dsimp only at h
      split at h
      · rename_i vs hl
        obtain ⟨xs, h1, h2⟩ := R.lst hn hl
        exact .inr ⟨a, xs, rfl, h1, by rw [← h2.length]; exact setAll_len is vs ρ ρ' h, t.ok μ H vs xs ρ σ ρ' Q h2 e h fun σ' e' w => q σ' e' w⟩
      · cases h
    | _ => cases h
end
end EV

/-! ## EvStmt -/
set_option maxRecDepth 100000
set_option maxHeartbeats 4000000
/-! EvStmt: comprehensions, calls, statements, defs. -/
namespace EV
open PySem L2

abbrev WF : WX := fun _ _ _ _ => False
/-! ### list comprehensions -/
section
variable {L : Lib} {X : Cx} {W : WX} {pos : Pos}
theorem wipeF_eq (ρ : Fr) : ∀ vs : List Nat, vs.foldr (fun i q => q.set i none) ρ = wipeF ρ vs
  | [] => rfl
  | i :: vs => by
    show (vs.foldr _ ρ).set i none = (wipeF ρ vs).set i none
    rw [wipeF_eq ρ vs]
theorem RepE.wipeF {K : PySem.W.Frag} {μ : List Addr} {H : Hp} {ρ : Fr} {σ : L2.St} (r : RepE K μ H ρ σ) (vs : List Nat) : RepE K μ H (EV.wipeF ρ vs) (L2.wipe σ vs) := by
  obtain ⟨ρ', e, h⟩ := r.wipe vs
  rw [wipeF_eq] at e
  rw [← e]
  exact h
/-- a clause's tests -/
def DTs (L : Lib) (X : Cx) (W : WX) (ifs : List Expr) (x : Txo) : Prop := PTs X ifs (tT X.K L.CA W (L.ts x))
theorem dts_nil : DTs L X W [] .none := ⟨fun pins s σ H Q I h => pts_nil.run pins s σ H Q I (by
  obtain ⟨μ, ρ, st, R, E, P⟩ := h
  exact P μ H true .refl R rfl)⟩
theorem dts_one {c : Expr} {t : Tx} (h : DT L X W c t) : DTs L X W [c] (.some t) := pts_one h
theorem Post.quiet {α β : Type} {K : PySem.W.Frag} {CA : Nat → Addr} {W W' : WX} {RV : List Addr → Hp → α → β → Prop} {σ : L2.St} {μ : List Addr} {H : Hp} {Q : β → Hp → Prop} {r : Res α} (h : Post K CA W RV σ μ H Q r.quiet) : Post K CA W' RV σ μ H Q r := by
  cases r with
  | ok a st => exact h
  | exc c v st => exact h.elim
  | stuck => exact h.elim
theorem post_quiet_bind {α β γ δ : Type} {K : PySem.W.Frag} {CA : Nat → Addr} {W W' : WX} {RV : List Addr → Hp → α → β → Prop} {RU : List Addr → Hp → γ → δ → Prop} {σ σ' : L2.St} {μ : List Addr} {H : Hp} {Q : δ → Hp → Prop} {r : Res α} {g : α → Store → Res γ} (h : Post K CA W RU σ μ H Q (r.quiet.bind g)) :
    Post K CA W' RV σ' μ H (fun b H1 => ∃ μ1 a st1, Le μ H μ1 H1 ∧ Rel K CA μ1 st1 H1 ∧ RV μ1 H1 a b ∧ Post K CA W RU σ μ1 H1 Q (g a st1)) r := by
  cases r with
  | ok a st =>
    have z := Post.bind (RV := RV) (r := .ok a st) h
    exact z
  | exc c v st => exact h.elim
  | stuck => exact h.elim
theorem lc_imp {wi : TI} {g : TG} {t : Tg} {x : Ex} {it : Ir} {tx : Txo} {own : List Nat} {σ : L2.St} {H : Hp} {Q : VK} {tt : TT} {te : TE}
    (gok : ∀ μ H v x ρ σ ρ' st (Q : L2.St → Hp → Prop), Rel X.K L.CA μ st H → RepV X.K μ H v x → RepE X.K μ H ρ σ → t.give v ρ st = some ρ' → (∀ σ', RepE X.K μ H ρ' σ' → (∀ vs : List Nat, (∀ i ∈ t.slots, i ∈ vs) → wipe σ' vs = wipe σ vs) → Q σ' H) → g x σ H Q)
    (hi : ∀ σ H R, tI X.K L.CA W (L.i it) σ H R → wi σ H R) (ht : ∀ σ H Q, tT X.K L.CA WF (L.ts tx) σ H Q → tt σ H Q) (he : ∀ σ H Q, tE X.K L.CA WF (L.e x) σ H Q → te σ H Q) (hsl : ∀ i ∈ t.slots, i ∈ own)
    (h : tE X.K L.CA W (L.e (.lc x t it tx own)) σ H Q) : tLc wi g tt te own σ H Q := by
  obtain ⟨μ, ρ, st, R, E, P⟩ := h
  refine hi σ H _ ⟨μ, ρ, st, R, E, (Post.bind (RV := RWk X.K L.CA) P).imp fun J H1 h1 => ?_⟩
  obtain ⟨μ1, w, st1, l1, R1, wit, P1⟩ := h1
  intro D hD
  have R2 : Rel X.K L.CA (μ1 ++ [D]) (st1 ++ [.lst []]) (upd H1 D (.lst [])) := R1.alloc hD .nil
  have l2 : Le μ1 H1 (μ1 ++ [D]) (upd H1 D (.lst [])) := .of_new hD
  have hDi : (μ1 ++ [D])[st1.length]? = some D := alloc_at R1
  have E2 := E.mono (l1.trans l2)
  refine ⟨fun i m H2 => i + m = w.len ∧ ∃ μ2 st2, Le (μ1 ++ [D]) (upd H1 D (.lst [])) μ2 H2 ∧ Rel X.K L.CA μ2 st2 H2 ∧ Post X.K L.CA W (RVal X.K) σ μ2 H2 Q (lcTurns t.give (L.ts tx) (L.e x) w (wipeF ρ own) st1.length m i st2), ⟨w.len, by omega, μ1 ++ [D], _, .refl, R2, ?_⟩, ?_⟩
  · have P1 : Post X.K L.CA W (RVal X.K) σ μ1 H1 Q (lcTurns t.give (L.ts tx) (L.e x) w (wipeF ρ own) st1.length w.len 0 (st1 ++ [.lst []])) := P1
    cases e : lcTurns t.give (L.ts tx) (L.e x) w (wipeF ρ own) st1.length w.len 0 (st1 ++ [.lst []]) with
    | ok c s2 => rw [e] at P1; exact fun μ2 H2 d l => P1 μ2 H2 d (l2.trans l)
    | exc c v s2 => rw [e] at P1; exact fun μ2 H2 d z l => P1 μ2 H2 d z (l2.trans l)
    | stuck => rw [e] at P1; exact P1
  · rintro i m H2 ⟨hm, μ2, st2, l3, R3, P3⟩
    cases m with
    | zero =>
      unfold lcTurns at P3
      split at P3
      · rename_i hf
        refine .inl ⟨?_, P3 μ2 H2 _ .refl R3 (.ref (l3.at_ hDi))⟩
        have e : i = w.len := by omega
        rw [e]
        exact wit.stop μ2 st2 H2 (l2.trans l3) R3 hf
      · exact P3.elim
    | succ r =>
      unfold lcTurns at P3
      split at P3
      · exact P3.elim
      · rename_i v hv
        obtain ⟨go, yl⟩ := wit.go μ2 st2 H2 i v (l2.trans l3) R3 (by omega) hv
        refine .inr ⟨go, fun H' => ∃ μ2' st2', Le (μ1 ++ [D]) (upd H1 D (.lst [])) μ2' H' ∧ Rel X.K L.CA μ2' st2' H' ∧ Post X.K L.CA W (RVal X.K) σ μ2' H' Q (lcTurns t.give (L.ts tx) (L.e x) w (wipeF ρ own) st1.length r (i + 1) st2'), fun H' q => ⟨r, by omega, by omega, q⟩, fun y H3 hy => ?_⟩
        obtain ⟨l4, R4, rv⟩ := yl y H3 hy
        split at P3
        · exact P3.elim
        · rename_i ρ' hρ
          refine gok μ2 H3 v y (wipeF ρ own) (wipe σ own) ρ' st2 _ R4 rv ((E2.mono (l3.trans l4)).wipeF own) hρ fun σ' E' hw => ⟨?_, ?_⟩
          · rw [hw own hsl]
            have aux : ∀ (vs ws : List Nat) (τ : L2.St), (∀ i ∈ ws, i ∈ vs) → wipe (wipe τ ws) vs = wipe τ vs := by
              intro vs ws
              induction ws with
              | nil => intro τ _; rfl
              | cons a as ih =>
                intro τ hh
                show wipe ((wipe τ as).set a none) vs = _
                rw [wipe_set (hh a List.mem_cons_self), ih τ fun i hi => hh i (List.mem_cons_of_mem _ hi)]
            exact aux own own σ fun _ h => h
          · have P3' : Post X.K L.CA W (RVal X.K) σ μ2 H3 Q ((L.ts tx ρ' st2).quiet.bind fun b st1' => if b then (L.e x ρ' st1').quiet.bind fun y st2' => match mutAt st2' st1.length with
                | some acc => if decide (acc.length < 16777216) then lcTurns t.give (L.ts tx) (L.e x) w (wipeF ρ own) st1.length r (i + 1) (st2'.set st1.length (.lst (acc ++ [y]))) else .stuck
                | none => .stuck
              else lcTurns t.give (L.ts tx) (L.e x) w (wipeF ρ own) st1.length r (i + 1) st1') := by
              revert P3
              generalize (Res.bind (L.ts tx ρ' st2).quiet _) = rr
              intro P3
              cases rr with
              | ok c s2 => exact fun μ' H' d l => P3 μ' H' d (l4.trans l)
              | exc c v s2 => exact fun μ' H' d z l => P3 μ' H' d z (l4.trans l)
              | stuck => exact P3
            refine ht σ' H3 _ ⟨μ2, ρ', st2, R4, E', (post_quiet_bind (RV := REq Bool) P3').imp fun b H4 h4 => ?_⟩
            obtain ⟨μ4, b', st4, l5, R5, eb, P4⟩ := h4
            subst eb
            cases b' with
            | false =>
              refine iteF ?_
              exact ⟨μ4, st4, (l3.trans l4).trans l5, R5, P4⟩
            | true =>
              refine iteT ?_
              refine he σ' H4 _ ⟨μ4, ρ', st4, R5, E'.mono l5, (post_quiet_bind (RV := RVal X.K) P4).imp fun z H5 h5 => ?_⟩
              obtain ⟨μ5, u, st5, l6, R6, ru, P5⟩ := h5
              have l7 : Le (μ1 ++ [D]) (upd H1 D (.lst [])) μ5 H5 := ((l3.trans l4).trans l5).trans l6
              split at P5
              · rename_i acc hacc
                obtain ⟨xs, h1, r1⟩ := R6.mut (l7.at_ hDi) hacc
                split at P5
                · rename_i hlt
                  have hlt := of_decide_eq_true hlt
                  refine ⟨xs, h1, by rw [← r1.length, sizeLine_eq]; exact hlt, μ5, _, l7.trans (.of_write h1 (by exact True.intro)), R6.write (l7.at_ hDi) (mut_at hacc) rfl h1 (by exact True.intro) (o := .lst (xs ++ [z])) (ob := .lst (acc ++ [u])) (r1.append (.cons ru .nil)), ?_⟩
                  revert P5
                  generalize lcTurns t.give (L.ts tx) (L.e x) w (wipeF ρ own) st1.length r (i + 1) _ = rr
                  intro P5
                  have lw : Le μ5 H5 μ5 (upd H5 D (.lst (xs ++ [z]))) := .of_write h1 (by exact True.intro)
                  cases rr with
                  | ok c s2 => exact fun μ' H' d l => P5 μ' H' d (lw.trans l)
                  | exc c v s2 => exact fun μ' H' d z l => P5 μ' H' d z (lw.trans l)
                  | stuck => exact P5
                · exact P5.elim
              · exact P5.elim
/-- [elt for target in iter if ..] -/
theorem d_lc {elt tg iter : Expr} {ifs : List Expr} {scope : Scope} {own : List (Str × Nat)} {x : Ex} {it : Ir} {tx : Txo} {t : Tg} {g : TG} (hc : X.calm = true) (hN : X.N.Nodup) (hi : DI L X W tg iter it) (ok : BlkOk X.N X.env.scope scope own)
    (hg : ∀ (s : Shared) (H : Hp) (C : Addr) (cl : List (Str × Addr)) (fp : List Addr), DG L.CA (X.blk s H scope (compEnvC scope cl C X.env) fp) tg t g)
    (ht : ∀ (s : Shared) (H : Hp) (C : Addr) (cl : List (Str × Addr)) (fp : List Addr), DTs L (X.blk s H scope (compEnvC scope cl C X.env) fp) WF ifs tx)
    (he : ∀ (s : Shared) (H : Hp) (C : Addr) (cl : List (Str × Addr)) (fp : List Addr), DE L (X.blk s H scope (compEnvC scope cl C X.env) fp) WF elt x) (hsl : ∀ i ∈ t.slots, i ∈ own.map (·.2)) (hs : ∀ x, foldedSetIterable iter X.env x = pure x := by intro _; rfl) :
    DE L X W (.ListComp elt [⟨tg, iter, ifs, 0⟩] scope pos) (.lc x t it tx (own.map (·.2))) :=
  PE.imp (pe_lc (tt := tT X.K L.CA WF (L.ts tx)) (te := tE X.K L.CA WF (L.e x)) hc hN hi ok (fun s H C cl fp => (hg s H C cl fp).pg) (fun s H C cl fp => ht s H C cl fp) (fun s H C cl fp => he s H C cl fp) hs) fun σ H Q h => lc_imp (hg X.s_0 X.H_0 0 [] []).ok (fun _ _ _ h => h) (fun _ _ _ h => h) (fun _ _ _ h => h) hsl h
/-! ### calls -/
/-- what a def is to its callers -/
def spM (K : PySem.W.Frag) (CA : Nat → Addr) (n : Nat) (m : List Val → Store → Res Val) : Sp := fun vs H Q E => vs.length = n ∧ ∃ μ args st, Rel K CA μ st H ∧ RepL K μ H args vs ∧ Post K CA (fun c d _ H' => E c d H') (RVal K) [] μ H Q (m args st)
structure FnAt (L : Lib) (X : Cx) (f : Str) (id k : Nat) : Prop where
  ex : ∃ (a : Addr) (fd : FuncData) (ps : List Str), X.mg f = some (.ref a) ∧ PySem.W.keepIn X.K (.ref a) = true ∧ Binds X.K fd ps [] ∧ FnOk X.prog X.w X.K X.mg X.base (L2.CX X.prog X.w) k a fd ps (spM X.K L.CA ps.length (L.cl id)) ∧
    ∀ args st, args.length ≠ ps.length → L.cl id args st = .stuck
theorem FnAt.mono {L : Lib} {X : Cx} {f : Str} {id j k : Nat} (F : FnAt L X f id j) (h : j ≤ k) : FnAt L X f id k := by
  obtain ⟨a, fd, ps, h1, h2, h3, h4, h5⟩ := F.ex
  exact ⟨a, fd, ps, h1, h2, h3, h4.mono h, h5⟩
theorem Post.wish {α β : Type} {K : PySem.W.Frag} {CA : Nat → Addr} {W W' : WX} {RV : List Addr → Hp → α → β → Prop} {σ σ' : L2.St} {μ : List Addr} {H : Hp} {Q : β → Hp → Prop} {r : Res α} (h : Post K CA W RV σ μ H Q r) (hw : ∀ c d H', W c d σ H' → W' c d σ' H') : Post K CA W' RV σ' μ H Q r := by
  cases r with
  | ok a st => exact h
  | exc c v st => exact fun μ' H' x d l R rv hd => hw _ _ _ (h μ' H' x d l R rv hd)
  | stuck => exact h
theorem d_call {f : Str} {e : Expr} {es : List Expr} {xs : Exs} {p : Pos} {id k : Nat} (F : FnAt L X f id k) (hr : Room k X.A) (tk : Takes X W) (hg : Gl X f) (ha : DA L X W (e :: es) xs)
    (hdb : (f == ("__debug__" : Str)) = false := by decide) (he : starEach (e :: es) X.env = (false, eval e X.env) :: starEach es X.env := by rfl) (hpl : (backTo pos (starEach es X.env)).any (·.1) = false := by rfl) :
    DE L X W (.Call (.Name f p) (e :: es) [] pos) (.call id xs) := by
  obtain ⟨a, fd, ps, h1, h2, h3, h4, h5⟩ := F.ex
  refine PE.imp (pe_callSD (E := WE W) h4 hr hg h1 h2 h3 .nil (fun σ => passAt tk σ) ha hdb he hpl) fun σ H Q h => ?_
  obtain ⟨μ, ρ, st, R, E, P⟩ := h
  refine ⟨μ, ρ, st, R, E, (Post.bind (RV := RVals X.K) P).imp fun vs H1 h1 => ?_⟩
  obtain ⟨μ1, args, st1, l1, R1, rv, P1⟩ := h1
  rw [List.append_nil]
  by_cases hl : args.length = ps.length
  · exact ⟨by rw [← rv.length]; exact hl, μ1, args, st1, R1, rv, P1.wish fun c d H' q => q⟩
  · rw [h5 args st1 hl] at P1
    exact P1.elim
end
/-! ### statements -/
def PostS (K : PySem.W.Frag) (CA : Nat → Addr) (W : WX) (μ : List Addr) (H : Hp) (D : Ends) : Out → Prop
  | .next ρ st => ∀ μ' H' σ', Le μ H μ' H' → Rel K CA μ' st H' → RepE K μ' H' ρ σ' → D.nx σ' H'
  | .ret v st => ∀ μ' H' x, Le μ H μ' H' → Rel K CA μ' st H' → RepV K μ' H' v x → D.rt x H'
  | .brk ρ st => ∀ μ' H' σ', Le μ H μ' H' → Rel K CA μ' st H' → RepE K μ' H' ρ σ' → D.bk σ' H'
  | .cnt ρ st => ∀ μ' H' σ', Le μ H μ' H' → Rel K CA μ' st H' → RepE K μ' H' ρ σ' → D.ct σ' H'
  | .exc c v ρ st => ∀ μ' H' σ' x d, Le μ H μ' H' → Rel K CA μ' st H' → RepE K μ' H' ρ σ' → RepV K μ' H' v x → H' d = some (.xd [(valueF, x)]) → W (.ref (CA c)) (some d) σ' H'
  | .stuck => False
def tS (K : PySem.W.Frag) (CA : Nat → Addr) (W : WX) (f : Fr → Store → Out) : TS := fun D σ H => ∃ μ ρ st, Rel K CA μ st H ∧ RepE K μ H ρ σ ∧ PostS K CA W μ H D (f ρ st)
abbrev Lib.x (L : Lib) := ex L.cl
abbrev Lib.xs (L : Lib) := exs L.cl
def DS (L : Lib) (X : Cx) (W : WX) (s : Stmt) (x : Sx) : Prop := PS X s (tS X.K L.CA W (L.x x))
def DSs (L : Lib) (X : Cx) (W : WX) (s : List Stmt) (x : List Sx) : Prop := PSs X s (tS X.K L.CA W (L.xs x))
theorem PostS.le {K : PySem.W.Frag} {CA : Nat → Addr} {W : WX} {μ μ1 : List Addr} {H H1 : Hp} {D : Ends} {o : Out} (l : Le μ H μ1 H1) (h : PostS K CA W μ H D o) : PostS K CA W μ1 H1 D o := by
  cases o with
  | next ρ st => exact fun μ' H' σ' l' => h μ' H' σ' (l.trans l')
  | ret v st => exact fun μ' H' σ' l' => h μ' H' σ' (l.trans l')
  | brk ρ st => exact fun μ' H' σ' l' => h μ' H' σ' (l.trans l')
  | cnt ρ st => exact fun μ' H' σ' l' => h μ' H' σ' (l.trans l')
  | exc c v ρ st => exact fun μ' H' σ' x d l' => h μ' H' σ' x d (l.trans l')
  | stuck => exact h
theorem PostS.out {α β : Type} {K : PySem.W.Frag} {CA : Nat → Addr} {W : WX} {RV : List Addr → Hp → α → β → Prop} {σ : L2.St} {μ : List Addr} {H : Hp} {D : Ends} {ρ : Fr} {r : Res α} {f : α → Store → Out} (h : PostS K CA W μ H D (r.out ρ f)) (E : RepE K μ H ρ σ) :
    Post K CA W RV σ μ H (fun b H1 => ∃ μ1 a st1, Le μ H μ1 H1 ∧ Rel K CA μ1 st1 H1 ∧ RV μ1 H1 a b ∧ PostS K CA W μ1 H1 D (f a st1)) r := by
  cases r with
  | ok a st => exact fun μ' H' b l R v => ⟨μ', a, st, l, R, v, PostS.le l h⟩
  | exc c v st => exact fun μ' H' x d l R rv hd => h μ' H' σ x d l R (E.mono l) rv hd
  | stuck => exact h
section
variable {L : Lib} {X : Cx} {W : WX} {pos : Pos} {e : Expr} {x : Ex} {s : Stmt} {ss : List Stmt}
theorem dss_nil : DSs L X W [] [] := by
  refine PSs.imp pss_nil fun D σ H h => ?_
  obtain ⟨μ, ρ, st, R, E, P⟩ := h
  exact P μ H σ .refl R E
theorem dss_cons {sx : Sx} {sxs : List Sx} (h1 : DS L X W s sx) (h2 : DSs L X W ss sxs) : DSs L X W (s :: ss) (sx :: sxs) := by
  refine PSs.imp (pss_cons h1 h2) fun D σ H h => ?_
  obtain ⟨μ, ρ, st, R, E, P⟩ := h
  refine ⟨μ, ρ, st, R, E, ?_⟩
  have P : PostS X.K L.CA W μ H D (match L.x sx ρ st with | .next ρ1 st1 => L.xs sxs ρ1 st1 | o => o) := P
  cases e : L.x sx ρ st with
  | next ρ1 st1 =>
    rw [e] at P
    exact fun μ' H' σ' l R' E' => ⟨μ', ρ1, st1, R', E', P.le l⟩
  | ret v st => rw [e] at P; exact P
  | brk ρ st => rw [e] at P; exact P
  | cnt ρ st => rw [e] at P; exact P
  | exc c v ρ st => rw [e] at P; exact P
  | stuck => rw [e] at P; exact P.elim
theorem ds_never : DS L X W s .never := ⟨fun pins s' σ H D I h => by
  obtain ⟨μ, ρ, st, R, E, P⟩ := h
  exact P.elim⟩
theorem ds_pass : DS L X W (.Pass pos) .pass := by
  refine PS.imp ps_pass fun D σ H h => ?_
  obtain ⟨μ, ρ, st, R, E, P⟩ := h
  exact P μ H σ .refl R E
theorem ds_brk : DS L X W (.Break pos) .brk := by
  refine PS.imp ps_break fun D σ H h => ?_
  obtain ⟨μ, ρ, st, R, E, P⟩ := h
  exact P μ H σ .refl R E
theorem ds_cnt : DS L X W (.Continue pos) .cnt := by
  refine PS.imp ps_continue fun D σ H h => ?_
  obtain ⟨μ, ρ, st, R, E, P⟩ := h
  exact P μ H σ .refl R E
theorem ds_retn : DS L X W (.Return none pos) .retn := by
  refine PS.imp ps_retN fun D σ H h => ?_
  obtain ⟨μ, ρ, st, R, E, P⟩ := h
  exact P μ H _ .refl R .non
theorem ds_ret (h : DE L X W e x) : DS L X W (.Return (some e) pos) (.ret x) := by
  refine PS.imp (ps_ret h) fun D σ H h => ?_
  obtain ⟨μ, ρ, st, R, E, P⟩ := h
  refine ⟨μ, ρ, st, R, E, (PostS.out (RV := RVal X.K) P E).imp fun w H1 h1 => ?_⟩
  obtain ⟨μ1, v, st1, l1, R1, rv, P1⟩ := h1
  exact P1 μ1 H1 w .refl R1 rv
theorem ds_exp (h : DE L X W e x) (hs : swapsWith e none pos.line X.env = pure false := by rfl) : DS L X W (.Expr e pos) (.exp x) := by
  refine PS.imp (ps_expr h hs) fun D σ H h => ?_
  obtain ⟨μ, ρ, st, R, E, P⟩ := h
  refine ⟨μ, ρ, st, R, E, (PostS.out (RV := RVal X.K) P E).imp fun w H1 h1 => ?_⟩
  obtain ⟨μ1, v, st1, l1, R1, rv, P1⟩ := h1
  exact P1 μ1 H1 σ .refl R1 (E.mono l1)
theorem ds_ite {c : Expr} {t : Tx} {a b : List Stmt} {xa xb : List Sx} (hc : DT L X W c t) (ha : DSs L X W a xa) (hb : DSs L X W b xb) : DS L X W (.If c a b pos) (.ite t xa xb) := by
  refine PS.imp (ps_if hc ha hb) fun D σ H h => ?_
  obtain ⟨μ, ρ, st, R, E, P⟩ := h
  refine ⟨μ, ρ, st, R, E, (PostS.out (RV := REq Bool) P E).imp fun w H1 h1 => ?_⟩
  obtain ⟨μ1, v, st1, l1, R1, rv, P1⟩ := h1
  subst rv
  cases v with
  | true => exact iteT ⟨μ1, ρ, st1, R1, E.mono l1, P1⟩
  | false => exact iteF ⟨μ1, ρ, st1, R1, E.mono l1, P1⟩
theorem set_imp {te : TE} {i : Nat} {D : Ends} {σ : L2.St} {H : Hp} (hi : ∀ σ H Q, tE X.K L.CA W (L.e x) σ H Q → te σ H Q) (h : tS X.K L.CA W (L.x (.set i x)) D σ H) : tAsg te (gName i) D σ H := by
  obtain ⟨μ, ρ, st, R, E, P⟩ := h
  refine hi σ H _ ⟨μ, ρ, st, R, E, (PostS.out (RV := RVal X.K) P E).imp fun w H1 h1 => ?_⟩
  obtain ⟨μ1, v, st1, l1, R1, rv, P1⟩ := h1
  exact P1 μ1 H1 _ .refl R1 ((E.mono l1).set rv)
theorem ds_set (i : Nat) {n : Str} {pos' : Pos} (hN : X.N.Nodup) (hi : X.N[i]? = some n) (hx : Loc X.env.scope n) (hf : X.fn n = true ∨ X.env.scope.names.lookup n = some .local) (h : DE L X W e x) (hs : swapsWith e (some (.Name n pos')) pos.line X.env = pure false := by rfl) :
    DS L X W (.Assign [.Name n pos'] e pos) (.set i x) := PS.imp (ps_set hN hi hx h hs hf) fun D σ H h => set_imp (fun _ _ _ h => h) h
theorem ds_setLc (i : Nat) {n : Str} {pos' spos : Pos} {elt tg iter : Expr} {ifs : List Expr} {scope : Scope} {own : List (Str × Nat)} {it : Ir} {tx : Txo} {t : Tg} {g : TG} (hc : X.calm = true) (hN : X.N.Nodup) (hy : X.N[i]? = some n) (hyl : X.env.scope.names.lookup n = some .local)
    (hsw : swapsWith (.ListComp elt [⟨tg, iter, ifs, 0⟩] scope pos) (some (.Name n pos')) spos.line X.env = pure true) (hi : DI L X W tg iter it) (ok : BlkOk X.N X.env.scope scope own)
    (hg : ∀ (s : Shared) (H : Hp) (C : Addr) (cl : List (Str × Addr)) (fp : List Addr), DG L.CA (X.blk s H scope (compEnvC scope cl C X.env) fp) tg t g)
    (ht : ∀ (s : Shared) (H : Hp) (C : Addr) (cl : List (Str × Addr)) (fp : List Addr), DTs L (X.blk s H scope (compEnvC scope cl C X.env) fp) WF ifs tx)
    (he : ∀ (s : Shared) (H : Hp) (C : Addr) (cl : List (Str × Addr)) (fp : List Addr), DE L (X.blk s H scope (compEnvC scope cl C X.env) fp) WF elt x) (hsl : ∀ i ∈ t.slots, i ∈ own.map (·.2)) (hs : ∀ x, foldedSetIterable iter X.env x = pure x := by intro _; rfl) :
    DS L X W (.Assign [.Name n pos'] (.ListComp elt [⟨tg, iter, ifs, 0⟩] scope pos) spos) (.set i (.lc x t it tx (own.map (·.2)))) :=
  PS.imp (ps_setLc (tt := tT X.K L.CA WF (L.ts tx)) (te := tE X.K L.CA WF (L.e x)) hc hN hy hyl hsw hi ok (fun s H C cl fp => (hg s H C cl fp).pg) (fun s H C cl fp => ht s H C cl fp) (fun s H C cl fp => he s H C cl fp) hs) fun D σ H h =>
    set_imp (fun σ H Q h => lc_imp (hg X.s_0 X.H_0 0 [] []).ok (fun _ _ _ h => h) (fun _ _ _ h => h) (fun _ _ _ h => h) hsl h) h
theorem ds_unp {is : List Nat} {g : TG} {tg : Expr} (h : DE L X W e x) (hg : DG L.CA X tg (.tp is) g) (hs : swapsWithSole [tg] e pos.line X.env = pure false := by rfl) (hw : swappedStores [tg] e X.env = pure none := by rfl)
    (h1 : (assignEach [tg] X.env).map (·.2) = [assign tg X.env] := by rfl) : DS L X W (.Assign [tg] e pos) (.unp is x) := by
  refine PS.imp (ps_asg h hg.pg hs hw h1) fun D σ H h => ?_
  obtain ⟨μ, ρ, st, R, E, P⟩ := h
  refine ⟨μ, ρ, st, R, E, (PostS.out (RV := RVal X.K) P E).imp fun w H1 h1 => ?_⟩
  obtain ⟨μ1, v, st1, l1, R1, rv, P1⟩ := h1
  split at P1
  · rename_i ρ' hρ
    exact hg.ok μ1 H1 v w ρ σ ρ' st1 _ R1 rv (E.mono l1) hρ fun σ' E' _ => P1 μ1 H1 σ' .refl R1 E'
  · exact P1.elim
/-! o[i] = v -/
theorem put_rep {K : PySem.W.Frag} {μ : List Addr} {H : Hp} {kvs : List (Key × Val)} {kxs : List (Key × V)} {k : Key} {v : Val} {z : V} (h1 : kvs.map (·.1) = kxs.map (·.1)) (h2 : RepL K μ H (kvs.map (·.2)) (kxs.map (·.2))) (r : RepV K μ H v z) :
    (putKV kvs k v).map (·.1) = (putK kxs k z).map (·.1) ∧ RepL K μ H ((putKV kvs k v).map (·.2)) ((putK kxs k z).map (·.2)) := by
  have ha : (kvs.any fun kv => decide (kv.1 = k)) = (kxs.any fun kv => decide (kv.1 = k)) := by
    rw [(find_rep (k := k) h1 h2).2, valV_any]
  unfold putKV putK
  rw [ha]
  split
  · rename_i hh
    clear hh ha
    induction kvs generalizing kxs with
    | nil => cases kxs with
      | nil => exact ⟨rfl, .nil⟩
      | cons a b => simp at h1
    | cons p ps ih => cases kxs with
      | nil => simp at h1
      | cons q qs =>
        rw [List.map_cons, List.map_cons] at h1
        obtain ⟨e1, e2⟩ := List.cons.inj h1
        cases h2 with
        | cons ra rb =>
          obtain ⟨i1, i2⟩ := ih e2 rb
          rw [List.map_cons, List.map_cons, List.map_cons, List.map_cons, List.map_cons, List.map_cons, i1]
          by_cases hk : p.1 = k
          · rw [if_pos hk, if_pos (e1.symm.trans hk)]
            exact ⟨by rw [e1], .cons r i2⟩
          · rw [if_neg hk, if_neg (fun z => hk (e1.trans z))]
            exact ⟨by rw [e1], .cons ra i2⟩
  · rw [List.map_append, List.map_append, List.map_append, List.map_append, h1]
    exact ⟨rfl, h2.append (.cons r .nil)⟩
def rSetA (K : PySem.W.Frag) (CA : Nat → Addr) : TSet := fun o i v H Q => ∃ μ o' i' v' st st', Rel K CA μ st H ∧ RepV K μ H o' o ∧ RepV K μ H i' i ∧ RepV K μ H v' v ∧ setiV o' i' v' st = some st' ∧ ∀ μ' H', Le μ H μ' H' → Rel K CA μ' st' H' → Q H'
theorem set_any {CA : Nat → Addr} (hu : X.A.units + 64 < cLine) : PSet X (rSetA X.K CA) := by
  intro pins s σ H o i v ov iv u Q I ro ri rv h
  obtain ⟨μ, o', i', v', st, st', R, qo, qi, qv, e, q⟩ := h
  cases qo with
  | @ref n a hn =>
    unfold setiV at e
    dsimp only at e
    split at e
    · rename_i vs hs
      obtain ⟨xs, h1, h2⟩ := R.mut hn (show mutAt st n = some vs by unfold mutAt; rw [hs])
      cases qi with
      | int j =>
        dsimp only at e
        split at e
        · rename_i k hk
          cases e
          refine set_list pins s σ H _ _ v ov iv u Q I ro ri rv ⟨a, xs, j, k, rfl, rfl, h1, by rw [← h2.length]; exact hk, ?_⟩
          exact q μ _ (.of_write h1 (by exact True.intro)) (R.write hn (by assumption) rfl h1 (by exact True.intro) (o := .lst (xs.set k v)) (ob := .lst (vs.set k v')) (h2.set qv))
        · cases e
      | _ => cases e
    · rename_i kvs hs
      obtain ⟨kxs, h1, h2, h3⟩ := R.dct hn hs
      split at e
      · rename_i hl
        have hl := of_decide_eq_true hl
        have hlen : kvs.length = kxs.length := by simpa using congrArg List.length h2
        have dk : ∀ kk : Key, i = kV kk → st' = st.set n (.dct (putKV kvs kk v')) → wpAny (model X.prog X.w) X.A (setItem ov iv u) (fun _ s' => ∃ H', Inv X pins σ H' s' ∧ Q H') X.xe s := fun kk ei es => by
          obtain ⟨p1, p2⟩ := put_rep (k := kk) h2 h3 qv
          refine set_dict (by omega) pins s σ H _ _ v ov iv u Q I ro ri rv ⟨a, upd H a (.dK (putK kxs kk v)), rfl, ?_, ?_⟩
          · rw [ei]
            exact DPut.k h1 (by rw [sizeLine_eq]; omega)
          · rw [es] at q
            exact q μ _ (.of_write h1 (by exact True.intro)) (R.write hn (by assumption) rfl h1 (by exact True.intro) (o := .dK (putK kxs kk v)) (ob := .dct (putKV kvs kk v')) ⟨p1, p2⟩)
        cases qi with
        | int j => exact dk (.inl j) rfl (Option.some.inj e).symm
        | str z => exact dk (.inr z) rfl (Option.some.inj e).symm
        | _ => cases e
      · cases e
    · cases e
  | _ => cases e
theorem ds_seti {o i : Expr} {xo xi : Ex} {pos' : Pos} (hu : X.A.units + 64 < cLine) (ho : DE L X W o xo) (hi : DE L X W i xi) (h : DE L X W e x)
    (ha : ∀ v, assign (.Subscript o i pos') X.env v = (do let ov ← holding [v] (eval o X.env); let iv ← holding [v, ov] (eval i X.env); standAt pos'; holding [v, ov, iv] (setItem ov iv v); release [v, ov, iv] []) := by intro _; rfl)
    (hs : swapsWithSole [.Subscript o i pos'] e pos.line X.env = pure false := by rfl) (hw : swappedStores [.Subscript o i pos'] e X.env = pure none := by rfl)
    (h1 : (assignEach [.Subscript o i pos'] X.env).map (·.2) = [assign (.Subscript o i pos') X.env] := by rfl) : DS L X W (.Assign [.Subscript o i pos'] e pos) (.seti xo xi x) := by
  refine PS.imp (ps_asg h (pg_sub ho hi (set_any (CA := L.CA) hu) ha) hs hw h1) fun D σ H h => ?_
  obtain ⟨μ, ρ, st, R, E, P⟩ := h
  refine ⟨μ, ρ, st, R, E, (PostS.out (RV := RVal X.K) P E).imp fun w H1 h1 => ?_⟩
  obtain ⟨μ1, v, st1, l1, R1, rv, P1⟩ := h1
  refine ⟨μ1, ρ, st1, R1, E.mono l1, (PostS.out (RV := RVal X.K) P1 (E.mono l1)).imp fun w2 H2 h2 => ?_⟩
  obtain ⟨μ2, v2, st2, l2, R2, rv2, P2⟩ := h2
  refine ⟨μ2, ρ, st2, R2, E.mono (l1.trans l2), (PostS.out (RV := RVal X.K) P2 (E.mono (l1.trans l2))).imp fun w3 H3 h3 => ?_⟩
  obtain ⟨μ3, v3, st3, l3, R3, rv3, P3⟩ := h3
  split at P3
  · rename_i st4 e4
    exact ⟨μ3, v2, v3, v, st3, st4, R3, rv2.mono l3, rv3, rv.mono (l2.trans l3), e4, fun μ4 H4 l4 R4 => P3 μ4 H4 σ l4 R4 (E.mono (((l1.trans l2).trans l3).trans l4))⟩
  · exact P3.elim
/-! ### for -/
theorem ds_for {tg iter : Expr} {body : List Stmt} {t : Tg} {g : TG} {it : Ir} {sxs : List Sx} (hp : PassesOwn (model X.prog X.w) X.A X.env X.xe) (hc : X.calm = true) (hi : DI L X W tg iter it) (hg : DG L.CA X tg t g) (hb : DSs L X W body sxs)
    (hs : ∀ x, foldedSetIterable iter X.env x = pure x := by intro _; rfl) : DS L X W (.For tg iter body [] pos) (.loop t it sxs) := by
  refine PS.imp (ps_for hp hc hi hg.pg hb hs) fun D σ H h => ?_
  obtain ⟨μ, ρ, st, R, E, P⟩ := h
  refine ⟨μ, ρ, st, R, E, (PostS.out (RV := RWk X.K L.CA) P E).imp fun J H1 h1 => ?_⟩
  obtain ⟨μ1, w, st1, l1, R1, wit, P1⟩ := h1
  refine ⟨fun i m σ2 H2 => i + m = w.len ∧ ∃ μ2 ρ2 st2, Le μ1 H1 μ2 H2 ∧ Rel X.K L.CA μ2 st2 H2 ∧ RepE X.K μ2 H2 ρ2 σ2 ∧ PostS X.K L.CA W μ2 H2 D (forTurns t.give (L.xs sxs) w m i ρ2 st2), ⟨w.len, by omega, μ1, ρ, st1, .refl, R1, E.mono l1, P1⟩, ?_⟩
  rintro i m σ2 H2 ⟨hm, μ2, ρ2, st2, l2, R2, E2, P2⟩
  cases m with
  | zero =>
    unfold forTurns at P2
    split at P2
    · rename_i hf
      refine .inl ⟨?_, P2 μ2 H2 σ2 .refl R2 E2⟩
      have e : i = w.len := by omega
      rw [e]
      exact wit.stop μ2 st2 H2 l2 R2 hf
    · exact P2.elim
  | succ r =>
    unfold forTurns at P2
    split at P2
    · exact P2.elim
    · rename_i v hv
      obtain ⟨go, yl⟩ := wit.go μ2 st2 H2 i v l2 R2 (by omega) hv
      refine .inr ⟨go, fun σ' H' => ∃ μ' ρ' st', Le μ1 H1 μ' H' ∧ Rel X.K L.CA μ' st' H' ∧ RepE X.K μ' H' ρ' σ' ∧ PostS X.K L.CA W μ' H' D (forTurns t.give (L.xs sxs) w r (i + 1) ρ' st'), fun σ' H' q => ⟨r, by omega, by omega, q⟩, fun y H3 hy => ?_⟩
      obtain ⟨l3, R3, rv⟩ := yl y H3 hy
      split at P2
      · exact P2.elim
      · rename_i ρ' hρ
        refine hg.ok μ2 H3 v y ρ2 σ2 ρ' st2 _ R3 rv (E2.mono l3) hρ fun σ' E' _ => ?_
        refine ⟨μ2, ρ', st2, R3, E', ?_⟩
        have P3 := P2.le l3
        cases eo : L.xs sxs ρ' st2 with
        | next ρ4 st4 =>
          rw [eo] at P3
          exact fun μ4 H4 σ4 l4 R4 E4 => ⟨μ4, ρ4, st4, (l2.trans l3).trans l4, R4, E4, P3.le l4⟩
        | cnt ρ4 st4 =>
          rw [eo] at P3
          exact fun μ4 H4 σ4 l4 R4 E4 => ⟨μ4, ρ4, st4, (l2.trans l3).trans l4, R4, E4, P3.le l4⟩
        | brk ρ4 st4 => rw [eo] at P3; exact P3
        | ret v st4 => rw [eo] at P3; exact P3
        | exc c v ρ4 st4 => rw [eo] at P3; exact P3
        | stuck => rw [eo] at P3; exact P3
/-! ### for over a dict: it is locked meanwhile -/
theorem pv_ok {ρ : Fr} {st : Store} {cl : Cl} : ∀ {x : Ex} {v : Val}, pv ρ x = some v → ev cl x ρ st = .ok v st := fun {x v} h => by
  unfold pv at h
  split at h
  · rename_i i
    split at h
    · rename_i u e
      cases h
      show (match ρ[i]? with | some (some v) => Res.ok v st | _ => .stuck) = _
      rw [e]
    · cases h
  · rename_i i k
    split at h
    · rename_i vs e
      show ((match ρ[i]? with | some (some v) => Res.ok v st | _ => .stuck).bind fun v st1 => (Res.ok (Val.int k) st1).bind fun u st2 => liftO ((idxV st2 v u).map fun w => (w, st2))) = _
      rw [e]
      show liftO ((atI vs k).map fun w => (w, st)) = _
      rw [h]
      rfl
    · cases h
  · cases h
theorem ds_forD {tg iter : Expr} {body : List Stmt} {t : Tg} {g : TG} {sxs : List Sx} (hp : PassesOwn (model X.prog X.w) X.A X.env X.xe) (hc : X.calm = true) (hi : DE L X W iter x) (hg : DG L.CA X tg t g) (hb : DSs L X W body sxs)
    (hs : ∀ x, foldedSetIterable iter X.env x = pure x := by intro _; rfl) : DS L X W (.For tg iter body [] pos) (.loopd t x sxs) := by
  refine PS.imp (ps_lock (ps_for hp hc (pi_keys hi) hg.pg hb hs)) fun D σ H h => ?_
  obtain ⟨μ, ρ, st, R, E, P⟩ := h
  have P : PostS X.K L.CA W μ H D (match pv ρ x with
    | some (.ref n) => match st[n]? with
      | some (.dct kvs) => thaw n (forTurns t.give (L.xs sxs) (.tup (kvs.map fun kv => keyV kv.1)) kvs.length 0 ρ (st.set n (.frd kvs)))
      | _ => .stuck
    | _ => .stuck) := P
  split at P
  · rename_i n hpv
    split at P
    · rename_i kvs hn
      obtain ⟨a, hm, _⟩ := R.ob n _ hn
      obtain ⟨kxs, h1, h2, h3⟩ := R.dct hm hn
      refine ⟨a, .dK kxs, h1, True.intro, fun od => ?_⟩
      obtain ⟨l1, R1⟩ := R.lock od hm hn h1 h2 h3
      have hfr : (upd H a (.frz od (.dK kxs))) a = some (.frz od (.dK kxs)) := upd_same
      have hlen : kvs.length = kxs.length := by simpa using congrArg List.length h2
      refine ⟨μ, ρ, st.set n (.frd kvs), R1, E.mono l1, ?_⟩
      show Post X.K L.CA W (RVal X.K) σ μ (upd H a (.frz od (.dK kxs))) _ (ev L.cl x ρ (st.set n (.frd kvs)))
      rw [pv_ok hpv]
      intro μ' H' b l' R' rb
      cases rb with
      | ref hb' =>
      have ea : a = _ := Option.some.inj ((l'.at_ hm).symm.trans hb')
      subst ea
      have hfr' := l'.frz _ _ _ hfr
      refine ⟨a, od, rfl, .inl ⟨kxs, hfr', ?_⟩⟩
      have wit : Wit X.K L.CA μ' H' (.tup (kvs.map fun kv => keyV kv.1)) (Itk a od kxs) := wit_dct hfr' h2
      have hwl : (Wk.tup (kvs.map fun kv => keyV kv.1)).len = kvs.length := List.length_map _
      -- what the ends want, unlocked
      have fin : ∀ {o : Out} {μ2 : List Addr} {H2 : Hp}, Le μ' H' μ2 H2 → PostS X.K L.CA W μ H D (thaw n o) → PostS X.K L.CA W μ2 H2 ⟨fun σ' H' => H' a = some (.frz od (.dK kxs)) ∧ D.nx σ' (upd H' a (.dK kxs)), fun v H' => H' a = some (.frz od (.dK kxs)) ∧ D.rt v (upd H' a (.dK kxs)), fun σ' H' => H' a = some (.frz od (.dK kxs)) ∧ D.bk σ' (upd H' a (.dK kxs)), fun σ' H' => H' a = some (.frz od (.dK kxs)) ∧ D.ct σ' (upd H' a (.dK kxs))⟩ o := by
        intro o μ2 H2 l2 q
        have out : ∀ {μ3 : List Addr} {H3 : Hp} {st3 st4 : Store}, Le μ2 H2 μ3 H3 → Rel X.K L.CA μ3 st3 H3 → thawS n st3 = some st4 → H3 a = some (.frz od (.dK kxs)) ∧ Le μ H μ3 (upd H3 a (.dK kxs)) ∧ Le0 μ3 H3 μ3 (upd H3 a (.dK kxs)) ∧ Rel X.K L.CA μ3 st4 (upd H3 a (.dK kxs)) := by
          intro μ3 H3 st3 st4 l3 R3 e3
          have lall := (l'.trans l2).trans l3
          have f3 := lall.frz _ _ _ hfr
          unfold thawS at e3
          split at e3
          · rename_i kvs3 hs3
            cases e3
            have l0 : Le0 μ3 H3 μ3 (upd H3 a (.dK kxs)) := .of_unlock f3
            refine ⟨f3, ⟨(l1.trans lall).pre, fun p xs h => l0.tup p xs ((l1.trans lall).tup p xs h), (fun p ob u h => ?_), fun p F h => ?_⟩, l0, R3.unlock (lall.at_ hm) hs3 f3⟩
            · have ne : p ≠ a := fun z => by rw [z, h1] at h; cases h
              rw [upd_ne ne]
              exact lall.frz p ob u (by rw [upd_ne ne]; exact h)
            · have ne : p ≠ a := fun z => by rw [z, h1] at h; cases h
              rw [upd_ne ne]
              exact lall.ext p F (by rw [upd_ne ne]; exact h)
          · cases e3
        cases o with
        | next ρ3 st3 =>
          unfold thaw at q
          dsimp only at q
          split at q
          · rename_i st4 e4
            intro μ3 H3 σ3 l3 R3 E3
            obtain ⟨f3, l4, l0, R4⟩ := out l3 R3 e4
            exact ⟨f3, q μ3 _ σ3 l4 R4 ⟨E3.len, fun i v h => let ⟨y, hy, ry⟩ := E3.at_ i v h; ⟨y, hy, RepV.mono0 l0 ry⟩⟩⟩
          · exact q.elim
        | ret v st3 =>
          unfold thaw at q
          dsimp only at q
          split at q
          · rename_i st4 e4
            intro μ3 H3 y l3 R3 ry
            obtain ⟨f3, l4, l0, R4⟩ := out l3 R3 e4
            exact ⟨f3, q μ3 _ y l4 R4 (RepV.mono0 l0 ry)⟩
          · exact q.elim
        | brk _ _ => exact q.elim
        | cnt _ _ => exact q.elim
        | exc _ _ _ _ => exact q.elim
        | stuck => exact q.elim
      have P0 := fin .refl P
      clear P
      revert P0
      generalize (⟨fun σ' H' => H' a = some (.frz od (.dK kxs)) ∧ D.nx σ' (upd H' a (.dK kxs)), fun v H' => H' a = some (.frz od (.dK kxs)) ∧ D.rt v (upd H' a (.dK kxs)), fun σ' H' => H' a = some (.frz od (.dK kxs)) ∧ D.bk σ' (upd H' a (.dK kxs)), fun σ' H' => H' a = some (.frz od (.dK kxs)) ∧ D.ct σ' (upd H' a (.dK kxs))⟩ : Ends) = D2
      intro P0
      refine ⟨fun i m σ2 H2 => i + m = kvs.length ∧ ∃ μ2 ρ2 st2, Le μ' H' μ2 H2 ∧ Rel X.K L.CA μ2 st2 H2 ∧ RepE X.K μ2 H2 ρ2 σ2 ∧ PostS X.K L.CA W μ2 H2 D2 (forTurns t.give (L.xs sxs) (.tup (kvs.map fun kv => keyV kv.1)) m i ρ2 st2), ⟨kvs.length, by omega, μ', ρ, _, .refl, R', (E.mono l1).mono l', P0⟩, ?_⟩
      rintro i m σ2 H2 ⟨hm2, μ2, ρ2, st2, l2, R2, E2, P2⟩
      cases m with
      | zero =>
        unfold forTurns at P2
        split at P2
        · rename_i hf
          refine .inl ⟨?_, P2 μ2 H2 σ2 .refl R2 E2⟩
          have e : i = (Wk.tup (kvs.map fun kv => keyV kv.1)).len := by rw [hwl]; omega
          rw [e]
          exact wit.stop μ2 st2 H2 l2 R2 hf
        · exact P2.elim
      | succ r =>
        unfold forTurns at P2
        split at P2
        · exact P2.elim
        · rename_i v hv
          obtain ⟨go, yl⟩ := wit.go μ2 st2 H2 i v l2 R2 (by rw [hwl]; omega) hv
          refine .inr ⟨go, fun σ' H3 => ∃ μ3 ρ3 st3, Le μ' H' μ3 H3 ∧ Rel X.K L.CA μ3 st3 H3 ∧ RepE X.K μ3 H3 ρ3 σ' ∧ PostS X.K L.CA W μ3 H3 D2 (forTurns t.give (L.xs sxs) (.tup (kvs.map fun kv => keyV kv.1)) r (i + 1) ρ3 st3), fun σ' H' q => ⟨r, by omega, by omega, q⟩, fun y H3 hy => ?_⟩
          obtain ⟨l3, R3, rv⟩ := yl y H3 hy
          split at P2
          · exact P2.elim
          · rename_i ρ' hρ
            refine hg.ok μ2 H3 v y ρ2 σ2 ρ' st2 _ R3 rv (E2.mono l3) hρ fun σ' E' _ => ?_
            refine ⟨μ2, ρ', st2, R3, E', ?_⟩
            have P3 := P2.le l3
            cases eo : L.xs sxs ρ' st2 with
            | next ρ4 st4 =>
              rw [eo] at P3
              exact fun μ4 H4 σ4 l4 R4 E4 => ⟨μ4, ρ4, st4, (l2.trans l3).trans l4, R4, E4, P3.le l4⟩
            | cnt ρ4 st4 =>
              rw [eo] at P3
              exact fun μ4 H4 σ4 l4 R4 E4 => ⟨μ4, ρ4, st4, (l2.trans l3).trans l4, R4, E4, P3.le l4⟩
            | brk ρ4 st4 => rw [eo] at P3; exact P3
            | ret v st4 => rw [eo] at P3; exact P3
            | exc c v ρ4 st4 => rw [eo] at P3; exact P3
            | stuck => rw [eo] at P3; exact P3
    · exact P.elim
  · exact P.elim
end
/-! ### a def -/
section
variable {L : Lib} {P : Program} {w : World} {K : PySem.W.Frag} {mg : Str → Option Value} {base : Heap}
theorem fn_ok {name qual : Str} {st : Stmt} {f : Addr} {fd : FuncData} {N ps : List Str} {k : Nat} {sxs : List Sx} {m : List Val → Store → Res Val} (F : Fun K name qual st f fd) (S : FnScope N ps (defScope st))
    (hm : ∀ args s, m args s = if args.length = ps.length then runB L.cl N.length sxs args s else .stuck)
    (hb : ∀ (cdv : Value) (A : Around) (outer : List Env) (s : Shared) (H : Hp) (E : XK), Room k (A.deeper (PyProof.Rows.envOfC qual (defScope st) s.heap.objs.size f cdv)) →
      DSs L (cxOf (L2.CX P w) P w K mg base N qual (defScope st) f cdv A outer s H E) (fun c d _ H => E c d H) (defBody st) sxs) :
    FnOk P w K mg base (L2.CX P w) (k + 1) f fd ps (spM K L.CA ps.length m) := by
  refine F.okX S (fun vs H Q E h => h.1) fun cdv A outer s H vs Q E hr h => ⟨_, hb cdv A outer s H E hr, ?_⟩
  obtain ⟨hl, μ, args, st', R, rv, q⟩ := h
  refine ⟨μ, args.map some ++ List.replicate (N.length - args.length) none, st', R, ?_, ?_⟩
  · have e1 := rv.length
    refine ⟨?_, fun i v h => ?_⟩
    · unfold L2.start
      rw [List.length_append, List.length_append, List.length_map, List.length_map, List.length_replicate, List.length_replicate, e1]
    · unfold L2.start
      by_cases hi : i < args.length
      · rw [List.getElem?_append_left (by simpa using hi), List.getElem?_map] at h
        cases e : args[i]? with
        | none => rw [e] at h; cases h
        | some u =>
          rw [e] at h
          cases h
          obtain ⟨y, hy, r⟩ := rv.get e
          exact ⟨y, by rw [List.getElem?_append_left (by simp; omega), List.getElem?_map, hy]; rfl, r⟩
      · rw [List.getElem?_append_right (by simpa using hi), List.getElem?_replicate] at h
        split at h <;> cases h
  · rw [hm, if_pos (by rw [rv.length]; exact hl)] at q
    unfold runB at q
    have q : Post K L.CA (fun c d _ H' => E c d H') (RVal K) [] μ H Q (match L.xs sxs (args.map some ++ List.replicate (N.length - args.length) none) st' with
      | .next _ st => .ok .non st
      | .ret v st => .ok v st
      | .exc c v _ st => .exc c v st
      | _ => .stuck) := q
    show PostS K L.CA (fun c d _ H => E c d H) μ H { nx := fun _ H' => Q .non H', rt := Q } (L.xs sxs (args.map some ++ List.replicate (N.length - args.length) none) st')
    cases eo : L.xs sxs (args.map some ++ List.replicate (N.length - args.length) none) st' with
    | next ρ st => rw [eo] at q; exact fun μ' H' σ' l R' E' => q μ' H' _ l R' .non
    | ret v st => rw [eo] at q; exact q
    | exc c v ρ st => rw [eo] at q; exact fun μ' H' σ' x d l R' _ rv hd => q μ' H' x d l R' rv hd
    | brk ρ st => rw [eo] at q; exact q.elim
    | cnt ρ st => rw [eo] at q; exact q.elim
    | stuck => rw [eo] at q; exact q.elim
end
end EV

/-! ## EvBlt -/
set_option maxRecDepth 100000
set_option maxHeartbeats 4000000
/-! EvBlt: built-in functions and methods. -/
namespace EV
open PySem L2

section
variable {K : PySem.W.Frag} {CA : Nat → Addr} {μ : List Addr} {H : Hp} {st : Store}
theorem ints_rep : ∀ {vs : List Val} {xs : List V} {ns : List Int}, RepL K μ H vs xs → intsOf vs = some ns → xs = ns.map V.int ∧ vs = ns.map Val.int
  | _, _, _, .nil, e => by cases e; exact ⟨rfl, rfl⟩
  | _, _, _, .cons h t, e => by
    cases h <;> first
      | (cases e; done)
      | (obtain ⟨ns, h1, rfl⟩ := Option.map_eq_some_iff.mp e
         obtain ⟨e1, e2⟩ := ints_rep t h1
         exact ⟨by rw [e1]; rfl, by rw [e2]; rfl⟩)
theorem bools_rep : ∀ {vs : List Val} {xs : List V} {ns : List Bool}, RepL K μ H vs xs → boolsOf vs = some ns → xs = ns.map V.bl
  | _, _, _, .nil, e => by cases e; rfl
  | _, _, _, .cons h t, e => by
    cases h <;> first
      | (cases e; done)
      | (obtain ⟨ns, h1, rfl⟩ := Option.map_eq_some_iff.mp e
         rw [bools_rep t h1]; rfl)
theorem strs_rep : ∀ {vs : List Val} {xs : List V} {ns : List Str}, RepL K μ H vs xs → strsOf vs = some ns → xs = ns.map V.str
  | _, _, _, .nil, e => by cases e; rfl
  | _, _, _, .cons h t, e => by
    cases h <;> first
      | (cases e; done)
      | (obtain ⟨ns, h1, rfl⟩ := Option.map_eq_some_iff.mp e
         rw [strs_rep t h1]; rfl)
theorem reps_int : ∀ ns : List Int, RepL K μ H (ns.map Val.int) (ns.map V.int)
  | [] => .nil
  | n :: ns => .cons (.int n) (reps_int ns)
theorem reps_str : ∀ ns : List Str, RepL K μ H (ns.map Val.str) (ns.map V.str)
  | [] => .nil
  | n :: ns => .cons (.str n) (reps_str ns)
/-- sorted lists of one content are one -/
theorem sort_uniq {α : Type} {le : α → α → Bool} (anti : ∀ a b, le a b = true → le b a = true → a = b) : ∀ {l m : List α}, l.Pairwise (fun a b => le a b = true) → m.Pairwise (fun a b => le a b = true) → l.Perm m → l = m
  | [], m, _, _, p => (List.Perm.eq_nil p.symm).symm
  | x :: l, m, hl, hm, p => by
    cases m with
    | nil => exact absurd p.length_eq (by simp)
    | cons y m =>
      have e : x = y := by
        rcases List.mem_cons.mp (p.mem_iff.mp (List.mem_cons_self (a := x) (l := l))) with e | h1
        · exact e
        · rcases List.mem_cons.mp (p.mem_iff.mpr (List.mem_cons_self (a := y) (l := m))) with e | h2
          · exact e.symm
          · exact anti x y ((List.pairwise_cons.mp hl).1 y h2) ((List.pairwise_cons.mp hm).1 x h1)
      subst e
      rw [sort_uniq anti (List.pairwise_cons.mp hl).2 (List.pairwise_cons.mp hm).2 p.cons_inv]
theorem sortI_uniq {ns ms : List Int} (p : ms.Perm ns) (h : ms.Pairwise (· ≤ ·)) : ms = sortI ns := by
  refine sort_uniq (le := fun a b => decide (a ≤ b)) (fun a b h1 h2 => ?_) (h.imp fun h => decide_eq_true h) ?_ (p.trans (List.mergeSort_perm ns _).symm)
  · have := of_decide_eq_true h1
    have := of_decide_eq_true h2
    omega
  · exact List.pairwise_mergeSort (fun a b c h1 h2 => by simp at *; omega) (fun a b => by simp; omega) ns
theorem leS_total (a b : Str) : (leS a b || leS b a) = true := by
  unfold leS
  rw [Bool.or_eq_true, Bool.not_eq_true', Bool.not_eq_true', decide_eq_false_iff_not, decide_eq_false_iff_not]
  by_cases h : a.cps.toList < b.cps.toList
  · exact .inl (List.lt_asymm h)
  · exact .inr h
theorem leS_trans (a b c : Str) (h1 : leS a b = true) (h2 : leS b c = true) : leS a c = true := by
  unfold leS at *
  rw [Bool.not_eq_true', decide_eq_false_iff_not] at *
  exact fun h => absurd (List.le_trans (List.not_lt.mp h1) (List.not_lt.mp h2)) (List.not_le.mpr h)
theorem leS_anti (a b : Str) (h1 : leS a b = true) (h2 : leS b a = true) : a = b := by
  unfold leS at *
  rw [Bool.not_eq_true', decide_eq_false_iff_not] at *
  have e := List.le_antisymm (List.not_lt.mp h1) (List.not_lt.mp h2)
  cases a; cases b
  simp at e
  rw [e]
theorem risingS_pw : ∀ (zs : List Str) (p : Str), PyProof.Rows.risingS p zs = true → (p :: zs).Pairwise (fun a b => leS a b = true)
  | [], p, _ => List.pairwise_cons.mpr ⟨fun _ h => by simp at h, .nil⟩
  | x :: r, p, h => by
    have h : (!Spec.ltCps x.cps.toList p.cps.toList && PyProof.Rows.risingS x r) = true := h
    rw [Bool.and_eq_true] at h
    have ih := risingS_pw r x h.2
    have h1 : leS p x = true := by
      unfold leS
      rw [← PyProof.Rows.ltCps_eq]
      exact h.1
    refine List.pairwise_cons.mpr ⟨fun y hy => ?_, ih⟩
    rcases List.mem_cons.mp hy with e | e
    · rw [e]; exact h1
    · exact leS_trans p x y h1 ((List.pairwise_cons.mp ih).1 y e)
theorem sortedS_pw : ∀ {zs : List Str}, PyProof.Rows.sortedS zs = true → zs.Pairwise (fun a b => leS a b = true)
  | [], _ => .nil
  | x :: r, h => risingS_pw r x h
theorem sortS_uniq {ns ms : List Str} (p : ms.Perm ns) (h : PyProof.Rows.sortedS ms = true) : ms = sortS ns :=
  sort_uniq leS_anti (sortedS_pw h) (List.pairwise_mergeSort leS_trans leS_total ns) (p.trans (List.mergeSort_perm ns _).symm)
theorem keys_rep : ∀ {ks : List Key} {zs : List Str}, keysS ks = some zs → ks = zs.map Sum.inr
  | [], _, e => by cases e; rfl
  | .inl i :: ks, _, e => by cases e
  | .inr x :: ks, _, e => by
    obtain ⟨ns, h1, rfl⟩ := Option.map_eq_some_iff.mp e
    rw [keys_rep h1]; rfl
theorem keyV_rep (k : Key) : RepV K μ H (keyV k) (kV k) := by cases k <;> constructor
theorem keyVs_rep : ∀ ks : List Key, RepL K μ H (ks.map keyV) (ks.map kV)
  | [] => .nil
  | k :: ks => .cons (keyV_rep k) (keyVs_rep ks)
end
/-- a built-in function on values, over the store -/
def rB (K : PySem.W.Frag) (CA : Nat → Addr) (o : List Val → Store → Option (Val × Store)) : List V → Hp → VK → Prop := fun xs H Q => ∃ μ vs st, Rel K CA μ st H ∧ RepL K μ H vs xs ∧ PostO K CA μ H Q (o vs st)
theorem Rel.seq1 {K : PySem.W.Frag} {CA : Nat → Addr} {μ : List Addr} {H : Hp} {st : Store} (R : Rel K CA μ st H) {n : Nat} {a : Addr} {ws : List Val} (hn : μ[n]? = some a) (h : st[n]? = some (.lst ws) ∨ st[n]? = some (.fro ws)) : ∃ xs, SqL K H a xs ∧ RepL K μ H ws xs := by
  rcases h with h | h
  · exact R.lst hn (by unfold lstAt; rw [h])
  · exact R.lst hn (by unfold lstAt; rw [h])
section
variable {X : Cx} {CA : Nat → Addr}
theorem blt_len (hx : True) : CallR X (.builtin "len") (rB X.K CA (bltV .len)) := by
  intro pins s σ H xs us Q I r h
  obtain ⟨μ, vs, st, R, rv, q⟩ := h
  cases rv with
  | nil => exact q.elim
  | cons hv ht => cases ht with
    | cons _ _ => cases hv <;> exact q.elim
    | nil => cases hv with
      | str z =>
        have q : PostO X.K CA μ H Q (if lineOk z.length then some (.int z.length, st) else none) := q
        split at q
        · rename_i hl
          exact call_len_str pins s σ H _ us Q I r ⟨z, rfl, line_le hl, q.val R (.int _)⟩
        · exact q.elim
      | @tup a ws xs h1 h2 => exact call_len_seq pins s σ H _ us Q I r ⟨a, xs, rfl, .inr h1, by have z := q.val R (w := .int ws.length) (.int _); rw [h2.length] at z; exact z⟩
      | @ref n a hn =>
        unfold bltV at q
        dsimp only at q
        split at q
        · rename_i ws ho
          obtain ⟨xs, h1, h2⟩ := R.seq1 hn (.inl ho)
          exact call_len_seq pins s σ H _ us Q I r ⟨a, xs, rfl, .inl h1, by have z := q.val R (w := .int ws.length) (.int _); rw [h2.length] at z; exact z⟩
        · rename_i ws ho
          obtain ⟨xs, h1, h2⟩ := R.seq1 hn (.inr ho)
          exact call_len_seq pins s σ H _ us Q I r ⟨a, xs, rfl, .inl h1, by have z := q.val R (w := .int ws.length) (.int _); rw [h2.length] at z; exact z⟩
        · rename_i kvs ho
          obtain ⟨kxs, h1, h2, h3⟩ := R.dct hn ho
          have e : kvs.length = kxs.length := by simpa using congrArg List.length h2
          exact call_lenD pins s σ H _ us Q I r ⟨a, kxs, rfl, h1, by have z := q.val R (w := .int kvs.length) (.int _); rw [e] at z; exact z⟩
        · exact q.elim
      | _ => exact q.elim
theorem blt_int : CallR X (.type "int") (rB X.K CA (bltV .int)) := by
  intro pins s σ H xs us Q I r h
  obtain ⟨μ, vs, st, R, rv, q⟩ := h
  cases rv with
  | nil => exact q.elim
  | cons hv ht => cases ht with
    | cons _ _ => cases hv <;> exact q.elim
    | nil => cases hv with
      | int i => exact call_int1 pins s σ H _ us Q I r (.inl ⟨i, rfl, q.val R (.int _)⟩)
      | bl b => exact call_int1 pins s σ H _ us Q I r (.inr ⟨b, rfl, q.val R (.int _)⟩)
      | _ => exact q.elim
theorem blt_str : CallR X (.type "str") (rB X.K CA (bltV .str)) := by
  intro pins s σ H xs us Q I r h
  obtain ⟨μ, vs, st, R, rv, q⟩ := h
  cases rv with
  | nil => exact q.elim
  | cons hv ht => cases ht with
    | cons _ _ => cases hv <;> exact q.elim
    | nil => cases hv with
      | int i =>
        have q : PostO X.K CA μ H Q (if decide (i.natAbs.log2 < 1920) then some (.str (toString i), st) else none) := q
        split at q
        · rename_i hl
          exact call_str_int pins s σ H _ us Q I r ⟨i, rfl, of_decide_eq_true hl, q.val R (.str _)⟩
        · exact q.elim
      | str z => exact SkE.call_str_str pins s σ H _ us Q I r ⟨z, rfl, q.val R (.str _)⟩
      | _ => exact q.elim
theorem foldl_max : ∀ (ns : List Int) (n : Int), (ns.foldl (fun a b => if b > a then b else a) n ∈ n :: ns) ∧ ∀ y ∈ n :: ns, y ≤ ns.foldl (fun a b => if b > a then b else a) n
  | [], n => ⟨by simp, fun y h => by simp at h; simp [h]⟩
  | m :: ns, n => by
    obtain ⟨h1, h2⟩ := foldl_max ns (if m > n then m else n)
    rw [List.foldl_cons]
    refine ⟨?_, fun y hy => ?_⟩
    · rcases List.mem_cons.mp h1 with e | e
      · rw [e]
        split
        · simp
        · simp
      · exact List.mem_cons_of_mem _ (List.mem_cons_of_mem _ e)
    · have hz := h2 _ List.mem_cons_self
      rcases List.mem_cons.mp hy with e | e
      · rw [e]; revert hz; split <;> intro hz <;> omega
      · rcases List.mem_cons.mp e with e | e
        · rw [e]; revert hz; split <;> intro hz <;> omega
        · exact h2 y (List.mem_cons_of_mem _ e)
theorem foldl_min : ∀ (ns : List Int) (n : Int), (ns.foldl (fun a b => if b < a then b else a) n ∈ n :: ns) ∧ ∀ y ∈ n :: ns, ns.foldl (fun a b => if b < a then b else a) n ≤ y
  | [], n => ⟨by simp, fun y h => by simp at h; simp [h]⟩
  | m :: ns, n => by
    obtain ⟨h1, h2⟩ := foldl_min ns (if m < n then m else n)
    rw [List.foldl_cons]
    refine ⟨?_, fun y hy => ?_⟩
    · rcases List.mem_cons.mp h1 with e | e
      · rw [e]
        split
        · simp
        · simp
      · exact List.mem_cons_of_mem _ (List.mem_cons_of_mem _ e)
    · have hz := h2 _ List.mem_cons_self
      rcases List.mem_cons.mp hy with e | e
      · rw [e]; revert hz; split <;> intro hz <;> omega
      · rcases List.mem_cons.mp e with e | e
        · rw [e]; revert hz; split <;> intro hz <;> omega
        · exact h2 y (List.mem_cons_of_mem _ e)
theorem blt_max (hc : X.calm = true) : CallR X (.builtin "max") (rB X.K CA (bltV .max)) := by
  intro pins s σ H xs us Q I r h
  obtain ⟨μ, vs, st, R, rv, q⟩ := h
  cases rv with
  | nil => exact q.elim
  | cons hv ht => cases ht with
    | nil => cases hv with
      | @ref n a hn =>
        unfold bltV at q
        dsimp only at q
        split at q
        · rename_i ws hl
          obtain ⟨xs, h1, h2⟩ := R.lst hn hl
          split at q
          · rename_i ns hns
            obtain ⟨rfl, _⟩ := ints_rep h2 hns
            cases ns with
            | nil => exact q.elim
            | cons i ns =>
              refine cr_max hc pins s σ H _ us Q I r ⟨a, i :: ns, rfl, h1, Nat.succ_pos _, fun m hm hy => ?_⟩
              obtain ⟨m1, m2⟩ := foldl_max ns i
              have e : m = ns.foldl (fun a b => if b > a then b else a) i := Int.le_antisymm (m2 m hm) (hy _ m1)
              rw [e]
              exact PostO.val (w := .int _) R q (.int _)
          · exact q.elim
        · exact q.elim
      | _ => exact q.elim
    | cons hv2 ht => cases ht with
      | nil => cases hv with
        | int i => cases hv2 with
          | int j => exact call_max2 hc pins s σ H _ us Q I r ⟨i, j, rfl, q.val R (.int _)⟩
          | _ => exact q.elim
        | _ => exact q.elim
      | cons _ _ => cases hv <;> first | exact q.elim | (cases hv2 <;> exact q.elim)
theorem blt_min (hc : X.calm = true) : CallR X (.builtin "min") (rB X.K CA (bltV .min)) := by
  intro pins s σ H xs us Q I r h
  obtain ⟨μ, vs, st, R, rv, q⟩ := h
  cases rv with
  | nil => exact q.elim
  | cons hv ht => cases ht with
    | nil => cases hv with
      | @ref n a hn =>
        unfold bltV at q
        dsimp only at q
        split at q
        · rename_i ws hl
          obtain ⟨xs, h1, h2⟩ := R.lst hn hl
          split at q
          · rename_i ns hns
            obtain ⟨rfl, _⟩ := ints_rep h2 hns
            cases ns with
            | nil => exact q.elim
            | cons i ns =>
              refine cr_min hc pins s σ H _ us Q I r ⟨a, i :: ns, rfl, h1, Nat.succ_pos _, fun m hm hy => ?_⟩
              obtain ⟨m1, m2⟩ := foldl_min ns i
              have e : m = ns.foldl (fun a b => if b < a then b else a) i := Int.le_antisymm (hy _ m1) (m2 m hm)
              rw [e]
              exact PostO.val (w := .int _) R q (.int _)
          · exact q.elim
        · exact q.elim
      | _ => exact q.elim
    | cons hv2 ht => cases ht with
      | nil => cases hv with
        | int i => cases hv2 with
          | int j => exact call_min2 hc pins s σ H _ us Q I r ⟨i, j, rfl, q.val R (.int _)⟩
          | _ => exact q.elim
        | _ => exact q.elim
      | cons _ _ => cases hv <;> first | exact q.elim | (cases hv2 <;> exact q.elim)
theorem blt_abs : CallR X (.builtin "abs") (rB X.K CA (bltV .abs)) := by
  intro pins s σ H xs us Q I r h
  obtain ⟨μ, vs, st, R, rv, q⟩ := h
  cases rv with
  | nil => exact q.elim
  | cons hv ht => cases ht with
    | cons _ _ => cases hv <;> exact q.elim
    | nil => cases hv with
      | int i => exact call_abs pins s σ H _ us Q I r ⟨i, rfl, q.val R (.int _)⟩
      | _ => exact q.elim
theorem blt_all (hc : X.calm = true) : CallR X (.builtin "all") (rB X.K CA (bltV .all)) := by
  intro pins s σ H xs us Q I r h
  obtain ⟨μ, vs, st, R, rv, q⟩ := h
  cases rv with
  | nil => exact q.elim
  | cons hv ht => cases ht with
    | cons _ _ => cases hv <;> exact q.elim
    | nil => cases hv with
      | @ref n a hn =>
        unfold bltV at q
        dsimp only at q
        split at q
        · rename_i ws hl
          obtain ⟨xs, h1, h2⟩ := R.lst hn hl
          cases e : boolsOf ws with
          | none => rw [e] at q; exact q.elim
          | some bs =>
            rw [e] at q
            have z := bools_rep h2 e
            subst z
            exact cr_all hc pins s σ H _ us Q I r ⟨a, bs, rfl, h1, PostO.val (w := .bl _) R q (.bl _)⟩
        · exact q.elim
      | _ => exact q.elim
theorem blt_any (hc : X.calm = true) : CallR X (.builtin "any") (rB X.K CA (bltV .any)) := by
  intro pins s σ H xs us Q I r h
  obtain ⟨μ, vs, st, R, rv, q⟩ := h
  cases rv with
  | nil => exact q.elim
  | cons hv ht => cases ht with
    | cons _ _ => cases hv <;> exact q.elim
    | nil => cases hv with
      | @ref n a hn =>
        unfold bltV at q
        dsimp only at q
        split at q
        · rename_i ws hl
          obtain ⟨xs, h1, h2⟩ := R.lst hn hl
          cases e : boolsOf ws with
          | none => rw [e] at q; exact q.elim
          | some bs =>
            rw [e] at q
            have z := bools_rep h2 e
            subst z
            exact cr_any hc pins s σ H _ us Q I r ⟨a, bs, rfl, h1, PostO.val (w := .bl _) R q (.bl _)⟩
        · exact q.elim
      | _ => exact q.elim
theorem blt_sum (hc : X.calm = true) : CallR X (.builtin "sum") (rB X.K CA (bltV .sum)) := by
  intro pins s σ H xs us Q I r h
  obtain ⟨μ, vs, st, R, rv, q⟩ := h
  cases rv with
  | nil => exact q.elim
  | cons hv ht => cases ht with
    | cons _ _ => cases hv <;> exact q.elim
    | nil => cases hv with
      | @ref n a hn =>
        unfold bltV at q
        dsimp only at q
        split at q
        · rename_i ws hl
          obtain ⟨xs, h1, h2⟩ := R.lst hn hl
          cases e : intsOf ws with
          | none => rw [e] at q; exact q.elim
          | some bs =>
            rw [e] at q
            obtain ⟨z, _⟩ := ints_rep h2 e
            subst z
            exact cr_sum hc pins s σ H _ us Q I r ⟨a, bs, rfl, h1, PostO.val (w := .int _) R q (.int _)⟩
        · exact q.elim
      | _ => exact q.elim
theorem blt_list (hc : X.calm = true) : CallR X (.type "list") (rB X.K CA (bltV .list)) := by
  intro pins s σ H xs us Q I r h
  obtain ⟨μ, vs, st, R, rv, q⟩ := h
  cases rv with
  | nil => exact q.elim
  | cons hv ht => cases ht with
    | cons _ _ => cases hv <;> exact q.elim
    | nil => cases hv with
      | @tup a ws xs h1 h2 => exact call_list_of pins s σ H _ us Q I r ⟨a, xs, rfl, .inr h1, fun l hl => q.new R (ho := .lst xs) hl h2⟩
      | @ref n a hn =>
        unfold bltV at q
        dsimp only at q
        split at q
        · rename_i ws ho
          obtain ⟨xs, h1, h2⟩ := R.seq1 hn (.inl ho)
          exact call_list_of pins s σ H _ us Q I r ⟨a, xs, rfl, .inl h1, fun l hl => q.new R (ho := .lst xs) hl h2⟩
        · rename_i ws ho
          obtain ⟨xs, h1, h2⟩ := R.seq1 hn (.inr ho)
          exact call_list_of pins s σ H _ us Q I r ⟨a, xs, rfl, .inl h1, fun l hl => q.new R (ho := .lst xs) hl h2⟩
        · rename_i kvs ho
          obtain ⟨kxs, h1, h2, h3⟩ := R.dct hn ho
          refine call_listD hc pins s σ H _ us Q I r ⟨a, kxs, rfl, .inl h1, fun l hl => q.new R (ho := .lst (kxs.map fun kv => kV kv.1)) hl ?_⟩
          have e1 : (kvs.map fun kv => keyV kv.1) = (kvs.map (·.1)).map keyV := by rw [List.map_map]; rfl
          have e2 : (kxs.map fun kv => kV kv.1) = (kxs.map (·.1)).map kV := by rw [List.map_map]; rfl
          show RepL X.K μ H (kvs.map fun kv => keyV kv.1) (kxs.map fun kv => kV kv.1)
          rw [e1, e2, h2]
          exact keyVs_rep _
        · exact q.elim
      | _ => exact q.elim
theorem blt_tuple : CallR X (.type "tuple") (rB X.K CA (bltV .tuple)) := by
  intro pins s σ H xs us Q I r h
  obtain ⟨μ, vs, st, R, rv, q⟩ := h
  cases rv with
  | nil => exact q.elim
  | cons hv ht => cases ht with
    | cons _ _ => cases hv <;> exact q.elim
    | nil => cases hv with
      | @tup a ws xs h1 h2 => exact call_tuple_of pins s σ H _ us Q I r ⟨a, xs, rfl, .inr ⟨h1, q.val R (.tup h1 h2)⟩⟩
      | @ref n a hn =>
        unfold bltV at q
        dsimp only at q
        split at q
        · rename_i ws hl
          obtain ⟨xs, h1, h2⟩ := R.lst hn hl
          exact call_tuple_of pins s σ H _ us Q I r ⟨a, xs, rfl, .inl ⟨h1, fun l hl => q.newTup R hl h2⟩⟩
        · exact q.elim
      | _ => exact q.elim
theorem blt_dict : CallR X (.type "dict") (rB X.K CA (bltV .dict)) := by
  intro pins s σ H xs us Q I r h
  obtain ⟨μ, vs, st, R, rv, q⟩ := h
  cases rv with
  | nil => exact q.elim
  | cons hv ht => cases ht with
    | cons _ _ => cases hv <;> exact q.elim
    | nil => cases hv with
      | @ref n a hn =>
        unfold bltV at q
        dsimp only at q
        split at q
        · rename_i kvs ho
          obtain ⟨kxs, h1, h2, h3⟩ := R.dct hn ho
          exact call_dictD pins s σ H _ us Q I r ⟨a, kxs, rfl, .inl h1, fun l hl => q.new R (ho := .dK kxs) hl ⟨h2, h3⟩⟩
        · exact q.elim
      | _ => exact q.elim
/-! isinstance -/
def tyN : Ty → String
  | .int => "int" | .bool => "bool" | .str => "str" | .list => "list" | .tuple => "tuple" | .dict => "dict"
def tyA : Ty → Str
  | .int => "int" | .bool => "bool" | .str => "str" | .list => "list" | .tuple => "tuple" | .dict => "dict"
theorem kit_tys (t T : Ty) : kitB (tyN t) (tyN T) = some (decide (t = T) || (decide (t = .bool) && decide (T = .int))) := by
  cases t <;> cases T <;> decide +kernel
theorem kit_non (T : Ty) : kitB "NoneType" (tyN T) = some false := by cases T <;> decide +kernel
theorem ty_rep {K : PySem.W.Frag} {μ : List Addr} {H : Hp} {st : Store} (R : Rel K CA μ st H) {v : Val} {x : V} {t : Ty} (r : RepV K μ H v x) (h : tyOf st v = some t) : TyX K H x (.type (tyN t)) := by
  cases r with
  | non => cases h
  | bl b => cases h; exact .base (.bl b)
  | int b => cases h; exact .base (.int b)
  | str b => cases h; exact .base (.str b)
  | @tup a ws xs h1 h2 =>
    cases h
    rcases h1 with (h1 | ⟨o, h1⟩) | ⟨o, its, n, h1, h2, _⟩
    · exact .base (.tup h1)
    · exact .fTuple h1
    · exact .kTuple h1 h2
  | @ref n a hn =>
    unfold tyOf at h
    dsimp only at h
    split at h
    · rename_i ws ho
      cases h
      obtain ⟨xs, h1, h2⟩ := R.mut hn (show mutAt st n = some ws by unfold mutAt; rw [ho])
      exact .base (.lst h1)
    · rename_i kvs ho
      cases h
      obtain ⟨kxs, h1, h2, h3⟩ := R.dct hn ho
      exact .base (.dK h1)
    · cases h
theorem isi_ok (T : Ty) : CallR X (.builtin "isinstance") (fun xs H Q => ∃ μ v x st b, xs = [x, .ty (tyN T)] ∧ Rel X.K CA μ st H ∧ RepV X.K μ H v x ∧ isiV T st v = some b ∧ Q (.bl b) H) := by
  intro pins s σ H xs us Q I r h
  obtain ⟨μ, v, x, st, b, rfl, R, rv, e, q⟩ := h
  by_cases hn : v = .non
  · subst hn
    cases rv
    cases e
    exact call_isi pins s σ H _ us Q I r ⟨_, _, _, _, _, rfl, .ty _, .base .non, kit_ty (kit_non T), q⟩
  · have e : (tyOf st v).map (fun t => decide (t = T) || (decide (t = .bool) && decide (T = .int))) = some b := by
      cases v <;> first | exact e | exact absurd rfl hn
    obtain ⟨t, ht, rfl⟩ := Option.map_eq_some_iff.mp e
    exact call_isi pins s σ H _ us Q I r ⟨_, _, _, _, _, rfl, .ty _, ty_rep R rv ht, kit_ty (kit_tys t T), q⟩
end

/-! ### sorted -/
section
variable {X : Cx} {CA : Nat → Addr}
/-- pairs, as they may stand (tracked or written) -/
theorem sortedPO' : CallR X (.builtin "sorted") (fun vs H Q => ∃ (a : Addr) (xs : List V) (k : V → Int × Int), vs = [V.ref a] ∧ SqL X.K H a xs ∧ (∀ x ∈ xs, ∃ t, x = V.ref t ∧ SqT X.K H t [.int (k x).1, .int (k x).2]) ∧
    ∀ ys p, SrtO.Srtd (ltP k) ys → SrtO.Stb (ltP k) ys xs → H p = none → Q (.ref p) (upd H p (.lst ys))) := by
  intro pins sh sg Hh args vals Post Iv rel ⟨A, zs, key, eA, seq, prs, fin⟩
  subst eA
  obtain ⟨items, relI, isl, small⟩ := Iv.list seq
  obtain ⟨one, eOne, isA⟩ := vals1 rel
  have eA2 : one = Value.ref A := isA
  rw [eOne, eA2]
  have bk := refs_back relI fun z hz => (prs z hz).elim fun t ht => ⟨t, ht.1⟩
  have pair : ∀ v ∈ items, Srt.IsPair sh.heap v (key (backV v)).1 (key (backV v)).2 := fun v hv => by
    obtain ⟨t, et⟩ := bk.2 v hv
    subst et
    have inZ : backV (Value.ref t) ∈ zs := bk.1 ▸ List.mem_map_of_mem hv
    obtain ⟨t', eT, sq⟩ := prs _ inZ
    have eT2 : t = t' := V.ref.inj eT
    subst eT2
    obtain ⟨its2, relP, ⟨ob, atO, clsO, ep, dat⟩, _⟩ := Iv.tuple sq
    obtain ⟨w1, w2, eW, ⟨k1, e1⟩, ⟨k2, e2⟩⟩ := vals2 relP
    subst eW; subst e1; subst e2
    exact ⟨t, ob, k1, k2, ep, rfl, atO, clsO, dat⟩
  refine SrtO.sorted_pairsO (k := fun v => key (backV v)) isl.isList (relI.length ▸ small) pair fun hp D res srt stb keep freeD made => ?_
  have refs := fun u (hu : u ∈ res) => bk.2 u (stb.perm.subset hu)
  have stbV : SrtO.Stb (ltP key) (res.map backV) zs := bk.1.symm ▸ SrtO.Stb.map (ltP_swo key) backV stb
  obtain ⟨ep, made⟩ := made
  exact ⟨.ref D, upd Hh D (.lst (res.map backV)), Iv.laid (t' := sh.toks) keep freeD ⟨stbV.len ▸ small, res, ep, vals_back refs, made⟩, rfl, fin _ D (SrtO.srtd_map srt) stbV (Iv.hok.fresh freeD)⟩
theorem pairs_shape {K : PySem.W.Frag} {μ : List Addr} {H : Hp} : ∀ {vs : List Val} {xs : List V} {ps : List (Int × Int)}, RepL K μ H vs xs → pairsOf vs = some ps →
    vs = ps.map (fun p => Val.tup [.int p.1, .int p.2]) ∧ xs.length = ps.length ∧ ∀ (i : Nat) (x : V) (p : Int × Int), xs[i]? = some x → ps[i]? = some p → ∃ t, x = .ref t ∧ SqT K H t [.int p.1, .int p.2]
  | _, _, _, .nil, e => by cases e; exact ⟨rfl, rfl, fun i x p h => by simp at h⟩
  | _, _, ps, .cons h t, e => by
    cases h with
    | @tup a ws ys h1 h2 =>
      cases h2 with
      | nil => cases e
      | cons r1 t1 =>
        cases t1 with
        | nil => cases r1 <;> cases e
        | cons r2 t2 =>
          cases t2 with
          | cons _ _ => cases r1 <;> first | (cases e; done) | (cases r2 <;> (cases e; done))
          | nil =>
            cases r1 with
            | int i =>
              cases r2 with
              | int j =>
                obtain ⟨ns, q1, rfl⟩ := Option.map_eq_some_iff.mp e
                obtain ⟨i1, i2, i3⟩ := pairs_shape t q1
                refine ⟨by rw [i1]; rfl, by rw [List.length_cons, List.length_cons, i2], fun m x p hx hp => ?_⟩
                cases m with
                | zero => cases hx; cases hp; exact ⟨a, rfl, h1⟩
                | succ m => exact i3 m x p (by simpa using hx) (by simpa using hp)
              | _ => cases e
            | _ => cases e
    | _ => cases e
theorem leP_total (a b : Int × Int) : (leP a b || leP b a) = true := by
  unfold leP
  simp only [Bool.or_eq_true, decide_eq_true_eq]
  omega
theorem leP_trans (a b c : Int × Int) (h1 : leP a b = true) (h2 : leP b c = true) : leP a c = true := by
  unfold leP at *
  simp only [decide_eq_true_eq] at *
  omega
theorem leP_anti (a b : Int × Int) (h1 : leP a b = true) (h2 : leP b a = true) : a = b := by
  unfold leP at *
  simp only [decide_eq_true_eq] at *
  exact Prod.ext (by omega) (by omega)
theorem rep_pairs {K : PySem.W.Frag} {μ : List Addr} {H : Hp} : ∀ {ys : List V} {ps : List (Int × Int)}, ys.length = ps.length → (∀ (i : Nat) (x : V) (p : Int × Int), ys[i]? = some x → ps[i]? = some p → ∃ t, x = .ref t ∧ SqT K H t [.int p.1, .int p.2]) →
    RepL K μ H (ps.map (fun p => Val.tup [.int p.1, .int p.2])) ys
  | [], [], _, _ => .nil
  | [], _ :: _, e, _ => by simp at e
  | _ :: _, [], e, _ => by simp at e
  | y :: ys, p :: ps, e, h => by
    obtain ⟨t, rfl, ht⟩ := h 0 y p rfl rfl
    exact .cons (.tup ht (.cons (.int _) (.cons (.int _) .nil))) (rep_pairs (by simpa using e) fun i x q hx hq => h (i + 1) x q (by simpa using hx) (by simpa using hq))
open Classical in
theorem blt_sorted (hc : X.calm = true) : CallR X (.builtin "sorted") (rB X.K CA (bltV .sorted)) := by
  intro pins s σ H xs us Q I r h
  obtain ⟨μ, vs, st, R, rv, q⟩ := h
  cases rv with
  | nil => exact q.elim
  | cons hv ht => cases ht with
    | cons _ _ => cases hv <;> exact q.elim
    | nil => cases hv with
      | @ref n a hn =>
        have seq : ∀ (ws : List Val) (xs : List V), SqL X.K H a xs → RepL X.K μ H ws xs → PostO X.K CA μ H Q (match sortV ws with | some us => alloc st (.lst us) | none => none) → wpAny (model X.prog X.w) X.A (call (.builtin "sorted") us) (EP X pins σ Q) X.xe s := fun ws xs h1 h2 q => by
          unfold sortV at q
          cases e1 : intsOf ws with
          | some ns =>
            rw [e1] at q
            obtain ⟨rfl, _⟩ := ints_rep h2 e1
            refine cr_sortedI pins s σ H _ us Q I r ⟨a, ns, rfl, h1, fun ns' p hp hs hn => ?_⟩
            rw [sortI_uniq hp hs]
            exact PostO.new R (o := .lst ((sortI ns).map .int)) (ho := .lst ((sortI ns).map .int)) hn q (reps_int _)
          | none =>
            rw [e1] at q
            dsimp only at q
            cases e2 : strsOf ws with
            | some zs =>
              rw [e2] at q
              dsimp only at q
              by_cases hl : zs.length < 64
              · rw [if_pos (decide_eq_true hl)] at q
                have z := strs_rep h2 e2
                subst z
                refine cr_sortedS pins s σ H _ us Q I r ⟨a, zs, rfl, h1, hl, fun ys p hp hs hn => ?_⟩
                rw [sortS_uniq hp hs]
                exact PostO.new R (o := .lst ((sortS zs).map .str)) (ho := .lst ((sortS zs).map .str)) hn q (reps_str _)
              · rw [if_neg (by simpa using hl)] at q
                exact q.elim
            | none =>
              rw [e2] at q
              dsimp only at q
              cases e3 : pairsOf ws with
              | none => rw [e3] at q; exact q.elim
              | some ps =>
                rw [e3] at q
                obtain ⟨i1, i2, i3⟩ := pairs_shape h2 e3
                -- the key of an item: the pair that stands at its place
                have key : ∃ k : V → Int × Int, ∀ (i : Nat) (x : V) (p : Int × Int), xs[i]? = some x → ps[i]? = some p → k x = p := by
                  refine ⟨fun x => if h : ∃ (i : Nat) (p : Int × Int), xs[i]? = some x ∧ ps[i]? = some p then h.choose_spec.choose else (0, 0), fun i x p hx hp => ?_⟩
                  have hh : ∃ (i : Nat) (p : Int × Int), xs[i]? = some x ∧ ps[i]? = some p := ⟨i, p, hx, hp⟩
                  dsimp only
                  rw [dif_pos hh]
                  obtain ⟨g1, g2⟩ := hh.choose_spec.choose_spec
                  obtain ⟨t, rfl, t1⟩ := i3 i x p hx hp
                  obtain ⟨t', et, t2⟩ := i3 _ _ _ g1 g2
                  cases et
                  have z := I.tuple_inj t1 t2
                  simp only [List.cons.injEq, V.int.injEq, and_true] at z
                  exact Prod.ext z.1.symm z.2.symm
                obtain ⟨k, hk⟩ := key
                have hxk : xs.map k = ps := by
                  refine List.ext_getElem? fun i => ?_
                  rw [List.getElem?_map]
                  cases ex : xs[i]? with
                  | none =>
                    have := List.getElem?_eq_none_iff.mp ex
                    exact (List.getElem?_eq_none (by omega)).symm
                  | some x =>
                    have hi : i < ps.length := by rw [← i2]; exact (List.getElem?_eq_some_iff.mp ex).1
                    rw [List.getElem?_eq_getElem hi]
                    exact congrArg some (hk i x _ ex (List.getElem?_eq_getElem hi))
                have hxs : ∀ x ∈ xs, ∃ t, x = V.ref t ∧ SqT X.K H t [.int (k x).1, .int (k x).2] := fun x hx => by
                  obtain ⟨i, hi, e⟩ := List.mem_iff_getElem.mp hx
                  have hi' : i < ps.length := by rw [← i2]; exact hi
                  have ex : xs[i]? = some x := by rw [List.getElem?_eq_getElem hi, e]
                  have z := hk i x _ ex (List.getElem?_eq_getElem hi')
                  rw [z]
                  exact i3 i x _ ex (List.getElem?_eq_getElem hi')
                refine sortedPO' pins s σ H _ us Q I r ⟨a, xs, k, rfl, h1, hxs, fun ys p hs hb hn => ?_⟩
                have hys : ys.map k = sortP ps := by
                  refine sort_uniq leP_anti ?_ (List.pairwise_mergeSort leP_trans leP_total ps) ?_
                  · rw [List.pairwise_map]
                    refine hs.imp fun {x y} h => ?_
                    have z := SrtO.lexB_no.mp h
                    unfold leP
                    simp only [decide_eq_true_eq]
                    omega
                  · rw [← hxk]
                    exact (hb.perm.map k).trans (List.mergeSort_perm _ _).symm
                refine PostO.new R (o := .lst ((sortP ps).map fun p => .tup [.int p.1, .int p.2])) (ho := .lst ys) hn q ?_
                show RepL X.K μ H _ ys
                refine rep_pairs (by rw [← hys, List.length_map]) fun i x p hx hp => ?_
                rw [← hys, List.getElem?_map, hx] at hp
                cases hp
                exact hxs x (hb.perm.mem_iff.mp (List.mem_of_getElem? hx))
        unfold bltV at q
        dsimp only at q
        split at q
        · rename_i ws ho
          obtain ⟨xs, h1, h2⟩ := R.seq1 hn (.inl ho)
          exact seq ws xs h1 h2 q
        · rename_i ws ho
          obtain ⟨xs, h1, h2⟩ := R.seq1 hn (.inr ho)
          exact seq ws xs h1 h2 q
        · rename_i kvs ho
          obtain ⟨kxs, h1, h2, h3⟩ := R.dct hn ho
          split at q
          · rename_i ks hk
            have z := keys_rep hk
            by_cases hl : ks.length < 64
            · rw [if_pos (decide_eq_true hl)] at q
              refine call_sortedD hc pins s σ H _ us Q I r ⟨a, kxs, ks, rfl, .inl h1, by rw [← h2]; exact z, hl, fun ys p hp hs hn => ?_⟩
              rw [sortS_uniq hp hs]
              exact PostO.new R (o := .lst ((sortS ks).map .str)) (ho := .lst ((sortS ks).map .str)) hn q (reps_str _)
            · rw [if_neg (by simpa using hl)] at q
              exact q.elim
          · exact q.elim
        · exact q.elim
      | _ => exact q.elim
end
/-! ### methods -/
section
variable {X : Cx} {CA : Nat → Addr}
def rM (K : PySem.W.Frag) (CA : Nat → Addr) (m : Mf) : V → List V → Hp → VK → Prop := fun x xs H Q => ∃ μ v vs st, Rel K CA μ st H ∧ RepV K μ H v x ∧ RepL K μ H vs xs ∧ PostO K CA μ H Q (mthV m v vs st)
theorem mth_append : MtR X "list.append" (rM X.K CA .append) := by
  intro pins s σ H x xs v us Q I rx rxs h
  obtain ⟨μ, v', vs, st, R, rv, rvs, q⟩ := h
  cases rv with
  | @ref n a hn => cases rvs with
    | nil => exact q.elim
    | cons h1 t => cases t with
      | cons _ _ => exact q.elim
      | nil =>
        unfold mthV at q
        dsimp only at q
        split at q
        · rename_i ws hw
          obtain ⟨ys, g1, g2⟩ := R.mut hn hw
          split at q
          · rename_i hl
            have hl := of_decide_eq_true hl
            refine mt_append pins s σ H _ _ v us Q I rx rxs ⟨a, ys, _, rfl, rfl, g1, by rw [← g2.length, sizeLine_eq]; exact hl, ?_⟩
            exact q μ _ _ (.of_write g1 (by exact True.intro)) (R.write hn (mut_at (by assumption)) rfl g1 (by exact True.intro) (o := .lst (ys ++ [_])) (ob := .lst (ws ++ [_])) (g2.append (.cons h1 .nil))) .non
          · exact q.elim
        · exact q.elim
  | _ => exact q.elim
theorem RepL.erase {K : PySem.W.Frag} {μ : List Addr} {H : Hp} {vs : List Val} {xs : List V} {k : Nat} (r : RepL K μ H vs xs) : RepL K μ H (vs.eraseIdx k) (xs.eraseIdx k) := by
  rw [List.eraseIdx_eq_take_drop_succ, List.eraseIdx_eq_take_drop_succ]
  exact (r.take _).append (r.drop _)
theorem RepL.init {K : PySem.W.Frag} {μ : List Addr} {H : Hp} {vs : List Val} {xs : List V} (r : RepL K μ H vs xs) : RepL K μ H vs.dropLast xs.dropLast := by
  rw [List.dropLast_eq_take, List.dropLast_eq_take, r.length]
  exact r.take _
theorem mth_pop : MtR X "list.pop" (rM X.K CA .pop) := by
  intro pins s σ H x xs v us Q I rx rxs h
  obtain ⟨μ, v', vs, st, R, rv, rvs, q⟩ := h
  cases rv with
  | @ref n a hn =>
    cases rvs with
    | nil =>
      unfold mthV at q
      dsimp only at q
      split at q
      · rename_i ws hw
        obtain ⟨ys, g1, g2⟩ := R.mut hn hw
        split at q
        · rename_i y hy
          obtain ⟨z, hz, rz⟩ := g2.get hy
          refine mt_pop pins s σ H _ _ v us Q I rx rxs ⟨a, ys, z, rfl, rfl, g1, by rw [← g2.length]; exact hz, ?_⟩
          exact q μ _ _ (.of_write g1 (by exact True.intro)) (R.write hn (mut_at (by assumption)) rfl g1 (by exact True.intro) (o := .lst ys.dropLast) (ob := .lst ws.dropLast) g2.init) (rz.mono (.of_write g1 (by exact True.intro)))
        · exact q.elim
      · exact q.elim
    | cons h1 t => cases t with
      | cons _ _ => cases h1 <;> exact q.elim
      | nil => cases h1 with
        | int i =>
          unfold mthV at q
          dsimp only at q
          split at q
          · rename_i ws hw
            obtain ⟨ys, g1, g2⟩ := R.mut hn hw
            split at q
            · rename_i k hk
              split at q
              · rename_i y hy
                split at q
                · rename_i hb
                  have hb := of_decide_eq_true hb
                  obtain ⟨z, hz, rz⟩ := g2.get hy
                  refine mt_popAt pins s σ H _ _ v us Q I rx rxs ⟨a, ys, i, k, z, rfl, rfl, g1, hb.1, hb.2, by rw [← g2.length]; exact hk, hz, ?_⟩
                  exact q μ _ _ (.of_write g1 (by exact True.intro)) (R.write hn (mut_at (by assumption)) rfl g1 (by exact True.intro) (o := .lst (ys.eraseIdx k)) (ob := .lst (ws.eraseIdx k)) g2.erase) (rz.mono (.of_write g1 (by exact True.intro)))
                · exact q.elim
              · exact q.elim
            · exact q.elim
          · exact q.elim
        | _ => exact q.elim
  | _ => exact q.elim
theorem mth_join : MtR X "str.join" (rM X.K CA .join) := by
  intro pins s σ H x xs v us Q I rx rxs h
  obtain ⟨μ, v', vs, st, R, rv, rvs, q⟩ := h
  cases rv with
  | str z => cases rvs with
    | nil => exact q.elim
    | cons h1 t => cases t with
      | cons _ _ => cases h1 <;> exact q.elim
      | nil => cases h1 with
        | @ref n a hn =>
          unfold mthV at q
          dsimp only at q
          split at q
          · rename_i ws hw
            obtain ⟨ys, g1, g2⟩ := R.lst hn hw
            split at q
            · rename_i zs hz
              have e := strs_rep g2 hz
              subst e
              split at q
              · rename_i hl
                exact mt_join pins s σ H _ _ v us Q I rx rxs ⟨z, a, zs, rfl, rfl, .inl g1, of_decide_eq_true hl, q.val R (.str _)⟩
              · exact q.elim
            · exact q.elim
          · exact q.elim
        | _ => exact q.elim
  | _ => exact q.elim
end
/-! ### the rules -/
section
variable {L : Lib} {X : Cx} {W : WX} {e o : Expr} {es : List Expr} {x y : Ex} {xs : Exs} {pos p : Pos}
theorem d_bltB {f : Bf} {id : String} {n : Str} (hc : CallR X (.builtin id) (rB X.K L.CA (bltV f))) (hg : Gl X n) (hm : X.mg n = none) (hv : bootBuiltins n = some (.builtin id)) (ha : DA L X W (e :: es) xs) (hn : n ≠ "__name__" := by decide) (hdb : (n == ("__debug__" : Str)) = false := by decide)
    (he : starEach (e :: es) X.env = (false, eval e X.env) :: starEach es X.env := by rfl) (hpl : (backTo pos (starEach es X.env)).any (·.1) = false := by rfl) : DE L X W (.Call (.Name n p) (e :: es) [] pos) (.blt f xs) := by
  refine PE.imp (pe_callB hc hg hm hv ha hn hdb he hpl) fun σ H Q h => ?_
  obtain ⟨μ, ρ, st, R, E, P⟩ := h
  refine ⟨μ, ρ, st, R, E, (Post.bind (RV := RVals X.K) P).imp fun ws H1 h1 => ?_⟩
  obtain ⟨μ1, vs, st1, l1, R1, rv, P1⟩ := h1
  exact ⟨μ1, vs, st1, R1, rv, P1.o⟩
theorem d_bltT {f : Bf} {T : String} {n : Str} (hc : CallR X (.type T) (rB X.K L.CA (bltV f))) (hg : Gl X n) (hm : X.mg n = none) (hv : bootBuiltins n = some (.type T)) (ha : DA L X W (e :: es) xs) (hn : n ≠ "__name__" := by decide) (hdb : (n == ("__debug__" : Str)) = false := by decide)
    (he : starEach (e :: es) X.env = (false, eval e X.env) :: starEach es X.env := by rfl) (hpl : (backTo pos (starEach es X.env)).any (·.1) = false := by rfl) : DE L X W (.Call (.Name n p) (e :: es) [] pos) (.blt f xs) := by
  refine PE.imp (pe_callTy hc hg hm hv ha hn hdb he hpl) fun σ H Q h => ?_
  obtain ⟨μ, ρ, st, R, E, P⟩ := h
  refine ⟨μ, ρ, st, R, E, (Post.bind (RV := RVals X.K) P).imp fun ws H1 h1 => ?_⟩
  obtain ⟨μ1, vs, st1, l1, R1, rv, P1⟩ := h1
  exact ⟨μ1, vs, st1, R1, rv, P1.o⟩
theorem d_isi {p2 : Pos} (T : Ty) (hg : Gl X "isinstance") (hm : X.mg "isinstance" = none) (hgT : Gl X (tyA T)) (hmT : X.mg (tyA T) = none) (ha : DE L X W e x) (hv : bootBuiltins "isinstance" = some (.builtin "isinstance")) (hvT : bootBuiltins (tyA T) = some (.type (tyN T)))
    (hdT : tyA T ≠ "__name__") (hdT2 : (tyA T == ("__debug__" : Str)) = false)
    (he : starEach [e, .Name (tyA T) p2] X.env = (false, eval e X.env) :: starEach [.Name (tyA T) p2] X.env := by rfl) (hpl : (backTo pos (starEach [.Name (tyA T) p2] X.env)).any (·.1) = false := by rfl) :
    DE L X W (.Call (.Name "isinstance" p) [e, .Name (tyA T) p2] [] pos) (.blt (.isi T) (.cons x .nil)) := by
  refine PE.imp (pe_callB (isi_ok (CA := L.CA) T) hg hm hv (pa_cons ha (pa_cons (pe_bltn hgT hmT hvT (show RelV (.ty (tyN T)) (.type (tyN T)) from rfl) hdT hdT2) pa_nil (by rfl)) he) (by decide) (by decide) he hpl) fun σ H Q h => ?_
  obtain ⟨μ, ρ, st, R, E, P⟩ := h
  have ee : L.e (.blt (.isi T) (.cons x .nil)) ρ st = (L.e x ρ st).bind fun v st1 => liftO (bltV (.isi T) [v] st1) := by
    show ((ev L.cl x ρ st).bind fun v st1 => Res.bind (.ok [] st1) fun vs st2 => .ok (v :: vs) st2).bind _ = (ev L.cl x ρ st).bind _
    generalize ev L.cl x ρ st = r
    cases r <;> rfl
  rw [ee] at P
  refine ⟨μ, ρ, st, R, E, (Post.bind (RV := RVal X.K) P).imp fun w H1 h1 => ?_⟩
  obtain ⟨μ1, v, st1, l1, R1, rv, P1⟩ := h1
  have q := P1.o
  unfold bltV at q
  dsimp only at q
  cases e1 : isiV T st1 v with
  | none => rw [e1] at q; exact q.elim
  | some b => rw [e1] at q; exact ⟨μ1, v, w, st1, b, rfl, R1, rv, e1, PostO.val (w := .bl b) R1 q (.bl b)⟩
theorem d_append {apos : Pos} (ho : DE L X W o x) (ha : DA L X W (e :: es) xs) (hbase : attributeBase o "append" X.env (eval o X.env) = eval o X.env := by rfl)
    (hfew : ((backTo pos (starEach (e :: es) X.env)).all (fun x => !x.1) && (backToKw pos (keywordEach [] X.env)).all (fun x => x.1.isSome) && decide ((e :: es).length + ([] : List Keyword).length + (if ([] : List Keyword).isEmpty then 0 else 1) < 30)) = true := by rfl)
    (hline : (apos.endLine == pos.line) = true := by rfl) (hs : starEach (e :: es) X.env = (false, eval e X.env) :: starEach es X.env := by rfl) (hplain : (backTo pos (starEach es X.env)).any (·.1) = false := by rfl) :
    DE L X W (.Call (.Attribute o "append" apos) (e :: es) [] pos) (.mth .append x xs) := by
  refine PE.imp (pe_bm PySem.F.plainAttrs_list PySem.F.slot_list_append PySem.F.type_list_append (mth_append (CA := L.CA)) ho ha hbase hfew hline hs hplain) fun σ H Q h => ?_
  obtain ⟨μ, ρ, st, R, E, P⟩ := h
  refine ⟨μ, ρ, st, R, E, (Post.bind (RV := RVal X.K) P).imp fun w H1 h1 => ?_⟩
  obtain ⟨μ1, v, st1, l1, R1, rv, P1⟩ := h1
  split at P1
  · rename_i hr
    cases rv with
    | @ref n a hn =>
      obtain ⟨ws, hw⟩ := Option.isSome_iff_exists.mp hr
      obtain ⟨ys, g1, g2⟩ := R1.mut hn hw
      refine ⟨.inl ⟨rfl, ys, .of g1⟩, ?_⟩
      refine ⟨μ1, ρ, st1, R1, E.mono l1, (Post.bind (RV := RVals X.K) P1).imp fun zs H2 h2 => ?_⟩
      obtain ⟨μ2, vs, st2, l2, R2, rvs, P2⟩ := h2
      exact ⟨μ2, _, vs, st2, R2, .ref (l2.at_ hn), rvs, P2.o⟩
    | _ => cases hr
  · exact P1.elim
theorem d_pop1 {apos : Pos} (ho : DE L X W o x) (ha : DA L X W (e :: es) xs) (hbase : attributeBase o "pop" X.env (eval o X.env) = eval o X.env := by rfl)
    (hfew : ((backTo pos (starEach (e :: es) X.env)).all (fun x => !x.1) && (backToKw pos (keywordEach [] X.env)).all (fun x => x.1.isSome) && decide ((e :: es).length + ([] : List Keyword).length + (if ([] : List Keyword).isEmpty then 0 else 1) < 30)) = true := by rfl)
    (hline : (apos.endLine == pos.line) = true := by rfl) (hs : starEach (e :: es) X.env = (false, eval e X.env) :: starEach es X.env := by rfl) (hplain : (backTo pos (starEach es X.env)).any (·.1) = false := by rfl) :
    DE L X W (.Call (.Attribute o "pop" apos) (e :: es) [] pos) (.mth .pop x xs) := by
  refine PE.imp (pe_bm PySem.F.plainAttrs_list PySem.F.slot_list_pop PySem.F.type_list_pop (mth_pop (CA := L.CA)) ho ha hbase hfew hline hs hplain) fun σ H Q h => ?_
  obtain ⟨μ, ρ, st, R, E, P⟩ := h
  refine ⟨μ, ρ, st, R, E, (Post.bind (RV := RVal X.K) P).imp fun w H1 h1 => ?_⟩
  obtain ⟨μ1, v, st1, l1, R1, rv, P1⟩ := h1
  split at P1
  · rename_i hr
    cases rv with
    | @ref n a hn =>
      obtain ⟨ws, hw⟩ := Option.isSome_iff_exists.mp hr
      obtain ⟨ys, g1, g2⟩ := R1.mut hn hw
      refine ⟨.inl ⟨rfl, ys, .of g1⟩, ?_⟩
      refine ⟨μ1, ρ, st1, R1, E.mono l1, (Post.bind (RV := RVals X.K) P1).imp fun zs H2 h2 => ?_⟩
      obtain ⟨μ2, vs, st2, l2, R2, rvs, P2⟩ := h2
      exact ⟨μ2, _, vs, st2, R2, .ref (l2.at_ hn), rvs, P2.o⟩
    | _ => cases hr
  · exact P1.elim
theorem d_pop0 {apos : Pos} (ho : DE L X W o x) (hbase : attributeBase o "pop" X.env (eval o X.env) = eval o X.env := by rfl) (hline : (apos.endLine == pos.line) = true := by rfl) :
    DE L X W (.Call (.Attribute o "pop" apos) [] [] pos) (.mth .pop x .nil) := by
  refine PE.imp (pe_bm0 PySem.F.plainAttrs_list PySem.F.slot_list_pop PySem.F.type_list_pop (mth_pop (CA := L.CA)) ho hbase hline) fun σ H Q h => ?_
  obtain ⟨μ, ρ, st, R, E, P⟩ := h
  refine ⟨μ, ρ, st, R, E, (Post.bind (RV := RVal X.K) P).imp fun w H1 h1 => ?_⟩
  obtain ⟨μ1, v, st1, l1, R1, rv, P1⟩ := h1
  split at P1
  · rename_i hr
    cases rv with
    | @ref n a hn =>
      obtain ⟨ws, hw⟩ := Option.isSome_iff_exists.mp hr
      obtain ⟨ys, g1, g2⟩ := R1.mut hn hw
      exact ⟨.inl ⟨rfl, ys, .of g1⟩, μ1, _, [], st1, R1, .ref hn, .nil, Post.o (W := W) (σ := σ) P1⟩
    | _ => cases hr
  · exact P1.elim
theorem d_join {apos : Pos} (ho : DE L X W o x) (ha : DE L X W e y) (hs : starEach [e] X.env = [(false, eval e X.env)] := by rfl) (hbase : attributeBase o "join" X.env (eval o X.env) = eval o X.env := by rfl) (hline : (apos.endLine == pos.line) = true := by rfl) :
    DE L X W (.Call (.Attribute o "join" apos) [e] [] pos) (.mth .join x (.cons y .nil)) := by
  refine PE.imp (pe_join ho ha hs hbase hline) fun σ H Q h => ?_
  obtain ⟨μ, ρ, st, R, E, P⟩ := h
  refine ⟨μ, ρ, st, R, E, (Post.bind (RV := RVal X.K) P).imp fun w H1 h1 => ?_⟩
  obtain ⟨μ1, v, st1, l1, R1, rv, P1⟩ := h1
  split at P1
  · rename_i hr
    cases rv with
    | str z =>
      refine ⟨⟨z, rfl⟩, ?_⟩
      have P1 : Post X.K L.CA W (RVal X.K) σ μ1 H1 Q ((L.es (.cons y .nil) ρ st1).bind fun vs st2 => liftO (mthV .join (.str z) vs st2)) := P1
      have ee : L.es (.cons y .nil) ρ st1 = (L.e y ρ st1).bind fun v st1 => .ok [v] st1 := by
        show ((ev L.cl y ρ st1).bind fun v st1 => Res.bind (.ok [] st1) fun vs st2 => .ok (v :: vs) st2) = (ev L.cl y ρ st1).bind _
        generalize ev L.cl y ρ st1 = r
        cases r <;> rfl
      rw [ee] at P1
      have P2 : Post X.K L.CA W (RVal X.K) σ μ1 H1 Q ((L.e y ρ st1).bind fun v st2 => liftO (mthV .join (.str z) [v] st2)) := by
        cases h : L.e y ρ st1 with
        | ok a s => rw [h] at P1; exact P1
        | exc c a s => rw [h] at P1; exact P1
        | stuck => rw [h] at P1; exact P1
      refine ⟨μ1, ρ, st1, R1, E.mono l1, (Post.bind (RV := RVal X.K) P2).imp fun u H2 h2 => ?_⟩
      obtain ⟨μ2, v2, st2, l2, R2, rv2, P3⟩ := h2
      have q := P3.o
      cases rv2 with
      | @ref n a hn =>
        unfold mthV at q
        dsimp only at q
        split at q
        · rename_i ws hw
          obtain ⟨ys, g1, g2⟩ := R2.lst hn hw
          split at q
          · rename_i zs hz
            have e := strs_rep g2 hz
            subst e
            split at q
            · rename_i hl
              exact ⟨z, a, zs, rfl, rfl, .inl g1, of_decide_eq_true hl, q.val R2 (.str _)⟩
            · exact q.elim
          · exact q.elim
        · exact q.elim
      | _ => exact q.elim
    | _ => cases hr
  · exact P1.elim
end
end EV

/-! ## EvMore -/
set_option maxRecDepth 100000
set_option maxHeartbeats 4000000
/-! EvMore: tables of the top, calls by keyword, raise, try. -/
namespace EV
open PySem L2

/-! ### a table of the top -/
def flB : Val → Value → Bool
  | .non, .none => true
  | .bl a, .bool b => a == b
  | .int a, .int b _ => decide (a = b)
  | .str a, .str b _ => decide (a = b)
  | _, _ => false
def flV : Val → V
  | .bl a => .bl a
  | .int i => .int i
  | .str x => .str x
  | _ => .non
theorem flB_ok {K : PySem.W.Frag} {v : Val} {u : Value} (h : flB v u = true) : RelV (flV v) u ∧ ∀ μ H, RepV K μ H v (flV v) := by
  cases v <;> cases u <;> first
    | exact nomatch (show false = true from h)
    | skip
  · exact ⟨rfl, fun _ _ => .non⟩
  · rename_i a b
    have e : a = b := eq_of_beq h
    subst e
    exact ⟨rfl, fun _ _ => .bl _⟩
  · rename_i i j t
    have e : i = j := of_decide_eq_true h
    subst e
    exact ⟨⟨t, rfl⟩, fun _ _ => .int _⟩
  · rename_i i j t
    have e : i = j := of_decide_eq_true h
    subst e
    exact ⟨⟨t, rfl⟩, fun _ _ => .str _⟩
def flsB : List Val → List Value → Bool
  | [], [] => true
  | v :: vs, u :: us => flB v u && flsB vs us
  | _, _ => false
theorem flsB_ok {K : PySem.W.Frag} : ∀ {vs : List Val} {us : List Value}, flsB vs us = true → Vals (vs.map flV) us ∧ ∀ μ H, RepL K μ H vs (vs.map flV)
  | [], [], _ => ⟨.nil, fun _ _ => .nil⟩
  | [], _ :: _, h => by cases h
  | _ :: _, [], h => by cases h
  | v :: vs, u :: us, h => by
    obtain ⟨h1, h2⟩ := Bool.and_eq_true_iff.mp (show (flB v u && flsB vs us) = true from h)
    obtain ⟨a1, a2⟩ := flB_ok (K := K) h1
    obtain ⟨b1, b2⟩ := flsB_ok (K := K) h2
    exact ⟨.cons a1 b1, fun μ H => .cons (a2 μ H) (b2 μ H)⟩
/-- a constant as the top has made it: flat, or a tuple of flat ones -/
def cvB (K : PySem.W.Frag) (v : Val) (u : Value) : Bool := match v with
  | .tup vs => (match u with
    | .ref t => (match K.lookup t with
      | some ⟨.type c, _, .seq its _, _⟩ => decide (c = "tuple") && (decide (its.size ≤ sizeLine) && flsB vs its.toList)
      | _ => false)
    | _ => false)
  | v => flB v u
theorem cvB_ok {K : PySem.W.Frag} {v : Val} {u : Value} (h : cvB K v u = true) : ∃ x, RelV x u ∧ ∀ μ H, RepV K μ H v x := by
  cases v with
  | tup vs =>
    cases u with
    | ref t =>
      have h1 : (match K.lookup t with
        | some ⟨.type c, _, .seq its _, _⟩ => decide (c = "tuple") && (decide (its.size ≤ sizeLine) && flsB vs its.toList)
        | _ => false) = true := h
      cases q : K.lookup t with
      | none => rw [q] at h1; cases h1
      | some o =>
        obtain ⟨oc, od, dt, osl⟩ := o
        rw [q] at h1
        cases oc with
        | type c =>
          cases dt with
          | seq its n =>
            obtain ⟨z1, z⟩ := Bool.and_eq_true_iff.mp (show (decide (c = "tuple") && (decide (its.size ≤ sizeLine) && flsB vs its.toList)) = true from h1)
            obtain ⟨z2, z3⟩ := Bool.and_eq_true_iff.mp z
            obtain ⟨r1, r2⟩ := flsB_ok (K := K) z3
            exact ⟨.ref t, rfl, fun μ H => .tup (.inr ⟨_, its, n, q, congrArg Value.type (of_decide_eq_true z1), rfl, of_decide_eq_true z2, r1⟩) (r2 μ H)⟩
          | _ => cases h1
        | _ => cases dt <;> cases h1
    | _ => cases h
  | non => exact ⟨_, flB_ok (K := K) (v := .non) (u := u) h⟩
  | bl k => exact ⟨_, flB_ok (K := K) (v := .bl k) (u := u) h⟩
  | int k => exact ⟨_, flB_ok (K := K) (v := .int k) (u := u) h⟩
  | str k => exact ⟨_, flB_ok (K := K) (v := .str k) (u := u) h⟩
  | ref k => exact ⟨_, flB_ok (K := K) (v := .ref k) (u := u) h⟩
def entB (K : PySem.W.Frag) : List (Str × Val) → List DictEntry → Bool
  | [], [] => true
  | (k, v) :: r, e :: es => (match e.key with
    | .str x _ => decide (x = k)
    | _ => false) && (cvB K v e.val && entB K r es)
  | _, _ => false
def tabB (K : PySem.W.Frag) (x : Str) (kvs : List (Str × Val)) : Bool := match K.lookup (He.ga K x) with
  | some ⟨_, _, .dict es _, _⟩ => entB K kvs es.toList
  | _ => false
theorem ent_ok {K : PySem.W.Frag} : ∀ {kvs : List (Str × Val)} {es : List DictEntry}, entB K kvs es = true → ∀ z : Str, (match kvs.lookup z with
    | some v => ∃ e, es.find? (·.key.isStr z) = some e ∧ cvB K v e.val = true
    | none => es.find? (·.key.isStr z) = none) ∧ es.any (·.refKey) = false
  | [], [], _, z => ⟨rfl, rfl⟩
  | [], _ :: _, h, _ => by cases h
  | _ :: _, [], h, _ => by cases h
  | (k, v) :: r, e :: es, h, z => by
    obtain ⟨h1, h2⟩ := Bool.and_eq_true_iff.mp (show ((match e.key with
      | .str x _ => decide (x = k)
      | _ => false) && (cvB K v e.val && entB K r es)) = true from h)
    obtain ⟨h3, h4⟩ := Bool.and_eq_true_iff.mp h2
    obtain ⟨i1, i2⟩ := ent_ok h4 z
    cases ek : e.key with
    | str x t =>
      rw [ek] at h1
      have ex : x = k := of_decide_eq_true h1
      subst ex
      have er : e.refKey = false := by unfold DictEntry.refKey; rw [ek]
      refine ⟨?_, by rw [List.any_cons, er, i2]; rfl⟩
      by_cases c : z = x
      · subst c
        have e1 : ((z, v) :: r).lookup z = some v := by simp [List.lookup]
        have e2 : e.key.isStr z = true := by rw [ek]; simp [Value.isStr]
        rw [e1]
        exact ⟨e, by rw [List.find?_cons, e2], h3⟩
      · have e1 : ((x, v) :: r).lookup z = r.lookup z := by
          have : (z == x) = false := by simpa using c
          simp [List.lookup, this]
        have e2 : e.key.isStr z = false := by rw [ek]; simpa [Value.isStr] using fun q : x = z => c q.symm
        rw [e1, List.find?_cons, e2]
        exact i1
    | _ => rw [ek] at h1; cases h1
structure TabAt (X : Cx) (x : Str) (kvs : List (Str × Val)) : Prop where
  ex : ∃ D es n, X.mg x = some (.ref D) ∧ KDict X.K X.w D es n ∧ ∀ z, match kvs.lookup z with
    | some v => ∃ u y, PySem.W.nsIn X.K D z = some (some u) ∧ RelV y u ∧ ∀ μ H, RepV X.K μ H v y
    | none => PySem.W.nsIn X.K D z = some none
theorem tab_of {X : Cx} {x : Str} {kvs : List (Str × Val)} {es : Array DictEntry} {n : Nat} (hm : X.mg x = some (.ref (He.ga X.K x))) (D : KDict X.K X.w (He.ga X.K x) es n) (h : tabB X.K x kvs = true) : TabAt X x kvs := by
  refine ⟨_, es, n, hm, D, fun z => ?_⟩
  have h1 : entB X.K kvs es.toList = true := by
    unfold tabB at h
    rw [D.at_] at h
    exact h
  obtain ⟨i1, i2⟩ := ent_ok h1 z
  cases e : kvs.lookup z with
  | some v =>
    rw [e] at i1
    obtain ⟨en, f1, f2⟩ := i1
    obtain ⟨y, r1, r2⟩ := cvB_ok f2
    refine ⟨en.val, y, ?_, r1, r2⟩
    unfold PySem.W.nsIn
    rw [D.at_]
    dsimp only
    rw [f1]
  | none =>
    rw [e] at i1
    show PySem.W.nsIn X.K (He.ga X.K x) z = some none
    unfold PySem.W.nsIn
    rw [D.at_]
    dsimp only
    rw [show es.toList.find? (·.key.isStr z) = none from i1]
    dsimp only
    rw [i2]
    rfl
section
variable {L : Lib} {X : Cx} {W : WX} {a b e : Expr} {es : List Expr} {x y : Ex} {xs : Exs} {pos p : Pos} {n : Str} {kvs : List (Str × Val)}
/-- a constant of the top: flat, or a tuple of flat ones -/
def ConAt (X : Cx) (x : Str) (v : Val) : Prop := ∃ u y, X.mg x = some u ∧ RelV y u ∧ ∀ μ H, RepV X.K μ H v y
theorem con_of {X : Cx} {x : Str} {v : Val} {u : Value} (hm : X.mg x = some u) (h : cvB X.K v u = true) : ConAt X x v := by
  obtain ⟨y, h1, h2⟩ := cvB_ok h
  exact ⟨u, y, hm, h1, h2⟩
theorem d_cst {v : Val} (T : ConAt X n v) (hg : Gl X n) (hd : (n == ("__debug__" : Str)) = false := by decide) : DE L X W (.Name n p) (.con v) := by
  obtain ⟨u, y, hm, h1, h2⟩ := T
  refine PE.imp (pe_glob (v := y) hg hm h1 hd) fun σ H Q h => ?_
  obtain ⟨μ, ρ, st, R, E, P⟩ := h
  exact P μ H y .refl R (h2 μ H)
theorem d_tab (T : TabAt X n kvs) (hg : Gl X n) (hb : DE L X W b y) (hd : (n == ("__debug__" : Str)) = false := by decide) (hs : PlainIx b := by intro _ _; rfl) : DE L X W (.Subscript (.Name n p) b pos) (.tab kvs y) := by
  obtain ⟨D, es, m, hm, KD, ht⟩ := T.ex
  refine PE.imp (pe_ix ix_kdict (pe_glob (v := .ref D) hg hm rfl hd) hb hs) fun σ H Q h => ?_
  obtain ⟨μ, ρ, st, R, E, P⟩ := h
  refine (show tE X.K L.CA W (L.e y) σ H _ from ⟨μ, ρ, st, R, E, (Post.bind (RV := RVal X.K) P).imp fun w H1 h1 => ?_⟩)
  obtain ⟨μ1, v, st1, l1, R1, rv, P1⟩ := h1
  cases rv with
  | str z =>
    have q := ht z
    dsimp only at P1
    cases ez : kvs.lookup z with
    | none => rw [ez] at P1; exact P1.elim
    | some u =>
      rw [ez] at P1 q
      obtain ⟨u', y', n1, r1, rp⟩ := q
      exact ⟨D, z, y', rfl, rfl, ⟨es, m, u', KD.at_, KD.lit, n1, r1⟩, P1 μ1 H1 y' .refl R1 (rp μ1 H1)⟩
  | _ => exact P1.elim
theorem d_tin (T : TabAt X n kvs) (hg : Gl X n) (ha : DE L X W a x) (hd : (n == ("__debug__" : Str)) = false := by decide) (hm : behindInMarks .In (.Name n p) = false := by rfl) : DE L X W (.Compare a [.In] [.Name n p] pos) (.tin false kvs x) := by
  obtain ⟨D, es, m, hg2, KD, ht⟩ := T.ex
  refine PE.imp (pe_cmpR (op_in_kd KD) ha (pe_glob (v := .ref D) hg hg2 rfl hd) hm) fun σ H Q h => ?_
  obtain ⟨μ, ρ, st, R, E, P⟩ := h
  refine (show tE X.K L.CA W (L.e x) σ H _ from ⟨μ, ρ, st, R, E, (Post.bind (RV := RVal X.K) P).imp fun w H1 h1 => ?_⟩)
  obtain ⟨μ1, v, st1, l1, R1, rv, P1⟩ := h1
  cases rv with
  | str z =>
    have q := ht z
    have P2 : Post X.K L.CA W (RVal X.K) σ μ1 H1 Q (.ok (.bl (false != (kvs.lookup z).isSome)) st1) := P1
    have P3 := P2 μ1 H1 (.bl (false != (kvs.lookup z).isSome)) .refl R1 (.bl _)
    cases ez : kvs.lookup z with
    | none => rw [ez] at P3 q; exact ⟨z, none, rfl, rfl, q, P3⟩
    | some u =>
      rw [ez] at P3 q
      obtain ⟨u', y', n1, r1, rp⟩ := q
      exact ⟨z, some u', rfl, rfl, n1, P3⟩
  | _ => exact P1.elim
theorem d_tnotin (T : TabAt X n kvs) (hg : Gl X n) (ha : DE L X W a x) (hd : (n == ("__debug__" : Str)) = false := by decide) (hm : behindInMarks .NotIn (.Name n p) = false := by rfl) : DE L X W (.Compare a [.NotIn] [.Name n p] pos) (.tin true kvs x) := by
  obtain ⟨D, es, m, hg2, KD, ht⟩ := T.ex
  refine PE.imp (pe_cmpR (op_notIn_kd KD) ha (pe_glob (v := .ref D) hg hg2 rfl hd) hm) fun σ H Q h => ?_
  obtain ⟨μ, ρ, st, R, E, P⟩ := h
  refine (show tE X.K L.CA W (L.e x) σ H _ from ⟨μ, ρ, st, R, E, (Post.bind (RV := RVal X.K) P).imp fun w H1 h1 => ?_⟩)
  obtain ⟨μ1, v, st1, l1, R1, rv, P1⟩ := h1
  cases rv with
  | str z =>
    have q := ht z
    have P2 : Post X.K L.CA W (RVal X.K) σ μ1 H1 Q (.ok (.bl (true != (kvs.lookup z).isSome)) st1) := P1
    have P3 := P2 μ1 H1 (.bl (true != (kvs.lookup z).isSome)) .refl R1 (.bl _)
    cases ez : kvs.lookup z with
    | none => rw [ez] at P3 q; exact ⟨z, none, rfl, rfl, q, P3⟩
    | some u =>
      rw [ez] at P3 q
      obtain ⟨u', y', n1, r1, rp⟩ := q
      exact ⟨z, some u', rfl, rfl, n1, P3⟩
  | _ => exact P1.elim
theorem d_dnew : DE L X W (.Dict [] [] pos) .dnew := by
  refine PE.imp pe_dnewK fun σ H Q h => ?_
  obtain ⟨μ, ρ, st, R, E, P⟩ := h
  intro p hp
  exact P (μ ++ [p]) (upd H p (.dK [])) (.ref p) (.of_new hp) (R.alloc hp (o := .dK []) (ob := .dct []) ⟨rfl, .nil⟩) (.ref (alloc_at R))
theorem d_rev {k : Nat} {p1 p2 p3 : Pos} (ha : DE L X W a x) : DE L X W (.Subscript a (.Slice none none (some (.UnaryOp .USub (.Constant (.int 1) k p1) p2)) p3) pos) (.rev x) := by
  refine PE.imp (pe_revL ha) fun σ H Q h => ?_
  obtain ⟨μ, ρ, st, R, E, P⟩ := h
  refine (show tE X.K L.CA W (L.e x) σ H _ from ⟨μ, ρ, st, R, E, (Post.bind (RV := RVal X.K) P).imp fun w H1 h1 => ?_⟩)
  obtain ⟨μ1, v, st1, l1, R1, rv, P1⟩ := h1
  have q := P1.o
  cases rv with
  | @ref n a hn =>
    unfold revV at q
    dsimp only at q
    split at q
    · rename_i vs hl
      obtain ⟨ws, h1, h2⟩ := R1.lst hn hl
      exact ⟨a, ws, rfl, h1, fun p hp => q.new R1 (ho := .lst ws.reverse) hp h2.reverse⟩
    · exact q.elim
  | _ => exact q.elim
end
/-! ### a call by keywords, in the parameters' order -/
structure FnAtK (L : Lib) (X : Cx) (f : Str) (id k : Nat) (ks : List Str) : Prop where
  ex : ∃ (a : Addr) (fd : FuncData) (ps : List Str), X.mg f = some (.ref a) ∧ PySem.W.keepIn X.K (.ref a) = true ∧ KBn X.K fd ps 0 ks (fun us ws => us ++ ws) (fun vs zs => vs ++ zs) ∧ ks.length = ps.length ∧ FnOk X.prog X.w X.K X.mg X.base (L2.CX X.prog X.w) k a fd ps (spM X.K L.CA ps.length (L.cl id)) ∧
    ∀ args st, args.length ≠ ps.length → L.cl id args st = .stuck
/-- the keywords' values -/
def DK (L : Lib) (X : Cx) (W : WX) (kws : List Keyword) (x : Exs) : Prop := PK X kws (tA X.K L.CA W (L.es x))
theorem PK.imp {X : Cx} {kws : List Keyword} {t t' : TA} (h : PK X kws t) (hi : ∀ σ H Q, t' σ H Q → t σ H Q) : PK X kws t' := ⟨fun pos pins s σ H Q I q => h.run pos pins s σ H Q I (hi σ H Q q)⟩
section
variable {L : Lib} {X : Cx} {W : WX} {a b e : Expr} {kws : List Keyword} {x y : Ex} {xs : Exs} {pos p kpos : Pos} {f : Str}
theorem dk_nil : DK L X W [] .nil := by
  refine PK.imp pk_nil fun σ H Q h => ?_
  obtain ⟨μ, ρ, st, R, E, P⟩ := h
  exact P μ H [] .refl R .nil
theorem dk_cons {nm : Option Str} (ha : DE L X W e x) (hr : DK L X W kws xs) : DK L X W (⟨nm, e, kpos⟩ :: kws) (.cons x xs) := by
  refine PK.imp (pk_cons ha hr) fun σ H Q h => ?_
  obtain ⟨μ, ρ, st, R, E, P⟩ := h
  refine ⟨μ, ρ, st, R, E, (Post.bind (RV := RVal X.K) P).imp fun w H1 h1 => ?_⟩
  obtain ⟨μ1, v, st1, l1, R1, rv, P1⟩ := h1
  refine ⟨μ1, ρ, st1, R1, E.mono l1, (Post.bind (RV := RVals X.K) P1).imp fun ws H2 h2 => ?_⟩
  obtain ⟨μ2, vs, st2, l2, R2, rvs, P2⟩ := h2
  exact P2 μ2 H2 _ .refl R2 (.cons (rv.mono l2) rvs)
theorem d_callK {W0 : XK} {ks : List Str} {id k : Nat} (F : FnAtK L X f id k ks) (hr : Room k X.A) (tk : Takes X (fun c d _ H => W0 c d H)) (hg : Gl X f) (hkw : DK L X (fun c d _ H => W0 c d H) kws xs)
    (hall : (backToKw pos (keywordEach kws X.env)).all (·.1.isSome) = true := by rfl) (hks : (backToKw pos (keywordEach kws X.env)).filterMap (·.1) = ks := by rfl) (hdb : (f == ("__debug__" : Str)) = false := by decide) (hpl : ((backTo pos (starEach [] X.env)).any (·.1) || (backToKw pos (keywordEach kws X.env)).any (·.1.isNone)) = false := by rfl) :
    DE L X (fun c d _ H => W0 c d H) (.Call (.Name f p) [] kws pos) (.call id xs) := by
  obtain ⟨fa, fd, ps, hm, kp, hb, hkl, hF, hs⟩ := F.ex
  have hx : Passes (L2.CX X.prog X.w) X W0 := passes_call tk fun _ _ _ _ h => h
  have key : PE X (.Call (.Name f p) [] kws pos) (tCallN 0 ks.length (spM X.K L.CA ps.length (L.cl id)) (fun vs zs => vs ++ zs) W0 tNil (tA X.K L.CA (fun c d _ H => W0 c d H) (L.es xs))) := by
    refine ⟨fun pins s σ H Q I h => wpAny_Call_Name_kw (ld_glob I hg hm ?_ hdb)⟩
    refine PySem.W.callWith_KW0 (h₀ := X.base) I.ok.mod.kin kp hall (thn (hkw.run pos pins s σ H _ I h) fun ws s2 ⟨zs, H2, I2, rz, m1, m2, q⟩ => ⟨I2.kIn, ?_⟩) hpl
    rw [hks]; exact run_fnN (vs := []) (us := []) hF hr hb hx I2 .nil rz rfl m2 q
  refine PE.imp key fun σ H Q h => ?_
  obtain ⟨μ, ρ, st, R, E, P⟩ := h
  show tA X.K L.CA (fun c d _ H => W0 c d H) (L.es xs) σ H _
  refine ⟨μ, ρ, st, R, E, (Post.bind (RV := RVals X.K) P).imp fun vs H1 h1 => ?_⟩
  obtain ⟨μ1, args, st1, l1, R1, rv, P1⟩ := h1
  by_cases hl : args.length = ps.length
  · exact ⟨rfl, by rw [← rv.length, hl, hkl], by rw [← hl, rv.length]; rfl, μ1, args, st1, R1, rv, P1.wish fun c d H' q => q⟩
  · rw [hs args st1 hl] at P1
    exact P1.elim
end
/-! ### a call by keywords, in another order -/
theorem RepL.perm {K : PySem.W.Frag} {μ : List Addr} {H : Hp} {vs : List Val} {xs : List V} (h : RepL K μ H vs xs) : ∀ perm : List Nat, RepL K μ H (permL perm vs) (permL perm xs)
  | [] => .nil
  | i :: perm => by
    have ih := RepL.perm h perm
    unfold permL at ih ⊢
    rw [List.filterMap_cons, List.filterMap_cons]
    cases e : vs[i]? with
    | none =>
      have e2 : xs[i]? = none := by
        rw [List.getElem?_eq_none_iff] at e ⊢
        rw [← h.length]
        exact e
      rw [e2]
      exact ih
    | some v =>
      obtain ⟨x, e2, r⟩ := h.get e
      rw [e2]
      exact .cons r ih
theorem Vals.perm {xs : List V} {us : List Value} (h : Vals xs us) : ∀ perm : List Nat, Vals (permL perm xs) (permL perm us)
  | [] => .nil
  | i :: perm => by
    have ih := Vals.perm h perm
    unfold permL at ih ⊢
    rw [List.filterMap_cons, List.filterMap_cons]
    cases e : xs[i]? with
    | none =>
      rw [h.none_of e]
      exact ih
    | some v =>
      obtain ⟨x, e2, r⟩ := h.get e
      rw [e2]
      exact .cons r ih
/-- how many arguments (none where a star stands) -/
def numE : Exs → Option Nat
  | .nil => some 0
  | .cons _ es => (numE es).map (· + 1)
  | .star _ _ => none
theorem evs_num {cl : Cl} : ∀ {xs : Exs} {n : Nat}, numE xs = some n → ∀ (ρ : Fr) (st st' : Store) (vs : List Val), evs cl xs ρ st = .ok vs st' → vs.length = n
  | .nil, n, h, ρ, st, st', vs, e => by cases h; cases e; rfl
  | .cons x xs, n, h, ρ, st, st', vs, e => by
    unfold numE at h
    cases hn : numE xs with
    | none => rw [hn] at h; cases h
    | some k =>
      rw [hn] at h
      cases h
      have e : (ev cl x ρ st).bind (fun v st1 => (evs cl xs ρ st1).bind fun vs st2 => .ok (v :: vs) st2) = .ok vs st' := e
      cases e1 : ev cl x ρ st with
      | stuck => rw [e1] at e; cases e
      | exc _ _ _ => rw [e1] at e; cases e
      | ok v st1 =>
        rw [e1] at e
        have e : (evs cl xs ρ st1).bind (fun vs st2 => .ok (v :: vs) st2) = .ok vs st' := e
        cases e2 : evs cl xs ρ st1 with
        | stuck => rw [e2] at e; cases e
        | exc _ _ _ => rw [e2] at e; cases e
        | ok ws st2 =>
          rw [e2] at e
          cases e
          rw [List.length_cons, evs_num hn ρ st1 _ ws e2]
  | .star _ _, n, h, _, _, _, _, _ => by cases h
structure FnAtP (L : Lib) (X : Cx) (f : Str) (id k : Nat) (ks : List Str) (perm : List Nat) : Prop where
  ex : ∃ (a : Addr) (fd : FuncData) (ps : List Str), X.mg f = some (.ref a) ∧ PySem.W.keepIn X.K (.ref a) = true ∧ KBn X.K fd ps 0 ks (fun us ws => permL perm (us ++ ws)) (fun vs zs => permL perm (vs ++ zs)) ∧ FnOk X.prog X.w X.K X.mg X.base (L2.CX X.prog X.w) k a fd ps (spM X.K L.CA ps.length (L.cl id)) ∧
    ∀ args st, args.length ≠ ps.length → L.cl id args st = .stuck
section
variable {L : Lib} {X : Cx} {kws : List Keyword} {xs : Exs} {pos p : Pos} {f : Str}
theorem d_callP {W0 : XK} {ks : List Str} {perm : List Nat} {id k : Nat} (F : FnAtP L X f id k ks perm) (hr : Room k X.A) (tk : Takes X (fun c d _ H => W0 c d H)) (hg : Gl X f) (hkw : DK L X (fun c d _ H => W0 c d H) kws xs)
    (hlen : ∀ (ρ : Fr) (st st' : Store) (vs : List Val), L.es xs ρ st = .ok vs st' → vs.length = ks.length)
    (hall : (backToKw pos (keywordEach kws X.env)).all (·.1.isSome) = true := by rfl) (hks : (backToKw pos (keywordEach kws X.env)).filterMap (·.1) = ks := by rfl) (hdb : (f == ("__debug__" : Str)) = false := by decide) (hpl : ((backTo pos (starEach [] X.env)).any (·.1) || (backToKw pos (keywordEach kws X.env)).any (·.1.isNone)) = false := by rfl) :
    DE L X (fun c d _ H => W0 c d H) (.Call (.Name f p) [] kws pos) (.callp id perm xs) := by
  obtain ⟨fa, fd, ps, hm, kp, hb, hF, hs⟩ := F.ex
  have hx : Passes (L2.CX X.prog X.w) X W0 := passes_call tk fun _ _ _ _ h => h
  have key : PE X (.Call (.Name f p) [] kws pos) (tCallN 0 ks.length (spM X.K L.CA ps.length (L.cl id)) (fun vs zs => permL perm (vs ++ zs)) W0 tNil (tA X.K L.CA (fun c d _ H => W0 c d H) (L.es xs))) := by
    refine ⟨fun pins s σ H Q I h => wpAny_Call_Name_kw (ld_glob I hg hm ?_ hdb)⟩
    refine PySem.W.callWith_KW0 (h₀ := X.base) I.ok.mod.kin kp hall (thn (hkw.run pos pins s σ H _ I h) fun ws s2 ⟨zs, H2, I2, rz, m1, m2, q⟩ => ⟨I2.kIn, ?_⟩) hpl
    rw [hks]; exact run_fnN (vs := []) (us := []) hF hr hb hx I2 .nil rz rfl m2 q
  refine PE.imp key fun σ H Q h => ?_
  obtain ⟨μ, ρ, st, R, E, P⟩ := h
  show tA X.K L.CA (fun c d _ H => W0 c d H) (L.es xs) σ H _
  refine ⟨μ, ρ, st, R, E, ?_⟩
  have P : Post X.K L.CA (fun c d _ H => W0 c d H) (RVal X.K) σ μ H Q ((L.es xs ρ st).bind fun vs st1 => L.cl id (permL perm vs) st1) := P
  cases e : L.es xs ρ st with
  | stuck => rw [e] at P; exact P.elim
  | exc c v st' => rw [e] at P; exact P
  | ok args0 st0 =>
    have hlen0 := hlen ρ st st0 args0 e
    rw [e] at P
    intro μ1 H1 vs l1 R1 rv
    have P1 : Post X.K L.CA (fun c d _ H => W0 c d H) (RVal X.K) σ μ H Q (L.cl id (permL perm args0) st0) := P
    have P2 : Post X.K L.CA (fun c d _ H => W0 c d H) (RVal X.K) σ μ1 H1 Q (L.cl id (permL perm args0) st0) := by
      revert P1
      generalize L.cl id (permL perm args0) st0 = r
      intro P1
      cases r with
      | ok c s2 => exact fun μ2 H2 d l => P1 μ2 H2 d (l1.trans l)
      | exc c v s2 => exact fun μ2 H2 d z l => P1 μ2 H2 d z (l1.trans l)
      | stuck => exact P1
    by_cases hl : (permL perm args0).length = ps.length
    · exact ⟨rfl, by rw [← rv.length]; exact hlen0, by show (permL perm vs).length = ps.length; rw [← (RepL.perm rv perm).length]; exact hl, μ1, permL perm args0, st0, R1, RepL.perm rv perm, P2.wish fun c d H' q => q⟩
    · rw [hs _ st0 hl] at P2
      exact P2.elim
end
end EV

/-! ## EvSet -/
set_option maxRecDepth 100000
set_option maxHeartbeats 4000000
/-! EvSet: a set comprehension of whole numbers and texts, its length. -/
namespace EV
open PySem L2

theorem setK0 {P : Program} {w : World} {h : Heap} : Heap.SetOf (mixKind P w) (h.push { cls := .type "set", data := .set #[] 0 (SetTable.fresh 0 0 !w.params.followText "set-order") }) h.objs.size (fun _ => false) 0 := by
  obtain ⟨o, es, ep, t, h1, h2, h3, _, _, h6, h7, h8⟩ := (PpSet.setB_fresh (h := h) w).setOf (P := P)
  have e : es = #[] := Array.eq_empty_of_size_eq_zero h8
  subst e
  exact ⟨o, #[], ep, t, h1, h2, h3, (fun e he => absurd he List.not_mem_nil), (fun k => Iff.intro (fun z => by cases z) (fun ⟨_, z, _⟩ => absurd z List.not_mem_nil)), h6, h7, h8⟩
/-- what a set comprehension wants: as tLc, but each new thing is a key -/
def tScK (P : Program) (w : World) (wi : TI) (g : TG) (tt : TT) (te : TE) (vs : List Nat) : TE := fun σ H Q => wi σ H fun J H1 => ∀ D, H1 D = none → ∃ W : Nat → Nat → Hp → Prop, (∃ m, W 0 m (upd H1 D (SetK P w D (fun _ => false) 0))) ∧
  ∀ i m H, W i m H → (J.stop i H ∧ Q (.ref D) H) ∨ (J.go i H ∧ ∃ Nx : Hp → Prop, (∀ H', Nx H' → ∃ m', m' < m ∧ W (i + 1) m' H') ∧ ∀ x H', J.yld i H x H' → g x (wipe σ vs) H' fun σ2 H2 => wipe σ2 vs = wipe σ vs ∧ tt σ2 H2 fun b H3 =>
    if b = true then te σ2 H3 fun y H4 => ∃ (c : Key) (S : Key → Bool) (n : Nat), y = kV c ∧ H4 D = some (SetK P w D S n) ∧ n + 1 < scanBound ∧ Nx (upd H4 D (SetK P w D (fun j => S j || decide (j = c)) (if S c = true then n else n + 1))) else Nx H3)
theorem addK_ok {X : Cx} {pins : List (Addr × Obj)} {σ : St} {H : Hp} {s : Shared} {E : Value → Shared → Prop} {D : Addr} {S : Key → Bool} {n : Nat} {c : Key} {u : Value} {Q : Value → Shared → Prop} (I : L2.Inv X pins σ H s) (hD : H D = some (SetK X.prog X.w D S n)) (hb : n + 1 < scanBound) (ru : RelV (kV c) u) (hx : ∀ v s, X.xe v s → E v s)
    (h : ∀ s', L2.Inv X pins σ (upd H D (SetK X.prog X.w D (fun j => S j || decide (j = c)) (if S c = true then n else n + 1))) s' → ∀ v, Q v s') : wpAny (model X.prog X.w) X.A (call (.builtin "set.add") [.ref D, u]) Q E s := by
  have z := mt_saddK (X := X) pins s σ H (.ref D) [kV c] (.ref D) [u] (fun _ H' => H' = upd H D (SetK X.prog X.w D (fun j => S j || decide (j = c)) (if S c = true then n else n + 1))) I rfl (.cons ru .nil) ⟨D, c, S, n, rfl, rfl, hD, hb, rfl⟩
  refine wpAny_mono z ?_ ?_
  · rintro v s' ⟨v', H', I', rv, rfl⟩
    exact h s' I' v
  · exact fun v s' q => hx v s' q
section
variable {X : Cx} {elt tg iter : Expr} {ifs : List Expr} {scope : Scope} {own : List (Str × Nat)} {pos pos' : Pos} {wi : TI} {g : TG} {tt : TT} {te : TE}
theorem scK_core {pins : List (Addr × Obj)} {s : Shared} {σ : St} {H : Hp} {Q : VK} {use : Option (Value → Sem Unit)} {Qf : Value → Shared → Prop} (hc : X.calm = true) (hN : X.N.Nodup) (I : L2.Inv X pins σ H s) (hi : PI X tg iter wi) (ok : BlkOk X.N X.env.scope scope own)
    (hg : ∀ (s : Shared) (H : Hp) (C : Addr) (cl : List (Str × Addr)) (fp : List Addr), PG (X.blk s H scope (compEnvC scope cl C X.env) fp) tg g)
    (ht : ∀ (s : Shared) (H : Hp) (C : Addr) (cl : List (Str × Addr)) (fp : List Addr), PTs (X.blk s H scope (compEnvC scope cl C X.env) fp) ifs tt)
    (he : ∀ (s : Shared) (H : Hp) (C : Addr) (cl : List (Str × Addr)) (fp : List Addr), PE (X.blk s H scope (compEnvC scope cl C X.env) fp) elt te)
    (hs : ∀ x : Value, foldedSetIterable iter X.env x = pure x) (h : tScK X.prog X.w wi g tt te (own.map (·.2)) σ H Q)
    (hR : ∀ (D C : Addr) (s' : Shared) (m : Str → Option Value) (H' : Hp), L2.Inv X pins σ H' s' → Q (.ref D) H' → s'.heap.Ns C m → FpOk X pins H' C → compPost (model X.prog X.w) X.A X.xe use Qf (.ref D) C (.ok .next) s') :
    wpAny (model X.prog X.w) X.A (comprehension (.SetComp elt [⟨tg, iter, ifs, 0⟩] scope pos) scope X.env pos' (newSet (.type "set")) false (eval iter X.env) use) Qf X.xe s := by
  refine wpAny_comprehension_free rfl hs (closure_ok fun y hy e => (ok.free y hy e).elim (fun k => I.ok.has y.1 (.inl k)) fun k => I.ok.has y.1 (.inr k)) ok.kind (fun y hy e => by rw [ok.uniq y hy, e]) (thn (hi.run pins s σ H _ I h) fun xv s1 hx => thn hx fun itv s2 h2 => ?_)
  obtain ⟨it, fp, tn, J, H2, e, I2, T, st2, f2, q⟩ := h2
  subst e
  refine PpSet.newSet_ok (newEnv_comp ?_)
  have hDn := HOk.fresh I2.hok (Nat.le_refl s2.heap.objs.size)
  obtain ⟨W, ⟨m0, w0⟩, turn⟩ := q _ hDn
  have I3 := Inv.laid I2 (t' := s2.toks) (fun b o e => Heap.get?_push_of_some _ e) (Nat.le_refl _) (setK_new (P := X.prog) (H := upd H2 s2.heap.objs.size (SetK X.prog X.w s2.heap.objs.size (fun _ => false) 0)) (setK0 (P := X.prog) (w := X.w) (h := s2.heap)))
  generalize hS3 : ({ heap := s2.heap.push { cls := .type "set", data := .set #[] 0 (SetTable.fresh 0 0 !X.w.params.followText "set-order") }, gens := s2.gens, drawn := s2.drawn, toks := s2.toks, os := s2.os } : Shared) = s3 at I3
  have h3 : s3.heap = s2.heap.push { cls := .type "set", data := .set #[] 0 (SetTable.fresh 0 0 !X.w.params.followText "set-order") } := by rw [← hS3]
  generalize hD : s2.heap.objs.size = D at *
  generalize hH3 : upd H2 D (SetK X.prog X.w D (fun _ => false) 0) = H3 at *
  have f3 : ∀ b ∈ fp, FpOk X pins H3 b ∧ b < s3.heap.objs.size := fun b hb => by
    obtain ⟨o, e, _⟩ := T.obj 0 s2.heap st2 b hb
    have hlt : b < D := Nat.lt_of_lt_of_eq (Heap.lt_size e) hD
    refine ⟨⟨?_, (f2 b hb).2⟩, ?_⟩
    · rw [← hH3, upd_ne (Nat.ne_of_lt hlt)]
      exact (f2 b hb).1
    · rw [h3, Heap.size_push, hD]
      exact Nat.lt_succ_of_lt hlt
  have st3 := T.keep 0 s2.heap s3.heap st2 fun b _ o e => by rw [h3]; exact Heap.get?_push_of_some _ e
  have I4 := block_start I3 ok hN f3
  have pg := hg s3 H3 s3.heap.objs.size (cellsFrom (s3.heap.objs.size + 1) scope.names (cloFrom X.env.cells scope.names [])) fp
  have pt := ht s3 H3 s3.heap.objs.size (cellsFrom (s3.heap.objs.size + 1) scope.names (cloFrom X.env.cells scope.names [])) fp
  have pe := he s3 H3 s3.heap.objs.size (cellsFrom (s3.heap.objs.size + 1) scope.names (cloFrom X.env.cells scope.names [])) fp
  have cL : (compEnvC scope (cellsFrom (s3.heap.objs.size + 1) scope.names (cloFrom X.env.cells scope.names [])) s3.heap.objs.size X.env).locals = s3.heap.objs.size := rfl
  show codeAny (model X.prog X.w) X.A (Code.compStart (.SetComp elt [⟨tg, iter, ifs, 0⟩] scope pos) 0 (.ref it) (.ref D) (compEnvC scope (cellsFrom (s3.heap.objs.size + 1) scope.names (cloFrom X.env.cells scope.names [])) s3.heap.objs.size X.env)) (compPost (model X.prog X.w) X.A X.xe use Qf (.ref D) s3.heap.objs.size) { heap := pushCells (s3.heap.push { cls := .type "dict", data := .dict #[] }) scope.names, gens := s3.gens, drawn := s3.drawn, toks := s3.toks, os := s3.os }
  generalize hce : compEnvC scope (cellsFrom (s3.heap.objs.size + 1) scope.names (cloFrom X.env.cells scope.names [])) s3.heap.objs.size X.env = ce at *
  generalize hs4 : ({ heap := pushCells (s3.heap.push { cls := .type "dict", data := .dict #[] }) scope.names, gens := s3.gens, drawn := s3.drawn, toks := s3.toks, os := s3.os } : Shared) = s4 at I4
  have nfp : ∀ b ∈ fp, H3 b = none := fun b hb => (f3 b hb).1.1
  have st4 : tn 0 s4.heap := T.keep 0 s3.heap s4.heap st3 fun b _ o e => by
    rw [← hs4]
    exact pushCells_keeps scope.names _ b o (Heap.get?_push_of_some _ e)
  have stat : ∀ {σ' : St} {H' : Hp} {s' : Shared}, L2.Inv (X.blk s3 H3 scope ce fp) [] σ' H' s' → (∀ b ∈ fp, H' b = none) → ∀ b ∈ fp, FpOk (X.blk s3 H3 scope ce fp) [] H' b := fun I' hn b hb => ⟨hn b hb, (I'.ok.exf b hb).1, I'.ok.exfs b hb, .inl hb, fun x c e => (I'.ok.exf b hb).2 x c e, fun p hp => absurd (show p ∈ ([] ++ [] : List _) from hp) (by simp)⟩
  have loop := PpSet.compLoopS_any (prog := X.prog) (w := X.w) (A := X.A) (env := ce) (elt := elt) (target := tg) (iter := iter) (ifs := ifs) (scope := scope) (pos := pos) (it := .ref it) (acc := .ref D) (R := compPost (model X.prog X.w) X.A X.xe use Qf (.ref D) s3.heap.objs.size)
    (fun n s' => ∃ i H', L2.Inv (X.blk s3 H3 scope ce fp) [] (wipe σ (own.map (·.2))) H' s' ∧ tn i s'.heap ∧ (∀ b ∈ fp, H' b = none) ∧ W i n H') ?_ m0 (s := s4) ⟨0, H3, I4, st4, nfp, w0⟩
  · exact PpSet.codeAny_compStart_set loop (T.self X.A 0 s4 _ _ st4 loop)
  rintro n s5 ⟨i, H5, I5, st5, n5, w5⟩
  rcases turn i n H5 w5 with ⟨stop, qq⟩ | ⟨go, Nx, hNx, step⟩
  · have td := T.done (X.blk s3 H3 scope ce fp) rfl rfl rfl hc i [] s5 (wipe σ (own.map (·.2))) H5 (fun _ _ => False) I5 (stat I5 n5) st5 stop
    refine thnF td ?_
    rintro r s6 ⟨rfl, I6⟩
    have I7 := Inv.call' I3 I6.os I6.base I6.hok I6.bare fun b hb => ⟨(f3 b hb).1.2.2.2.1, (f3 b hb).1.2.1, (f3 b hb).1.2.2.2.2.1, (f3 b hb).1.2.2.2.2.2⟩
    have nC : H5 s3.heap.objs.size = none := by rw [← cL]; exact I6.free
    obtain ⟨m, hn, _⟩ := I6.loc
    exact hR D s3.heap.objs.size s6 m H5 I7 qq (by rw [← cL]; exact hn) (Inv.fpOk I3 (Nat.le_refl _) nC)
  · have ti := T.item (X.blk s3 H3 scope ce fp) rfl rfl rfl hc i [] s5 (wipe σ (own.map (·.2))) H5 (fun _ _ => False) I5 (stat I5 n5) st5 go
    refine thnF ti ?_
    rintro r s6 ⟨u, rfl, h6⟩
    refine thnF h6 ?_
    rintro _ s7 ⟨x, H7, I7, r7, y7, st7, n7⟩
    have I7' := Inv.pinned I7 (stat I7 n7) (T.obj (i + 1) s7.heap st7)
    refine thnF (pg.run ([] ++ pinsAt fp s7.heap) s7 (wipe σ (own.map (·.2))) H7 x u _ I7' r7 (step x H7 y7)) ?_
    rintro _ s8 ⟨σ8, H8, I8, hw8, q8⟩
    refine thnF (pt.run ([] ++ pinsAt fp s7.heap) s8 σ8 H8 _ I8 q8) ?_
    rintro b s9 ⟨H9, I9, q9⟩
    have fin : ∀ {s' : Shared} {H' : Hp}, L2.Inv (X.blk s3 H3 scope ce fp) ([] ++ pinsAt fp s7.heap) σ8 H' s' → Nx H' → ∃ m, m < n ∧ ∃ i H', L2.Inv (X.blk s3 H3 scope ce fp) [] (wipe σ (own.map (·.2))) H' s' ∧ tn i s'.heap ∧ (∀ b ∈ fp, H' b = none) ∧ W i m H' := fun {s' H'} I' nx => by
      obtain ⟨m', hm, w'⟩ := hNx H' nx
      have pin' : ∀ b ∈ fp, ∀ o, s7.heap.get? b = some o → s'.heap.get? b = some o ∧ H' b = none := fun b hb o e =>
        let z := I'.pin (b, o) (List.mem_append_right (X.blk s3 H3 scope ce fp).pn (List.mem_append_right [] (mem_pinsAt hb e)))
        ⟨z.1, z.2.1⟩
      have hl : (wipe σ (own.map (·.2))).length = σ8.length := by rw [← hw8, wipe_length]
      refine ⟨m', hm, i + 1, H', Inv.weak (Inv.unpinned I') hl (fun j v e => (wipe_some (by rw [hw8]; exact e)).1), T.keep (i + 1) s7.heap s'.heap st7 fun b hb o e => (pin' b hb o e).1, fun b hb => ?_, w'⟩
      obtain ⟨o, e, _⟩ := T.obj (i + 1) s7.heap st7 b hb
      exact (pin' b hb o e).2
    cases b with
    | false =>
      rw [if_neg Bool.false_ne_true] at q9 ⊢
      exact fin I9 q9
    | true =>
      rw [if_pos rfl] at q9 ⊢
      refine thnF (pe.run ([] ++ pinsAt fp s7.heap) s9 σ8 H9 _ I9 q9) ?_
      rintro z s10 ⟨_, H10, I10, r10, c, S0, n0, rfl, hD10, hb10, nx⟩
      exact addK_ok (X := X.blk s3 H3 scope ce fp) I10 hD10 hb10 r10 (fun v s q => q.elim) fun s11 I11 _ => fin I11 nx
theorem pe_scK (hc : X.calm = true) (hN : X.N.Nodup) (hi : PI X tg iter wi) (ok : BlkOk X.N X.env.scope scope own)
    (hg : ∀ (s : Shared) (H : Hp) (C : Addr) (cl : List (Str × Addr)) (fp : List Addr), PG (X.blk s H scope (compEnvC scope cl C X.env) fp) tg g)
    (ht : ∀ (s : Shared) (H : Hp) (C : Addr) (cl : List (Str × Addr)) (fp : List Addr), PTs (X.blk s H scope (compEnvC scope cl C X.env) fp) ifs tt)
    (he : ∀ (s : Shared) (H : Hp) (C : Addr) (cl : List (Str × Addr)) (fp : List Addr), PE (X.blk s H scope (compEnvC scope cl C X.env) fp) elt te)
    (hs : ∀ x : Value, foldedSetIterable iter X.env x = pure x := by intro _; rfl) : PE X (.SetComp elt [⟨tg, iter, ifs, 0⟩] scope pos) (tScK X.prog X.w wi g tt te (own.map (·.2))) := by
  refine ⟨fun pins s σ H Q I h => ?_⟩
  rw [PpSet.eval_SetComp]
  refine scK_core hc hN I hi ok hg ht he hs h ?_
  rintro D C s' m H' I' q hn ⟨f0, f1, f2, f3, f4, f5⟩
  exact ⟨m, hn, fun h'' sb => ⟨.ref D, H', Inv.turned I' (fun b o hb e => (sb.2 b hb).trans e) f0 f1 f3 f4 f5, rfl, q⟩⟩
end
theorem call_lenK {X : Cx} : CallR X (.builtin "len") fun xs H Q => ∃ (a : Addr) (S : Key → Bool) (n : Nat), xs = [.ref a] ∧ H a = some (SetK X.prog X.w a S n) ∧ Q (.int (n : Int)) H := by
  rintro pins s σ H _ us Q I r ⟨a, S, n, rfl, hD, q⟩
  cases r with
  | cons h t => cases t with
    | nil =>
      rename_i u
      have h : u = .ref a := h
      subst h
      obtain ⟨o, es, ep, t, h1, h2, h3, _, _, h6, h7, rfl⟩ := setK_get I hD
      refine call_len_set h1 h2 h3 h7 (by have : scanBound ≤ 2 ^ 63 := by decide
                                          omega) ?_
      exact ⟨.int _, H, Inv.tok I _, ⟨_, rfl⟩, q⟩
end EV
namespace EV
open PySem L2
theorem hasK_add (ks : List Key) (c k : Key) : hasK (EV.addK ks c) k = (hasK ks k || decide (k = c)) := by
  unfold EV.addK
  by_cases hc : hasK ks c = true
  · rw [if_pos hc]
    by_cases hk : k = c
    · subst hk; rw [hc]; rfl
    · rw [decide_eq_false hk, Bool.or_false]
  · rw [if_neg hc]
    unfold hasK
    rw [List.any_append]
    congr 1
    show (decide (c = k) || false) = _
    rw [Bool.or_false]
    exact decide_eq_decide.mpr ⟨Eq.symm, Eq.symm⟩
theorem Le.upd_fresh {μ μ' : List Addr} {H H' : Hp} {D : Addr} {o : HO} (l : Le μ H μ' H') (h : H D = none) : Le μ H μ' (upd H' D o) := by
  refine ⟨l.pre, fun a xs q => ?_, fun a ob u q => by rw [upd_ne (ne_of_none q h)]; exact l.frz a ob u q, fun a F q => by rw [upd_ne (ne_of_none q h)]; exact l.ext a F q⟩
  have ne : a ≠ D := by
    rcases q with q | ⟨ob, q⟩
    · exact ne_of_none q h
    · exact ne_of_none q h
  rcases l.tup a xs q with z | ⟨ob, z⟩
  · exact .inl (by rw [upd_ne ne]; exact z)
  · exact .inr ⟨ob, by rw [upd_ne ne]; exact z⟩
theorem post_quiet_at {α β γ δ : Type} {K : PySem.W.Frag} {CA : Nat → Addr} {W W' : WX} {RV : List Addr → Hp → α → β → Prop} {RU : List Addr → Hp → γ → δ → Prop} {σ σ' : L2.St} {μ1 μ : List Addr} {H1 H : Hp} {Q : δ → Hp → Prop} {QQ : β → Hp → Prop} {r : Res α} {g : α → Store → Res γ}
    (h : Post K CA W RU σ μ1 H1 Q (r.quiet.bind g)) (k : ∀ a st', Post K CA W RU σ μ1 H1 Q (g a st') → ∀ μ' H' b, Le μ H μ' H' → Rel K CA μ' st' H' → RV μ' H' a b → QQ b H') : Post K CA W' RV σ' μ H QQ r := by
  cases r with
  | ok a st => exact fun μ' H' b l R v => k a st h μ' H' b l R v
  | exc c v st => exact h.elim
  | stuck => exact h.elim
section
variable {L : Lib} {X : Cx} {W : WX} {pos : Pos}
theorem sc_imp {wi : TI} {g : TG} {t : Tg} {x : Ex} {it : Ir} {tx : Txo} {own : List Nat} {σ : L2.St} {H : Hp} {Q : VK} {tt : TT} {te : TE}
    (gok : ∀ μ H v x ρ σ ρ' st (Q : L2.St → Hp → Prop), Rel X.K L.CA μ st H → RepV X.K μ H v x → RepE X.K μ H ρ σ → t.give v ρ st = some ρ' → (∀ σ', RepE X.K μ H ρ' σ' → (∀ vs : List Nat, (∀ i ∈ t.slots, i ∈ vs) → wipe σ' vs = wipe σ vs) → Q σ' H) → g x σ H Q)
    (hi : ∀ σ H R, tI X.K L.CA W (L.i it) σ H R → wi σ H R) (ht : ∀ σ H Q, tT X.K L.CA WF (L.ts tx) σ H Q → tt σ H Q) (he : ∀ σ H Q, tE X.K L.CA WF (L.e x) σ H Q → te σ H Q) (hsl : ∀ i ∈ t.slots, i ∈ own)
    (h : tE X.K L.CA W (L.e (.lsc x t it tx own)) σ H Q) : tScK X.prog X.w wi g tt te own σ H fun y H' => ∃ (a : Addr) (S : Key → Bool) (n : Nat), [y] = [V.ref a] ∧ H' a = some (SetK X.prog X.w a S n) ∧ Q (.int (n : Int)) H' := by
  obtain ⟨μ, ρ, st, R, E, P⟩ := h
  refine hi σ H _ ⟨μ, ρ, st, R, E, (Post.bind (RV := RWk X.K L.CA) P).imp fun J H1 h1 => ?_⟩
  obtain ⟨μ1, w, st1, l1, R1, wit, P1⟩ := h1
  intro D hD
  have P1 : Post X.K L.CA W (RVal X.K) σ μ1 H1 Q (scTurns t.give (L.ts tx) (L.e x) w (wipeF ρ own) w.len 0 st1 []) := P1
  refine ⟨fun i m H2 => i + m = w.len ∧ ∃ μ2 st2 ks, Le μ1 H1 μ2 H2 ∧ H2 D = some (SetK X.prog X.w D (fun k => hasK ks k) ks.length) ∧ Rel X.K L.CA μ2 st2 H2 ∧ Post X.K L.CA W (RVal X.K) σ μ1 H1 Q (scTurns t.give (L.ts tx) (L.e x) w (wipeF ρ own) m i st2 ks), ⟨w.len, by omega, μ1, st1, [], Le.of_fresh hD, upd_same, R1.beside hD, P1⟩, ?_⟩
  rintro i m H2 ⟨hm, μ2, st2, ks, l2, hD2, R2, P2⟩
  cases m with
  | zero =>
    unfold scTurns at P2
    split at P2
    · rename_i hf
      have e : i = w.len := by omega
      refine .inl ⟨?_, D, _, ks.length, rfl, hD2, P2 μ2 H2 _ l2 R2 (.int _)⟩
      rw [e]
      exact wit.stop μ2 st2 H2 l2 R2 hf
    · exact P2.elim
  | succ r =>
    unfold scTurns at P2
    split at P2
    · exact P2.elim
    · rename_i v hv
      obtain ⟨go, yl⟩ := wit.go μ2 st2 H2 i v l2 R2 (by omega) hv
      refine .inr ⟨go, fun H' => ∃ μ2' st2' ks', Le μ1 H1 μ2' H' ∧ H' D = some (SetK X.prog X.w D (fun k => hasK ks' k) ks'.length) ∧ Rel X.K L.CA μ2' st2' H' ∧ Post X.K L.CA W (RVal X.K) σ μ1 H1 Q (scTurns t.give (L.ts tx) (L.e x) w (wipeF ρ own) r (i + 1) st2' ks'), fun H' q => ⟨r, by omega, by omega, q⟩, fun y H3 hy => ?_⟩
      obtain ⟨l3, R3, rv⟩ := yl y H3 hy
      have hD3 := l3.ext _ _ hD2
      split at P2
      · exact P2.elim
      · rename_i ρ' hρ
        refine gok μ2 H3 v y (wipeF ρ own) (wipe σ own) ρ' st2 _ R3 rv ((E.mono ((l1.trans l2).trans l3)).wipeF own) hρ fun σ' E' hw => ⟨?_, ?_⟩
        · rw [hw own hsl]
          have aux : ∀ (vs ws : List Nat) (τ : L2.St), (∀ i ∈ ws, i ∈ vs) → wipe (wipe τ ws) vs = wipe τ vs := by
            intro vs ws
            induction ws with
            | nil => intro τ _; rfl
            | cons a as ih =>
              intro τ hh
              show wipe ((wipe τ as).set a none) vs = _
              rw [wipe_set (hh a List.mem_cons_self), ih τ fun i hi => hh i (List.mem_cons_of_mem _ hi)]
          exact aux own own σ fun _ h => h
        · refine ht σ' H3 _ ⟨μ2, ρ', st2, R3, E', post_quiet_at (RV := REq Bool) P2 ?_⟩
          intro b st3 P3 μ4 H4 b' l4 R4 eb
          subst eb
          have hD4 := l4.ext _ _ hD3
          cases b with
          | false => exact iteF ⟨μ4, st3, ks, (l2.trans l3).trans l4, hD4, R4, P3⟩
          | true =>
            refine iteT ?_
            refine he σ' H4 _ ⟨μ4, ρ', st3, R4, E'.mono l4, post_quiet_at (RV := RVal X.K) P3 ?_⟩
            intro u st5 P5 μ5 H5 z l5 R5 ru
            have hD5 := l5.ext _ _ hD4
            have l6 := ((l2.trans l3).trans l4).trans l5
            have key : ∀ c : Key, z = kV c → Post X.K L.CA W (RVal X.K) σ μ1 H1 Q (if decide (ks.length + 1 < 4096) then scTurns t.give (L.ts tx) (L.e x) w (wipeF ρ own) r (i + 1) st5 (EV.addK ks c) else .stuck) → ∃ (c : Key) (S : Key → Bool) (n : Nat), z = kV c ∧ H5 D = some (SetK X.prog X.w D S n) ∧ n + 1 < scanBound ∧ ∃ μ2' st2' ks', Le μ1 H1 μ2' (upd H5 D (SetK X.prog X.w D (fun j => S j || decide (j = c)) (if S c = true then n else n + 1))) ∧ upd H5 D (SetK X.prog X.w D (fun j => S j || decide (j = c)) (if S c = true then n else n + 1)) D = some (SetK X.prog X.w D (fun k => hasK ks' k) ks'.length) ∧ Rel X.K L.CA μ2' st2' (upd H5 D (SetK X.prog X.w D (fun j => S j || decide (j = c)) (if S c = true then n else n + 1))) ∧ Post X.K L.CA W (RVal X.K) σ μ1 H1 Q (scTurns t.give (L.ts tx) (L.e x) w (wipeF ρ own) r (i + 1) st2' ks') := fun c ec P6 => by
              split at P6
              · rename_i hl
                have hl := of_decide_eq_true hl
                refine ⟨c, _, ks.length, ec, hD5, Nat.lt_of_lt_of_le hl (Nat.le_refl _), μ5, st5, _, l6.upd_fresh hD, ?_, R5.ext hD5, P6⟩
                rw [upd_same]
                have e1 : (fun j => hasK ks j || decide (j = c)) = fun k => hasK (EV.addK ks c) k := funext fun k => (hasK_add ks c k).symm
                have e2 : (if hasK ks c = true then ks.length else ks.length + 1) = (EV.addK ks c).length := by
                  unfold EV.addK
                  by_cases hc : hasK ks c = true
                  · rw [if_pos hc, if_pos hc]
                  · rw [if_neg hc, if_neg hc, List.length_append]; rfl
                rw [e1, e2]
              · exact P6.elim
            cases ru with
            | int j => exact key (.inl j) rfl P5
            | str s => exact key (.inr s) rfl P5
            | _ => exact P5.elim
/-- len({elt for target in iter if ..}) -/
theorem d_lsc {elt tg iter : Expr} {ifs : List Expr} {scope : Scope} {own : List (Str × Nat)} {x : Ex} {it : Ir} {tx : Txo} {t : Tg} {g : TG} {p pos2 : Pos} (hgl : Gl X "len") (hml : X.mg "len" = none) (hc : X.calm = true) (hN : X.N.Nodup) (hi : DI L X W tg iter it) (ok : BlkOk X.N X.env.scope scope own)
    (hg : ∀ (s : Shared) (H : Hp) (C : Addr) (cl : List (Str × Addr)) (fp : List Addr), DG L.CA (X.blk s H scope (compEnvC scope cl C X.env) fp) tg t g)
    (ht : ∀ (s : Shared) (H : Hp) (C : Addr) (cl : List (Str × Addr)) (fp : List Addr), DTs L (X.blk s H scope (compEnvC scope cl C X.env) fp) WF ifs tx)
    (he : ∀ (s : Shared) (H : Hp) (C : Addr) (cl : List (Str × Addr)) (fp : List Addr), DE L (X.blk s H scope (compEnvC scope cl C X.env) fp) WF elt x) (hsl : ∀ i ∈ t.slots, i ∈ own.map (·.2)) (hs : ∀ x, foldedSetIterable iter X.env x = pure x := by intro _; rfl)
    (hse : starEach [.SetComp elt [⟨tg, iter, ifs, 0⟩] scope pos] X.env = (false, eval (.SetComp elt [⟨tg, iter, ifs, 0⟩] scope pos) X.env) :: starEach [] X.env := by rfl) (hpl : (backTo pos2 (starEach [] X.env)).any (·.1) = false := by rfl) :
    DE L X W (.Call (.Name "len" p) [.SetComp elt [⟨tg, iter, ifs, 0⟩] scope pos] [] pos2) (.lsc x t it tx (own.map (·.2))) := by
  refine PE.imp (pe_callB call_lenK hgl hml (by rfl) (pa_cons (pe_scK (tt := tT X.K L.CA WF (L.ts tx)) (te := tE X.K L.CA WF (L.e x)) hc hN hi ok (fun s H C cl fp => (hg s H C cl fp).pg) (fun s H C cl fp => ht s H C cl fp) (fun s H C cl fp => he s H C cl fp) hs) pa_nil hse) (by decide) (by decide) hse hpl) fun σ H Q h => ?_
  exact sc_imp (X := X) (L := L) (Q := Q) (hg X.s_0 X.H_0 0 [] []).ok (fun _ _ _ h => h) (fun _ _ _ h => h) (fun _ _ _ h => h) hsl h
end
end EV

/-! ## EvDic -/
set_option maxRecDepth 100000
set_option maxHeartbeats 4000000
/-! EvDic: dict comprehensions, dicts written out. -/
namespace EV
open PySem L2
theorem wipe2 : ∀ (vs ws : List Nat) (τ : L2.St), (∀ i ∈ ws, i ∈ vs) → wipe (wipe τ ws) vs = wipe τ vs := by
  intro vs ws
  induction ws with
  | nil => intro τ _; rfl
  | cons a as ih =>
    intro τ hh
    show wipe ((wipe τ as).set a none) vs = _
    rw [wipe_set (hh a List.mem_cons_self), ih τ fun i hi => hh i (List.mem_cons_of_mem _ hi)]
theorem key_rep {K : PySem.W.Frag} {μ : List Addr} {H : Hp} {v : Val} {x : V} {k : Key} (r : RepV K μ H v x) (h : keyOf v = some k) : x = kV k := by
  cases r <;> cases h <;> rfl
section
variable {L : Lib} {X : Cx} {W : WX} {pos : Pos}
theorem dc_imp {wi : TI} {g : TG} {t : Tg} {kx vx : Ex} {it : Ir} {tx : Txo} {own : List Nat} {σ : L2.St} {H : Hp} {Q : VK} {tt : TT} {tk tv : TE}
    (gok : ∀ μ H v x ρ σ ρ' st (Q : L2.St → Hp → Prop), Rel X.K L.CA μ st H → RepV X.K μ H v x → RepE X.K μ H ρ σ → t.give v ρ st = some ρ' → (∀ σ', RepE X.K μ H ρ' σ' → (∀ vs : List Nat, (∀ i ∈ t.slots, i ∈ vs) → wipe σ' vs = wipe σ vs) → Q σ' H) → g x σ H Q)
    (hi : ∀ σ H R, tI X.K L.CA W (L.i it) σ H R → wi σ H R) (ht : ∀ σ H Q, tT X.K L.CA WF (L.ts tx) σ H Q → tt σ H Q) (hk : ∀ σ H Q, tE X.K L.CA WF (L.e kx) σ H Q → tk σ H Q) (hv : ∀ σ H Q, tE X.K L.CA WF (L.e vx) σ H Q → tv σ H Q) (hsl : ∀ i ∈ t.slots, i ∈ own)
    (h : tE X.K L.CA W (L.e (.dc kx vx t it tx own)) σ H Q) : tDc wi g tt tk tv own σ H Q := by
  obtain ⟨μ, ρ, st, R, E, P⟩ := h
  refine hi σ H _ ⟨μ, ρ, st, R, E, (Post.bind (RV := RWk X.K L.CA) P).imp fun J H1 h1 => ?_⟩
  obtain ⟨μ1, w, st1, l1, R1, wit, P1⟩ := h1
  intro D hD
  have R2 : Rel X.K L.CA (μ1 ++ [D]) (st1 ++ [.dct []]) (upd H1 D (.dK [])) := R1.alloc hD (o := .dK []) (ob := .dct []) ⟨rfl, .nil⟩
  have l2 : Le μ1 H1 (μ1 ++ [D]) (upd H1 D (.dK [])) := .of_new hD
  have hDi : (μ1 ++ [D])[st1.length]? = some D := alloc_at R1
  have E2 := E.mono (l1.trans l2)
  have P1 : Post X.K L.CA W (RVal X.K) σ μ1 H1 Q (dcTurns t.give (L.ts tx) (L.e kx) (L.e vx) w (wipeF ρ own) st1.length w.len 0 (st1 ++ [.dct []])) := P1
  refine ⟨fun i m H2 => i + m = w.len ∧ ∃ μ2 st2, Le (μ1 ++ [D]) (upd H1 D (.dK [])) μ2 H2 ∧ Rel X.K L.CA μ2 st2 H2 ∧ Post X.K L.CA W (RVal X.K) σ μ1 H1 Q (dcTurns t.give (L.ts tx) (L.e kx) (L.e vx) w (wipeF ρ own) st1.length m i st2), ⟨w.len, by omega, μ1 ++ [D], _, .refl, R2, P1⟩, ?_⟩
  rintro i m H2 ⟨hm, μ2, st2, l3, R3, P3⟩
  cases m with
  | zero =>
    unfold dcTurns at P3
    split at P3
    · rename_i hf
      have e : i = w.len := by omega
      refine .inl ⟨?_, P3 μ2 H2 _ (l2.trans l3) R3 (.ref (l3.at_ hDi))⟩
      rw [e]
      exact wit.stop μ2 st2 H2 (l2.trans l3) R3 hf
    · exact P3.elim
  | succ r =>
    unfold dcTurns at P3
    split at P3
    · exact P3.elim
    · rename_i v hv1
      obtain ⟨go, yl⟩ := wit.go μ2 st2 H2 i v (l2.trans l3) R3 (by omega) hv1
      refine .inr ⟨go, fun H' => ∃ μ2' st2', Le (μ1 ++ [D]) (upd H1 D (.dK [])) μ2' H' ∧ Rel X.K L.CA μ2' st2' H' ∧ Post X.K L.CA W (RVal X.K) σ μ1 H1 Q (dcTurns t.give (L.ts tx) (L.e kx) (L.e vx) w (wipeF ρ own) st1.length r (i + 1) st2'), fun H' q => ⟨r, by omega, by omega, q⟩, fun y H3 hy => ?_⟩
      obtain ⟨l4, R4, rv⟩ := yl y H3 hy
      split at P3
      · exact P3.elim
      · rename_i ρ' hρ
        refine gok μ2 H3 v y (wipeF ρ own) (wipe σ own) ρ' st2 _ R4 rv ((E2.mono (l3.trans l4)).wipeF own) hρ fun σ' E' hw => ⟨?_, ?_⟩
        · rw [hw own hsl]
          exact wipe2 own own σ fun _ h => h
        · refine ht σ' H3 _ ⟨μ2, ρ', st2, R4, E', post_quiet_at (RV := REq Bool) P3 ?_⟩
          intro b st3 P4 μ4 H4 b' l5 R5 eb
          subst eb
          cases b with
          | false => exact iteF ⟨μ4, st3, (l3.trans l4).trans l5, R5, P4⟩
          | true =>
            refine iteT ?_
            refine hk σ' H4 _ ⟨μ4, ρ', st3, R5, E'.mono l5, post_quiet_at (RV := RVal X.K) P4 ?_⟩
            intro u st5 P5 μ5 H5 z l6 R6 ru
            refine hv σ' H5 _ ⟨μ5, ρ', st5, R6, E'.mono (l5.trans l6), post_quiet_at (RV := RVal X.K) P5 ?_⟩
            intro u2 st6 P6 μ6 H6 z2 l7 R7 ru2
            have l8 : Le (μ1 ++ [D]) (upd H1 D (.dK [])) μ6 H6 := (((l3.trans l4).trans l5).trans l6).trans l7
            split at P6
            · rename_i k hk1
              have ez := key_rep ru hk1
              split at P6
              · rename_i kvs hst
                obtain ⟨kxs, h1, h2, h3⟩ := R7.dct (l8.at_ hDi) hst
                split at P6
                · rename_i hlt
                  have hlt := of_decide_eq_true hlt
                  obtain ⟨p1, p2⟩ := put_rep (k := k) h2 h3 ru2
                  have e1 : kvs.length = kxs.length := by simpa using congrArg List.length h2
                  exact ⟨kxs, k, ez, h1, by rw [← e1, sizeLine_eq]; exact hlt, μ6, _, l8.trans (.of_write h1 (by exact True.intro)), R7.write (l8.at_ hDi) hst rfl h1 (by exact True.intro) (o := .dK (putK kxs k z2)) (ob := .dct (putKV kvs k u2)) ⟨p1, p2⟩, P6⟩
                · exact P6.elim
              · exact P6.elim
            · exact P6.elim
/-- {k: v for target in iter if ..} -/
theorem d_dc {kx vx tg iter : Expr} {ifs : List Expr} {scope : Scope} {own : List (Str × Nat)} {x y : Ex} {it : Ir} {tx : Txo} {t : Tg} {g : TG} (hc : X.calm = true) (hN : X.N.Nodup) (hi : DI L X W tg iter it) (ok : BlkOk X.N X.env.scope scope own)
    (hg : ∀ (s : Shared) (H : Hp) (C : Addr) (cl : List (Str × Addr)) (fp : List Addr), DG L.CA (X.blk s H scope (compEnvC scope cl C X.env) fp) tg t g)
    (ht : ∀ (s : Shared) (H : Hp) (C : Addr) (cl : List (Str × Addr)) (fp : List Addr), DTs L (X.blk s H scope (compEnvC scope cl C X.env) fp) WF ifs tx)
    (hk : ∀ (s : Shared) (H : Hp) (C : Addr) (cl : List (Str × Addr)) (fp : List Addr), DE L (X.blk s H scope (compEnvC scope cl C X.env) fp) WF kx x)
    (hv : ∀ (s : Shared) (H : Hp) (C : Addr) (cl : List (Str × Addr)) (fp : List Addr), DE L (X.blk s H scope (compEnvC scope cl C X.env) fp) WF vx y) (hsl : ∀ i ∈ t.slots, i ∈ own.map (·.2)) (hs : ∀ x, foldedSetIterable iter X.env x = pure x := by intro _; rfl) :
    DE L X W (.DictComp kx vx [⟨tg, iter, ifs, 0⟩] scope pos) (.dc x y t it tx (own.map (·.2))) :=
  PE.imp (pe_dc (tt := tT X.K L.CA WF (L.ts tx)) (tk := tE X.K L.CA WF (L.e x)) (tv := tE X.K L.CA WF (L.e y)) hc hN hi ok (fun s H C cl fp => (hg s H C cl fp).pg) (fun s H C cl fp => ht s H C cl fp) (fun s H C cl fp => hk s H C cl fp) (fun s H C cl fp => hv s H C cl fp) hs) fun σ H Q h => dc_imp (hg X.s_0 X.H_0 0 [] []).ok (fun _ _ _ h => h) (fun _ _ _ h => h) (fun _ _ _ h => h) (fun _ _ _ h => h) hsl h
end
/-- pairs written out, the keys texts -/
def DD (L : Lib) (X : Cx) (W : WX) (pos : Pos) (keys : List (Option Expr)) (values : List Expr) (ks : List Str) (es : Exs) : Prop := ∃ trs, PPs X pos keys values trs ∧ ∀ σ H (F : List (V × V) → Hp → Prop), tA X.K L.CA W (L.es es) σ H (fun zs H' => F ((ks.map V.str).zip zs) H') → tPairs trs σ H F
theorem merge_rep {K : PySem.W.Frag} {μ : List Addr} {H : Hp} : ∀ (ks : List Key) {vs : List Val} {zs : List V} {kvs : List (Key × Val)} {kxs : List (Key × V)}, RepL K μ H vs zs → kvs.map (·.1) = kxs.map (·.1) → RepL K μ H (kvs.map (·.2)) (kxs.map (·.2)) →
    (mergeKV kvs (ks.zip vs)).map (·.1) = (mergeK kxs (ks.zip zs)).map (·.1) ∧ RepL K μ H ((mergeKV kvs (ks.zip vs)).map (·.2)) ((mergeK kxs (ks.zip zs)).map (·.2))
  | [], _, _, _, _, _, h1, h2 => ⟨h1, h2⟩
  | k :: ks, _, _, _, _, .nil, h1, h2 => ⟨h1, h2⟩
  | k :: ks, _, _, _, _, .cons r rs, h1, h2 => by
    obtain ⟨p1, p2⟩ := put_rep (k := k) h1 h2 r
    exact merge_rep ks rs p1 p2
section
variable {L : Lib} {X : Cx} {W : WX} {pos : Pos}
theorem dd_nil : DD L X W pos [] [] [] .nil := by
  refine ⟨[], pps_nil, fun σ H F h => ?_⟩
  obtain ⟨μ, ρ, st, R, E, P⟩ := h
  exact P μ H [] .refl R .nil
theorem dd_cons {k : Str} {j : Nat} {p : Pos} {e : Expr} {x : Ex} {keys : List (Option Expr)} {values : List Expr} {ks : List Str} {es : Exs} (ha : DE L X W e x) (hr : DD L X W pos keys values ks es) : DD L X W pos (some (.Constant (.str k) j p) :: keys) (e :: values) (k :: ks) (.cons x es) := by
  obtain ⟨trs, h1, h2⟩ := hr
  refine ⟨(tC (.str k), tE X.K L.CA W (L.e x)) :: trs, pps_cons pe_str ha h1, fun σ H F h => ?_⟩
  obtain ⟨μ, ρ, st, R, E, P⟩ := h
  show tE X.K L.CA W (L.e x) σ H fun y H2 => tPairs trs σ H2 fun ps H3 => F ((.str k, y) :: ps) H3
  refine ⟨μ, ρ, st, R, E, (Post.bind (RV := RVal X.K) P).imp fun w H1 h1 => ?_⟩
  obtain ⟨μ1, v, st1, l1, R1, rv, P1⟩ := h1
  refine h2 σ H1 _ ⟨μ1, ρ, st1, R1, E.mono l1, (Post.bind (RV := RVals X.K) P1).imp fun ws H2 h2 => ?_⟩
  obtain ⟨μ2, vs, st2, l2, R2, rvs, P2⟩ := h2
  exact P2 μ2 H2 _ .refl R2 (.cons (rv.mono l2) rvs)
/-- {'a': x, ..} -/
theorem d_disp {keys : List (Option Expr)} {values : List Expr} {ks : List Str} {es : Exs} (h : DD L X W pos keys values ks es) (hall : keys.all (·.isSome) = true := by rfl) (hl : keys.length = values.length := by rfl) (h0 : keys ≠ [] := by intro z; cases z) (h15 : keys.length ≤ 15 := by decide) : DE L X W (.Dict keys values pos) (.disp ks es) := by
  obtain ⟨trs, h1, h2⟩ := h
  refine PE.imp (pe_disp h1 hall hl h0 h15) fun σ H Q h => ?_
  obtain ⟨μ, ρ, st, R, E, P⟩ := h
  intro p hp
  have l : Le μ H (μ ++ [p]) (upd H p (.dK [])) := .of_new hp
  have R1 : Rel X.K L.CA (μ ++ [p]) (st ++ [.dct []]) (upd H p (.dK [])) := R.alloc hp (o := .dK []) (ob := .dct []) ⟨rfl, .nil⟩
  have hpi : (μ ++ [p])[st.length]? = some p := alloc_at R
  refine h2 σ _ _ ⟨μ ++ [p], ρ, st ++ [.dct []], R1, E.mono l, ?_⟩
  have P : Post X.K L.CA W (RVal X.K) σ μ H Q ((L.es es ρ (st ++ [.dct []])).bind fun vs st1 => match st1[st.length]? with
    | some (.dct []) => if decide (vs.length = ks.length ∧ ks.length ≤ 15) then .ok (.ref st.length) (st1.set st.length (.dct (mergeKV [] ((ks.map Sum.inr).zip vs)))) else .stuck
    | _ => .stuck) := P
  cases e : L.es es ρ (st ++ [.dct []]) with
  | stuck => rw [e] at P; exact P
  | exc c v st1 => rw [e] at P; exact fun μ' H' x d l' R' rv hd => P μ' H' x d (l.trans l') R' rv hd
  | ok vs st1 =>
    rw [e] at P
    intro μ2 H2 zs l2 R2 rvs
    have P : Post X.K L.CA W (RVal X.K) σ μ H Q (match st1[st.length]? with
      | some (.dct []) => if decide (vs.length = ks.length ∧ ks.length ≤ 15) then .ok (.ref st.length) (st1.set st.length (.dct (mergeKV [] ((ks.map Sum.inr).zip vs)))) else .stuck
      | _ => .stuck) := P
    split at P
    · rename_i hst
      split at P
      · rename_i hlen
        have hlen := of_decide_eq_true hlen
        obtain ⟨kxs, g1, g2, g3⟩ := R2.dct (l2.at_ hpi) hst
        have ek : kxs = [] := by
          cases kxs with
          | nil => rfl
          | cons a b => simp at g2
        subst ek
        have ezl : zs.length = ks.length := by rw [← rvs.length]; exact hlen.1
        obtain ⟨m1, m2⟩ := merge_rep (ks.map Sum.inr) (kvs := []) (kxs := []) rvs rfl .nil
        refine ⟨g1, (ks.map Sum.inr).zip zs, ?_, ?_, ?_⟩
        · rw [List.zip_map_left, List.zip_map_left, List.map_map]
          rfl
        · rw [List.length_zip, List.length_map]
          omega
        · exact P μ2 _ (.ref p) (l.trans (l2.trans (.of_write g1 (by exact True.intro)))) (R2.write (l2.at_ hpi) hst rfl g1 (by exact True.intro) (o := .dK (mergeK [] ((ks.map Sum.inr).zip zs))) (ob := .dct (mergeKV [] ((ks.map Sum.inr).zip vs))) ⟨m1, m2⟩) (.ref (l2.at_ hpi))
      · exact P.elim
    · exact P.elim
/-- d.get(k, x) -/
theorem d_get {o e f : Expr} {x y z : Ex} {apos : Pos} (hu : X.A.units + 64 < cLine) (ho : DE L X W o x) (he : DE L X W e y) (hf : DE L X W f z) (m : M2 X o "get" apos e f pos := by exact ⟨rfl, rfl, rfl, rfl⟩) : DE L X W (.Call (.Attribute o "get" apos) [e, f] [] pos) (.get x y z) := by
  refine PE.imp (pe_dget2 (by omega) ho he hf m) fun σ H Q h => ?_
  obtain ⟨μ, ρ, st, R, E, P⟩ := h
  refine ⟨μ, ρ, st, R, E, (Post.bind (RV := RVal X.K) P).imp fun w H1 h1 => ?_⟩
  obtain ⟨μ1, v, st1, l1, R1, rv, P1⟩ := h1
  split at P1
  · rename_i n
    split at P1
    · rename_i kv0 hn
      cases rv with
      | @ref _ a ha =>
        obtain ⟨kx0, g1, g2, g3⟩ := R1.dct ha hn
        refine ⟨a, rfl, .inl ⟨_, .inl g1⟩, μ1, ρ, st1, R1, E.mono l1, (Post.bind (RV := RVal X.K) P1).imp fun w2 H2 h2 => ?_⟩
        obtain ⟨μ2, v2, st2, l2, R2, rv2, P2⟩ := h2
        refine ⟨μ2, ρ, st2, R2, E.mono (l1.trans l2), (Post.bind (RV := RVal X.K) P2).imp fun w3 H3 h3 => ?_⟩
        obtain ⟨μ3, v3, st3, l3, R3, rv3, P3⟩ := h3
        split at P3
        · rename_i kvs hn3
          split at P3
          · rename_i kk hk
            obtain ⟨kxs, k1, k2, k3⟩ := R3.dct ((l2.trans l3).at_ ha) hn3
            have ek := key_rep rv2 hk
            subst ek
            obtain ⟨f1, f2⟩ := find_rep (k := kk) k2 k3
            refine ⟨_, DGet.k (k := kk) k1, ?_⟩
            cases ev : (kvs.find? fun kv => decide (kv.1 = kk)).map (·.2) with
            | some u =>
              rw [ev] at P3
              obtain ⟨b, hb, rb⟩ := f1 u ev
              rw [hb]
              exact P3 μ3 H3 b .refl R3 rb
            | none =>
              rw [ev] at P3
              have hno : valV kxs kk = none := by
                rw [← Option.isNone_iff_eq_none, ← Option.not_isSome, ← f2]
                have q : kvs.find? (fun kv => decide (kv.1 = kk)) = none := Option.map_eq_none_iff.mp ev
                rw [List.find?_eq_none] at q
                simpa using q
              rw [hno]
              exact P3 μ3 H3 w3 .refl R3 rv3
          · exact P3.elim
        · exact P3.elim
    · exact P1.elim
  · exact P1.elim
/-- while -/
theorem ds_wh {c : Expr} {body : List Stmt} {n : Nat} {tx : Tx} {sxs : List Sx} (hp : PassesOwn (model X.prog X.w) X.A X.env X.xe) (hc : DT L X W c tx) (hb : DSs L X W body sxs) : DS L X W (.While c body [] pos) (.wh n tx sxs) := by
  refine PS.imp (ps_while hp hc hb) fun D σ H h => ?_
  obtain ⟨μ, ρ, st, R, E, P⟩ := h
  have P : PostS X.K L.CA W μ H D (whTurns (L.t tx) (L.xs sxs) n ρ st) := P
  refine ⟨fun m σ2 H2 => ∃ μ2 ρ2 st2, Rel X.K L.CA μ2 st2 H2 ∧ RepE X.K μ2 H2 ρ2 σ2 ∧ PostS X.K L.CA W μ2 H2 D (whTurns (L.t tx) (L.xs sxs) m ρ2 st2), ⟨n, μ, ρ, st, R, E, P⟩, ?_⟩
  rintro m σ2 H2 ⟨μ2, ρ2, st2, R2, E2, P2⟩
  cases m with
  | zero => exact P2.elim
  | succ r =>
    unfold whTurns at P2
    refine ⟨μ2, ρ2, st2, R2, E2, ?_⟩
    cases ec : L.t tx ρ2 st2 with
    | stuck => rw [ec] at P2; exact P2.elim
    | exc d v s1 =>
      rw [ec] at P2
      exact fun μ' H' x dd l R' rv hd => P2 μ' H' σ2 x dd l R' (E2.mono l) rv hd
    | ok k s1 =>
      rw [ec] at P2
      intro μ3 H3 b l3 R3 eb
      subst eb
      cases k with
      | false => exact iteF (P2 μ3 H3 σ2 l3 R3 (E2.mono l3))
      | true =>
        refine iteT ⟨fun σ' H' => ∃ μ' ρ' st', Rel X.K L.CA μ' st' H' ∧ RepE X.K μ' H' ρ' σ' ∧ PostS X.K L.CA W μ' H' D (whTurns (L.t tx) (L.xs sxs) r ρ' st'), fun σ' H' q => ⟨r, by omega, q⟩, μ3, ρ2, s1, R3, E2.mono l3, ?_⟩
        have P3 := P2.le l3
        dsimp only at P3
        rw [if_pos rfl] at P3
        cases eo : L.xs sxs ρ2 s1 with
        | next ρ4 st4 =>
          rw [eo] at P3
          exact fun μ4 H4 σ4 l4 R4 E4 => ⟨μ4, ρ4, st4, R4, E4, P3.le l4⟩
        | cnt ρ4 st4 =>
          rw [eo] at P3
          exact fun μ4 H4 σ4 l4 R4 E4 => ⟨μ4, ρ4, st4, R4, E4, P3.le l4⟩
        | brk ρ4 st4 => rw [eo] at P3; exact P3
        | ret v st4 => rw [eo] at P3; exact P3
        | exc d v ρ4 st4 => rw [eo] at P3; exact P3
        | stuck => rw [eo] at P3; exact P3.elim
end
end EV

/-! ## EvIns -/
set_option maxRecDepth 100000
set_option maxHeartbeats 4000000
/-! EvIns: instances of own classes: fields, methods, properties, new ones. -/
namespace EV
open PySem L2
section
variable {K : PySem.W.Frag} {CA : Nat → Addr} {μ : List Addr} {st : Store} {H : Hp}
theorem lookup_rep {fs : List (Str × Val)} {gs : List (Str × V)} {f : Str} (h1 : fs.map (·.1) = gs.map (·.1)) (h2 : RepL K μ H (fs.map (·.2)) (gs.map (·.2))) : (∀ v, fs.lookup f = some v → ∃ x, gs.lookup f = some x ∧ RepV K μ H v x) ∧ (fs.lookup f = none → gs.lookup f = none) := by
  induction fs generalizing gs with
  | nil => cases gs with
    | nil => exact ⟨fun v h => (by cases h), fun _ => rfl⟩
    | cons a b => simp at h1
  | cons p ps ih => cases gs with
    | nil => simp at h1
    | cons q qs =>
      obtain ⟨a, v0⟩ := p
      obtain ⟨b, x0⟩ := q
      rw [List.map_cons, List.map_cons] at h1
      injection h1 with e1 e2
      have e1 : a = b := e1
      subst e1
      cases h2 with
      | cons r rs =>
        rw [List.lookup_cons, List.lookup_cons]
        cases q : f == a with
        | true => exact ⟨fun v h => (by cases h; exact ⟨x0, rfl, r⟩), fun h => (by cases h)⟩
        | false => exact ih e2 rs
theorem putF_rep {f : Str} {v : Val} {x : V} (r : RepV K μ H v x) : ∀ {fs : List (Str × Val)} {gs : List (Str × V)}, fs.map (·.1) = gs.map (·.1) → RepL K μ H (fs.map (·.2)) (gs.map (·.2)) →
    (putFV f v fs).map (·.1) = (putF f x gs).map (·.1) ∧ RepL K μ H ((putFV f v fs).map (·.2)) ((putF f x gs).map (·.2))
  | [], [], _, _ => ⟨rfl, .cons r .nil⟩
  | [], _ :: _, h1, _ => by simp at h1
  | _ :: _, [], h1, _ => by simp at h1
  | (a, v0) :: ps, (b, x0) :: qs, h1, h2 => by
    rw [List.map_cons, List.map_cons] at h1
    injection h1 with e1 e2
    have e1 : a = b := e1
    subst e1
    cases h2 with
    | cons r0 rs =>
      unfold putFV putF
      by_cases c : a = f
      · rw [if_pos c, if_pos c]
        exact ⟨by rw [List.map_cons, List.map_cons, e2], .cons r rs⟩
      · rw [if_neg c, if_neg c]
        obtain ⟨i1, i2⟩ := putF_rep r e2 rs
        exact ⟨by rw [List.map_cons, List.map_cons, i1], .cons r0 i2⟩
theorem Rel.insR (R : Rel K CA μ st H) {c n : Nat} {a : Addr} {fs : List (Str × Val)} (hm : μ[n]? = some a) (h : st[n]? = some (.ins c fs)) : ∃ dx gs, H a = some (.ins (CA c) dx gs) ∧ fs.map (·.1) = gs.map (·.1) ∧ RepL K μ H (fs.map (·.2)) (gs.map (·.2)) := by
  obtain ⟨ho, e1, e2⟩ := R.real hm h rfl
  cases ho with
  | ins C dx gs =>
    obtain ⟨h1, h2, h3⟩ := (show C = CA c ∧ fs.map (·.1) = gs.map (·.1) ∧ RepL K μ H (fs.map (·.2)) (gs.map (·.2)) from e2)
    subst h1
    exact ⟨dx, gs, e1, h2, h3⟩
  | _ => exact (show False from e2).elim
theorem insAt_some {c : Nat} {v : Val} {fs : List (Str × Val)} (h : insAt c v st = some fs) : ∃ n, v = .ref n ∧ st[n]? = some (.ins c fs) := by
  unfold insAt at h
  split at h
  · rename_i n
    split at h
    · rename_i c' fs' hn
      split at h
      · rename_i e
        cases h
        subst e
        exact ⟨n, rfl, hn⟩
      · cases h
    · cases h
  · cases h
end
section
variable {L : Lib} {X : Cx} {W : WX} {pos : Pos} {o e : Expr} {es : List Expr} {x y : Ex} {xs : Exs} {c : Nat} {f m : Str}
theorem d_fld (C : Cls X.K (L.CA c)) (na : NoAttr X.K (L.CA c) f) (ho : DE L X W o x) (hb : attributeBase o f X.env (eval o X.env) = eval o X.env := by rfl) : DE L X W (.Attribute o f pos) (.fld c x f) := by
  refine PE.imp (pe_fld ho hb) fun σ H Q h => ?_
  obtain ⟨μ, ρ, st, R, E, P⟩ := h
  refine ⟨μ, ρ, st, R, E, (Post.bind (RV := RVal X.K) P).imp fun w H1 h1 => ?_⟩
  obtain ⟨μ1, v, st1, l1, R1, rv, P1⟩ := h1
  split at P1
  · rename_i fs hfs
    obtain ⟨n, rfl, hn⟩ := insAt_some hfs
    cases rv with
    | ref ha =>
      obtain ⟨dx, gs, g1, g2, g3⟩ := R1.insR ha hn
      split at P1
      · rename_i w hw
        obtain ⟨z, hz, rz⟩ := (lookup_rep g2 g3).1 w hw
        exact ⟨_, _, dx, gs, z, rfl, g1, C, na, hz, P1 μ1 H1 z .refl R1 rz⟩
      · exact P1.elim
  · exact P1.elim
/-- o.f = e -/
theorem ds_setf {pos' : Pos} (C : Cls X.K (L.CA c)) (na : NoAttr X.K (L.CA c) f) (ho : DE L X W o x) (h : DE L X W e y) (hs : swapsWith e (some (.Attribute o f pos')) pos.line X.env = pure false := by rfl) : DS L X W (.Assign [.Attribute o f pos'] e pos) (.setf c x f y) := by
  refine PS.imp (ps_fld ho h hs) fun D σ H h => ?_
  obtain ⟨μ, ρ, st, R, E, P⟩ := h
  refine ⟨μ, ρ, st, R, E, (PostS.out (RV := RVal X.K) P E).imp fun w H1 h1 => ?_⟩
  obtain ⟨μ1, v, st1, l1, R1, rv, P1⟩ := h1
  refine ⟨μ1, ρ, st1, R1, E.mono l1, (PostS.out (RV := RVal X.K) P1 (E.mono l1)).imp fun w2 H2 h2 => ?_⟩
  obtain ⟨μ2, v2, st2, l2, R2, rv2, P2⟩ := h2
  split at P2
  · rename_i n
    split at P2
    · rename_i fs hfs
      obtain ⟨n', en, hn⟩ := insAt_some hfs
      cases en
      cases rv2 with
      | ref ha =>
        obtain ⟨dx, gs, g1, g2, g3⟩ := R2.insR ha hn
        split at P2
        · rename_i hl
          have hl := of_decide_eq_true hl
          have el : fs.length = gs.length := by simpa using congrArg List.length g2
          obtain ⟨p1, p2⟩ := putF_rep (f := f) (rv.mono l2) g2 g3
          exact ⟨_, _, dx, gs, rfl, g1, C, na, by omega, P2 μ2 _ σ (.of_write g1 (by exact True.intro)) (R2.write ha hn rfl g1 (by exact True.intro) (o := .ins (L.CA c) dx (putF f w gs)) (ob := .ins c (putFV f v fs)) ⟨rfl, p1, p2⟩) (E.mono ((l1.trans l2).trans (.of_write g1 (by exact True.intro))))⟩
        · exact P2.elim
    · exact P2.elim
  · exact P2.elim
/-- a def of a class, as its callers see it -/
def DefAt (L : Lib) (X : Cx) (fa : Addr) (id k : Nat) : Prop := ∃ (fd : FuncData) (ps : List Str), Binds X.K fd ps [] ∧ FnOk X.prog X.w X.K X.mg X.base (L2.CX X.prog X.w) k fa fd ps (spM X.K L.CA ps.length (L.cl id)) ∧ ∀ args st, args.length ≠ ps.length → L.cl id args st = .stuck
theorem sp_quiet {K : PySem.W.Frag} {CA : Nat → Addr} {n : Nat} {m : List Val → Store → Res Val} {vs : List V} {H : Hp} {Q : VK} {μ : List Addr} {args : List Val} {st : Store} {σ : L2.St} (hl : args.length = n) (R : Rel K CA μ st H) (r : RepL K μ H args vs) (P : Post K CA WF (RVal K) σ μ H Q (m args st).quiet) :
    spM K CA n m vs H Q fun _ _ _ => False := by
  refine ⟨by rw [← r.length]; exact hl, μ, args, st, R, r, ?_⟩
  cases e : m args st with
  | ok a s1 => rw [e] at P; exact P
  | exc c v s1 => rw [e] at P; exact P.elim
  | stuck => rw [e] at P; exact P.elim
theorem Post.toF {α β : Type} {K : PySem.W.Frag} {CA : Nat → Addr} {W : WX} {RV : List Addr → Hp → α → β → Prop} {σ : L2.St} {μ : List Addr} {H : Hp} {Q : β → Hp → Prop} {r : Res α} (h : Post K CA W RV σ μ H Q r.quiet) : Post K CA WF RV σ μ H Q r.quiet := by
  cases r with
  | ok a st => exact h
  | exc c v st => exact h.elim
  | stuck => exact h.elim
/-- C(..) -/
theorem d_mk {n : Str} {fa : Addr} {id k : Nat} {p : Pos} (F : DefAt L X fa id k) (M : Mk X.K (L.CA c) fa) (hr : Room (k + 1) X.A) (tk : Takes X W) (hg : Gl X n) (hm : X.mg n = some (.ref (L.CA c))) (ha : DA L X W (e :: es) xs)
    (hdb : (n == ("__debug__" : Str)) = false := by decide) (he : starEach (e :: es) X.env = (false, eval e X.env) :: starEach es X.env := by rfl) (hpl : (backTo pos (starEach es X.env)).any (·.1) = false := by rfl) :
    DE L X W (.Call (.Name n p) (e :: es) [] pos) (.mk c id xs) := by
  obtain ⟨fd, ps, h1, h2, h3⟩ := F
  refine PE.imp (pe_make (E := fun _ _ _ => False) M h2 hr hg hm h1 .nil (passes_call tk fun _ _ _ _ h => h.elim) ha hdb he hpl) fun σ H Q h => ?_
  obtain ⟨μ, ρ, st, R, E, P⟩ := h
  refine ⟨μ, ρ, st, R, E, (Post.bind (RV := RVals X.K) P).imp fun vs H1 h1 => ?_⟩
  obtain ⟨μ1, args, st1, l1, R1, rv, P1⟩ := h1
  intro xa dx hx hdx ne
  rw [List.append_nil]
  have hx' : (upd H1 dx (.own xa)) xa = none := by rw [upd_ne (Ne.symm ne)]; exact hx
  have R2 := (R1.beside (o := .own xa) hdx).alloc hx' (o := .ins (L.CA c) dx []) (ob := .ins c []) ⟨rfl, rfl, .nil⟩
  have l2 : Le μ1 H1 (μ1 ++ [xa]) (upd (upd H1 dx (.own xa)) xa (.ins (L.CA c) dx [])) := (Le.of_fresh hdx).trans (.of_new hx')
  by_cases hl : (Val.ref st1.length :: args).length = ps.length
  · refine sp_quiet (σ := σ) (μ := μ1 ++ [xa]) (args := .ref st1.length :: args) (st := st1 ++ [.ins c []]) hl R2 (.cons (.ref (alloc_at R1)) (rv.mono l2)) ?_
    have P1 : Post X.K L.CA W (RVal X.K) σ μ1 H1 Q ((L.cl id (.ref st1.length :: args) (st1 ++ [.ins c []])).quiet.bind fun v st2 => match v with
      | .non => .ok (.ref st1.length) st2
      | _ => .stuck) := P1
    generalize L.cl id (.ref st1.length :: args) (st1 ++ [.ins c []]) = rr at P1
    refine Post.toF (W := W) ?_
    cases rr with
    | ok a s2 =>
      intro μ' H' b l R' r
      cases r with
      | non => exact ⟨rfl, P1 μ' H' _ (l2.trans l) R' (.ref (l.at_ (alloc_at R1)))⟩
      | _ => exact P1.elim
    | exc c v s2 => exact P1.elim
    | stuck => exact P1.elim
  · have e := h3 (.ref st1.length :: args) (st1 ++ [.ins c []]) hl
    have P1 : Post X.K L.CA W (RVal X.K) σ μ1 H1 Q ((L.cl id (.ref st1.length :: args) (st1 ++ [.ins c []])).quiet.bind fun v st2 => match v with
      | .non => .ok (.ref st1.length) st2
      | _ => .stuck) := P1
    rw [e] at P1
    exact P1.elim
/-- o.m(..) -/
theorem d_meth {apos : Pos} {fa : Addr} {id k : Nat} {pl : Sem Bool} (F : DefAt L X fa id k) (C : Cls X.K (L.CA c)) (M : Meth X.K (L.CA c) m fa) (hr : Room k X.A) (tk : Takes X W) (ho : DE L X W o x) (ha : DA L X W (e :: es) xs)
    (he : starEach (e :: es) X.env = (false, eval e X.env) :: starEach es X.env := by rfl) (hpl : (backTo pos (starEach es X.env)).any (·.1) = false := by rfl)
    (hev : eval ((o.Attribute m apos).Call (e :: es) [] pos) X.env = (do
      let ov ← eval o X.env
      standAt apos.atName
      let __x ← holding [ov] (getMethod ov m pl)
      match __x with
        | (f, first) => callWith pos f first (backTo pos (starEach (e :: es) X.env)) (backToKw pos (keywordEach [] X.env))) := by rfl) :
    DE L X W (.Call (.Attribute o m apos) (e :: es) [] pos) (.meth c id m x xs) := by
  obtain ⟨fd, ps, h1, h2, h3⟩ := F
  refine PE.imp (pe_meth (E := fun _ _ _ => False) ho C M h2 hr h1 .nil (passes_call tk fun _ _ _ _ h => h.elim) ha he hpl hev) fun σ H Q h => ?_
  obtain ⟨μ, ρ, st, R, E, P⟩ := h
  refine ⟨μ, ρ, st, R, E, (Post.bind (RV := RVal X.K) P).imp fun w H1 h1 => ?_⟩
  obtain ⟨μ1, v, st1, l1, R1, rv, P1⟩ := h1
  split at P1
  · rename_i fs hfs
    obtain ⟨n, rfl, hn⟩ := insAt_some hfs
    cases rv with
    | ref hA =>
      obtain ⟨dx, gs, g1, g2, g3⟩ := R1.insR hA hn
      split at P1
      · rename_i hno
        have hno : fs.lookup m = none := Option.isNone_iff_eq_none.mp hno
        refine ⟨_, dx, gs, rfl, g1, (lookup_rep (μ := μ1) g2 g3).2 hno, μ1, ρ, st1, R1, E.mono l1, (Post.bind (RV := RVals X.K) P1).imp fun vs H2 h2 => ?_⟩
        obtain ⟨μ2, args, st2, l2, R2, rvs, P2⟩ := h2
        rw [List.append_nil]
        by_cases hl : (Val.ref n :: args).length = ps.length
        · exact sp_quiet (σ := σ) hl R2 (.cons (.ref (l2.at_ hA)) rvs) (Post.toF P2)
        · rw [h3 _ _ hl] at P2
          exact P2.elim
      · exact P1.elim
  · exact P1.elim
/-- a property's value -/
theorem d_prop {fa pa : Addr} {id k : Nat} (F : DefAt L X fa id k) (C : Cls X.K (L.CA c)) (M : PropOf X.K (L.CA c) f pa fa) (hr : Room (k + 1) X.A) (ho : DE L X W o x) (hb : attributeBase o f X.env (eval o X.env) = eval o X.env := by rfl) : DE L X W (.Attribute o f pos) (.prop c id x) := by
  obtain ⟨fd, ps, h1, h2, h3⟩ := F
  refine PE.imp (pe_prop (E := fun _ _ _ => False) ho C M h2 hr h1 .nil (passes_call takes_none5 fun _ _ _ _ h => h) hb) fun σ H Q h => ?_
  obtain ⟨μ, ρ, st, R, E, P⟩ := h
  refine ⟨μ, ρ, st, R, E, (Post.bind (RV := RVal X.K) P).imp fun w H1 h1 => ?_⟩
  obtain ⟨μ1, v, st1, l1, R1, rv, P1⟩ := h1
  split at P1
  · rename_i fs hfs
    obtain ⟨n, rfl, hn⟩ := insAt_some hfs
    cases rv with
    | ref hA =>
      obtain ⟨dx, gs, g1, g2, g3⟩ := R1.insR hA hn
      refine ⟨_, dx, gs, rfl, g1, ?_⟩
      by_cases hl : [Val.ref n].length = ps.length
      · exact sp_quiet (σ := σ) hl R1 (.cons (.ref hA) .nil) (Post.toF P1)
      · rw [h3 _ _ hl] at P1
        exact P1.elim
  · exact P1.elim
end
end EV

/-! ## EvExc -/
set_option maxRecDepth 100000
set_option maxHeartbeats 4000000
/-! EvExc: raise of own errors (whose __init__ keeps the value), try with one clause without a name. -/
namespace EV
open PySem L2

/-- what __init__ of the errors promises -/
def spErr (K : PySem.W.Frag) : Sp := fun vs H Q _ => ∃ (a C : Addr) (y : V), vs = [.ref a, y] ∧ OexC K C ∧ PySem.W.findIn K (.ref C) valueF = some none ∧ H a = some (exo a C none) ∧
  ∀ dx, H dx = none → dx ≠ a → Q .non (upd (upd H dx (exd dx [(valueF, y)])) a (exo a C (some dx)))
/-- an error's class -/
structure ErrAt (L : Lib) (X : Cx) (x : Str) (c : Nat) : Prop where
  ex : ∃ (fI : Addr) (fd : FuncData), OexC X.K (L.CA c) ∧ PySem.W.findIn X.K (.ref (L.CA c)) "__init__" = some (some (.ref fI)) ∧ PySem.W.typeIn X.K (.ref fI) = some (.type "function") ∧ PySem.W.findIn X.K (.ref (L.CA c)) valueF = some none ∧
    FnOk X.prog X.w X.K X.mg X.base (L2.CX X.prog X.w) 1 fI fd ["self", "value"] (spErr X.K) ∧ Binds X.K fd ["self", "value"] [] ∧ X.mg x = some (.ref (L.CA c))
section
variable {L : Lib} {X : Cx} {W : WX} {e : Expr} {x : Ex} {pos pos' p np : Pos} {n : Str} {c : Nat}
theorem del_back {H : Hp} {a d : Addr} {o1 o2 o3 o4 : HO} (ha : H a = none) (ne : d ≠ a) : upd (del (upd (upd (upd H a o1) d o2) a o3) a) d o4 = upd H d o4 := by
  funext b
  by_cases hb : b = d
  · subst hb; rw [upd_same, upd_same]
  · rw [upd_ne hb, upd_ne hb]
    by_cases hc : b = a
    · subst hc; rw [del_same, ha]
    · rw [del_ne hc, upd_ne hc, upd_ne hb, upd_ne hc]
theorem ds_rais (T : ErrAt L X n c) (hr : Room 2 X.A) (hc : X.calm = true) (tk : Takes X W) (hg : Gl X n) (h : DE L X W e x) (hs : starEach [e] X.env = (false, eval e X.env) :: starEach [] X.env := by rfl)
    (hdb : (n == ("__debug__" : Str)) = false := by decide) (hpl : (backTo pos (starEach [] X.env)).any (·.1) = false := by rfl) :
    DS L X W (.Raise (some (.Call (.Name n p) [e] [] pos)) none pos') (.rais c x) := by
  obtain ⟨fI, fd, TC, iC, tI, noN, F1, hb, hm⟩ := T.ex
  refine PS.imp (ps_raise hc tk (pmk_oex (dvs := []) (ds := []) (sp := spErr X.K) TC iC tI F1 hr hb .nil (passes_call (E := fun _ _ _ => False) tk fun _ _ _ _ h => h.elim) hg hm (da_cons h da_nil hs) (hdb := hdb) (he := hs) (hpl := hpl))) fun D σ H h => ?_
  obtain ⟨μ, ρ, st, R, E, P⟩ := h
  have P : PostS X.K L.CA W μ H D ((L.e x ρ st).out ρ fun v st1 => .exc c v ρ st1) := P
  refine ⟨μ, ρ, st, R, E, ?_⟩
  have P2 := PostS.out (RV := RVal X.K) P E
  show Post X.K L.CA W (RVals X.K) σ μ H _ ((L.e x ρ st).bind fun v st1 => .ok [v] st1)
  cases eo : L.e x ρ st with
  | stuck => rw [eo] at P2; exact P2.elim
  | exc c1 v1 st1 => rw [eo] at P2; exact P2
  | ok v st1 =>
    rw [eo] at P2
    intro μ1 H1 vs l1 R1 rvs
    cases rvs with
    | @cons _ w _ ws rv t =>
      cases t
      obtain ⟨μ2, a2, st2, l2, R2, rv2, P3⟩ := P2 μ1 H1 w l1 R1 rv
      refine ⟨(show 1 ≤ 1000 by decide), fun a ha => ⟨a, L.CA c, w, rfl, TC, noN, upd_same, fun dx hdx ne => ⟨rfl, dx, [(valueF, w)], upd_same, by rw [upd_ne ne]; exact upd_same, by rw [upd_ne ne] at hdx; exact hdx, ?_⟩⟩⟩
      rw [upd_ne ne] at hdx
      rw [del_back ha ne]
      exact P3 μ2 _ σ w dx (.of_fresh hdx) (R2.beside hdx) ((E.mono l2).mono (.of_fresh hdx)) (rv2.mono (.of_fresh hdx)) upd_same
/-- try: .. except C: .. -/
theorem ds_tryo {body suite : List Stmt} {b₀ : Stmt} {sb ss : List Sx} {hs ns : List Nat} (hst : X.stack = X.env :: X.outer) (hf : X.env.frame = some X.env.locals) (hN : Names X n (.ref (L.CA c))) (tk : Takes X W)
    (hy : ∀ d ∈ hs, PySem.W.exmOne X.K (.ref (L.CA d)) (.ref (L.CA c)) = some true) (hn : ∀ d ∈ ns, PySem.W.exmOne X.K (.ref (L.CA d)) (.ref (L.CA c)) = some false)
    (hb : ∀ (W' : WX) (pn : List (Addr × Obj)) (xe : Value → Shared → Prop), Takes (X.tr pn xe) W' → PassesOwn (model X.prog X.w) X.A X.env xe → DSs L (X.tr pn xe) W' body sb)
    (hsu : ∀ (a : Addr) (oe : Obj) (pn : List (Addr × Obj)), DSs L (X.suite a pn) W (b₀ :: suite) ss) :
    DS L X W (.Try body [.ExceptHandler (some (.Name n np)) none (b₀ :: suite) pos'] [] [] pos) (.tryo sb hs ns ss) := by
  refine PS.imp (ps_try_only (tb := fun W' => tS X.K L.CA W' (L.xs sb)) (ts := fun _ _ _ => tS X.K L.CA W (L.xs ss)) (Wout := W) hst hf hN tk (fun W' pn xe t1 t2 => hb W' pn xe t1 t2) (fun a oe cls d pn _ _ => hsu a oe _)) fun D σ H h => ?_
  obtain ⟨μ, ρ, st, R, E, P⟩ := h
  refine ⟨μ, ρ, st, R, E, ?_⟩
  have P : PostS X.K L.CA W μ H D (match L.xs sb ρ st with
    | .exc c v ρ1 st1 => if hs.contains c then L.xs ss ρ1 st1 else if ns.contains c then .exc c v ρ1 st1 else .stuck
    | o => o) := P
  cases eo : L.xs sb ρ st with
  | exc c1 v ρ1 st1 =>
    rw [eo] at P
    dsimp only at P
    intro μ' H' σ' x d l R' E' rv hd
    by_cases h1 : hs.contains c1
    · rw [if_pos h1] at P
      exact ⟨true, hy c1 (List.contains_iff_mem.mp h1), fun _ a _ => ⟨μ', ρ1, st1, R', E', P.le l⟩, (fun z => by cases z)⟩
    · rw [if_neg h1] at P
      by_cases h2 : ns.contains c1
      · rw [if_pos h2] at P
        exact ⟨false, hn c1 (List.contains_iff_mem.mp h2), (fun z => by cases z), fun _ => P μ' H' σ' x d l R' E' rv hd⟩
      · rw [if_neg h2] at P
        exact P.elim
  | next ρ1 st1 => rw [eo] at P; exact P
  | ret v st1 => rw [eo] at P; exact P
  | brk ρ1 st1 => rw [eo] at P; exact P
  | cnt ρ1 st1 => rw [eo] at P; exact P
  | stuck => rw [eo] at P; exact P
end
/-- the errors' __init__ -/
theorem err_init {P : Program} {w : World} {K : PySem.W.Frag} {mg : Str → Option Value} {base : Heap} {qual : Str} {params : Arguments} {scope : Scope} {f : Addr} {fd : FuncData} {p1 p2 p3 p4 : Pos}
    (F : FunD K "__init__" qual params [.Assign [.Attribute (.Name "self" p1) "value" p2] (.Name "value" p3) p4] scope [] [] f fd) (S : FnScope ["self", "value"] ["self", "value"] scope) :
    FnOk P w K mg base (L2.CX P w) 1 f fd ["self", "value"] (spErr K) := by
  refine F.ok S (fun vs H Q E h => ?_) (fun cdv A outer s H vs Q E hr h => ?_)
  · obtain ⟨a, C, y, rfl, _⟩ := h
    rfl
  · obtain ⟨a, C, y, rfl, T, hno, ha, k⟩ := h
    have v0 : Vis scope "self" := by
      rcases S.par "self" (by simp) with h | h
      · exact .inl h
      · exact .inr (.inl h)
    have v1 : Vis scope "value" := by
      rcases S.par "value" (by simp) with h | h
      · exact .inl h
      · exact .inr (.inl h)
    refine ⟨_, pss_one (ps_ost (pe_var (i := 0) rfl v0 (by decide)) (pe_var (i := 1) rfl v1 (by decide))), ?_⟩
    refine ⟨y, rfl, .ref a, rfl, a, C, rfl, T, hno, .inl ⟨ha, fun dx h1 h2 => k dx h1 h2⟩⟩
end EV

/-! ## EvNot -/
set_option maxRecDepth 100000
set_option maxHeartbeats 4000000
/-! EvNot: not as a value; the built-ins' values; contexts. -/
namespace EV
open PySem L2
theorem tru_rep {K : PySem.W.Frag} {CA : Nat → Addr} {μ : List Addr} {st : Store} {H : Hp} {v : Val} {w : V} {k : Bool} (R1 : Rel K CA μ st H) (rv : RepV K μ H v w) (ek : truV st v = some k) : TruV K w H k := by
  cases rv with
  | non => cases ek; rfl
  | bl b => cases ek; rfl
  | int i => cases ek; rfl
  | str z =>
    have e : (if lineOk z.length then some ((z.length : Int) != 0) else none) = some k := ek
    split at e
    · rename_i hl
      cases e
      exact ⟨line_le hl, rfl⟩
    · cases e
  | @tup p vs ws h r =>
    cases ek
    exact .inr (.inl ⟨ws, h, by rw [isEmpty_rep r]⟩)
  | @ref n p hn =>
    unfold truV at ek
    dsimp only at ek
    split at ek
    · rename_i vs ho
      cases ek
      obtain ⟨ws, h1, h2⟩ := R1.lst hn (show lstAt st n = some vs by unfold lstAt; rw [ho])
      exact .inl ⟨ws, h1, by rw [isEmpty_rep h2]⟩
    · rename_i vs ho
      cases ek
      obtain ⟨ws, h1, h2⟩ := R1.lst hn (show lstAt st n = some vs by unfold lstAt; rw [ho])
      exact .inl ⟨ws, h1, by rw [isEmpty_rep h2]⟩
    · rename_i kvs ho
      cases ek
      obtain ⟨kxs, h1, h2, h3⟩ := R1.dct hn ho
      refine .inr (.inr ⟨kxs, h1, ?_⟩)
      have z : kvs.length = kxs.length := by simpa using congrArg List.length h2
      cases kvs <;> cases kxs <;> first | rfl | simp at z
    · cases ek
section
variable {L : Lib} {X : Cx} {W : WX} {a : Expr} {x : Ex} {pos : Pos}
theorem d_not (ha : DE L X W a x) : DE L X W (.UnaryOp .Not a pos) (.not (.val x)) := by
  refine PE.imp (pe_notT ha) fun σ H Q h => ?_
  obtain ⟨μ, ρ, st, R, E, P⟩ := h
  have P : Post X.K L.CA W (RVal X.K) σ μ H Q (((L.e x ρ st).bind fun v st1 => match truV st1 v with
    | some b => .ok b st1
    | none => .stuck).bind fun b st1 => .ok (.bl (!b)) st1) := P
  have P2 : Post X.K L.CA W (RVal X.K) σ μ H Q ((L.e x ρ st).bind fun v st1 => match truV st1 v with
    | some b => .ok (.bl (!b)) st1
    | none => .stuck) := by
    cases e : L.e x ρ st with
    | ok v s =>
      rw [e] at P
      show Post X.K L.CA W (RVal X.K) σ μ H Q (match truV s v with
        | some b => .ok (.bl (!b)) s
        | none => .stuck)
      cases e2 : truV s v with
      | some b =>
        have P : Post X.K L.CA W (RVal X.K) σ μ H Q ((match truV s v with
          | some b => .ok b s
          | none => .stuck : Res Bool).bind fun b st1 => .ok (.bl (!b)) st1) := P
        rw [e2] at P; exact P
      | none =>
        have P : Post X.K L.CA W (RVal X.K) σ μ H Q ((match truV s v with
          | some b => .ok b s
          | none => .stuck : Res Bool).bind fun b st1 => .ok (.bl (!b)) st1) := P
        rw [e2] at P; exact P
    | exc c v s => rw [e] at P; exact P
    | stuck => rw [e] at P; exact P
  refine (show tE X.K L.CA W (L.e x) σ H _ from ⟨μ, ρ, st, R, E, (Post.bind (RV := RVal X.K) P2).imp fun w H1 h1 => ?_⟩)
  obtain ⟨μ1, v, st1, l1, R1, rv, P1⟩ := h1
  cases e : truV st1 v with
  | none => rw [e] at P1; exact P1.elim
  | some k => rw [e] at P1; exact ⟨k, tru_rep R1 rv e, P1 μ1 H1 _ .refl R1 (.bl _)⟩
end
section
variable {L : Lib} {X : Cx} {W : WX} {a : Expr} {x : Ex} {pos p : Pos} {n : Str} {kvs : List (Str × Val)}
theorem tin_bl (neg : Bool) (ρ : Fr) (st : Store) (v : Val) (st' : Store) (h : L.e (.tin neg kvs x) ρ st = .ok v st') : ∃ k, v = .bl k := by
  obtain ⟨v1, st1, h1, h⟩ := bind_ok h
  cases v1 with
  | str z => cases h; exact ⟨_, rfl⟩
  | _ => cases h
theorem dt_tin (T : TabAt X n kvs) (hg : Gl X n) (ha : DE L X W a x) (hd : (n == ("__debug__" : Str)) = false := by decide) (hm : behindInMarks .In (.Name n p) = false := by rfl) : DT L X W (.Compare a [.In] [.Name n p] pos) (.val (.tin false kvs x)) := by
  obtain ⟨D, es, m, hg2, KD, ht⟩ := T.ex
  refine PT.imp (pt_cmpR (op_in_kd KD) ha (pe_glob (v := .ref D) hg hg2 rfl hd) hm) fun σ H Q h => tst_imp (f := L.e (.tin false kvs x)) (fun σ H Q h => ?_) (tin_bl false) h
  obtain ⟨μ, ρ, st, R, E, P⟩ := h
  refine (show tE X.K L.CA W (L.e x) σ H _ from ⟨μ, ρ, st, R, E, (Post.bind (RV := RVal X.K) P).imp fun w H1 h1 => ?_⟩)
  obtain ⟨μ1, v, st1, l1, R1, rv, P1⟩ := h1
  cases rv with
  | str z =>
    have q := ht z
    have P2 : Post X.K L.CA W (RVal X.K) σ μ1 H1 Q (.ok (.bl (false != (kvs.lookup z).isSome)) st1) := P1
    have P3 := P2 μ1 H1 (.bl (false != (kvs.lookup z).isSome)) .refl R1 (.bl _)
    cases ez : kvs.lookup z with
    | none => rw [ez] at P3 q; exact ⟨z, none, rfl, rfl, q, P3⟩
    | some u =>
      rw [ez] at P3 q
      obtain ⟨u', y', n1, r1, rp⟩ := q
      exact ⟨z, some u', rfl, rfl, n1, P3⟩
  | _ => exact P1.elim
theorem dt_tnotin (T : TabAt X n kvs) (hg : Gl X n) (ha : DE L X W a x) (hd : (n == ("__debug__" : Str)) = false := by decide) (hm : behindInMarks .NotIn (.Name n p) = false := by rfl) : DT L X W (.Compare a [.NotIn] [.Name n p] pos) (.val (.tin true kvs x)) := by
  obtain ⟨D, es, m, hg2, KD, ht⟩ := T.ex
  refine PT.imp (pt_cmpR (op_notIn_kd KD) ha (pe_glob (v := .ref D) hg hg2 rfl hd) hm) fun σ H Q h => tst_imp (f := L.e (.tin true kvs x)) (fun σ H Q h => ?_) (tin_bl true) h
  obtain ⟨μ, ρ, st, R, E, P⟩ := h
  refine (show tE X.K L.CA W (L.e x) σ H _ from ⟨μ, ρ, st, R, E, (Post.bind (RV := RVal X.K) P).imp fun w H1 h1 => ?_⟩)
  obtain ⟨μ1, v, st1, l1, R1, rv, P1⟩ := h1
  cases rv with
  | str z =>
    have q := ht z
    have P2 : Post X.K L.CA W (RVal X.K) σ μ1 H1 Q (.ok (.bl (true != (kvs.lookup z).isSome)) st1) := P1
    have P3 := P2 μ1 H1 (.bl (true != (kvs.lookup z).isSome)) .refl R1 (.bl _)
    cases ez : kvs.lookup z with
    | none => rw [ez] at P3 q; exact ⟨z, none, rfl, rfl, q, P3⟩
    | some u =>
      rw [ez] at P3 q
      obtain ⟨u', y', n1, r1, rp⟩ := q
      exact ⟨z, some u', rfl, rfl, n1, P3⟩
  | _ => exact P1.elim
end
theorem bb_len : bootBuiltins "len" = some (.builtin "len") := by first | rfl | decide +kernel | kernel_rfl
theorem bb_max : bootBuiltins "max" = some (.builtin "max") := by first | rfl | decide +kernel | kernel_rfl
theorem bb_min : bootBuiltins "min" = some (.builtin "min") := by first | rfl | decide +kernel | kernel_rfl
theorem bb_abs : bootBuiltins "abs" = some (.builtin "abs") := by first | rfl | decide +kernel | kernel_rfl
theorem bb_all : bootBuiltins "all" = some (.builtin "all") := by first | rfl | decide +kernel | kernel_rfl
theorem bb_any : bootBuiltins "any" = some (.builtin "any") := by first | rfl | decide +kernel | kernel_rfl
theorem bb_sum : bootBuiltins "sum" = some (.builtin "sum") := by first | rfl | decide +kernel | kernel_rfl
theorem bb_sorted : bootBuiltins "sorted" = some (.builtin "sorted") := by first | rfl | decide +kernel | kernel_rfl
theorem bb_isinstance : bootBuiltins "isinstance" = some (.builtin "isinstance") := by first | rfl | decide +kernel | kernel_rfl
theorem bb_int : bootBuiltins "int" = some (.type "int") := by first | rfl | decide +kernel | kernel_rfl
theorem bb_str : bootBuiltins "str" = some (.type "str") := by first | rfl | decide +kernel | kernel_rfl
theorem bb_list : bootBuiltins "list" = some (.type "list") := by first | rfl | decide +kernel | kernel_rfl
theorem bb_tuple : bootBuiltins "tuple" = some (.type "tuple") := by first | rfl | decide +kernel | kernel_rfl
theorem bb_dict : bootBuiltins "dict" = some (.type "dict") := by first | rfl | decide +kernel | kernel_rfl
theorem bb_ty (T : Ty) : bootBuiltins (tyA T) = some (.type (tyN T)) := by cases T <;> first | rfl | decide +kernel | kernel_rfl
theorem ne_ty (T : Ty) : tyA T ≠ "__name__" := by cases T <;> decide
theorem nd_ty (T : Ty) : (tyA T == ("__debug__" : Str)) = false := by cases T <;> decide
/-- what of the world a context has -/
def On (X : Cx) (P : Program) (w : World) (K : PySem.W.Frag) (mg : Str → Option Value) (base : Heap) : Prop := X.prog = P ∧ X.w = w ∧ X.K = K ∧ X.mg = mg ∧ X.base = base
end EV

/-! ## EvHead -/
set_option maxRecDepth 100000
set_option maxHeartbeats 4000000
/-! EvHead: from the head's facts to the contexts' ones; the law's end. -/
namespace EV
open PySem L2

/-! ### the errors' classes -/
def oexB (K : PySem.W.Frag) (x : Str) : Bool := match K.lookup (He.ga K x) with
  | some ⟨.type t, _, .cls cd, sl⟩ => (match cd.mro, sl.toList with
    | .ref c :: bm, [_, _, _, _, some (.builtin n), _] => decide (t = "type") && (decide (c = He.ga K x) && (decide (n = "ValueError.__new__") && (!cd.hasDel && (cd.hasDict && PySem.HandSPX.refsVE bm))))
    | _, _ => false)
  | _ => false
theorem oexB_ok {K : PySem.W.Frag} {x : Str} (q : oexB K x = true) : ∃ nm q N bs bm sn sub ab col dd k0 k1 k2 k3 k5, K.lookup (He.ga K x) = some (excClassObj nm q (He.ga K x) N bs bm true sn sub ab col dd k0 k1 k2 k3 k5 "ValueError.__new__") ∧ PySem.HandSPX.refsVE bm = true := by
  unfold oexB at q
  split at q
  · rename_i t dd cd sl ho
    split at q
    · rename_i c bm k0 k1 k2 k3 n k5 hm hs
      simp only [Bool.and_eq_true, decide_eq_true_eq, Bool.not_eq_true'] at q
      obtain ⟨e1, e2, e3, e4, e5, e6⟩ := q
      obtain ⟨nm, bs, chain, ns, qn, hd, sn, sub, ab, col, fin⟩ := cd
      dsimp only at hm e4 e5
      subst hm e4 e5 e1 e3
      obtain ⟨l⟩ := sl
      dsimp only at hs
      subst hs
      rw [e2] at ho
      exact ⟨nm, qn, ns, bs, bm, sn, sub, ab, col, dd, k0, k1, k2, k3, k5, ho, e6⟩
    · cases q
  · cases q
def errB (K : PySem.W.Frag) (x : Str) : Bool := oexB K x && (He.eqO (PySem.W.findIn K (.ref (He.ga K x)) "__setattr__") (some (some (.builtin "object.__setattr__"))) &&
  (decide (PySem.W.subIn K (.ref (He.ga K x)) (.type "BaseException") = some true) && (decide (PySem.W.typeIn K (.ref (He.ga K x)) = some (.type "type")) && (PySem.W.keepIn K (.ref (He.ga K x)) &&
  (He.eqO (PySem.W.findIn K (.ref (He.ga K x)) "__init__") (some (some (.ref (He.ma K (He.ga K x) "__init__")))) && (decide (PySem.W.typeIn K (.ref (He.ma K (He.ga K x) "__init__")) = some (.type "function")) &&
  He.eqO (PySem.W.findIn K (.ref (He.ga K x)) valueF) (some none)))))))
structure ErrK (K : PySem.W.Frag) (x : Str) : Prop where
  oex : OexC K (He.ga K x)
  ini : PySem.W.findIn K (.ref (He.ga K x)) "__init__" = some (some (.ref (He.ma K (He.ga K x) "__init__")))
  tyI : PySem.W.typeIn K (.ref (He.ma K (He.ga K x) "__init__")) = some (.type "function")
  noV : PySem.W.findIn K (.ref (He.ga K x)) valueF = some none
theorem errB_ok {K : PySem.W.Frag} {x : Str} (h : errB K x = true) : ErrK K x := by
  unfold errB at h
  simp only [Bool.and_eq_true, decide_eq_true_eq] at h
  obtain ⟨h1, h2, h3, h4, h5, h6, h7, h8⟩ := h
  exact ⟨⟨oexB_ok h1, He.eqO_ok h2, h3, h4, h5⟩, He.eqO_ok h6, h7, He.eqO_ok h8⟩
/-! ### a def at a level -/
def defD (at_ : Str × Option Str) (name qual : Str) (st : Stmt) : He.DefD := ⟨at_, name, qual, defArgs st, defBody st, defScope st, [], []⟩
section
variable {P : Program} {w : World} {K : PySem.W.Frag} {mg : Str → Option Value} {base : Heap}
/-- what a def's body gives its callers -/
theorem fn_okD {L : Lib} {name qual : Str} {st : Stmt} {f : Addr} {fd : FuncData} {N ps : List Str} {k : Nat} {sxs : List Sx} {m : List Val → Store → Res Val} (F : FunD K name qual (defArgs st) (defBody st) (defScope st) [] [] f fd) (S : FnScope N ps (defScope st))
    (hm : ∀ args s, m args s = if args.length = ps.length then runB L.cl N.length sxs args s else .stuck)
    (hb : ∀ (cdv : Value) (A : Around) (outer : List Env) (s : Shared) (H : Hp) (E : XK), Room k (A.deeper (PyProof.Rows.envOfC qual (defScope st) s.heap.objs.size f cdv)) →
      DSs L (cxOf (L2.CX P w) P w K mg base N qual (defScope st) f cdv A outer s H E) (fun c d _ H => E c d H) (defBody st) sxs) :
    FnOk P w K mg base (L2.CX P w) (k + 1) f fd ps (spM K L.CA ps.length m) := by
  refine F.ok S (fun vs H Q E h => h.1) fun cdv A outer s H vs Q E hr h => ⟨_, hb cdv A outer s H E hr, ?_⟩
  obtain ⟨hl, μ, args, st', R, rv, q⟩ := h
  refine ⟨μ, args.map some ++ List.replicate (N.length - args.length) none, st', R, ?_, ?_⟩
  · have e1 := rv.length
    refine ⟨?_, fun i v h => ?_⟩
    · unfold L2.start
      rw [List.length_append, List.length_append, List.length_map, List.length_map, List.length_replicate, List.length_replicate, e1]
    · unfold L2.start
      by_cases hi : i < args.length
      · rw [List.getElem?_append_left (by simpa using hi), List.getElem?_map] at h
        cases e : args[i]? with
        | none => rw [e] at h; cases h
        | some u =>
          rw [e] at h
          cases h
          obtain ⟨y, hy, r⟩ := rv.get e
          exact ⟨y, by rw [List.getElem?_append_left (by simp; omega), List.getElem?_map, hy]; rfl, r⟩
      · rw [List.getElem?_append_right (by simpa using hi), List.getElem?_replicate] at h
        split at h <;> cases h
  · rw [hm, if_pos (by rw [rv.length]; exact hl)] at q
    unfold runB at q
    have q : Post K L.CA (fun c d _ H' => E c d H') (RVal K) [] μ H Q (match L.xs sxs (args.map some ++ List.replicate (N.length - args.length) none) st' with
      | .next _ st => .ok .non st
      | .ret v st => .ok v st
      | .exc c v _ st => .exc c v st
      | _ => .stuck) := q
    show PostS K L.CA (fun c d _ H => E c d H) μ H { nx := fun _ H' => Q .non H', rt := Q } (L.xs sxs (args.map some ++ List.replicate (N.length - args.length) none) st')
    cases eo : L.xs sxs (args.map some ++ List.replicate (N.length - args.length) none) st' with
    | next ρ st => rw [eo] at q; exact fun μ' H' σ' l R' E' => q μ' H' _ l R' .non
    | ret v st => rw [eo] at q; exact q
    | exc c v ρ st => rw [eo] at q; exact fun μ' H' σ' x d l R' _ rv hd => q μ' H' x d l R' rv hd
    | brk ρ st => rw [eo] at q; exact q.elim
    | cnt ρ st => rw [eo] at q; exact q.elim
    | stuck => rw [eo] at q; exact q.elim
/-- keywords in an order: the places of the parameters among them -/
def KeyB (f : Str) (ps : List Str) (st : Stmt) (ks : List Str) (perm : List Nat) : Prop := ∀ (kV doc pm : Value) (an : Option Addr) (cdv ct : Value) (us : List Value), us.length = ks.length → bindArgs (PySem.W.fnOf f f (defArgs st) (defBody st) (defScope st) .none kV doc pm an cdv ct) ⟨[], ks.zip us⟩ = pure (ps.zip (permL perm us))
/-- a def at a level, as its callers want it -/
structure FnG (P : Program) (w : World) (K : PySem.W.Frag) (mg : Str → Option Value) (base : Heap) (CA : Nat → Addr) (f : Str) (ps : List Str) (k : Nat) (m : List Val → Store → Res Val) (st : Stmt) : Prop where
  ex : ∃ (a : Addr) (fd : FuncData), mg f = some (.ref a) ∧ PySem.W.keepIn K (.ref a) = true ∧ Binds K fd ps [] ∧ KBn K fd ps 0 ps (fun us ws => us ++ ws) (fun vs zs => vs ++ zs) ∧ FnOk P w K mg base (L2.CX P w) k a fd ps (spM K CA ps.length m) ∧
    ∀ ks perm, KeyB f ps st ks perm → KBn K fd ps 0 ks (fun us ws => permL perm (us ++ ws)) (fun vs zs => permL perm (vs ++ zs))
theorem FnG.atP {L : Lib} {f : Str} {ps : List Str} {k id : Nat} {sm : Stmt} (F : FnG P w K mg base L.CA f ps k (L.cl id) sm) (hs : ∀ args st, args.length ≠ ps.length → L.cl id args st = .stuck) {ks : List Str} {perm : List Nat} (hk : KeyB f ps sm ks perm) : ∀ X : Cx, On X P w K mg base → FnAtP L X f id k ks perm := by
  rintro X ⟨rfl, rfl, rfl, rfl, rfl⟩
  obtain ⟨a, fd, h1, h2, h3, h4, h5, h6⟩ := F.ex
  exact ⟨a, fd, ps, h1, h2, h6 ks perm hk, h5, hs⟩
theorem FnG.at_ {L : Lib} {f : Str} {ps : List Str} {k id : Nat} {sm : Stmt} (F : FnG P w K mg base L.CA f ps k (L.cl id) sm) (hs : ∀ args st, args.length ≠ ps.length → L.cl id args st = .stuck) : ∀ X : Cx, On X P w K mg base → FnAt L X f id k := by
  rintro X ⟨rfl, rfl, rfl, rfl, rfl⟩
  obtain ⟨a, fd, h1, h2, h3, h4, h5, _⟩ := F.ex
  exact ⟨a, fd, ps, h1, h2, h3, h5, hs⟩
theorem FnG.atK {L : Lib} {f : Str} {ps : List Str} {k id : Nat} {sm : Stmt} (F : FnG P w K mg base L.CA f ps k (L.cl id) sm) (hs : ∀ args st, args.length ≠ ps.length → L.cl id args st = .stuck) : ∀ X : Cx, On X P w K mg base → FnAtK L X f id k ps := by
  rintro X ⟨rfl, rfl, rfl, rfl, rfl⟩
  obtain ⟨a, fd, h1, h2, h3, h4, h5, _⟩ := F.ex
  exact ⟨a, fd, ps, h1, h2, h4, rfl, h5, hs⟩
theorem spM_stuck {K : PySem.W.Frag} {CA : Nat → Addr} {n : Nat} {m : List Val → Store → Res Val} (hm : ∀ args s, m args s = .stuck) {vs : List V} {H : Hp} {Q : VK} {E : XK} (h : spM K CA n m vs H Q E) : False := by
  obtain ⟨_, μ, args, st, _, _, q⟩ := h
  rw [hm] at q
  exact q
/-- the def's way to be called, and its promise at any level above a body -/
structure FnB (K : PySem.W.Frag) (mg : Str → Option Value) (f : Str) (ps : List Str) (st : Stmt) (a : Addr) (fd : FuncData) : Prop where
  gl : mg f = some (.ref a)
  F : FunD K f f (defArgs st) (defBody st) (defScope st) [] [] a fd
  b : Binds K fd ps []
  kb : KBn K fd ps 0 ps (fun us ws => us ++ ws) (fun vs zs => vs ++ zs)
  bA : ∀ (s : Shared) (us : List Value), us.length = ps.length → BindsTo s fd ⟨us, []⟩ (ps.zip us)
theorem FnB.kbp {f : Str} {ps : List Str} {st : Stmt} {a : Addr} {fd : FuncData} (B : FnB K mg f ps st a fd) (ks : List Str) (perm : List Nat) (hk : KeyB f ps st ks perm) : KBn K fd ps 0 ks (fun us ws => permL perm (us ++ ws)) (fun vs zs => permL perm (vs ++ zs)) := by
  refine ⟨fun s us ws _ h1 h2 => ?_, fun r1 r2 => Vals.perm (r1.append r2) perm⟩
  obtain ⟨_, _, dV, k1, k2, k3, k4, k5, k6, _, rfl, _, _, hD, _⟩ := B.F.ex
  have e : us = [] := List.length_eq_zero_iff.mp h1
  subst e
  rcases hD with ⟨_, rfl⟩ | ⟨z, _⟩
  · rw [List.nil_append]
    exact .of_eq (hk k1 k2 k3 k4 k5 k6 ws h2)
  · exact absurd rfl z
theorem FnG.zero {CA : Nat → Addr} {f : Str} {ps N : List Str} {st : Stmt} {a : Addr} {fd : FuncData} {m : List Val → Store → Res Val} {k : Nat} (B : FnB K mg f ps st a fd) (S : FnScope N ps (defScope st)) (hm : ∀ args s, m args s = .stuck) : FnG P w K mg base CA f ps (k + 1) m st :=
  ⟨a, fd, B.gl, B.F.kp, B.b, B.kb, B.F.ok S (fun vs H Q E h => h.1) (fun cdv A outer s H vs Q E hr h => (spM_stuck hm h).elim), B.kbp⟩
theorem FnG.succ {L : Lib} {f : Str} {ps N : List Str} {st : Stmt} {a : Addr} {fd : FuncData} {k : Nat} {sxs : List Sx} {m : List Val → Store → Res Val} (B : FnB K mg f ps st a fd) (S : FnScope N ps (defScope st))
    (hm : ∀ args s, m args s = if args.length = ps.length then runB L.cl N.length sxs args s else .stuck)
    (hb : ∀ (cdv : Value) (A : Around) (outer : List Env) (s : Shared) (H : Hp) (E : XK), Room k (A.deeper (PyProof.Rows.envOfC f (defScope st) s.heap.objs.size a cdv)) →
      DSs L (cxOf (L2.CX P w) P w K mg base N f (defScope st) a cdv A outer s H E) (fun c d _ H => E c d H) (defBody st) sxs) : FnG P w K mg base L.CA f ps (k + 1) m st :=
  ⟨a, fd, B.gl, B.F.kp, B.b, B.kb, fn_okD B.F S hm hb, B.kbp⟩
/-- the way to be called, out of bindArgs -/
theorem fnB_of {f : Str} {ps : List Str} {st : Stmt} {a : Addr} {fd : FuncData} (gl : mg f = some (.ref a)) (F : FunD K f f (defArgs st) (defBody st) (defScope st) [] [] a fd)
    (h : ∀ (kV doc pm : Value) (an : Option Addr) (cdv ct : Value) (us : List Value), us.length = ps.length → bindArgs (PySem.W.fnOf f f (defArgs st) (defBody st) (defScope st) .none kV doc pm an cdv ct) ⟨us, []⟩ = pure (ps.zip us))
    (hk : ∀ (kV doc pm : Value) (an : Option Addr) (cdv ct : Value) (us : List Value), us.length = ps.length → bindArgs (PySem.W.fnOf f f (defArgs st) (defBody st) (defScope st) .none kV doc pm an cdv ct) ⟨[], ps.zip us⟩ = pure (ps.zip us)) : FnB K mg f ps st a fd := by
  refine ⟨gl, F, F.bindsN h, ⟨fun s us ws _ h1 h2 => ?_, fun r1 r2 => r1.append r2⟩, fun s us hl => F.bindsA h s us hl⟩
  obtain ⟨_, _, dV, k1, k2, k3, k4, k5, k6, _, rfl, _, _, hD, _⟩ := F.ex
  have e : us = [] := List.length_eq_zero_iff.mp h1
  subst e
  rcases hD with ⟨_, rfl⟩ | ⟨z, _⟩
  · rw [List.nil_append]
    exact .of_eq (hk k1 k2 k3 k4 k5 k6 ws h2)
  · exact absurd rfl z
end
/-- an error's class, at a context -/
theorem err_at {P : Program} {w : World} {K : PySem.W.Frag} {mg : Str → Option Value} {base : Heap} {L : Lib} {x : Str} {c : Nat} {qual : Str} {params : Arguments} {scope : Scope} {fd : FuncData} {p1 p2 p3 p4 : Pos} (E : ErrK K x) (hc : L.CA c = He.ga K x) (hm : mg x = some (.ref (He.ga K x)))
    (F : FunD K "__init__" qual params [.Assign [.Attribute (.Name "self" p1) "value" p2] (.Name "value" p3) p4] scope [] [] (He.ma K (He.ga K x) "__init__") fd) (S : FnScope ["self", "value"] ["self", "value"] scope)
    (h : ∀ (kV doc pm : Value) (an : Option Addr) (cdv ct : Value) (us : List Value), us.length = 2 → bindArgs (PySem.W.fnOf "__init__" qual params [.Assign [.Attribute (.Name "self" p1) "value" p2] (.Name "value" p3) p4] scope .none kV doc pm an cdv ct) ⟨us, []⟩ = pure ((["self", "value"] : List Str).zip us)) :
    ∀ X : Cx, On X P w K mg base → ErrAt L X x c := by
  rintro X ⟨rfl, rfl, rfl, rfl, rfl⟩
  exact ⟨_, fd, by rw [hc]; exact E.oex, by rw [hc]; exact E.ini, E.tyI, by rw [hc]; exact E.noV, err_init F S, F.bindsN h, by rw [hc]; exact hm⟩
/-! ### the law's end -/
theorem law_sp {K : PySem.W.Frag} {CA : Nat → Addr} {m : List Val → Store → Res Val} {a : Addr} {ns : List Int} {H : Hp} (hO : L2.Only H) (hS : SqL K H a (ns.map V.int)) (hl : ∃ st, m [.ref 0] [.fro (ns.map .int)] = .ok (.bl true) st) :
    spM K CA 1 m [.ref a] H (fun v _ => v = .bl true) fun _ _ _ => False := by
  obtain ⟨st, e⟩ := hl
  have hF : SqF K H a (ns.map V.int) := by
    rcases hS with (h | ⟨ob, h⟩) | h
    · rcases hO a with z | ⟨o, xs, z⟩ <;> (rw [z] at h; cases h)
    · exact .inl ⟨ob, h⟩
    · exact .inr h
  refine ⟨rfl, [a], [.ref 0], [.fro (ns.map .int)], ⟨rfl, ?_, ?_⟩, .cons (.ref rfl) .nil, ?_⟩
  · intro i j b o u ei ej si sj fo fu
    match i, j with
    | 0, 0 => rfl
    | 0, j + 1 => cases ej
    | i + 1, _ => cases ei
  · intro n o h
    match n with
    | 0 => cases h; exact ⟨a, rfl, .inr ⟨_, _, rfl, hF, .ints ns⟩⟩
    | n + 1 => cases h
  · rw [e]
    intro μ' H' b l R rb
    cases rb
    rfl
open PySem.Spec PyProof.Rows in
/-- the walk of a law over the head of k_head -/
theorem law_endK {l : PySem.W.OpenLaw} {n k : Nat} {q : Program} {loose : List Str} {XP : (Str → Option Value) → Heap → Prop} {YP : World → Heap → Prop} {d : DefRec} {K : Params → PySem.W.Frag} {x : Str} (CA : PySem.W.Frag → Nat → Addr) (m : List Val → Store → Res Val) (hr : Room k callerA) (hn : l.most = some n) (hdf : d.params.defaults = []) (hn2 : n ≤ sizeLine)
    (hY : ∀ (w : World) (h : Heap), YP w h → (K w.params).In h) (hl : ∀ ns : List Int, ns.length ≤ n → ∃ st, m [.ref 0] [.fro (ns.map .int)] = .ok (.bl true) st)
    (F : ∀ (w : World) (mg : Str → Option Value) (fa : Addr) (h : Heap), (K w.params).In h → h.Ns mainGlobals mg → mg d.name = some (.ref fa) → ∃ fd : FuncData, (∀ (s : Shared) (u : Value), BindsTo s fd ⟨[u], []⟩ [(x, u)]) ∧
      ∀ base : Heap, FnOk l.prog w (K w.params) mg base (L2.CX l.prog w) k fa fd [x] (spM (K w.params) (CA (K w.params)) 1 m)) : PySem.W.WalkO q loose XP YP l.row.toRowW d [] (fun f vs => PySem.call f vs) := by
  refine L2.walk_of (x := x) (K := K) (CX := fun w => L2.CX l.prog w) (sp := fun w => spM (K w.params) (CA (K w.params)) 1 m) hn hn2 hdf hr hY (fun w mg fa h X G e => ?_) (fun w H a ns hl2 hO hS => law_sp hO hS (hl ns hl2)) ?_
  · obtain ⟨fd, h1, h2⟩ := F w mg fa h X G e
    exact ⟨fd, h1, fun base _ _ => h2 base⟩
  · rintro w H s e s' ⟨_, _, _, _, _, _, _, _, _, _, _, _, z⟩
    exact z
open PySem.Spec PyProof.Rows in
/-- the walk of a law whose defs may let errors of their own out -/
theorem law_end {l : PySem.W.OpenLaw} {n k : Nat} {q : Program} {loose : List Str} {XP : (Str → Option Value) → Heap → Prop} {YP : World → Heap → Prop} {d : DefRec} {x : Str} (hr : Room k callerA) (hn : l.most = some n) (hdf : d.params.defaults = []) (hn2 : n ≤ sizeLine)
    (F : ∀ (w : World) (mg : Str → Option Value) (fa : Addr) (h : Heap), YP w h → h.Ns mainGlobals mg → mg d.name = some (.ref fa) → ∃ (K : PySem.W.Frag) (fd : FuncData) (sp : Sp), K.In h ∧ (∀ (s : Shared) (u : Value), BindsTo s fd ⟨[u], []⟩ [(x, u)]) ∧
      (∀ (H : Hp) (a : Addr) (ns : List Int), ns.length ≤ n → L2.Only H → SqL K H a (ns.map V.int) → sp [.ref a] H (fun v _ => v = .bl true) (fun _ _ _ => False)) ∧ (∀ base : Heap, K.In base → base.Ns mainGlobals mg → FnOk l.prog w K mg base (L2.CX l.prog w) k fa fd [x] sp)) : PySem.W.WalkO q loose XP YP l.row.toRowW d [] (fun f vs => PySem.call f vs) := by
  refine Att.attach_call hn hdf (fun w s₀ s₁ mg mb fa o pm cd doc a vs ns G Y ho hd hcd hm hob hi hle hgen => ?_)
  obtain ⟨K, fd, sp, inK, bd, hs, ok⟩ := F w mg fa _ Y G.T.g hm
  refine law_call inK G.T.g G.T.b G.T.builtins G.T.nolimit hgen hob hi (Nat.le_trans hle hn2) hr ok bd (fun H h1 h2 => hs H a ns hle h1 h2) ?_
  rintro H e s' ⟨_, _, _, _, _, _, _, _, _, _, _, _, z⟩
  exact z
end EV

/-! ## EvWp -/
set_option maxRecDepth 100000
set_option maxHeartbeats 4000000
/-! EvWp: what a run comes to, by what stands behind it. -/
namespace EV
open PySem L2

@[irreducible] def wr {α : Type} (r : Res α) (Q : α → Store → Prop) (X : Nat → Val → Store → Prop) : Prop := match r with
  | .ok a st => Q a st
  | .exc c v st => X c v st
  | .stuck => False
structure En where
  nx : Fr → Store → Prop
  rt : Val → Store → Prop
  bk : Fr → Store → Prop
  ct : Fr → Store → Prop
  ec : Nat → Val → Fr → Store → Prop
@[irreducible] def wo (o : Out) (D : En) : Prop := match o with
  | .next ρ st => D.nx ρ st
  | .ret v st => D.rt v st
  | .brk ρ st => D.bk ρ st
  | .cnt ρ st => D.ct ρ st
  | .exc c v ρ st => D.ec c v ρ st
  | .stuck => False
abbrev noX : Nat → Val → Store → Prop := fun _ _ _ => False
section
variable {α β : Type} {r : Res α} {f : α → Store → Res β} {a : α} {st : Store} {ρ : Fr}
theorem wr_bind {Q : β → Store → Prop} {X : Nat → Val → Store → Prop} : wr (r.bind f) Q X = wr r (fun a st => wr (f a st) Q X) X := by cases r <;> (with_unfolding_all rfl)
theorem wr_quiet {Q : α → Store → Prop} {X : Nat → Val → Store → Prop} : wr r.quiet Q X = wr r Q noX := by cases r <;> (with_unfolding_all rfl)
theorem wr_ok {Q : α → Store → Prop} {X : Nat → Val → Store → Prop} : wr (.ok a st) Q X = Q a st := by with_unfolding_all exact id rfl
theorem wr_exc {Q : α → Store → Prop} {X : Nat → Val → Store → Prop} {c : Nat} {v : Val} : wr (.exc c v st) Q X = X c v st := by with_unfolding_all exact id rfl
theorem wr_stuck {Q : α → Store → Prop} {X : Nat → Val → Store → Prop} : wr (.stuck : Res α) Q X = False := by with_unfolding_all exact id rfl
theorem wr_some {Q : α → Store → Prop} {X : Nat → Val → Store → Prop} : wr (liftO (some (a, st))) Q X = Q a st := by with_unfolding_all exact id rfl
theorem wr_none {Q : α → Store → Prop} {X : Nat → Val → Store → Prop} : wr (liftO (none : Option (α × Store))) Q X = False := by with_unfolding_all exact id rfl
theorem wr_mono {Q Q' : α → Store → Prop} {X X' : Nat → Val → Store → Prop} (h : wr r Q X) (hq : ∀ a st, Q a st → Q' a st) (hx : ∀ c v st, X c v st → X' c v st) : wr r Q' X' := by
  cases r with
  | ok a st => with_unfolding_all exact hq _ _ h
  | exc c v st => with_unfolding_all exact hx _ _ _ h
  | stuck => with_unfolding_all exact h
theorem wr_imp {Q Q' : α → Store → Prop} {X : Nat → Val → Store → Prop} (h : wr r Q noX) (hq : ∀ a st, Q a st → Q' a st) : wr r Q' X := wr_mono h hq fun _ _ _ z => z.elim
theorem wr_of {v : α} {st' : Store} {Q : α → Store → Prop} {X : Nat → Val → Store → Prop} (e : r = .ok v st') (h : Q v st') : wr r Q X := by rw [e]; with_unfolding_all exact h
theorem wr_ex {Q : α → Store → Prop} (h : wr r Q noX) : ∃ v st', r = .ok v st' ∧ Q v st' := by
  cases r with
  | ok a st => with_unfolding_all exact ⟨a, st, rfl, h⟩
  | exc c v st => with_unfolding_all exact (show False from h).elim
  | stuck => with_unfolding_all exact (show False from h).elim
theorem wo_out {g : α → Store → Out} {D : En} : wo (r.out ρ g) D = wr r (fun a st => wo (g a st) D) (fun c v st => D.ec c v ρ st) := by cases r <;> (with_unfolding_all rfl)
theorem wo_next {D : En} : wo (.next ρ st) D = D.nx ρ st := by with_unfolding_all exact id rfl
theorem wo_ret {D : En} {v : Val} : wo (.ret v st) D = D.rt v st := by with_unfolding_all exact id rfl
theorem wo_brk {D : En} : wo (.brk ρ st) D = D.bk ρ st := by with_unfolding_all exact id rfl
theorem wo_cnt {D : En} : wo (.cnt ρ st) D = D.ct ρ st := by with_unfolding_all exact id rfl
theorem wo_exc {D : En} {c : Nat} {v : Val} : wo (.exc c v ρ st) D = D.ec c v ρ st := by with_unfolding_all exact id rfl
theorem wo_mono {o : Out} {D D' : En} (h : wo o D) (h1 : ∀ ρ st, D.nx ρ st → D'.nx ρ st) (h2 : ∀ v st, D.rt v st → D'.rt v st) (h3 : ∀ ρ st, D.bk ρ st → D'.bk ρ st) (h4 : ∀ ρ st, D.ct ρ st → D'.ct ρ st) (h5 : ∀ c v ρ st, D.ec c v ρ st → D'.ec c v ρ st) : wo o D' := by
  cases o with
  | next ρ st => with_unfolding_all exact h1 _ _ h
  | ret v st => with_unfolding_all exact h2 _ _ h
  | brk ρ st => with_unfolding_all exact h3 _ _ h
  | cnt ρ st => with_unfolding_all exact h4 _ _ h
  | exc c v ρ st => with_unfolding_all exact h5 _ _ _ _ h
  | stuck => with_unfolding_all exact h
theorem wo_ite {p : Prop} [Decidable p] {a b : Out} {D : En} : wo (if p then a else b) D = if p then wo a D else wo b D := by split <;> (with_unfolding_all rfl)
theorem wr_ite {p : Prop} [Decidable p] {a b : Res α} {Q : α → Store → Prop} {X : Nat → Val → Store → Prop} : wr (if p then a else b) Q X = if p then wr a Q X else wr b Q X := by split <;> (with_unfolding_all rfl)
theorem wr_lift_ite {p : Prop} [Decidable p] {a b : Option (α × Store)} {Q : α → Store → Prop} {X : Nat → Val → Store → Prop} : wr (liftO (if p then a else b)) Q X = if p then wr (liftO a) Q X else wr (liftO b) Q X := by split <;> (with_unfolding_all rfl)
end
/-! ### the evaluator's rows -/
section
variable {cl : Cl} {ρ : Fr} {st : Store} {D : En} {Q : Val → Store → Prop} {X : Nat → Val → Store → Prop} {a b c : Ex} {t u : Tx} {es : Exs}
theorem w_var {i : Nat} {v : Val} (h : ρ[i]? = some (some v)) : ev cl (.var i) ρ st = .ok v st := by
  show (match ρ[i]? with | some (some v) => Res.ok v st | _ => .stuck) = _
  rw [h]
theorem w_con {v : Val} : wr (ev cl (.con v) ρ st) Q X = Q v st := by with_unfolding_all exact id rfl
theorem w_bin {o : BOp} : wr (ev cl (.bin o a b) ρ st) Q X = wr (ev cl a ρ st) (fun v st1 => wr (ev cl b ρ st1) (fun u st2 => wr (liftO (binV o v u st2)) Q X) X) X := by
  show wr ((ev cl a ρ st).bind _) Q X = _; rw [wr_bind]; simp only [wr_bind]
  all_goals first | done | (with_unfolding_all rfl)
theorem w_neg : wr (ev cl (.neg a) ρ st) Q X = wr (ev cl a ρ st) (fun v st1 => wr (liftO ((negV v).map fun w => (w, st1))) Q X) X := by
  show wr ((ev cl a ρ st).bind _) Q X = _; rw [wr_bind]
  all_goals first | done | (with_unfolding_all rfl)
theorem w_not : wr (ev cl (.not t) ρ st) Q X = wr (evT cl t ρ st) (fun b st1 => Q (.bl (!b)) st1) X := by
  show wr ((evT cl t ρ st).bind _) Q X = _; rw [wr_bind]; all_goals first | done | (with_unfolding_all rfl)
theorem w_and : wr (ev cl (.and a b) ρ st) Q X = wr (ev cl a ρ st) (fun v st1 => wr (match v with | .bl true => ev cl b ρ st1 | .bl false => .ok (.bl false) st1 | _ => .stuck) Q X) X := by
  show wr ((ev cl a ρ st).bind _) Q X = _; rw [wr_bind]; all_goals first | done | (with_unfolding_all rfl)
theorem w_or : wr (ev cl (.or a b) ρ st) Q X = wr (ev cl a ρ st) (fun v st1 => wr (match v with | .bl true => .ok (.bl true) st1 | .bl false => ev cl b ρ st1 | _ => .stuck) Q X) X := by
  show wr ((ev cl a ρ st).bind _) Q X = _; rw [wr_bind]; all_goals first | done | (with_unfolding_all rfl)
theorem w_cmp {o : COp} : wr (ev cl (.cmp o a b) ρ st) Q X = wr (ev cl a ρ st) (fun v st1 => wr (ev cl b ρ st1) (fun u st2 => wr (liftO ((cmpV o v u st2).map fun k => (Val.bl k, st2))) Q X) X) X := by
  show wr ((ev cl a ρ st).bind _) Q X = _; rw [wr_bind]; simp only [wr_bind]
  all_goals first | done | (with_unfolding_all rfl)
theorem w_chain {o o' : COp} : wr (ev cl (.chain o o' a b c) ρ st) Q X = wr (ev cl a ρ st) (fun v st1 => wr (ev cl b ρ st1) (fun u st2 => wr (match cmpV o v u st2 with
    | some true => (ev cl c ρ st2).bind fun w st3 => liftO ((cmpV o' u w st3).map fun k => (Val.bl k, st3))
    | some false => .ok (.bl false) st2
    | none => .stuck) Q X) X) X := by
  show wr ((ev cl a ρ st).bind _) Q X = _; rw [wr_bind]; simp only [wr_bind]
  all_goals first | done | (with_unfolding_all rfl)
theorem w_ife : wr (ev cl (.ife t a b) ρ st) Q X = wr (evT cl t ρ st) (fun k st1 => if k then wr (ev cl a ρ st1) Q X else wr (ev cl b ρ st1) Q X) X := by
  show wr ((evT cl t ρ st).bind _) Q X = _; rw [wr_bind]; simp only [wr_ite]
  all_goals first | done | (with_unfolding_all rfl)
theorem w_call {f : Nat} : wr (ev cl (.call f es) ρ st) Q X = wr (evs cl es ρ st) (fun vs st1 => wr (cl f vs st1) Q X) X := by
  show wr ((evs cl es ρ st).bind _) Q X = _; rw [wr_bind]
  all_goals first | done | (with_unfolding_all rfl)
theorem w_callp {f : Nat} {perm : List Nat} : wr (ev cl (.callp f perm es) ρ st) Q X = wr (evs cl es ρ st) (fun vs st1 => wr (cl f (permL perm vs) st1) Q X) X := by
  show wr ((evs cl es ρ st).bind _) Q X = _; rw [wr_bind]
  all_goals first | done | (with_unfolding_all rfl)
theorem w_star {Q : List Val → Store → Prop} : wr (evs cl (.star a es) ρ st) Q X = wr (ev cl a ρ st) (fun v st1 => wr (match seqOf st1 v with | some ws => (evs cl es ρ st1).bind fun vs st2 => .ok (ws ++ vs) st2 | none => .stuck) Q X) X := by
  show wr ((ev cl a ρ st).bind _) Q X = _; rw [wr_bind]
  all_goals first | done | (with_unfolding_all rfl)
theorem w_blt {f : Bf} : wr (ev cl (.blt f es) ρ st) Q X = wr (evs cl es ρ st) (fun vs st1 => wr (liftO (bltV f vs st1)) Q X) X := by
  show wr ((evs cl es ρ st).bind _) Q X = _; rw [wr_bind]
  all_goals first | done | (with_unfolding_all rfl)
theorem w_mth {m : Mf} : wr (ev cl (.mth m a es) ρ st) Q X = wr (ev cl a ρ st) (fun v st1 => if rcv m v st1 then wr (evs cl es ρ st1) (fun vs st2 => wr (liftO (mthV m v vs st2)) Q X) X else False) X := by
  show wr ((ev cl a ρ st).bind _) Q X = _; rw [wr_bind]; simp only [wr_ite, wr_bind, wr_stuck]
  all_goals first | done | (with_unfolding_all rfl)
theorem w_idx : wr (ev cl (.idx a b) ρ st) Q X = wr (ev cl a ρ st) (fun v st1 => wr (ev cl b ρ st1) (fun u st2 => wr (liftO ((idxV st2 v u).map fun w => (w, st2))) Q X) X) X := by
  show wr ((ev cl a ρ st).bind _) Q X = _; rw [wr_bind]; simp only [wr_bind]
  all_goals first | done | (with_unfolding_all rfl)
theorem w_slc {l h : Exo} : wr (ev cl (.slc a l h) ρ st) Q X = wr (ev cl a ρ st) (fun v st1 => wr (evo cl l ρ st1) (fun l st2 => wr (evo cl h ρ st2) (fun h st3 => wr (liftO (slcV v l h st3)) Q X) X) X) X := by
  show wr ((ev cl a ρ st).bind _) Q X = _; rw [wr_bind]; simp only [wr_bind]
  all_goals first | done | (with_unfolding_all rfl)
theorem w_lst : wr (ev cl (.lst es) ρ st) Q X = wr (evs cl es ρ st) (fun vs st1 => wr (liftO (allocL st1 vs)) Q X) X := by
  show wr ((evs cl es ρ st).bind _) Q X = _; rw [wr_bind]
  all_goals first | done | (with_unfolding_all rfl)
theorem w_tup : wr (ev cl (.tup es) ρ st) Q X = wr (evs cl es ρ st) (fun vs st1 => if lineOk vs.length then Q (.tup vs) st1 else False) X := by
  show wr ((evs cl es ρ st).bind _) Q X = _; rw [wr_bind]; simp only [wr_ite, wr_ok, wr_stuck]
  all_goals first | done | (with_unfolding_all rfl)
theorem w_tab {kvs : List (Str × Val)} : wr (ev cl (.tab kvs a) ρ st) Q X = wr (ev cl a ρ st) (fun v st1 => wr (match v with
    | .str z => (match kvs.lookup z with | some u => .ok u st1 | none => .stuck)
    | _ => .stuck) Q X) X := by
  show wr ((ev cl a ρ st).bind _) Q X = _; rw [wr_bind]
  all_goals first | done | (with_unfolding_all rfl)
theorem w_tin {neg : Bool} {kvs : List (Str × Val)} : wr (ev cl (.tin neg kvs a) ρ st) Q X = wr (ev cl a ρ st) (fun v st1 => wr (match v with
    | .str z => .ok (.bl (neg != (kvs.lookup z).isSome)) st1
    | _ => .stuck) Q X) X := by
  show wr ((ev cl a ρ st).bind _) Q X = _; rw [wr_bind]
  all_goals first | done | (with_unfolding_all rfl)
theorem w_dnew : wr (ev cl .dnew ρ st) Q X = Q (.ref st.length) (st ++ [.dct []]) := by with_unfolding_all exact id rfl
theorem w_rev : wr (ev cl (.rev a) ρ st) Q X = wr (ev cl a ρ st) (fun v st1 => wr (liftO (revV v st1)) Q X) X := by
  show wr ((ev cl a ρ st).bind _) Q X = _; rw [wr_bind]
  all_goals first | done | (with_unfolding_all rfl)
theorem w_lc {tg : Tg} {it : Ir} {ifs : Txo} {own : List Nat} : wr (ev cl (.lc a tg it ifs own) ρ st) Q X = wr (evI cl it ρ st) (fun w st1 => wr (lcTurns tg.give (evTs cl ifs) (ev cl a) w (wipeF ρ own) st1.length w.len 0 (st1 ++ [.lst []])) Q X) X := by
  show wr ((evI cl it ρ st).bind _) Q X = _; rw [wr_bind]
  all_goals first | done | (with_unfolding_all rfl)
theorem w_lsc {tg : Tg} {it : Ir} {ifs : Txo} {own : List Nat} : wr (ev cl (.lsc a tg it ifs own) ρ st) Q X = wr (evI cl it ρ st) (fun w st1 => wr (scTurns tg.give (evTs cl ifs) (ev cl a) w (wipeF ρ own) w.len 0 st1 []) Q X) X := by
  show wr ((evI cl it ρ st).bind _) Q X = _; rw [wr_bind]
  all_goals first | done | (with_unfolding_all rfl)
theorem w_dc {tg : Tg} {it : Ir} {ifs : Txo} {own : List Nat} : wr (ev cl (.dc a b tg it ifs own) ρ st) Q X = wr (evI cl it ρ st) (fun w st1 => wr (dcTurns tg.give (evTs cl ifs) (ev cl a) (ev cl b) w (wipeF ρ own) st1.length w.len 0 (st1 ++ [.dct []])) Q X) X := by
  show wr ((evI cl it ρ st).bind _) Q X = _; rw [wr_bind]
  all_goals first | done | (with_unfolding_all rfl)
theorem w_disp {ks : List Str} : wr (ev cl (.disp ks es) ρ st) Q X = wr (evs cl es ρ (st ++ [.dct []])) (fun vs st1 => wr (match st1[st.length]? with
    | some (.dct []) => if decide (vs.length = ks.length ∧ ks.length ≤ 15) then Res.ok (Val.ref st.length) (st1.set st.length (.dct (mergeKV [] ((ks.map Sum.inr).zip vs)))) else .stuck
    | _ => .stuck) Q X) X := by
  show wr ((evs cl es ρ (st ++ [.dct []])).bind _) Q X = _; rw [wr_bind]
  all_goals first | done | (with_unfolding_all rfl)
theorem w_get {d : Ex} : wr (ev cl (.get a b d) ρ st) Q X = wr (ev cl a ρ st) (fun v st1 => wr (match v with
    | .ref n => (match st1[n]? with
      | some (.dct _) => (ev cl b ρ st1).bind fun y st2 => (ev cl d ρ st2).bind fun z st3 => match st3[n]? with
        | some (.dct kvs) => (match keyOf y with
          | some kk => Res.ok (((kvs.find? fun kv => decide (kv.1 = kk)).map (·.2)).getD z) st3
          | none => .stuck)
        | _ => .stuck
      | _ => .stuck)
    | _ => .stuck) Q X) X := by
  show wr ((ev cl a ρ st).bind _) Q X = _; rw [wr_bind]
  all_goals first | done | (with_unfolding_all rfl)
theorem w_fld {c : Nat} {f : Str} : wr (ev cl (.fld c a f) ρ st) Q X = wr (ev cl a ρ st) (fun v st1 => wr (match insAt c v st1 with
    | some fs => (match fs.lookup f with
      | some w => Res.ok w st1
      | none => .stuck)
    | none => .stuck) Q X) X := by
  show wr ((ev cl a ρ st).bind _) Q X = _; rw [wr_bind]
  all_goals first | done | (with_unfolding_all rfl)
theorem w_mk {c id : Nat} : wr (ev cl (.mk c id es) ρ st) Q X = wr (evs cl es ρ st) (fun vs st1 => wr (cl id (.ref st1.length :: vs) (st1 ++ [.ins c []])) (fun v st2 => v = .non ∧ Q (.ref st1.length) st2) noX) X := by
  have key : ∀ (v : Val) (n : Nat) (s : Store), wr (match v with | .non => Res.ok (Val.ref n) s | _ => .stuck) Q X = (v = .non ∧ Q (.ref n) s) := by
    intro v n s
    cases v
    case non => rw [show (match Val.non with | .non => Res.ok (Val.ref n) s | _ => .stuck) = Res.ok (Val.ref n) s from rfl, wr_ok]; exact propext ⟨fun h => ⟨rfl, h⟩, fun h => h.2⟩
    all_goals exact propext ⟨fun h => by with_unfolding_all exact (show False from h).elim, fun h => by cases h.1⟩
  show wr ((evs cl es ρ st).bind _) Q X = _
  rw [wr_bind]
  congr 1
  funext vs st1
  show wr ((cl id (.ref st1.length :: vs) (st1 ++ [.ins c []])).quiet.bind _) Q X = _
  rw [wr_bind, wr_quiet]
  congr 1
  funext v st2
  exact key v st1.length st2
theorem w_meth {c id : Nat} {m : Str} : wr (ev cl (.meth c id m a es) ρ st) Q X = wr (ev cl a ρ st) (fun v st1 => wr (match insAt c v st1 with
    | some fs => if (fs.lookup m).isNone then (evs cl es ρ st1).bind fun vs st2 => (cl id (v :: vs) st2).quiet else .stuck
    | none => .stuck) Q X) X := by
  show wr ((ev cl a ρ st).bind _) Q X = _; rw [wr_bind]
  all_goals first | done | (with_unfolding_all rfl)
theorem w_prop {c id : Nat} : wr (ev cl (.prop c id a) ρ st) Q X = wr (ev cl a ρ st) (fun v st1 => wr (match insAt c v st1 with
    | some _ => (cl id [v] st1).quiet
    | none => .stuck) Q X) X := by
  show wr ((ev cl a ρ st).bind _) Q X = _; rw [wr_bind]
  all_goals first | done | (with_unfolding_all rfl)
theorem w_nil {Q : List Val → Store → Prop} : wr (evs cl .nil ρ st) Q X = Q [] st := by with_unfolding_all exact id rfl
theorem w_cons {Q : List Val → Store → Prop} : wr (evs cl (.cons a es) ρ st) Q X = wr (ev cl a ρ st) (fun v st1 => wr (evs cl es ρ st1) (fun vs st2 => Q (v :: vs) st2) X) X := by
  show wr ((ev cl a ρ st).bind _) Q X = _; rw [wr_bind]; simp only [wr_bind, wr_ok]
  all_goals first | done | (with_unfolding_all rfl)
theorem w_onone {Q : Option Int → Store → Prop} : wr (evo cl .none ρ st) Q X = Q none st := by with_unfolding_all exact id rfl
theorem w_osome {Q : Option Int → Store → Prop} : wr (evo cl (.some a) ρ st) Q X = wr (ev cl a ρ st) (fun v st1 => wr (match v with | .int i => .ok (some i) st1 | _ => .stuck) Q X) X := by
  show wr ((ev cl a ρ st).bind _) Q X = _; rw [wr_bind]
  all_goals first | done | (with_unfolding_all rfl)
theorem w_tnone {Q : Bool → Store → Prop} : wr (evTs cl .none ρ st) Q X = Q true st := by with_unfolding_all exact id rfl
theorem w_tsome {Q : Bool → Store → Prop} : wr (evTs cl (.some t) ρ st) Q X = wr (evT cl t ρ st) Q X := by with_unfolding_all exact id rfl
theorem w_tnot {Q : Bool → Store → Prop} : wr (evT cl (.not t) ρ st) Q X = wr (evT cl t ρ st) (fun b st1 => Q (!b) st1) X := by
  show wr ((evT cl t ρ st).bind _) Q X = _; rw [wr_bind]; all_goals first | done | (with_unfolding_all rfl)
theorem w_tand {Q : Bool → Store → Prop} : wr (evT cl (.and t u) ρ st) Q X = wr (evT cl t ρ st) (fun k st1 => if k then wr (evT cl u ρ st1) Q X else Q false st1) X := by
  show wr ((evT cl t ρ st).bind _) Q X = _; rw [wr_bind]; simp only [wr_ite, wr_ok]
  all_goals first | done | (with_unfolding_all rfl)
theorem w_tor {Q : Bool → Store → Prop} : wr (evT cl (.or t u) ρ st) Q X = wr (evT cl t ρ st) (fun k st1 => if k then Q true st1 else wr (evT cl u ρ st1) Q X) X := by
  show wr ((evT cl t ρ st).bind _) Q X = _; rw [wr_bind]; simp only [wr_ite, wr_ok]
  all_goals first | done | (with_unfolding_all rfl)
theorem w_tval {Q : Bool → Store → Prop} : wr (evT cl (.val a) ρ st) Q X = wr (ev cl a ρ st) (fun v st1 => wr (match truV st1 v with | some b => .ok b st1 | none => .stuck) Q X) X := by
  show wr ((ev cl a ρ st).bind _) Q X = _; rw [wr_bind]
  all_goals first | done | (with_unfolding_all rfl)
theorem w_iex {Q : Wk → Store → Prop} : wr (evI cl (.ex a) ρ st) Q X = wr (ev cl a ρ st) (fun v st1 => wr (match wkOf st1 v with | some w => .ok w st1 | none => .stuck) Q X) X := by
  show wr ((ev cl a ρ st).bind _) Q X = _; rw [wr_bind]
  all_goals first | done | (with_unfolding_all rfl)
theorem w_irng1 {Q : Wk → Store → Prop} : wr (evI cl (.rng1 a) ρ st) Q X = wr (ev cl a ρ st) (fun v st1 => wr (match v with | .int j => if rngOk j then .ok (.rng 0 j.toNat) st1 else .stuck | _ => .stuck) Q X) X := by
  show wr ((ev cl a ρ st).bind _) Q X = _; rw [wr_bind]
  all_goals first | done | (with_unfolding_all rfl)
theorem w_irng2 {Q : Wk → Store → Prop} : wr (evI cl (.rng2 a b) ρ st) Q X = wr (ev cl a ρ st) (fun v st1 => wr (ev cl b ρ st1) (fun u st2 => wr (match v, u with | .int i, .int j => if rngOk i && rngOk j then .ok (.rng i (j - i).toNat) st2 else .stuck | _, _ => .stuck) Q X) X) X := by
  show wr ((ev cl a ρ st).bind _) Q X = _; rw [wr_bind]; simp only [wr_bind]
  all_goals first | done | (with_unfolding_all rfl)
theorem w_irng3 {Q : Wk → Store → Prop} : wr (evI cl (.rng3 a b c) ρ st) Q X = wr (ev cl a ρ st) (fun v st1 => wr (ev cl b ρ st1) (fun u st2 => wr (ev cl c ρ st2) (fun w st3 => wr (match v, u, w with
    | .int i, .int j, .int c => if decide (c ≠ 0 ∧ c.natAbs < 1073741824 ∧ 0 ≤ Builtin.Range.rangeSize i j c) && Builtin.Range.small i j c then .ok (.rngc i c (Builtin.Range.rangeSize i j c).toNat) st3 else .stuck
    | _, _, _ => .stuck) Q X) X) X) X := by
  show wr ((ev cl a ρ st).bind _) Q X = _; rw [wr_bind]; simp only [wr_bind]
  all_goals first | done | (with_unfolding_all rfl)
theorem w_izip {Q : Wk → Store → Prop} : wr (evI cl (.zip2 a b) ρ st) Q X = wr (ev cl a ρ st) (fun v st1 => wr (ev cl b ρ st1) (fun u st2 => wr (match zipOf st2 v u with | some w => .ok w st2 | none => .stuck) Q X) X) X := by
  show wr ((ev cl a ρ st).bind _) Q X = _; rw [wr_bind]; simp only [wr_bind]
  all_goals first | done | (with_unfolding_all rfl)
/-! statements -/
theorem w_run {n : Nat} {body : List Sx} {vs : List Val} : wr (runB cl n body vs st) Q X = wo (exs cl body (vs.map some ++ List.replicate (n - vs.length) none) st) ⟨fun _ st => Q .non st, Q, fun _ _ => False, fun _ _ => False, fun c v _ st => X c v st⟩ := by
  unfold runB
  cases exs cl body (vs.map some ++ List.replicate (n - vs.length) none) st <;> (with_unfolding_all rfl)
theorem w_snil : wo (exs cl [] ρ st) D = D.nx ρ st := by with_unfolding_all exact id rfl
theorem w_scons {s : Sx} {ss : List Sx} : wo (exs cl (s :: ss) ρ st) D = wo (ex cl s ρ st) { D with nx := fun ρ1 st1 => wo (exs cl ss ρ1 st1) D } := by
  show wo (match ex cl s ρ st with | .next ρ1 st1 => exs cl ss ρ1 st1 | o => o) D = _
  cases ex cl s ρ st <;> (with_unfolding_all rfl)
theorem w_set {i : Nat} : wo (ex cl (.set i a) ρ st) D = wr (ev cl a ρ st) (fun v st1 => D.nx (ρ.set i (some v)) st1) (fun c v st => D.ec c v ρ st) := by
  show wo ((ev cl a ρ st).out ρ _) D = _; rw [wo_out]; all_goals first | done | (with_unfolding_all rfl)
theorem w_unp {is : List Nat} : wo (ex cl (.unp is a) ρ st) D = wr (ev cl a ρ st) (fun v st1 => wo (match (Tg.tp is).give v ρ st1 with | some ρ' => .next ρ' st1 | none => .stuck) D) (fun c v st => D.ec c v ρ st) := by
  show wo ((ev cl a ρ st).out ρ _) D = _; rw [wo_out]
  all_goals first | done | (with_unfolding_all rfl)
theorem w_seti : wo (ex cl (.seti a b c) ρ st) D = wr (ev cl c ρ st) (fun v st1 => wr (ev cl a ρ st1) (fun u st2 => wr (ev cl b ρ st2) (fun w st3 => wo (match setiV u w v st3 with | some st4 => .next ρ st4 | none => .stuck) D) (fun c v st => D.ec c v ρ st)) (fun c v st => D.ec c v ρ st)) (fun c v st => D.ec c v ρ st) := by
  show wo ((ev cl c ρ st).out ρ _) D = _; rw [wo_out]; simp only [wo_out]
  all_goals first | done | (with_unfolding_all rfl)
theorem w_wh {n : Nat} {c : Tx} {bd : List Sx} : wo (ex cl (.wh n c bd) ρ st) D = wo (whTurns (evT cl c) (exs cl bd) n ρ st) D := by with_unfolding_all rfl
theorem wh_succ {c : Fr → Store → Res Bool} {bd : Fr → Store → Out} {n : Nat} : wo (whTurns c bd (n + 1) ρ st) D = wr (c ρ st) (fun k st1 => if k = true then wo (bd ρ st1) { D with nx := fun ρ2 st2 => wo (whTurns c bd n ρ2 st2) D, ct := fun ρ2 st2 => wo (whTurns c bd n ρ2 st2) D, bk := D.nx } else D.nx ρ st1) (fun c v st => D.ec c v ρ st) := by
  show wo (match c ρ st with
    | .ok k st1 => if k then (match bd ρ st1 with
        | .next ρ2 st2 => whTurns c bd n ρ2 st2
        | .cnt ρ2 st2 => whTurns c bd n ρ2 st2
        | .brk ρ2 st2 => .next ρ2 st2
        | o => o) else .next ρ st1
    | .exc d v st1 => .exc d v ρ st1
    | .stuck => .stuck) D = _
  cases c ρ st with
  | ok k st1 => cases k with
    | true =>
      rw [wr_ok, if_pos rfl]
      dsimp only
      rw [if_pos rfl]
      cases bd ρ st1 <;> with_unfolding_all rfl
    | false => with_unfolding_all rfl
  | exc d v st1 => with_unfolding_all rfl
  | stuck => with_unfolding_all rfl
theorem w_setf {c : Nat} {f : Str} : wo (ex cl (.setf c a f b) ρ st) D = wr (ev cl b ρ st) (fun v st1 => wr (ev cl a ρ st1) (fun u st2 => wo (match u with
    | .ref n => (match insAt c u st2 with
      | some fs => if decide (fs.length < 1000) then Out.next ρ (st2.set n (.ins c (putFV f v fs))) else .stuck
      | none => .stuck)
    | _ => .stuck) D) (fun c v st => D.ec c v ρ st)) (fun c v st => D.ec c v ρ st) := by
  show wo ((ev cl b ρ st).out ρ _) D = _; rw [wo_out]; simp only [wo_out]
  all_goals first | done | (with_unfolding_all rfl)
theorem w_exp : wo (ex cl (.exp a) ρ st) D = wr (ev cl a ρ st) (fun _ st1 => D.nx ρ st1) (fun c v st => D.ec c v ρ st) := by
  show wo ((ev cl a ρ st).out ρ _) D = _; rw [wo_out]; all_goals first | done | (with_unfolding_all rfl)
theorem w_ret : wo (ex cl (.ret a) ρ st) D = wr (ev cl a ρ st) (fun v st1 => D.rt v st1) (fun c v st => D.ec c v ρ st) := by
  show wo ((ev cl a ρ st).out ρ _) D = _; rw [wo_out]; all_goals first | done | (with_unfolding_all rfl)
theorem w_retn : wo (ex cl .retn ρ st) D = D.rt .non st := by with_unfolding_all exact id rfl
theorem w_pass : wo (ex cl .pass ρ st) D = D.nx ρ st := by with_unfolding_all exact id rfl
theorem w_ifs {p q : List Sx} : wo (ex cl (.ite t p q) ρ st) D = wr (evT cl t ρ st) (fun k st1 => if k then wo (exs cl p ρ st1) D else wo (exs cl q ρ st1) D) (fun c v st => D.ec c v ρ st) := by
  show wo ((evT cl t ρ st).out ρ _) D = _; rw [wo_out]; simp only [wo_ite]
  all_goals first | done | (with_unfolding_all rfl)
theorem w_loop {tg : Tg} {it : Ir} {body : List Sx} : wo (ex cl (.loop tg it body) ρ st) D = wr (evI cl it ρ st) (fun w st1 => wo (forTurns tg.give (exs cl body) w w.len 0 ρ st1) D) (fun c v st => D.ec c v ρ st) := by
  show wo ((evI cl it ρ st).out ρ _) D = _; rw [wo_out]
  all_goals first | done | (with_unfolding_all rfl)
theorem w_loopd {tg : Tg} {body : List Sx} {n : Nat} {kvs : List (Key × Val)} (h1 : pv ρ a = some (.ref n)) (h2 : st[n]? = some (.dct kvs))
    (h : wo (forTurns tg.give (exs cl body) (.tup (kvs.map fun kv => keyV kv.1)) kvs.length 0 ρ (st.set n (.frd kvs))) ⟨fun ρ' st' => ∃ kvs', st'[n]? = some (.frd kvs') ∧ D.nx ρ' (st'.set n (.dct kvs')), fun v st' => ∃ kvs', st'[n]? = some (.frd kvs') ∧ D.rt v (st'.set n (.dct kvs')), fun _ _ => False, fun _ _ => False, fun _ _ _ _ => False⟩) :
    wo (ex cl (.loopd tg a body) ρ st) D := by
  have e : ex cl (.loopd tg a body) ρ st = (match pv ρ a with
    | some (.ref n) => match st[n]? with
      | some (.dct kvs) => thaw n (forTurns tg.give (exs cl body) (.tup (kvs.map fun kv => keyV kv.1)) kvs.length 0 ρ (st.set n (.frd kvs)))
      | _ => .stuck
    | _ => .stuck) := rfl
  rw [e, h1]
  dsimp only
  rw [h2]
  dsimp only
  revert h
  generalize forTurns tg.give (exs cl body) (.tup (kvs.map fun kv => keyV kv.1)) kvs.length 0 ρ (st.set n (.frd kvs)) = o
  intro h
  cases o with
  | next ρ' st' =>
    obtain ⟨kvs', h3, h4⟩ : ∃ kvs', st'[n]? = some (.frd kvs') ∧ D.nx ρ' (st'.set n (.dct kvs')) := by with_unfolding_all exact h
    have et : thawS n st' = some (st'.set n (.dct kvs')) := by unfold thawS; rw [h3]
    show wo (match thawS n st' with | some st' => .next ρ' st' | none => .stuck) D
    rw [et]
    with_unfolding_all exact h4
  | ret v st' =>
    obtain ⟨kvs', h3, h4⟩ : ∃ kvs', st'[n]? = some (.frd kvs') ∧ D.rt v (st'.set n (.dct kvs')) := by with_unfolding_all exact h
    have et : thawS n st' = some (st'.set n (.dct kvs')) := by unfold thawS; rw [h3]
    show wo (match thawS n st' with | some st' => .ret v st' | none => .stuck) D
    rw [et]
    with_unfolding_all exact h4
  | brk _ _ => exact False.elim (by with_unfolding_all exact h)
  | cnt _ _ => exact False.elim (by with_unfolding_all exact h)
  | exc _ _ _ _ => exact False.elim (by with_unfolding_all exact h)
  | stuck => exact False.elim (by with_unfolding_all exact h)
theorem w_rais {k : Nat} : wo (ex cl (.rais k a) ρ st) D = wr (ev cl a ρ st) (fun v st1 => D.ec k v ρ st1) (fun c v st => D.ec c v ρ st) := by
  show wo ((ev cl a ρ st).out ρ _) D = _; rw [wo_out]; all_goals first | done | (with_unfolding_all rfl)
theorem w_try {body suite : List Sx} {hs ns : List Nat} : wo (ex cl (.tryo body hs ns suite) ρ st) D = wo (exs cl body ρ st) { D with ec := fun c v ρ1 st1 => if hs.contains c then wo (exs cl suite ρ1 st1) D else if ns.contains c then D.ec c v ρ1 st1 else False } := by
  have e : ex cl (.tryo body hs ns suite) ρ st = (match exs cl body ρ st with
    | .exc c v ρ1 st1 => if hs.contains c then exs cl suite ρ1 st1 else if ns.contains c then .exc c v ρ1 st1 else .stuck
    | o => o) := rfl
  rw [e]
  cases exs cl body ρ st with
  | exc c v ρ1 st1 =>
    with_unfolding_all show wo (if hs.contains c then exs cl suite ρ1 st1 else if ns.contains c then .exc c v ρ1 st1 else .stuck) D = (if hs.contains c then wo (exs cl suite ρ1 st1) D else if ns.contains c then D.ec c v ρ1 st1 else False)
    rw [wo_ite, wo_ite]
    (with_unfolding_all rfl)
  | _ => (with_unfolding_all rfl)
end
/-! ### loops -/
section
variable {cl : Cl} {ρ : Fr} {st : Store} {D : En}
theorem fT_zero {g : Val → Fr → Store → Option Fr} {body : Fr → Store → Out} {w : Wk} {i : Nat} : forTurns g body w 0 i ρ st = if w.fits st then .next ρ st else .stuck := rfl
theorem fT_succ {g : Val → Fr → Store → Option Fr} {body : Fr → Store → Out} {w : Wk} {r i : Nat} {v : Val} {ρ' : Fr} (h1 : w.item st i = some v) (h2 : g v ρ st = some ρ') : forTurns g body w (r + 1) i ρ st = (match body ρ' st with
    | .next ρ2 st2 => forTurns g body w r (i + 1) ρ2 st2
    | .cnt ρ2 st2 => forTurns g body w r (i + 1) ρ2 st2
    | .brk ρ2 st2 => .next ρ2 st2
    | o => o) := by
  have e : forTurns g body w (r + 1) i ρ st = (match w.item st i with
    | none => .stuck
    | some v => match g v ρ st with
      | none => .stuck
      | some ρ' => match body ρ' st with
        | .next ρ2 st2 => forTurns g body w r (i + 1) ρ2 st2
        | .cnt ρ2 st2 => forTurns g body w r (i + 1) ρ2 st2
        | .brk ρ2 st2 => .next ρ2 st2
        | o => o) := rfl
  rw [e, h1]
  show (match g v ρ st with
      | none => Out.stuck
      | some ρ' => match body ρ' st with
        | .next ρ2 st2 => forTurns g body w r (i + 1) ρ2 st2
        | .cnt ρ2 st2 => forTurns g body w r (i + 1) ρ2 st2
        | .brk ρ2 st2 => .next ρ2 st2
        | o => o) = _
  rw [h2]
theorem for_of {g : Val → Fr → Store → Option Fr} {body : Fr → Store → Out} {w : Wk} {n : Nat} (hw : w.len = n) (I : Nat → Fr → Store → Prop) (hs : ∀ i ρ st, i < n → I i ρ st → ∃ v ρ', w.item st i = some v ∧ g v ρ st = some ρ' ∧ wo (body ρ' st) { D with nx := I (i + 1), ct := I (i + 1), bk := D.nx })
    (hd : ∀ ρ st, I n ρ st → w.fits st = true ∧ D.nx ρ st) (r : Nat) : ∀ (i : Nat) (ρ : Fr) (st : Store), i + r = n → I i ρ st → wo (forTurns g body w r i ρ st) D := by
  induction r with
  | zero =>
    intro i ρ st e h
    have e' : i = n := by omega
    subst e'
    obtain ⟨h1, h2⟩ := hd ρ st h
    rw [fT_zero, if_pos h1]
    with_unfolding_all exact h2
  | succ r ih =>
    intro i ρ st e h
    obtain ⟨v, ρ', h1, h2, h3⟩ := hs i ρ st (by omega) h
    rw [fT_succ h1 h2]
    revert h3
    generalize body ρ' st = o
    intro h3
    cases o with
    | next ρ2 st2 => with_unfolding_all exact ih (i + 1) ρ2 st2 (by omega) h3
    | cnt ρ2 st2 => with_unfolding_all exact ih (i + 1) ρ2 st2 (by omega) h3
    | brk ρ2 st2 => with_unfolding_all exact h3
    | ret v st2 => with_unfolding_all exact h3
    | exc c v ρ2 st2 => with_unfolding_all exact h3
    | stuck => with_unfolding_all exact h3
theorem for_rng {g : Val → Fr → Store → Option Fr} {body : Fr → Store → Out} {lo : Int} {n : Nat} (I : Nat → Fr → Store → Prop) (h0 : I 0 ρ st) (hs : ∀ i ρ st, i < n → I i ρ st → ∃ ρ', g (.int (lo + (i : Int))) ρ st = some ρ' ∧ wo (body ρ' st) { D with nx := I (i + 1), ct := I (i + 1), bk := D.nx })
    (hd : ∀ ρ st, I n ρ st → D.nx ρ st) : wo (forTurns g body (.rng lo n) n 0 ρ st) D :=
  for_of (w := .rng lo n) (n := n) rfl I (fun i ρ st hi h => let ⟨ρ', h1, h2⟩ := hs i ρ st hi h; ⟨_, ρ', rfl, h1, h2⟩) (fun ρ st h => ⟨rfl, hd ρ st h⟩) n 0 ρ st (Nat.zero_add n) h0
theorem for_tup {g : Val → Fr → Store → Option Fr} {body : Fr → Store → Out} {vs : List Val} (I : Nat → Fr → Store → Prop) (h0 : I 0 ρ st) (hs : ∀ i v ρ st, vs[i]? = some v → I i ρ st → ∃ ρ', g v ρ st = some ρ' ∧ wo (body ρ' st) { D with nx := I (i + 1), ct := I (i + 1), bk := D.nx })
    (hd : ∀ ρ st, I vs.length ρ st → D.nx ρ st) : wo (forTurns g body (.tup vs) vs.length 0 ρ st) D :=
  for_of (w := .tup vs) (n := vs.length) rfl I (fun i ρ st hi h => by
    have e : vs[i]? = some vs[i] := List.getElem?_eq_getElem hi
    obtain ⟨ρ', h1, h2⟩ := hs i _ ρ st e h
    exact ⟨_, ρ', e, h1, h2⟩) (fun ρ st h => ⟨rfl, hd ρ st h⟩) vs.length 0 ρ st (Nat.zero_add _) h0
theorem item_lst {m k i : Nat} {vs : List Val} {v : Val} (hk : vs.length = k) (hl : lstAt st m = some vs) (e : vs[i]? = some v) : (Wk.lst m k).item st i = some v := by
  show (match lstAt st m with | some vs => if vs.length = k then vs[i]? else none | none => none) = _
  rw [hl]
  show (if vs.length = k then vs[i]? else none) = _
  rw [if_pos hk, e]
theorem fits_lst {m k : Nat} {vs : List Val} (hk : vs.length = k) (hl : lstAt st m = some vs) : (Wk.lst m k).fits st = true := by
  show (match lstAt st m with | some vs => decide (vs.length = k) | none => false) = true
  rw [hl]
  exact decide_eq_true hk
theorem for_lst {g : Val → Fr → Store → Option Fr} {body : Fr → Store → Out} {m k : Nat} (vs : List Val) (hk : vs.length = k) (I : Nat → Fr → Store → Prop) (h0 : I 0 ρ st) (hl : ∀ i ρ st, I i ρ st → lstAt st m = some vs)
    (hs : ∀ i v ρ st, vs[i]? = some v → I i ρ st → ∃ ρ', g v ρ st = some ρ' ∧ wo (body ρ' st) { D with nx := I (i + 1), ct := I (i + 1), bk := D.nx }) (hd : ∀ ρ st, I k ρ st → D.nx ρ st) : wo (forTurns g body (.lst m k) k 0 ρ st) D :=
  for_of (w := .lst m k) (n := k) rfl I (fun i ρ st hi h => by
    have e : vs[i]? = some (vs[i]'(by rw [hk]; exact hi)) := List.getElem?_eq_getElem (by rw [hk]; exact hi)
    obtain ⟨ρ', h1, h2⟩ := hs i _ ρ st e h
    exact ⟨_, ρ', item_lst hk (hl i ρ st h) e, h1, h2⟩) (fun ρ st h => ⟨fits_lst hk (hl k ρ st h), hd ρ st h⟩) k 0 ρ st (Nat.zero_add _) h0
theorem lT_zero {g : Val → Fr → Store → Option Fr} {tt : Fr → Store → Res Bool} {el : Fr → Store → Res Val} {w : Wk} {Dx i : Nat} : lcTurns g tt el w ρ Dx 0 i st = if w.fits st then .ok (.ref Dx) st else .stuck := rfl
theorem lT_succ {g : Val → Fr → Store → Option Fr} {tt : Fr → Store → Res Bool} {el : Fr → Store → Res Val} {w : Wk} {Dx r i : Nat} {v : Val} {ρ' : Fr} (h1 : w.item st i = some v) (h2 : g v ρ st = some ρ') : lcTurns g tt el w ρ Dx (r + 1) i st =
    (tt ρ' st).quiet.bind fun b st1 => if b then (el ρ' st1).quiet.bind fun y st2 => match mutAt st2 Dx with
      | some acc => if decide (acc.length < 16777216) then lcTurns g tt el w ρ Dx r (i + 1) (st2.set Dx (.lst (acc ++ [y]))) else .stuck
      | none => .stuck
    else lcTurns g tt el w ρ Dx r (i + 1) st1 := by
  have e : lcTurns g tt el w ρ Dx (r + 1) i st = (match w.item st i with
    | none => .stuck
    | some v => match g v ρ st with
      | none => .stuck
      | some ρ' => (tt ρ' st).quiet.bind fun b st1 => if b then (el ρ' st1).quiet.bind fun y st2 => match mutAt st2 Dx with
          | some acc => if decide (acc.length < 16777216) then lcTurns g tt el w ρ Dx r (i + 1) (st2.set Dx (.lst (acc ++ [y]))) else .stuck
          | none => .stuck
        else lcTurns g tt el w ρ Dx r (i + 1) st1) := rfl
  rw [e, h1]
  show (match g v ρ st with
      | none => Res.stuck
      | some ρ' => (tt ρ' st).quiet.bind fun b st1 => if b then (el ρ' st1).quiet.bind fun y st2 => match mutAt st2 Dx with
          | some acc => if decide (acc.length < 16777216) then lcTurns g tt el w ρ Dx r (i + 1) (st2.set Dx (.lst (acc ++ [y]))) else .stuck
          | none => .stuck
        else lcTurns g tt el w ρ Dx r (i + 1) st1) = _
  rw [h2]
/-- a comprehension: the invariant of turn, store, what is gathered -/
theorem lc_of {g : Val → Fr → Store → Option Fr} {tt : Fr → Store → Res Bool} {el : Fr → Store → Res Val} {w : Wk} {n Dx : Nat} {Q : Val → Store → Prop} {X : Nat → Val → Store → Prop} (hw : w.len = n) (I : Nat → Store → List Val → Prop)
    (hs : ∀ i st acc, i < n → I i st acc → ∃ v ρ', w.item st i = some v ∧ g v ρ st = some ρ' ∧ wr (tt ρ' st) (fun b st1 => if b = true then wr (el ρ' st1) (fun y st2 => mutAt st2 Dx = some acc ∧ acc.length < 16777216 ∧ I (i + 1) (st2.set Dx (.lst (acc ++ [y]))) (acc ++ [y])) noX else I (i + 1) st1 acc) noX)
    (hd : ∀ st acc, I n st acc → w.fits st = true ∧ Q (.ref Dx) st) (r : Nat) : ∀ (i : Nat) (st : Store) (acc : List Val), i + r = n → I i st acc → wr (lcTurns g tt el w ρ Dx r i st) Q X := by
  induction r with
  | zero =>
    intro i st acc e h
    have e' : i = n := by omega
    subst e'
    obtain ⟨h1, h2⟩ := hd st acc h
    rw [lT_zero, if_pos h1]
    with_unfolding_all exact h2
  | succ r ih =>
    intro i st acc e h
    obtain ⟨v, ρ', h1, h2, h3⟩ := hs i st acc (by omega) h
    rw [lT_succ h1 h2, wr_bind, wr_quiet]
    refine wr_mono h3 (fun b st1 q => ?_) fun _ _ _ z => z.elim
    cases b with
    | false => exact ih (i + 1) st1 acc (by omega) q
    | true =>
      show wr ((el ρ' st1).quiet.bind _) Q X
      rw [wr_bind, wr_quiet]
      refine wr_mono (show wr (el ρ' st1) _ noX from q) (fun y st2 q2 => ?_) fun _ _ _ z => z.elim
      obtain ⟨q3, q4, q5⟩ := q2
      rw [q3]
      show wr (if decide (acc.length < 16777216) = true then _ else _) Q X
      rw [if_pos (decide_eq_true q4)]
      exact ih (i + 1) _ _ (by omega) q5
end
/-! ### stores -/
section
variable {st0 st st' : Store} {n : Nat} {o : Ob}
theorem pre_rfl : st <+: st := List.prefix_refl _
theorem pre_app (h : st0 <+: st) (x : Store) : st0 <+: st ++ x := h.trans (List.prefix_append _ _)
theorem pre_at (h : st0 <+: st) (e : st0[n]? = some o) : st[n]? = some o := by
  obtain ⟨t, rfl⟩ := h
  rw [List.getElem?_append_left (List.getElem?_eq_some_iff.mp e).1]
  exact e
theorem pre_lst {vs : List Val} (h : st0 <+: st) (e : lstAt st0 n = some vs) : lstAt st n = some vs := by
  unfold lstAt at e ⊢
  cases q : st0[n]? with
  | none => rw [q] at e; cases e
  | some o => rw [q] at e; rw [pre_at h q]; exact e
theorem pre_set (h : st0 <+: st) (hn : st0.length ≤ n) : st0 <+: st.set n o := by
  obtain ⟨t, rfl⟩ := h
  rw [List.set_append_right _ _ hn]
  exact List.prefix_append _ _
theorem pre_len (h : st0 <+: st) : st0.length ≤ st.length := h.length_le
theorem at_new : (st ++ [o])[st.length]? = some o := by rw [List.getElem?_append_right (Nat.le_refl _), Nat.sub_self]; rfl
theorem at_set (h : n < st.length) : (st.set n o)[n]? = some o := List.getElem?_set_self h
theorem mut_new {vs : List Val} : mutAt (st ++ [.lst vs]) st.length = some vs := by unfold mutAt; rw [at_new]
theorem mut_set {vs ws : List Val} (h : mutAt st n = some vs) : mutAt (st.set n (.lst ws)) n = some ws := by
  unfold mutAt at h ⊢
  cases q : st[n]? with
  | none => rw [q] at h; cases h
  | some o => rw [at_set (List.getElem?_eq_some_iff.mp q).1]
theorem mut_lst {vs : List Val} (h : mutAt st n = some vs) : lstAt st n = some vs := by
  unfold mutAt at h; unfold lstAt
  cases q : st[n]? with
  | none => rw [q] at h; cases h
  | some o => rw [q] at h; cases o <;> first | exact h | cases h
theorem mut_pre {vs : List Val} (h : st0 <+: st) (e : mutAt st0 n = some vs) : mutAt st n = some vs := by
  unfold mutAt at e ⊢
  cases q : st0[n]? with
  | none => rw [q] at e; cases e
  | some o => rw [q] at e; rw [pre_at h q]; exact e
theorem mut_lt {vs : List Val} (h : mutAt st n = some vs) : n < st.length := by
  unfold mutAt at h
  cases q : st[n]? with
  | none => rw [q] at h; cases h
  | some o => exact (List.getElem?_eq_some_iff.mp q).1
theorem lst_lt {vs : List Val} (h : lstAt st n = some vs) : n < st.length := by
  unfold lstAt at h
  cases q : st[n]? with
  | none => rw [q] at h; cases h
  | some o => exact (List.getElem?_eq_some_iff.mp q).1
end
section
variable {g : Val → Fr → Store → Option Fr} {tt : Fr → Store → Res Bool} {el kx vx : Fr → Store → Res Val} {w : Wk} {ρ : Fr} {n Dx : Nat} {Q : Val → Store → Prop} {X : Nat → Val → Store → Prop}
/-- a set comprehension's length: the invariant of turn, store, keys -/
theorem sc_of (hw : w.len = n) (I : Nat → Store → List Key → Prop)
    (hs : ∀ i st ks, i < n → I i st ks → ∃ v ρ', w.item st i = some v ∧ g v ρ st = some ρ' ∧ wr (tt ρ' st) (fun b st1 => if b = true then wr (el ρ' st1) (fun y st2 => ∃ c, keyOf y = some c ∧ ks.length + 1 < 4096 ∧ I (i + 1) st2 (addK ks c)) noX else I (i + 1) st1 ks) noX)
    (hd : ∀ st ks, I n st ks → w.fits st = true ∧ Q (.int ks.length) st) (r : Nat) : ∀ (i : Nat) (st : Store) (ks : List Key), i + r = n → I i st ks → wr (scTurns g tt el w ρ r i st ks) Q X := by
  induction r with
  | zero =>
    intro i st ks e h
    have e' : i = n := by omega
    subst e'
    obtain ⟨h1, h2⟩ := hd st ks h
    show wr (if w.fits st then Res.ok (Val.int ks.length) st else .stuck) Q X
    rw [if_pos h1, wr_ok]
    exact h2
  | succ r ih =>
    intro i st ks e h
    obtain ⟨v, ρ', h1, h2, h3⟩ := hs i st ks (by omega) h
    unfold scTurns
    rw [h1]
    dsimp only
    rw [h2]
    dsimp only
    rw [wr_bind, wr_quiet]
    refine wr_mono h3 (fun b st1 q => ?_) fun _ _ _ z => z.elim
    cases b with
    | false => exact ih (i + 1) st1 ks (by omega) q
    | true =>
      rw [if_pos rfl]
      rw [if_pos rfl] at q
      rw [wr_bind, wr_quiet]
      refine wr_mono q (fun y st2 q2 => ?_) fun _ _ _ z => z.elim
      obtain ⟨c, hc, hl, hI⟩ := q2
      cases y with
      | int j =>
        cases hc
        dsimp only
        rw [if_pos (decide_eq_true hl)]
        exact ih (i + 1) st2 _ (by omega) hI
      | str z =>
        cases hc
        dsimp only
        rw [if_pos (decide_eq_true hl)]
        exact ih (i + 1) st2 _ (by omega) hI
      | _ => cases hc
/-- a dict comprehension: the invariant of turn, store, pairs -/
theorem dc_of (hw : w.len = n) (I : Nat → Store → List (Key × Val) → Prop)
    (hs : ∀ i st kvs, i < n → I i st kvs → ∃ v ρ', w.item st i = some v ∧ g v ρ st = some ρ' ∧ wr (tt ρ' st) (fun b st1 => if b = true then wr (kx ρ' st1) (fun y st2 => wr (vx ρ' st2) (fun z st3 => ∃ c, keyOf y = some c ∧ st3[Dx]? = some (.dct kvs) ∧ kvs.length < 16777216 ∧ I (i + 1) (st3.set Dx (.dct (putKV kvs c z))) (putKV kvs c z)) noX) noX else I (i + 1) st1 kvs) noX)
    (hd : ∀ st kvs, I n st kvs → w.fits st = true ∧ Q (.ref Dx) st) (r : Nat) : ∀ (i : Nat) (st : Store) (kvs : List (Key × Val)), i + r = n → I i st kvs → wr (dcTurns g tt kx vx w ρ Dx r i st) Q X := by
  induction r with
  | zero =>
    intro i st kvs e h
    have e' : i = n := by omega
    subst e'
    obtain ⟨h1, h2⟩ := hd st kvs h
    show wr (if w.fits st then Res.ok (Val.ref Dx) st else .stuck) Q X
    rw [if_pos h1, wr_ok]
    exact h2
  | succ r ih =>
    intro i st kvs e h
    obtain ⟨v, ρ', h1, h2, h3⟩ := hs i st kvs (by omega) h
    unfold dcTurns
    rw [h1]
    dsimp only
    rw [h2]
    dsimp only
    rw [wr_bind, wr_quiet]
    refine wr_mono h3 (fun b st1 q => ?_) fun _ _ _ z => z.elim
    cases b with
    | false => exact ih (i + 1) st1 kvs (by omega) q
    | true =>
      rw [if_pos rfl]
      rw [if_pos rfl] at q
      rw [wr_bind, wr_quiet]
      refine wr_mono q (fun y st2 q2 => ?_) fun _ _ _ z => z.elim
      rw [wr_bind, wr_quiet]
      refine wr_mono q2 (fun z st3 q3 => ?_) fun _ _ _ z => z.elim
      obtain ⟨c, hc, hD, hl, hI⟩ := q3
      rw [hc]
      dsimp only
      rw [hD]
      dsimp only
      rw [if_pos (decide_eq_true hl)]
      exact ih (i + 1) _ _ (by omega) hI
/-- a while: the invariant of the turns that are left at most -/
theorem wh_of {c : Fr → Store → Res Bool} {bd : Fr → Store → Out} {D : En} (I : Nat → Fr → Store → Prop)
    (hs : ∀ m ρ st, I m ρ st → wr (c ρ st) (fun k st1 => if k = true then wo (bd ρ st1) { D with nx := fun ρ2 st2 => ∃ m', m' < m ∧ I m' ρ2 st2, ct := fun ρ2 st2 => ∃ m', m' < m ∧ I m' ρ2 st2, bk := D.nx } else D.nx ρ st1) (fun c v st => D.ec c v ρ st)) :
    ∀ (n m : Nat) (ρ : Fr) (st : Store), m < n → I m ρ st → wo (whTurns c bd n ρ st) D
  | 0, m, ρ, st, h, _ => absurd h (Nat.not_lt_zero m)
  | n + 1, m, ρ, st, h, hI => by
    rw [wh_succ]
    refine wr_mono (hs m ρ st hI) (fun k st1 q => ?_) fun _ _ _ z => z
    cases k with
    | false => exact q
    | true =>
      rw [if_pos rfl] at q ⊢
      refine wo_mono q ?_ (fun _ _ z => z) (fun _ _ z => z) ?_ fun _ _ _ _ z => z
      · rintro ρ2 st2 ⟨m', h1, h2⟩
        exact wh_of I hs n m' ρ2 st2 (by omega) h2
      · rintro ρ2 st2 ⟨m', h1, h2⟩
        exact wh_of I hs n m' ρ2 st2 (by omega) h2
end
end EV

/-! ## EvWs -/
set_option maxRecDepth 100000
set_option maxHeartbeats 4000000
namespace EV
open PySem L2
section
variable {cl : Cl} {ρ : Fr} {st : Store} {Q : Val → Store → Prop} {X : Nat → Val → Store → Prop} {i j : Int} {n : Nat} {vs : List Val}
theorem w_varM {i : Nat} : wr (ev cl (.var i) ρ st) Q X = (match ρ[i]? with | some (some v) => Q v st | _ => False) := by
  show wr (match ρ[i]? with | some (some v) => Res.ok v st | _ => .stuck) Q X = _
  cases ρ[i]? with
  | none => with_unfolding_all rfl
  | some o => cases o <;> (with_unfolding_all rfl)
theorem wr_match_bl {k : Bool} {a b : Res Val} : wr (match (Val.bl k) with | .bl true => a | .bl false => b | _ => .stuck) Q X = if k = true then wr a Q X else wr b Q X := by cases k <;> (with_unfolding_all rfl)
/-! operations on numbers, bools -/
theorem o_add : binV .add (.int i) (.int j) st = some (.int (i + j), st) := id rfl
theorem o_sub : binV .sub (.int i) (.int j) st = some (.int (i - j), st) := id rfl
theorem o_mul : binV .mul (.int i) (.int j) st = if mulOk i j then some (.int (i * j), st) else none := id rfl
theorem o_fdiv : binV .fdiv (.int i) (.int j) st = if decide (0 < j ∧ j.natAbs.log2 < 9000) then some (.int (i / j), st) else none := id rfl
theorem o_mod : binV .mod (.int i) (.int j) st = if decide (0 < j) then some (.int (i % j), st) else none := id rfl
theorem o_pow : binV .pow (.int i) (.int j) st = if decide (0 ≤ j ∧ j ≤ 1000000 ∧ i.natAbs < 2 ^ 64) then some (.int (i ^ j.toNat), st) else none := id rfl
theorem o_neg : negV (.int i) = some (.int (-i)) := id rfl
theorem o_lt : cmpV .lt (.int i) (.int j) st = some (decide (i < j)) := id rfl
theorem o_le : cmpV .le (.int i) (.int j) st = some (decide (i ≤ j)) := id rfl
theorem o_gt : cmpV .gt (.int i) (.int j) st = some (decide (j < i)) := id rfl
theorem o_ge : cmpV .ge (.int i) (.int j) st = some (decide (j ≤ i)) := id rfl
theorem o_eq : cmpV .eq (.int i) (.int j) st = some (i == j) := id rfl
theorem o_ne : cmpV .ne (.int i) (.int j) st = some (!(i == j)) := id rfl
theorem o_eqs {x y : Str} : cmpV .eq (.str x) (.str y) st = some (x == y) := id rfl
theorem o_nes {x y : Str} : cmpV .ne (.str x) (.str y) st = some (!(x == y)) := id rfl
theorem o_tbl {b : Bool} : truV st (.bl b) = some b := id rfl
theorem o_int : bltV .int [.int i] st = some (.int i, st) := id rfl
theorem o_len (h : lstAt st n = some vs) : bltV .len [.ref n] st = some (.int vs.length, st) := by
  unfold lstAt at h
  show (match st[n]? with
    | some (.lst ws) => some (Val.int ws.length, st)
    | some (.fro ws) => some (Val.int ws.length, st)
    | some (.dct kvs) => some (.int kvs.length, st)
    | _ => none) = _
  cases e : st[n]? with
  | none => rw [e] at h; cases h
  | some o => rw [e] at h; cases o <;> first | (cases h; rfl) | cases h
theorem o_idx (h : lstAt st n = some vs) : idxV st (.ref n) (.int i) = atI vs i := by
  show (match lstAt st n with
      | some vs => atI vs i
      | none => _) = _
  rw [h]
theorem o_app {u : Val} (h : mutAt st n = some vs) : mthV .append (.ref n) [u] st = if decide (vs.length < 16777216) then some (.non, st.set n (.lst (vs ++ [u]))) else none := by
  show (match mutAt st n with
    | some ws => if decide (ws.length < 16777216) then some (Val.non, st.set n (.lst (ws ++ [u]))) else none
    | none => none) = _
  rw [h]
theorem o_isB {a b : Bool} : cmpV .isN (.bl a) (.bl b) st = some (a == b) := id rfl
theorem o_notB {a b : Bool} : cmpV .notN (.bl a) (.bl b) st = some (!(a == b)) := id rfl
theorem o_pop1 {i : Int} {k : Nat} {y : Val} (h : mutAt st n = some vs) (hk : seqIndex? i vs.length = some k) (hy : vs[k]? = some y) (hi : -2 ^ 63 ≤ i ∧ i < 2 ^ 63) : mthV .pop (.ref n) [.int i] st = some (y, st.set n (.lst (vs.eraseIdx k))) := by
  show (match mutAt st n with
    | some ws => match seqIndex? i ws.length with
      | some k => match ws[k]? with
        | some y => if decide (-2 ^ 63 ≤ i ∧ i < 2 ^ 63) then some (y, st.set n (.lst (ws.eraseIdx k))) else none
        | none => none
      | none => none
    | none => none) = _
  rw [h]
  dsimp only
  rw [hk]
  dsimp only
  rw [hy]
  dsimp only
  rw [if_pos (decide_eq_true hi)]
theorem o_rpop (h : mutAt st n = some vs) : rcv .pop (.ref n) st = true := by
  show (mutAt st n).isSome = true
  rw [h]; rfl
theorem o_rapp (h : mutAt st n = some vs) : rcv .append (.ref n) st = true := by
  show (mutAt st n).isSome = true
  rw [h]; rfl
theorem o_lst : allocL st vs = if lineOk vs.length then some (.ref st.length, st ++ [.lst vs]) else none := id rfl
theorem mulOk_l (h : -(2 ^ 64) < i ∧ i < 2 ^ 64) : mulOk i j = true := by unfold mulOk; rw [decide_eq_true h]; rfl
theorem mulOk_r (h : -(2 ^ 64) < j ∧ j < 2 ^ 64) : mulOk i j = true := by unfold mulOk; rw [decide_eq_true h, Bool.or_true]; rfl
theorem ix_at {ns : List Int} {k : Nat} {z : Int} (h : ns[k]? = some z) : atI (ns.map Val.int) (k : Int) = some (.int z) := by
  exact atI_nat (by rw [List.getElem?_map, h]; rfl)
end
theorem o_rng1 {cl : Cl} {ρ : Fr} {st : Store} {j : Int} {Q : Wk → Store → Prop} {X : Nat → Val → Store → Prop} : wr (match (Val.int j) with | .int j => if rngOk j then Res.ok (Wk.rng 0 j.toNat) st else .stuck | _ => .stuck) Q X = if rngOk j then Q (.rng 0 j.toNat) st else False := by
  show wr (if rngOk j then Res.ok (Wk.rng 0 j.toNat) st else .stuck) Q X = _
  rw [wr_ite]; with_unfolding_all rfl
theorem rng_ok {j : Int} (h : -(2 ^ 62) ≤ j ∧ j < 2 ^ 62) : rngOk j = true := decide_eq_true h
theorem fd_ok {j : Int} (h : 0 < j) (h2 : j < 2 ^ 62) : 0 < j ∧ j.natAbs.log2 < 9000 := by
  refine ⟨h, ?_⟩
  have e : j.natAbs < 2 ^ 62 := by omega
  have e0 : j.natAbs ≠ 0 := by omega
  have z : j.natAbs.log2 < 62 := (Nat.log2_lt e0).mpr e
  omega
theorem give_nm {i : Nat} {v : Val} {ρ : Fr} {st : Store} : (Tg.nm i).give v ρ st = some (ρ.set i (some v)) := id rfl
theorem len_rng {lo : Int} {k : Nat} : (Wk.rng lo k).len = k := id rfl
theorem len_lst {m k : Nat} : (Wk.lst m k).len = k := id rfl
theorem len_tup {vs : List Val} : (Wk.tup vs).len = vs.length := id rfl
theorem c_na10 : Int.natAbs 10 = 10 := id rfl
theorem w_cut {cl : Cl} {ρ : Fr} {st : Store} {D : En} {s : Sx} {ss : List Sx} (P : Fr → Store → Prop) (h : wo (ex cl s ρ st) { D with nx := P }) (k : ∀ ρ st, P ρ st → wo (exs cl ss ρ st) D) : wo (exs cl (s :: ss) ρ st) D := by
  rw [w_scons]
  exact wo_mono h k (fun _ _ z => z) (fun _ _ z => z) (fun _ _ z => z) fun _ _ _ _ z => z
theorem c_pow {k : Int} (h : 0 ≤ k ∧ k ≤ 1000000) : (0 ≤ k ∧ k ≤ 1000000 ∧ Int.natAbs 10 < 2 ^ 64) = True := by
  simp [h.1, h.2]
theorem c_180 : mulOk (10 ^ 60) (10 ^ 60) = true ∧ mulOk (10 ^ 60 * 10 ^ 60) (10 ^ 60) = true := by decide +kernel
end EV

/-! ## EvLim -/
set_option maxRecDepth 10000
set_option maxHeartbeats 400000
/-! EvLim: what lists of ints, written with + and *, come to. -/
namespace EV
open PySem L2
/-- an expression's int, by the frame alone -/
def inE (ρ : Fr) : Ex → Option Int
  | .con (.int i) => some i
  | .var i => match ρ[i]? with
    | some (some (.int k)) => some k
    | _ => none
  | .bin o a b => match inE ρ a, inE ρ b with
    | some i, some j => match o with
      | .add => some (i + j)
      | .sub => some (i - j)
      | .mul => if mulOk i j then some (i * j) else none
      | .pow => if decide (0 ≤ j ∧ j ≤ 1000000 ∧ i.natAbs < 2 ^ 64) then some (i ^ j.toNat) else none
      | _ => none
    | _, _ => none
  | .neg a => match inE ρ a with
    | some i => some (-i)
    | none => none
  | _ => none
def insE (ρ : Fr) : Exs → Option (List Int)
  | .nil => some []
  | .cons e es => match inE ρ e, insE ρ es with
    | some i, some is => some (i :: is)
    | _, _ => none
  | .star _ _ => none
def lsE (ρ : Fr) : Ex → Option (List Int)
  | .lst es => match insE ρ es with
    | some is => if lineOk is.length then some is else none
    | none => none
  | .bin .add a b => match lsE ρ a, lsE ρ b with
    | some xs, some ys => if lineOk (xs.length + ys.length) then some (xs ++ ys) else none
    | _, _ => none
  | .bin .mul a b => match lsE ρ a, inE ρ b with
    | some xs, some k => if decide (-(2 ^ 63) ≤ k ∧ k < 2 ^ 63) && lineOk (xs.length * k.toNat) then some (List.replicate k.toNat xs).flatten else none
    | _, _ => none
  | _ => none
section
variable {cl : Cl} {ρ : Fr} {st : Store}
theorem inE_ok : ∀ (e : Ex) {i : Int}, inE ρ e = some i → ev cl e ρ st = .ok (.int i) st
  | .con v, i, h => by
    cases v <;> first | (cases h; rfl) | cases h
  | .var k, i, h => by
    unfold inE at h
    show (match ρ[k]? with | some (some v) => Res.ok v st | _ => .stuck) = _
    split at h
    · rename_i e
      cases h
      rw [e]
    · cases h
  | .bin o a b, i, h => by
    unfold inE at h
    show (ev cl a ρ st).bind (fun v st1 => (ev cl b ρ st1).bind fun u st2 => liftO (binV o v u st2)) = _
    split at h
    · rename_i x y ea eb
      rw [inE_ok a ea]
      show (ev cl b ρ st).bind (fun u st2 => liftO (binV o (.int x) u st2)) = _
      rw [inE_ok b eb]
      show liftO (binV o (.int x) (.int y) st) = _
      cases o with
      | add => cases h; rfl
      | sub => cases h; rfl
      | mul =>
        rw [o_mul]
        have h : (if mulOk x y = true then some (x * y) else none) = some i := h
        split at h
        · rename_i hm
          cases h
          rw [if_pos hm]
          rfl
        · cases h
      | pow =>
        rw [o_pow]
        have h : (if decide (0 ≤ y ∧ y ≤ 1000000 ∧ x.natAbs < 2 ^ 64) = true then some (x ^ y.toNat) else none) = some i := h
        split at h
        · rename_i hm
          cases h
          rw [if_pos hm]
          rfl
        · cases h
      | fdiv => cases h
      | mod => cases h
    · cases h
  | .neg a, i, h => by
    unfold inE at h
    show (ev cl a ρ st).bind (fun v st1 => liftO ((negV v).map fun w => (w, st1))) = _
    split at h
    · rename_i x ea
      cases h
      rw [inE_ok a ea]
      rfl
    · cases h
  | .not _, _, h => by cases h
  | .and _ _, _, h => by cases h
  | .or _ _, _, h => by cases h
  | .cmp _ _ _, _, h => by cases h
  | .chain _ _ _ _ _, _, h => by cases h
  | .ife _ _ _, _, h => by cases h
  | .call _ _, _, h => by cases h
  | .callp _ _ _, _, h => by cases h
  | .tab _ _, _, h => by cases h
  | .tin _ _ _, _, h => by cases h
  | .dnew, _, h => by cases h
  | .rev _, _, h => by cases h
  | .blt _ _, _, h => by cases h
  | .mth _ _ _, _, h => by cases h
  | .fld _ _ _, _, h => by cases h
  | .mk _ _ _, _, h => by cases h
  | .meth _ _ _ _ _, _, h => by cases h
  | .prop _ _ _, _, h => by cases h
  | .lsc _ _ _ _ _, _, h => by cases h
  | .dc _ _ _ _ _ _, _, h => by cases h
  | .disp _ _, _, h => by cases h
  | .get _ _ _, _, h => by cases h
  | .idx _ _, _, h => by cases h
  | .slc _ _ _, _, h => by cases h
  | .lst _, _, h => by cases h
  | .tup _, _, h => by cases h
  | .lc _ _ _ _ _, _, h => by cases h
  | .never, _, h => by cases h
theorem insE_ok : ∀ (es : Exs) {is : List Int}, insE ρ es = some is → evs cl es ρ st = .ok (is.map .int) st
  | .nil, is, h => by cases h; rfl
  | .cons e es, is, h => by
    unfold insE at h
    show (ev cl e ρ st).bind (fun v st1 => (evs cl es ρ st1).bind fun vs st2 => .ok (v :: vs) st2) = _
    split at h
    · rename_i x y ea eb
      cases h
      rw [inE_ok e ea]
      show (evs cl es ρ st).bind (fun vs st2 => .ok (Val.int x :: vs) st2) = _
      rw [insE_ok es eb]
      rfl
    · cases h
  | .star _ _, is, h => by cases h
theorem o_cat {n m : Nat} {xs ys : List Val} (h : mutAt st n = some xs) (k : mutAt st m = some ys) (hl : lineOk (xs.length + ys.length) = true) : binV .add (.ref n) (.ref m) st = some (.ref st.length, st ++ [.lst (xs ++ ys)]) := by
  show (match mutAt st n, mutAt st m with
    | some xs, some ys => allocL st (xs ++ ys)
    | _, _ => none) = _
  rw [h, k]
  show (if lineOk (xs ++ ys).length = true then _ else none) = _
  rw [List.length_append, if_pos hl]
  rfl
theorem o_rep {n : Nat} {vs : List Val} {k : Int} (h : mutAt st n = some vs) (hk : (decide (-(2 ^ 63) ≤ k ∧ k < 2 ^ 63) && lineOk (vs.length * k.toNat)) = true) : binV .mul (.ref n) (.int k) st = some (.ref st.length, st ++ [.lst (List.replicate k.toNat vs).flatten]) := by
  show (match mutAt st n with
    | some xs => if decide (-(2 ^ 63) ≤ k ∧ k < 2 ^ 63) && lineOk (xs.length * k.toNat) then alloc st (.lst (List.replicate k.toNat xs).flatten) else none
    | none => none) = _
  rw [h]
  show (if (decide (-(2 ^ 63) ≤ k ∧ k < 2 ^ 63) && lineOk (vs.length * k.toNat)) = true then _ else none) = _
  rw [if_pos hk]
  rfl
theorem rep_map (n : Nat) (xs : List Int) : (List.replicate n (xs.map Val.int)).flatten = ((List.replicate n xs).flatten).map Val.int := by
  induction n with
  | zero => rfl
  | succ n ih => rw [List.replicate_succ, List.replicate_succ, List.flatten_cons, List.flatten_cons, List.map_append, ih]
/-- what is laid: a new list of these ints -/
def NewL (st : Store) (xs : List Int) : Val → Store → Prop := fun v st' => st <+: st' ∧ ∃ m : Nat, v = .ref m ∧ st.length ≤ m ∧ mutAt st' m = some (xs.map .int)
theorem lsE_ok : ∀ (e : Ex) {st : Store} {xs : List Int}, lsE ρ e = some xs → wr (ev cl e ρ st) (NewL st xs) noX
  | .lst es, st, xs, h => by
    unfold lsE at h
    split at h
    · rename_i is ea
      split at h
      · rename_i hl
        cases h
        rw [w_lst, insE_ok es ea, wr_ok, o_lst, List.length_map, if_pos hl, wr_some]
        exact ⟨pre_app pre_rfl _, _, rfl, Nat.le_refl _, mut_new⟩
      · cases h
    · cases h
  | .bin .add a b, st, xs, h => by
    unfold lsE at h
    split at h
    · rename_i ys zs ea eb
      split at h
      · rename_i hl
        cases h
        rw [w_bin]
        refine wr_imp (lsE_ok a ea) ?_
        rintro _ s1 ⟨p1, n, rfl, hn, h1⟩
        refine wr_imp (lsE_ok b eb) ?_
        rintro _ s2 ⟨p2, m, rfl, hm, h2⟩
        rw [o_cat (mut_pre p2 h1) h2 (by rw [List.length_map, List.length_map]; exact hl), wr_some]
        refine ⟨pre_app (p1.trans p2) _, _, rfl, (pre_len (p1.trans p2)), ?_⟩
        rw [List.map_append]
        exact mut_new
      · cases h
    · cases h
  | .bin .mul a b, st, xs, h => by
    unfold lsE at h
    split at h
    · rename_i ys k ea eb
      split at h
      · rename_i hl
        cases h
        rw [w_bin]
        refine wr_imp (lsE_ok a ea) ?_
        rintro _ s1 ⟨p1, n, rfl, hn, h1⟩
        rw [inE_ok b eb, wr_ok, o_rep h1 (by rw [List.length_map]; exact hl), wr_some]
        refine ⟨pre_app p1 _, _, rfl, pre_len p1, ?_⟩
        rw [rep_map]
        exact mut_new
      · cases h
    · cases h
  | .bin .sub _ _, _, _, h => by cases h
  | .bin .fdiv _ _, _, _, h => by cases h
  | .bin .mod _ _, _, _, h => by cases h
  | .bin .pow _ _, _, _, h => by cases h
  | .con _, _, _, h => by cases h
  | .var _, _, _, h => by cases h
  | .neg _, _, _, h => by cases h
  | .not _, _, _, h => by cases h
  | .and _ _, _, _, h => by cases h
  | .or _ _, _, _, h => by cases h
  | .cmp _ _ _, _, _, h => by cases h
  | .chain _ _ _ _ _, _, _, h => by cases h
  | .ife _ _ _, _, _, h => by cases h
  | .call _ _, _, _, h => by cases h
  | .callp _ _ _, _, _, h => by cases h
  | .tab _ _, _, _, h => by cases h
  | .tin _ _ _, _, _, h => by cases h
  | .dnew, _, _, h => by cases h
  | .rev _, _, _, h => by cases h
  | .blt _ _, _, _, h => by cases h
  | .mth _ _ _, _, _, h => by cases h
  | .fld _ _ _, _, _, h => by cases h
  | .mk _ _ _, _, _, h => by cases h
  | .meth _ _ _ _ _, _, _, h => by cases h
  | .prop _ _ _, _, _, h => by cases h
  | .lsc _ _ _ _ _, _, _, h => by cases h
  | .dc _ _ _ _ _ _, _, _, h => by cases h
  | .disp _ _, _, _, h => by cases h
  | .get _ _ _, _, _, h => by cases h
  | .idx _ _, _, _, h => by cases h
  | .slc _ _ _, _, _, h => by cases h
  | .tup _, _, _, h => by cases h
  | .lc _ _ _ _ _, _, _, h => by cases h
  | .never, _, _, h => by cases h
end
section
variable {cl : Cl} {ρ : Fr} {st : Store}
theorem lsE_add {a b : Ex} {xs ys : List Int} (h : lsE ρ a = some xs) (k : lsE ρ b = some ys) (hl : xs.length + ys.length ≤ 16777216) : lsE ρ (.bin .add a b) = some (xs ++ ys) := by
  show (match lsE ρ a, lsE ρ b with
    | some xs, some ys => if lineOk (xs.length + ys.length) then some (xs ++ ys) else none
    | _, _ => none) = _
  rw [h, k]
  exact if_pos (decide_eq_true hl)
theorem lsE_mul {a b : Ex} {xs : List Int} {k : Int} (h : lsE ρ a = some xs) (e : inE ρ b = some k) (hk : -(2 ^ 63) ≤ k ∧ k < 2 ^ 63) (hl : xs.length * k.toNat ≤ 16777216) : lsE ρ (.bin .mul a b) = some (List.replicate k.toNat xs).flatten := by
  show (match lsE ρ a, inE ρ b with
    | some xs, some k => if decide (-(2 ^ 63) ≤ k ∧ k < 2 ^ 63) && lineOk (xs.length * k.toNat) then some (List.replicate k.toNat xs).flatten else none
    | _, _ => none) = _
  rw [h, e]
  have e1 : (decide (-(2 ^ 63) ≤ k ∧ k < 2 ^ 63) && lineOk (xs.length * k.toNat)) = true := by rw [decide_eq_true hk, show lineOk (xs.length * k.toNat) = true from decide_eq_true hl]; rfl
  exact if_pos e1
theorem w_one {D : En} {s : Sx} : wo (exs cl [s] ρ st) D = wo (ex cl s ρ st) D := by
  rw [w_scons]
  simp only [w_snil]
theorem w_ifT {D : En} {c : Tx} {a b : List Sx} {v : Bool} (h : evT cl c ρ st = .ok v st) : wo (ex cl (.ite c a b) ρ st) D = if v = true then wo (exs cl a ρ st) D else wo (exs cl b ρ st) D := by
  rw [w_ifs, h, wr_ok]
theorem t_idx_eq {i m : Nat} {k x c : Int} {vs : List Val} (hv : ρ[i]? = some (some (.ref m))) (hm : lstAt st m = some vs) (hx : atI vs k = some (.int x)) : evT cl (.val (.cmp .eq (.idx (.var i) (.con (.int k))) (.con (.int c)))) ρ st = .ok (x == c) st := by
  show (((match ρ[i]? with | some (some v) => Res.ok v st | _ => .stuck).bind fun v st1 => (Res.ok (Val.int k) st1).bind fun u st2 => liftO ((idxV st2 v u).map fun w => (w, st2))).bind fun v st1 => (Res.ok (Val.int c) st1).bind fun u st2 => liftO ((cmpV .eq v u st2).map fun k => (Val.bl k, st2))).bind (fun v st1 => match truV st1 v with
    | some b => .ok b st1
    | none => .stuck) = _
  rw [hv]
  show (((liftO ((idxV st (.ref m) (.int k)).map fun w => (w, st))).bind fun v st1 => (Res.ok (Val.int c) st1).bind fun u st2 => liftO ((cmpV .eq v u st2).map fun k => (Val.bl k, st2)))).bind _ = _
  rw [o_idx hm, hx]
  rfl
end
/-! ### pieces of lists -/
theorem cut_nat {α : Type} {xs : List α} {a b : Nat} (ha : a ≤ xs.length) (hb : b ≤ xs.length) : cut xs (some (a : Int)) (some (b : Int)) = (xs.drop a).take (b - a) := by
  unfold cut
  rw [HT.sIx_nat, HT.sIx_nat, Nat.min_eq_left ha, Nat.min_eq_left hb]
theorem at_piece {α : Type} {xs : List α} {a c j : Nat} (h : j < c) : ((xs.drop a).take c)[j]? = xs[a + j]? := by
  rw [List.getElem?_take_of_lt h, List.getElem?_drop]
theorem len_piece {α : Type} {xs : List α} {a c : Nat} (h : a + c ≤ xs.length) : ((xs.drop a).take c).length = c := by
  rw [List.length_take, List.length_drop]; omega
theorem at_rep {α : Type} {L : List α} : ∀ (n k j : Nat), k < n → j < L.length → ((List.replicate n L).flatten)[L.length * k + j]? = L[j]?
  | n + 1, 0, j, _, hj => by
    rw [List.replicate_succ, List.flatten_cons, Nat.mul_zero, Nat.zero_add, List.getElem?_append_left hj]
  | n + 1, k + 1, j, hk, hj => by
    rw [List.replicate_succ, List.flatten_cons, List.getElem?_append_right (by rw [Nat.mul_succ]; omega), show L.length * (k + 1) + j - L.length = L.length * k + j by rw [Nat.mul_succ]; omega]
    exact at_rep n k j (Nat.lt_of_succ_lt_succ hk) hj
theorem len_rep {α : Type} {L : List α} (n : Nat) : ((List.replicate n L).flatten).length = n * L.length := by
  induction n with
  | zero => simp
  | succ n ih => rw [List.replicate_succ, List.flatten_cons, List.length_append, ih, Nat.succ_mul]; omega
theorem take_snoc {α β : Type} {f : α → β} {xs : List α} {i : Nat} {x : α} (h : xs[i]? = some x) : (xs.take i).map f ++ [f x] = (xs.take (i + 1)).map f := by
  rw [List.take_succ, h, List.map_append]
  rfl
theorem join_one : ∀ cs : List Nat, Str.join ("" : Str) (cs.map fun c => (⟨#[c]⟩ : Str)) = ⟨cs.toArray⟩
  | [] => rfl
  | [c] => rfl
  | c :: d :: r => by
    show (⟨#[c]⟩ : Str) ++ ("" : Str) ++ Str.join "" ((d :: r).map fun c => (⟨#[c]⟩ : Str)) = _
    rw [join_one (d :: r)]
    show Str.mk (#[c] ++ ("" : Str).cps ++ (d :: r).toArray) = _
    rw [show ("" : Str).cps = #[] from rfl]
    congr 1
    simp
theorem strs_map : ∀ xs : List Str, strsOf (xs.map Val.str) = some xs
  | [] => rfl
  | b :: bs => by
    show (strsOf (bs.map Val.str)).map (b :: ·) = _
    rw [strs_map bs]
    rfl
theorem ints_map : ∀ xs : List Int, intsOf (xs.map Val.int) = some xs
  | [] => rfl
  | b :: bs => by
    show (intsOf (bs.map Val.int)).map (b :: ·) = _
    rw [ints_map bs]
    rfl
theorem o_join {st : Store} {n : Nat} {z : Str} {zs : List Str} (h : lstAt st n = some (zs.map .str)) (hl : (zs.map (·.length)).sum + zs.length * z.length ≤ 16777216) : mthV .join (.str z) [.ref n] st = some (.str (Txt.join z zs), st) := by
  have e : mthV .join (.str z) [.ref n] st = (lstAt st n).bind fun ws => (strsOf ws).bind fun (zs : List Str) => if decide ((List.map (fun x : Str => x.length) zs).sum + zs.length * z.length ≤ 16777216) then some (Val.str (Txt.join z zs), st) else none := by
    show (match lstAt st n with
    | some ws => match strsOf ws with
      | some zs => if decide ((List.map (fun x : Str => x.length) zs).sum + zs.length * z.length ≤ 16777216) then some (Val.str (Txt.join z zs), st) else none
      | none => none
    | none => none) = _
    cases lstAt st n with
    | none => rfl
    | some ws =>
      show (match strsOf ws with
        | some zs => if decide ((List.map (fun x : Str => x.length) zs).sum + zs.length * z.length ≤ 16777216) then some (Val.str (Txt.join z zs), st) else none
        | none => none) = (strsOf ws).bind _
      cases strsOf ws <;> rfl
  rw [e, h]
  show (strsOf (zs.map .str)).bind _ = _
  rw [strs_map]
  exact if_pos (decide_eq_true hl)
theorem o_slcL {st : Store} {n : Nat} {vs : List Val} {lo hi : Option Int} (h : lstAt st n = some vs) : slcV (.ref n) lo hi st = some (.ref st.length, st ++ [.lst (cut vs lo hi)]) := by
  show (match lstAt st n with
    | some vs => alloc st (.lst (cut vs lo hi))
    | none => none) = _
  rw [h]
  rfl
theorem cut_ints (xs : List Int) (lo hi : Option Int) : cut (xs.map Val.int) lo hi = (cut xs lo hi).map Val.int := by
  unfold cut
  rw [List.length_map, List.map_take, List.map_drop]
theorem o_wk {st : Store} {n : Nat} {vs : List Val} (h : lstAt st n = some vs) : wkOf st (.ref n) = some (.lst n vs.length) := by
  show (lstAt st n).map _ = _
  rw [h]
  rfl
/-! ### comprehensions -/
section
variable {cl : Cl} {ρ : Fr} {st : Store} {X : Nat → Val → Store → Prop}
/-- one that hands on an item a turn, item i with R i -/
theorem lc_rel {g : Val → Fr → Store → Option Fr} {el : Fr → Store → Res Val} {w : Wk} {n : Nat} (R : Nat → Val → Prop) (hw : w.len = n) (hn : n < 16777216)
    (hs : ∀ i s, i < n → st <+: s → ∃ v ρ', w.item s i = some v ∧ g v ρ s = some ρ' ∧ wr (el ρ' s) (fun y s2 => R i y ∧ s <+: s2) noX) (hf : ∀ s, st <+: s → w.fits s = true) :
    wr (lcTurns g (evTs cl .none) el w ρ st.length n 0 (st ++ [.lst []])) (fun v st' => st <+: st' ∧ v = .ref st.length ∧ ∃ ys : List Val, mutAt st' st.length = some ys ∧ ys.length = n ∧ ∀ (i : Nat) (y : Val), ys[i]? = some y → R i y) X := by
  refine lc_of (w := w) (n := n) hw (fun i s acc => st <+: s ∧ mutAt s st.length = some acc ∧ acc.length = i ∧ ∀ (i : Nat) (y : Val), acc[i]? = some y → R i y) ?_ ?_ n 0 _ [] (Nat.zero_add _) ⟨pre_app pre_rfl _, mut_new, rfl, fun i y h => by cases h⟩
  · rintro i s acc hi ⟨pre, hm, hl, hR⟩
    obtain ⟨v, ρ', h1, h2, h3⟩ := hs i s hi pre
    refine ⟨v, ρ', h1, h2, ?_⟩
    rw [w_tnone, if_pos rfl]
    refine wr_mono h3 ?_ fun _ _ _ z => z
    rintro y s2 ⟨hy, p2⟩
    have hm2 := mut_pre p2 hm
    refine ⟨hm2, by omega, pre_set (pre.trans p2) (Nat.le_refl _), mut_set hm2, by rw [List.length_append, hl]; rfl, fun j z hj => ?_⟩
    by_cases hlt : j < acc.length
    · rw [List.getElem?_append_left hlt] at hj
      exact hR j z hj
    · have q := (List.getElem?_eq_some_iff.mp hj).1
      rw [List.length_append] at q
      have q : j < acc.length + 1 := q
      have ej : j = acc.length := by omega
      subst ej
      rw [List.getElem?_append_right (Nat.le_refl _), Nat.sub_self] at hj
      have hj : y = z := by simpa using hj
      subst hj
      rw [hl]
      exact hy
  · rintro s acc ⟨pre, hm, hl, hR⟩
    exact ⟨hf s pre, pre, rfl, acc, hm, hl, hR⟩
/-- one with a test: what it hands on has R -/
theorem lc_sub {g : Val → Fr → Store → Option Fr} {tt : Fr → Store → Res Bool} {el : Fr → Store → Res Val} {w : Wk} {n : Nat} (R : Val → Prop) (hw : w.len = n) (hn : n < 16777216)
    (hs : ∀ i s, i < n → st <+: s → ∃ v ρ', w.item s i = some v ∧ g v ρ s = some ρ' ∧ wr (tt ρ' s) (fun b s1 => s <+: s1 ∧ (b = true → wr (el ρ' s1) (fun y s2 => R y ∧ s1 <+: s2) noX)) noX) (hf : ∀ s, st <+: s → w.fits s = true) :
    wr (lcTurns g tt el w ρ st.length n 0 (st ++ [.lst []])) (fun v st' => st <+: st' ∧ v = .ref st.length ∧ ∃ ys : List Val, mutAt st' st.length = some ys ∧ ys.length ≤ n ∧ ∀ y ∈ ys, R y) X := by
  refine lc_of (w := w) (n := n) hw (fun i s acc => st <+: s ∧ mutAt s st.length = some acc ∧ acc.length ≤ i ∧ ∀ y ∈ acc, R y) ?_ ?_ n 0 _ [] (Nat.zero_add _) ⟨pre_app pre_rfl _, mut_new, Nat.le_refl _, fun y h => by cases h⟩
  · rintro i s acc hi ⟨pre, hm, hl, hR⟩
    obtain ⟨v, ρ', h1, h2, h3⟩ := hs i s hi pre
    refine ⟨v, ρ', h1, h2, ?_⟩
    refine wr_mono h3 ?_ fun _ _ _ z => z
    rintro b s1 ⟨p1, hb⟩
    have hm1 := mut_pre p1 hm
    cases b with
    | false => exact ⟨pre.trans p1, hm1, by omega, hR⟩
    | true =>
      rw [if_pos rfl]
      refine wr_mono (hb rfl) ?_ fun _ _ _ z => z
      rintro y s2 ⟨hy, p2⟩
      have hm2 := mut_pre p2 hm1
      refine ⟨hm2, by omega, pre_set ((pre.trans p1).trans p2) (Nat.le_refl _), mut_set hm2, by rw [List.length_append]; show acc.length + 1 ≤ _; omega, fun z hz => ?_⟩
      rcases List.mem_append.mp hz with hz | hz
      · exact hR z hz
      · rw [List.mem_singleton] at hz
        subst hz
        exact hy
  · rintro s acc ⟨pre, hm, hl, hR⟩
    exact ⟨hf s pre, pre, rfl, acc, hm, hl, hR⟩
/-- values that are all pictures of something -/
theorem of_pic {α : Type} {f : α → Val} : ∀ {ys : List Val}, (∀ y ∈ ys, ∃ x, y = f x) → ∃ xs : List α, ys = xs.map f
  | [], _ => ⟨[], rfl⟩
  | y :: ys, h => by
    obtain ⟨x, rfl⟩ := h y (List.mem_cons_self)
    obtain ⟨xs, rfl⟩ := of_pic fun z hz => h z (List.mem_cons_of_mem _ hz)
    exact ⟨x :: xs, rfl⟩
theorem set_at {i : Nat} {v : Val} (h : i < ρ.length) : (ρ.set i (some v))[i]? = some (some v) := List.getElem?_set_self h
end
end EV

/-! ## K75 -/
set_option maxRecDepth 100000
set_option maxHeartbeats 4000000
namespace EVL
open PySem L2 EV
def top (i : Nat) : Stmt := PySem.Challenge.pw_allcells_k75_texts_of_terms_and_statemen.main.body.getD i (.Pass ⟨0, 0, 0, 0⟩)
abbrev s_show_sum : Stmt := top 1
def N_show_sum : List Str := ["name", "number"]
def b_show_sum : List Sx := [(.ite (.or (.val (.cmp .eq (.var 0) (.con (.str ("" : Str))))) (.val (.cmp .lt (.var 1) (.con (.int 0))))) [(.ret (.bin .add (.var 0) (.blt .str (.cons (.var 1) .nil))))] []), (.ret (.ife (.val (.cmp .gt (.var 1) (.con (.int 0)))) (.bin .add (.bin .add (.var 0) (.con (.str ("+" : Str)))) (.blt .str (.cons (.var 1) .nil))) (.var 0)))]
abbrev id_show_sum : Nat := 0
abbrev s_show_term : Stmt := top 2
def N_show_term : List Str := ["term", "array", "place", "number"]
def b_show_term : List Sx := [(.ite (.val (.cmp .eq (.blt .len (.cons (.var 0) .nil)) (.con (.int 2)))) [(.ret (.call 0 (.cons (.idx (.var 0) (.con (.int 0))) (.cons (.idx (.var 0) (.con (.int 1))) .nil))))] []), (.unp [1, 2, 3] (.var 0)), (.ret (.call 0 (.cons (.bin .add (.bin .add (.bin .add (.var 1) (.con (.str ("[" : Str)))) (.call 1 (.cons (.var 2) .nil))) (.con (.str ("]" : Str)))) (.cons (.var 3) .nil))))]
abbrev id_show_term : Nat := 1
abbrev s_show_part : Stmt := top 3
def N_show_part : List Str := ["part"]
def b_show_part : List Sx := [(.ite (.val (.cmp .isN (.var 0) (.con .non))) [(.ret (.con (.str (".." : Str))))] []), (.ite (.val (.blt (.isi .tuple) (.cons (.var 0) .nil))) [(.ret (.call 1 (.cons (.var 0) .nil)))] []), (.ret (.blt .str (.cons (.var 0) .nil)))]
abbrev id_show_part : Nat := 2
abbrev s_show_saying : Stmt := top 4
def N_show_saying : List Str := ["saying", "part"]
def x_show_saying_0 : Ex := (.call 2 (.cons (.var 1) .nil))
def b_show_saying : List Sx := [(.ret (.mth .join (.con (.str (" " : Str))) (.cons (.lc x_show_saying_0 (.nm 1) (.ex (.var 0)) .none [1]) .nil)))]
abbrev id_show_saying : Nat := 3
abbrev s__law_figure : Stmt := top 6
def N__law_figure : List Str := ["_law_script", "_law_at", "_law_figure_here"]
def b__law_figure : List Sx := [(.set 2 (.con (.int 0))), (.ite (.val (.cmp .lt (.var 1) (.blt .len (.cons (.var 0) .nil)))) [(.set 2 (.idx (.var 0) (.var 1)))] []), (.ite (.val (.cmp .lt (.var 2) (.con (.int 0)))) [(.set 2 (.bin .sub (.neg (.con (.int 1))) (.bin .mul (.con (.int 2)) (.var 2))))] []), (.ret (.bin .mod (.blt .int (.cons (.var 2) .nil)) (.bin .mul (.bin .mul (.bin .pow (.con (.int 10)) (.con (.int 60))) (.bin .pow (.con (.int 10)) (.con (.int 60)))) (.bin .pow (.con (.int 10)) (.con (.int 60))))))]
abbrev id__law_figure : Nat := 4
abbrev s__law_draws : Stmt := top 7
def N__law_draws : List Str := ["_law_script", "_law_at", "_law_limits", "_law_figure_here", "_law_rest", "_law_drawn", "_law_k", "_law_stir"]
def l__law_draws_0 : List Sx := [(.set 7 (.bin .mod (.blt .int (.cons (.bin .add (.bin .add (.bin .mul (.var 3) (.bin .add (.con (.int 30011)) (.bin .mul (.bin .mul (.con (.int 2)) (.var 6)) (.var 6)))) (.bin .mul (.bin .add (.var 6) (.con (.int 5))) (.con (.int 86028121)))) (.bin .mul (.var 1) (.con (.int 15485863)))) .nil)) (.con (.int 2147483587)))), (.set 7 (.bin .fdiv (.bin .mod (.blt .int (.cons (.bin .add (.bin .add (.bin .mul (.var 7) (.var 7)) (.bin .mul (.con (.int 611953)) (.var 6))) (.var 3)) .nil)) (.con (.int 2147483549))) (.con (.int 11)))), (.ite (.val (.cmp .ge (.var 3) (.bin .pow (.con (.int 10)) (.con (.int 18))))) [(.set 7 (.var 4)), (.set 4 (.bin .fdiv (.var 4) (.idx (.var 2) (.var 6))))] []), (.exp (.mth .append (.var 5) (.cons (.bin .mod (.blt .int (.cons (.var 7) .nil)) (.idx (.var 2) (.var 6))) .nil)))]
def b__law_draws : List Sx := [(.set 3 (.call 4 (.cons (.var 0) (.cons (.var 1) .nil)))), (.set 4 (.bin .sub (.var 3) (.bin .pow (.con (.int 10)) (.con (.int 18))))), (.set 5 (.lst .nil)), (.loop (.nm 6) (.rng1 (.blt .len (.cons (.var 2) .nil))) l__law_draws_0), (.ret (.var 5))]
abbrev id__law_draws : Nat := 5
abbrev s__law_long : Stmt := top 8
def N__law_long : List Str := ["_law_script", "_law_at", "_law_many", "_law_drawn", "_law_numbers", "_law_k", "_law_top", "_law_turn", "_law_number", "_law_part"]
def l__law_long_0 : List Sx := [(.set 6 (.bin .mul (.var 6) (.con (.int 10))))]
def l__law_long_1 : List Sx := [(.set 8 (.bin .add (.bin .mul (.var 8) (.bin .pow (.con (.int 10)) (.con (.int 8)))) (.var 9)))]
def l__law_long_2 : List Sx := [(.set 6 (.con (.int 1))), (.loop (.nm 7) (.rng1 (.idx (.var 3) (.bin .mul (.con (.int 6)) (.var 5)))) l__law_long_0), (.set 8 (.con (.int 0))), (.loop (.nm 9) (.ex (.slc (.var 3) (.some (.bin .add (.bin .mul (.con (.int 6)) (.var 5)) (.con (.int 2)))) (.some (.bin .add (.bin .mul (.con (.int 6)) (.var 5)) (.con (.int 6)))))) l__law_long_1), (.set 8 (.bin .mod (.blt .int (.cons (.var 8) .nil)) (.var 6))), (.exp (.mth .append (.var 4) (.cons (.ife (.val (.cmp .eq (.idx (.var 3) (.bin .add (.bin .mul (.con (.int 6)) (.var 5)) (.con (.int 1)))) (.con (.int 1)))) (.neg (.var 8)) (.var 8)) .nil)))]
def b__law_long : List Sx := [(.set 3 (.call 5 (.cons (.var 0) (.cons (.var 1) (.cons (.bin .mul (.lst (.cons (.con (.int 31)) (.cons (.con (.int 2)) (.cons (.bin .pow (.con (.int 10)) (.con (.int 8))) (.cons (.bin .pow (.con (.int 10)) (.con (.int 8))) (.cons (.bin .pow (.con (.int 10)) (.con (.int 8))) (.cons (.bin .pow (.con (.int 10)) (.con (.int 8))) .nil))))))) (.var 2)) .nil))))), (.set 4 (.lst .nil)), (.loop (.nm 5) (.rng1 (.var 2)) l__law_long_2), (.ret (.var 4))]
abbrev id__law_long : Nat := 6
abbrev s__law_same : Stmt := top 9
def N__law_same : List Str := ["_law_found", "_law_due", "_law_k", "_law_key"]
def x__law_same_0 : Ex := (.and (.cmp .inn (.var 3) (.var 0)) (.call 7 (.cons (.idx (.var 0) (.var 3)) (.cons (.idx (.var 1) (.var 3)) .nil))))
def x__law_same_1 : Ex := (.call 7 (.cons (.idx (.var 0) (.var 2)) (.cons (.idx (.var 1) (.var 2)) .nil)))
def b__law_same : List Sx := [(.ite (.val (.cmp .isN (.var 1) (.con .non))) [(.ret (.cmp .isN (.var 0) (.con .non)))] []), (.ite (.or (.val (.blt (.isi .bool) (.cons (.var 1) .nil))) (.val (.blt (.isi .bool) (.cons (.var 0) .nil)))) [(.ret (.and (.blt (.isi .bool) (.cons (.var 1) .nil)) (.and (.blt (.isi .bool) (.cons (.var 0) .nil)) (.cmp .eq (.var 0) (.var 1)))))] []), (.ite (.val (.blt (.isi .int) (.cons (.var 1) .nil))) [(.ret (.and (.blt (.isi .int) (.cons (.var 0) .nil)) (.cmp .eq (.var 0) (.var 1))))] []), (.ite (.val (.blt (.isi .str) (.cons (.var 1) .nil))) [(.ret (.and (.blt (.isi .str) (.cons (.var 0) .nil)) (.cmp .eq (.var 0) (.var 1))))] []), (.ite (.val (.blt (.isi .dict) (.cons (.var 1) .nil))) [(.ite (.or (.not (.val (.blt (.isi .dict) (.cons (.var 0) .nil)))) (.val (.cmp .ne (.blt .len (.cons (.var 0) .nil)) (.blt .len (.cons (.var 1) .nil))))) [(.ret (.con (.bl false)))] []), (.ret (.blt .all (.cons (.lc x__law_same_0 (.nm 3) (.ex (.var 1)) .none [3]) .nil)))] []), (.ite (.or (.val (.cmp .ne (.blt (.isi .list) (.cons (.var 1) .nil)) (.blt (.isi .list) (.cons (.var 0) .nil)))) (.val (.cmp .ne (.blt (.isi .tuple) (.cons (.var 1) .nil)) (.blt (.isi .tuple) (.cons (.var 0) .nil))))) [(.ret (.con (.bl false)))] []), (.ite (.val (.cmp .ne (.blt .len (.cons (.var 0) .nil)) (.blt .len (.cons (.var 1) .nil)))) [(.ret (.con (.bl false)))] []), (.ret (.blt .all (.cons (.lc x__law_same_1 (.nm 2) (.rng1 (.blt .len (.cons (.var 1) .nil))) .none [2]) .nil)))]
abbrev id__law_same : Nat := 7
abbrev s__law_names : Stmt := top 10
def N__law_names : List Str := ["_law_script", "_law_at", "_law_many", "_law_letters", "_law_drawn", "_law_names_here", "_law_k", "_law_signs", "_law_name", "_law_turn", "_law_sign"]
def x__law_names_0 : Ex := (.bin .mod (.blt .int (.cons (.var 10) .nil)) (.con (.int 2)))
def x__law_names_1 : Ex := (.idx (.var 3) (.var 10))
def l__law_names_2 : List Sx := [(.ite (.val (.cmp .inn (.var 8) (.var 5))) [(.set 8 (.bin .add (.idx (.var 3) (.bin .mod (.blt .int (.cons (.bin .add (.bin .add (.idx (.var 7) (.con (.int 0))) (.var 9)) (.con (.int 1))) .nil)) (.con (.int 26)))) (.slc (.var 8) (.some (.con (.int 1))) .none)))] [])]
def l__law_names_3 : List Sx := [(.set 7 (.slc (.var 4) (.some (.bin .add (.con (.int 2)) (.bin .mul (.con (.int 7)) (.var 6)))) (.some (.bin .add (.bin .add (.con (.int 3)) (.bin .mul (.con (.int 7)) (.var 6))) (.idx (.var 4) (.bin .add (.con (.int 1)) (.bin .mul (.con (.int 7)) (.var 6)))))))), (.ite (.val (.cmp .eq (.idx (.var 4) (.con (.int 0))) (.con (.int 1)))) [(.set 7 (.lc x__law_names_0 (.nm 10) (.ex (.var 7)) .none [10]))] []), (.set 8 (.mth .join (.con (.str ("" : Str))) (.cons (.lc x__law_names_1 (.nm 10) (.ex (.var 7)) .none [10]) .nil))), (.loop (.nm 9) (.rng1 (.con (.int 26))) l__law_names_2), (.exp (.mth .append (.var 5) (.cons (.var 8) .nil)))]
def b__law_names : List Sx := [(.set 3 (.con (.str ("abcdefghijklmnopqrstuvwxyz" : Str)))), (.set 4 (.call 5 (.cons (.var 0) (.cons (.var 1) (.cons (.bin .add (.lst (.cons (.con (.int 4)) .nil)) (.bin .mul (.lst (.cons (.con (.int 6)) (.cons (.con (.int 26)) (.cons (.con (.int 26)) (.cons (.con (.int 26)) (.cons (.con (.int 26)) (.cons (.con (.int 26)) (.cons (.con (.int 26)) .nil)))))))) (.var 2))) .nil))))), (.set 5 (.lst .nil)), (.loop (.nm 6) (.rng1 (.var 2)) l__law_names_3), (.ret (.var 5))]
abbrev id__law_names : Nat := 8
abbrev s__law_row : Stmt := top 11
def N__law_row : List Str := ["_law_script", "_law_at", "_law_first", "_law_size", "_law_high", "_law_drawn", "_law_row_here", "_law_values", "_law_k", "_law_entry"]
def x__law_row_0 : Ex := (.tup (.cons (.bin .add (.var 2) (.var 8)) (.cons (.idx (.var 5) (.bin .add (.con (.int 4)) (.bin .mul (.con (.int 2)) (.var 8)))) .nil)))
def x__law_row_1 : Ex := (.idx (.var 9) (.con (.int 1)))
def x__law_row_2 : Ex := (.tup (.cons (.idx (.idx (.var 6) (.var 8)) (.con (.int 0))) (.cons (.idx (.var 7) (.var 8)) .nil)))
def b__law_row : List Sx := [(.set 5 (.call 5 (.cons (.var 0) (.cons (.var 1) (.cons (.bin .add (.lst (.cons (.con (.int 4)) (.cons (.var 3) (.cons (.var 4) .nil)))) (.bin .mul (.lst (.cons (.con (.int 2)) (.cons (.var 4) .nil))) (.var 3))) .nil))))), (.set 6 (.lc x__law_row_0 (.nm 8) (.rng1 (.var 3)) (.some (.val (.cmp .eq (.idx (.var 5) (.bin .add (.con (.int 3)) (.bin .mul (.con (.int 2)) (.var 8)))) (.con (.int 1))))) [8])), (.ite (.val (.cmp .eq (.var 6) (.lst .nil))) [(.set 6 (.lst (.cons (.tup (.cons (.bin .add (.var 2) (.idx (.var 5) (.con (.int 1)))) (.cons (.idx (.var 5) (.con (.int 2))) .nil))) .nil)))] []), (.ite (.val (.cmp .eq (.idx (.var 5) (.con (.int 0))) (.con (.int 1)))) [(.set 6 (.rev (.var 6)))] []), (.ite (.val (.cmp .eq (.idx (.var 5) (.con (.int 0))) (.con (.int 2)))) [(.set 6 (.bin .add (.slc (.var 6) (.some (.con (.int 1))) .none) (.slc (.var 6) .none (.some (.con (.int 1))))))] []), (.ite (.val (.cmp .eq (.idx (.var 5) (.con (.int 0))) (.con (.int 3)))) [(.set 7 (.blt .sorted (.cons (.lc x__law_row_1 (.nm 9) (.ex (.var 6)) .none [9]) .nil))), (.set 6 (.lc x__law_row_2 (.nm 8) (.rng1 (.blt .len (.cons (.var 6) .nil))) .none [8]))] []), (.ret (.var 6))]
abbrev id__law_row : Nat := 9
abbrev s__law_parts : Stmt := top 12
def N__law_parts : List Str := ["_law_script", "_law_at", "_law_drawn", "_law_names_here", "_law_places", "_law_k", "_law_numbers", "_law_arrays", "_law_row_here", "_law_spots", "_law_entry", "_law_place", "_law_value"]
def l__law_parts_0 : List Sx := [(.seti (.var 4) (.idx (.var 3) (.var 5)) (.bin .sub (.idx (.var 2) (.bin .add (.con (.int 5)) (.var 5))) (.con (.int 4))))]
def l__law_parts_1 : List Sx := [(.seti (.var 6) (.idx (.var 3) (.bin .add (.con (.int 3)) (.var 5))) (.bin .sub (.idx (.var 2) (.bin .add (.con (.int 8)) (.var 5))) (.con (.int 2))))]
def l__law_parts_2 : List Sx := [(.seti (.var 7) (.idx (.var 3) (.bin .add (.con (.int 5)) (.var 5))) (.call 9 (.cons (.var 0) (.cons (.bin .add (.bin .add (.var 1) (.con (.int 2))) (.var 5)) (.cons (.neg (.con (.int 6))) (.cons (.con (.int 15)) (.cons (.bin .sub (.con (.int 4)) (.idx (.var 2) (.con (.int 3)))) .nil)))))))]
def x__law_parts_3 : Ex := (.tup (.cons (.var 11) (.cons (.bin .add (.var 12) (.idx (.var 2) (.con (.int 4)))) .nil)))
def x__law_parts_4 : Ex := (.idx (.var 10) (.con (.int 0)))
def x__law_parts_5 : Ex := (.idx (.var 8) (.var 5))
def b__law_parts : List Sx := [(.set 2 (.call 5 (.cons (.var 0) (.cons (.var 1) (.cons (.bin .add (.bin .add (.lst (.cons (.con (.int 4)) (.cons (.con (.int 3)) (.cons (.con (.int 4)) (.cons (.con (.int 2)) (.cons (.con (.int 3)) .nil)))))) (.bin .mul (.lst (.cons (.con (.int 11)) .nil)) (.con (.int 3)))) (.bin .mul (.lst (.cons (.con (.int 9)) .nil)) (.con (.int 2)))) .nil))))), (.set 3 (.call 8 (.cons (.var 0) (.cons (.bin .add (.var 1) (.con (.int 1))) (.cons (.con (.int 8)) .nil))))), (.set 4 .dnew), (.loop (.nm 5) (.rng1 (.idx (.var 2) (.con (.int 0)))) l__law_parts_0), (.set 6 .dnew), (.loop (.nm 5) (.rng1 (.idx (.var 2) (.con (.int 1)))) l__law_parts_1), (.set 7 .dnew), (.loop (.nm 5) (.rng1 (.idx (.var 2) (.con (.int 2)))) l__law_parts_2), (.ite (.and (.val (.cmp .gt (.idx (.var 2) (.con (.int 2))) (.con (.int 1)))) (.val (.cmp .eq (.idx (.var 2) (.con (.int 3))) (.con (.int 1))))) [(.set 8 (.lc x__law_parts_3 (.tp [11, 12]) (.ex (.idx (.var 7) (.idx (.var 3) (.con (.int 5))))) .none [11, 12])), (.seti (.var 8) (.bin .mod (.blt .int (.cons (.idx (.var 2) (.con (.int 5))) .nil)) (.blt .len (.cons (.var 8) .nil))) (.idx (.idx (.var 7) (.idx (.var 3) (.con (.int 6)))) (.con (.int 0)))), (.set 9 (.lc x__law_parts_4 (.nm 10) (.ex (.var 8)) .none [10])), (.seti (.var 7) (.idx (.var 3) (.con (.int 6))) (.lc x__law_parts_5 (.nm 5) (.rng1 (.blt .len (.cons (.var 8) .nil))) (.some (.val (.cmp .notin (.idx (.idx (.var 8) (.var 5)) (.con (.int 0))) (.slc (.var 9) .none (.some (.var 5)))))) [5]))] []), (.ret (.tup (.cons (.var 4) (.cons (.var 6) (.cons (.var 7) .nil)))))]
abbrev id__law_parts : Nat := 10
abbrev s__law_sums : Stmt := top 13
def N__law_sums : List Str := ["_law_drawn", "_law_pool", "_law_numbers", "_law_arrays", "_law_sums_here", "_law_k", "_law_own", "_law_term", "_law_which", "_law_first", "_law_by", "_law_second", "_law_far"]
def l__law_sums_0 : List Sx := [(.set 6 (.bin .add (.lst (.cons (.con (.str ("" : Str))) .nil)) (.var 2))), (.unp [8, 9, 10, 11, 12] (.slc (.var 0) (.some (.bin .mul (.con (.int 5)) (.var 5))) (.some (.bin .add (.bin .mul (.con (.int 5)) (.var 5)) (.con (.int 5)))))), (.set 7 (.tup (.cons (.idx (.var 6) (.bin .mod (.blt .int (.cons (.var 9) .nil)) (.blt .len (.cons (.var 6) .nil)))) (.cons (.bin .sub (.var 10) (.con (.int 4))) .nil)))), (.ite (.and (.val (.cmp .eq (.var 8) (.con (.int 1)))) (.val (.cmp .gt (.blt .len (.cons (.var 3) .nil)) (.con (.int 0))))) [(.set 7 (.tup (.cons (.idx (.var 3) (.bin .mod (.blt .int (.cons (.var 9) .nil)) (.blt .len (.cons (.var 3) .nil)))) (.cons (.tup (.cons (.idx (.var 1) (.bin .mod (.blt .int (.cons (.var 11) .nil)) (.blt .len (.cons (.var 1) .nil)))) (.cons (.bin .sub (.var 12) (.con (.int 4))) .nil))) (.cons (.bin .sub (.var 10) (.con (.int 4))) .nil)))))] []), (.exp (.mth .append (.var 4) (.cons (.var 7) .nil)))]
def b__law_sums : List Sx := [(.set 4 (.lst .nil)), (.loop (.nm 5) (.rng1 (.con (.int 2))) l__law_sums_0), (.ret (.var 4))]
abbrev id__law_sums : Nat := 11
abbrev s__law_saying : Stmt := top 14
def N__law_saying : List Str := ["_law_script", "_law_at", "_law_parts_here", "_law_drawn", "_law_pool", "_law_terms", "_law_ends", "_law_sums_here", "_law_plain", "_law_one", "_law_other", "_law_forms", "_law_places", "_law_numbers", "_law_arrays", "_law_names_here", "_law_k"]
def x__law_saying_0 : Ex := (.blt .list (.cons (.var 15) .nil))
def x__law_saying_1 : Ex := (.tup (.cons (.idx (.var 4) (.bin .mod (.blt .int (.cons (.idx (.var 3) (.bin .add (.con (.int 1)) (.bin .mul (.con (.int 3)) (.var 16)))) .nil)) (.blt .len (.cons (.var 4) .nil)))) (.cons (.bin .sub (.idx (.var 3) (.bin .add (.con (.int 2)) (.bin .mul (.con (.int 3)) (.var 16)))) (.con (.int 4))) .nil)))
def x__law_saying_2 : Ex := (.ife (.val (.cmp .eq (.idx (.var 3) (.bin .add (.con (.int 3)) (.bin .mul (.con (.int 3)) (.var 16)))) (.con (.int 0)))) (.con .non) (.idx (.var 5) (.var 16)))
def b__law_saying : List Sx := [(.unp [12, 13, 14] (.lc x__law_saying_0 (.nm 15) (.ex (.var 2)) .none [15])), (.set 3 (.call 5 (.cons (.var 0) (.cons (.var 1) (.cons (.bin .add (.bin .add (.bin .add (.lst (.cons (.con (.int 7)) .nil)) (.bin .mul (.lst (.cons (.con (.int 12)) (.cons (.con (.int 9)) (.cons (.con (.int 5)) .nil)))) (.con (.int 4)))) (.bin .mul (.lst (.cons (.con (.int 2)) (.cons (.con (.int 12)) (.cons (.con (.int 9)) (.cons (.con (.int 12)) (.cons (.con (.int 9)) .nil)))))) (.con (.int 2)))) (.lst (.cons (.con (.int 6)) (.cons (.con (.int 6)) (.cons (.con (.int 9)) .nil))))) .nil))))), (.set 4 (.bin .add (.lst (.cons (.con (.str ("" : Str))) .nil)) (.var 12))), (.set 5 (.lc x__law_saying_1 (.nm 16) (.rng1 (.con (.int 4))) .none [16])), (.set 6 (.lc x__law_saying_2 (.nm 16) (.rng1 (.con (.int 4))) .none [16])), (.set 7 (.call 11 (.cons (.slc (.var 3) (.some (.con (.int 13))) (.some (.con (.int 23)))) (.cons (.var 4) (.cons (.var 13) (.cons (.var 14) .nil)))))), (.set 8 (.lst (.cons (.tup (.cons (.con (.str ("place" : Str))) (.cons (.idx (.var 5) (.con (.int 0))) (.cons (.idx (.var 5) (.con (.int 1))) .nil)))) (.cons (.tup (.cons (.con (.str ("value" : Str))) (.cons (.idx (.var 7) (.con (.int 0))) (.cons (.idx (.var 7) (.con (.int 1))) .nil)))) .nil)))), (.ite (.val (.cmp .eq (.blt .len (.cons (.var 14) .nil)) (.con (.int 0)))) [(.ret (.idx (.var 8) (.bin .mod (.blt .int (.cons (.idx (.var 3) (.con (.int 0))) .nil)) (.con (.int 2)))))] []), (.set 9 (.idx (.var 14) (.bin .mod (.blt .int (.cons (.idx (.var 3) (.con (.int 23))) .nil)) (.blt .len (.cons (.var 14) .nil))))), (.set 10 (.idx (.var 14) (.bin .mod (.blt .int (.cons (.idx (.var 3) (.con (.int 24))) .nil)) (.blt .len (.cons (.var 14) .nil))))), (.set 11 (.bin .add (.var 8) (.lst (.cons (.tup (.cons (.con (.str ("rising" : Str))) (.cons (.var 9) (.cons (.idx (.var 6) (.con (.int 0))) (.cons (.idx (.var 6) (.con (.int 1))) .nil))))) .nil)))), (.set 11 (.bin .add (.var 11) (.lst (.cons (.tup (.cons (.con (.str ("low" : Str))) (.cons (.var 9) (.cons (.idx (.var 6) (.con (.int 0))) (.cons (.idx (.var 6) (.con (.int 1))) (.cons (.idx (.var 7) (.con (.int 0))) .nil)))))) (.cons (.tup (.cons (.con (.str ("high" : Str))) (.cons (.var 9) (.cons (.idx (.var 6) (.con (.int 0))) (.cons (.idx (.var 6) (.con (.int 1))) (.cons (.idx (.var 7) (.con (.int 0))) .nil)))))) .nil))))), (.set 11 (.bin .add (.var 11) (.lst (.cons (.tup (.cons (.con (.str ("below" : Str))) (.cons (.var 9) (.cons (.idx (.var 6) (.con (.int 0))) (.cons (.idx (.var 6) (.con (.int 1))) (.cons (.var 10) (.cons (.idx (.var 6) (.con (.int 2))) (.cons (.idx (.var 6) (.con (.int 3))) (.cons (.bin .sub (.idx (.var 3) (.con (.int 25))) (.con (.int 4))) .nil))))))))) .nil)))), (.set 11 (.bin .add (.var 11) (.lst (.cons (.tup (.cons (.con (.str ("same" : Str))) (.cons (.var 9) (.cons (.var 10) (.cons (.idx (.var 6) (.con (.int 0))) (.cons (.idx (.var 6) (.con (.int 1))) (.cons (.bin .sub (.idx (.var 3) (.con (.int 25))) (.con (.int 4))) .nil))))))) .nil)))), (.ret (.idx (.var 11) (.idx (.var 3) (.con (.int 0)))))]
abbrev id__law_saying : Nat := 12
abbrev s__law_scale : Stmt := top 15
def N__law_scale : List Str := ["_law_script", "_law_at", "_law_drawn", "_law_far"]
def b__law_scale : List Sx := [(.set 2 (.call 5 (.cons (.var 0) (.cons (.var 1) (.cons (.lst (.cons (.con (.int 4)) (.cons (.bin .pow (.con (.int 10)) (.con (.int 8))) (.cons (.bin .pow (.con (.int 10)) (.con (.int 6))) (.cons (.bin .pow (.con (.int 10)) (.con (.int 8))) (.cons (.bin .pow (.con (.int 10)) (.con (.int 6))) .nil)))))) .nil))))), (.set 3 (.call 6 (.cons (.var 0) (.cons (.bin .add (.var 1) (.con (.int 1))) (.cons (.con (.int 2)) .nil))))), (.ite (.val (.cmp .eq (.idx (.var 2) (.con (.int 0))) (.con (.int 0)))) [(.ret (.tup (.cons (.con (.int 1)) (.cons (.con (.int 0)) (.cons (.con (.int 1)) (.cons (.con (.int 0)) .nil))))))] []), (.ite (.val (.cmp .eq (.idx (.var 2) (.con (.int 0))) (.con (.int 1)))) [(.ret (.tup (.cons (.con (.int 1)) (.cons (.bin .fdiv (.idx (.var 3) (.con (.int 0))) (.con (.int 10))) (.cons (.con (.int 1)) (.cons (.bin .fdiv (.idx (.var 3) (.con (.int 1))) (.con (.int 10))) .nil))))))] []), (.ret (.tup (.cons (.bin .add (.con (.int 1)) (.bin .mul (.idx (.var 2) (.con (.int 1))) (.idx (.var 2) (.con (.int 2))))) (.cons (.bin .fdiv (.idx (.var 3) (.con (.int 0))) (.con (.int 10))) (.cons (.bin .add (.con (.int 1)) (.bin .mul (.idx (.var 2) (.con (.int 3))) (.idx (.var 2) (.con (.int 4))))) (.cons (.bin .fdiv (.idx (.var 3) (.con (.int 1))) (.con (.int 10))) .nil))))))]
abbrev id__law_scale : Nat := 13
abbrev s__law_scaled_term : Stmt := top 16
def N__law_scaled_term : List Str := ["_law_term", "_law_scale_here", "_law_role", "_law_by"]
def b__law_scaled_term : List Sx := [(.ite (.val (.cmp .isN (.var 0) (.con .non))) [(.ret (.con .non))] []), (.ite (.val (.cmp .eq (.blt .len (.cons (.var 0) .nil)) (.con (.int 3)))) [(.ret (.tup (.cons (.idx (.var 0) (.con (.int 0))) (.cons (.call 14 (.cons (.idx (.var 0) (.con (.int 1))) (.cons (.var 1) (.cons (.con (.int 0)) .nil)))) (.cons (.bin .mul (.idx (.var 0) (.con (.int 2))) (.idx (.var 1) (.con (.int 2)))) .nil)))))] []), (.set 3 (.bin .mul (.idx (.var 0) (.con (.int 1))) (.idx (.var 1) (.bin .mul (.con (.int 2)) (.var 2))))), (.ite (.val (.cmp .eq (.idx (.var 0) (.con (.int 0))) (.con (.str ("" : Str))))) [(.set 3 (.bin .add (.var 3) (.idx (.var 1) (.bin .add (.bin .mul (.con (.int 2)) (.var 2)) (.con (.int 1))))))] []), (.ret (.tup (.cons (.idx (.var 0) (.con (.int 0))) (.cons (.var 3) .nil))))]
abbrev id__law_scaled_term : Nat := 14
abbrev s__law_scaled_saying : Stmt := top 17
def N__law_scaled_saying : List Str := ["_law_saying_here", "_law_scale_here", "_law_scaled", "_law_part"]
def l__law_scaled_saying_0 : List Sx := [(.ite (.val (.blt (.isi .int) (.cons (.var 3) .nil))) [(.exp (.mth .append (.var 2) (.cons (.bin .mul (.var 3) (.idx (.var 1) (.con (.int 2)))) .nil)))] [(.ite (.val (.blt (.isi .str) (.cons (.var 3) .nil))) [(.exp (.mth .append (.var 2) (.cons (.var 3) .nil)))] [(.exp (.mth .append (.var 2) (.cons (.call 14 (.cons (.var 3) (.cons (.var 1) (.cons (.con (.int 0)) .nil)))) .nil)))])])]
def b__law_scaled_saying : List Sx := [(.ite (.val (.cmp .eq (.idx (.var 0) (.con (.int 0))) (.con (.str ("place" : Str))))) [(.ret (.tup (.cons (.con (.str ("place" : Str))) (.cons (.call 14 (.cons (.idx (.var 0) (.con (.int 1))) (.cons (.var 1) (.cons (.con (.int 0)) .nil)))) (.cons (.call 14 (.cons (.idx (.var 0) (.con (.int 2))) (.cons (.var 1) (.cons (.con (.int 0)) .nil)))) .nil)))))] []), (.ite (.val (.cmp .eq (.idx (.var 0) (.con (.int 0))) (.con (.str ("value" : Str))))) [(.ret (.tup (.cons (.con (.str ("value" : Str))) (.cons (.call 14 (.cons (.idx (.var 0) (.con (.int 1))) (.cons (.var 1) (.cons (.con (.int 1)) .nil)))) (.cons (.call 14 (.cons (.idx (.var 0) (.con (.int 2))) (.cons (.var 1) (.cons (.con (.int 1)) .nil)))) .nil)))))] []), (.set 2 (.lst .nil)), (.loop (.nm 3) (.ex (.var 0)) l__law_scaled_saying_0), (.ite (.val (.cmp .inn (.idx (.var 0) (.con (.int 0))) (.tup (.cons (.con (.str ("low" : Str))) (.cons (.con (.str ("high" : Str))) .nil))))) [(.seti (.var 2) (.con (.int 4)) (.call 14 (.cons (.idx (.var 0) (.con (.int 4))) (.cons (.var 1) (.cons (.con (.int 1)) .nil)))))] []), (.ret (.blt .tuple (.cons (.var 2) .nil)))]
abbrev id__law_scaled_saying : Nat := 15
abbrev s__law_tail_text : Stmt := top 18
def N__law_tail_text : List Str := ["_law_k"]
def b__law_tail_text : List Sx := [(.ite (.val (.cmp .gt (.var 0) (.con (.int 0)))) [(.ret (.bin .add (.con (.str ("+" : Str))) (.blt .str (.cons (.var 0) .nil))))] []), (.ret (.ife (.val (.cmp .lt (.var 0) (.con (.int 0)))) (.blt .str (.cons (.var 0) .nil)) (.con (.str ("" : Str)))))]
abbrev id__law_tail_text : Nat := 16
abbrev s__law_term_text : Stmt := top 19
def N__law_term_text : List Str := ["_law_term"]
def b__law_term_text : List Sx := [(.ite (.val (.cmp .eq (.blt .len (.cons (.var 0) .nil)) (.con (.int 3)))) [(.ret (.bin .add (.bin .add (.bin .add (.bin .add (.idx (.var 0) (.con (.int 0))) (.con (.str ("[" : Str)))) (.call 17 (.cons (.idx (.var 0) (.con (.int 1))) .nil))) (.con (.str ("]" : Str)))) (.call 16 (.cons (.idx (.var 0) (.con (.int 2))) .nil))))] []), (.ite (.val (.cmp .eq (.idx (.var 0) (.con (.int 0))) (.con (.str ("" : Str))))) [(.ret (.blt .str (.cons (.idx (.var 0) (.con (.int 1))) .nil)))] []), (.ret (.bin .add (.idx (.var 0) (.con (.int 0))) (.call 16 (.cons (.idx (.var 0) (.con (.int 1))) .nil))))]
abbrev id__law_term_text : Nat := 17
abbrev s__law_saying_text : Stmt := top 20
def N__law_saying_text : List Str := ["_law_saying_here", "_law_text", "_law_part"]
def l__law_saying_text_0 : List Sx := [(.set 1 (.bin .add (.var 1) (.con (.str (" " : Str))))), (.ite (.val (.cmp .isN (.var 2) (.con .non))) [(.set 1 (.bin .add (.var 1) (.con (.str (".." : Str)))))] [(.ite (.val (.blt (.isi .str) (.cons (.var 2) .nil))) [(.set 1 (.bin .add (.var 1) (.var 2)))] [(.ite (.val (.blt (.isi .int) (.cons (.var 2) .nil))) [(.set 1 (.bin .add (.var 1) (.blt .str (.cons (.var 2) .nil))))] [(.set 1 (.bin .add (.var 1) (.call 17 (.cons (.var 2) .nil))))])])])]
def b__law_saying_text : List Sx := [(.set 1 (.idx (.var 0) (.con (.int 0)))), (.loop (.nm 2) (.ex (.slc (.var 0) (.some (.con (.int 1))) .none)) l__law_saying_text_0), (.ret (.var 1))]
abbrev id__law_saying_text : Nat := 18
abbrev s_law : Stmt := top 21
def N_law : List Str := ["_law_script", "_law_parts_here", "_law_scale_here", "_law_at", "_law_saying_here", "_law_due", "_law_part", "_law_flat", "_law_told", "_law_text"]
def l_law_0 : List Sx := [(.ite (.val (.blt (.isi .tuple) (.cons (.var 6) .nil))) [(.set 7 (.bin .add (.slc (.var 6) .none (.some (.neg (.con (.int 1))))) (.tup (.cons (.con (.int 0)) .nil)))), (.set 8 (.lst (.cons (.call 1 (.cons (.var 6) .nil)) (.cons (.call 1 (.cons (.var 7) .nil)) (.cons (.call 1 (.cons (.var 6) .nil)) .nil))))), (.set 9 (.call 17 (.cons (.var 6) .nil))), (.ite (.not (.val (.call 7 (.cons (.var 8) (.cons (.lst (.cons (.var 9) (.cons (.call 17 (.cons (.var 7) .nil)) (.cons (.var 9) .nil)))) .nil))))) [(.ret (.con (.bl false)))] [])] [])]
def l_law_1 : List Sx := [(.set 4 (.call 12 (.cons (.var 0) (.cons (.var 3) (.cons (.var 1) .nil))))), (.ite (.val (.cmp .eq (.bin .mod (.blt .int (.cons (.var 3) .nil)) (.con (.int 2))) (.con (.int 1)))) [(.set 4 (.call 15 (.cons (.var 4) (.cons (.var 2) .nil))))] []), (.set 5 (.call 18 (.cons (.var 4) .nil))), (.ite (.not (.val (.call 7 (.cons (.lst (.cons (.call 3 (.cons (.var 4) .nil)) (.cons (.call 3 (.cons (.var 4) .nil)) .nil))) (.cons (.lst (.cons (.var 5) (.cons (.var 5) .nil))) .nil))))) [(.ret (.con (.bl false)))] []), (.loop (.nm 6) (.ex (.slc (.var 4) (.some (.con (.int 1))) .none)) l_law_0)]
def b_law : List Sx := [(.set 1 (.call 10 (.cons (.var 0) (.cons (.con (.int 0)) .nil)))), (.set 2 (.call 13 (.cons (.var 0) (.cons (.con (.int 5)) .nil)))), (.loop (.nm 3) (.rng2 (.con (.int 7)) (.blt .max (.cons (.con (.int 11)) (.cons (.blt .min (.cons (.blt .len (.cons (.var 0) .nil)) (.cons (.con (.int 63)) .nil))) .nil)))) l_law_1), (.ret (.con (.bl true)))]
abbrev id_law : Nat := 19
structure Txt (P : Program) (w : World) (K : PySem.W.Frag) (mg : Str → Option Value) (base : Heap) (L : Lib) (d : Nat) : Prop where
  z : True
  f__law_draws : ∀ X : Cx, On X P w K mg base → FnAt L X ("_law_draws" : Str) 5 (d + 2)
  f__law_figure : ∀ X : Cx, On X P w K mg base → FnAt L X ("_law_figure" : Str) 4 (d + 2)
  f__law_long : ∀ X : Cx, On X P w K mg base → FnAt L X ("_law_long" : Str) 6 (d + 2)
  f__law_names : ∀ X : Cx, On X P w K mg base → FnAt L X ("_law_names" : Str) 8 (d + 2)
  f__law_parts : ∀ X : Cx, On X P w K mg base → FnAt L X ("_law_parts" : Str) 10 (d + 2)
  f__law_row : ∀ X : Cx, On X P w K mg base → FnAt L X ("_law_row" : Str) 9 (d + 2)
  f__law_same : ∀ X : Cx, On X P w K mg base → FnAt L X ("_law_same" : Str) 7 (d + 2)
  f__law_saying : ∀ X : Cx, On X P w K mg base → FnAt L X ("_law_saying" : Str) 12 (d + 2)
  f__law_saying_text : ∀ X : Cx, On X P w K mg base → FnAt L X ("_law_saying_text" : Str) 18 (d + 2)
  f__law_scale : ∀ X : Cx, On X P w K mg base → FnAt L X ("_law_scale" : Str) 13 (d + 2)
  f__law_scaled_saying : ∀ X : Cx, On X P w K mg base → FnAt L X ("_law_scaled_saying" : Str) 15 (d + 2)
  f__law_scaled_term : ∀ X : Cx, On X P w K mg base → FnAt L X ("_law_scaled_term" : Str) 14 (d + 2)
  f__law_sums : ∀ X : Cx, On X P w K mg base → FnAt L X ("_law_sums" : Str) 11 (d + 2)
  f__law_tail_text : ∀ X : Cx, On X P w K mg base → FnAt L X ("_law_tail_text" : Str) 16 (d + 2)
  f__law_term_text : ∀ X : Cx, On X P w K mg base → FnAt L X ("_law_term_text" : Str) 17 (d + 2)
  f_show_part : ∀ X : Cx, On X P w K mg base → FnAt L X ("show_part" : Str) 2 (d + 2)
  f_show_saying : ∀ X : Cx, On X P w K mg base → FnAt L X ("show_saying" : Str) 3 (d + 2)
  f_show_sum : ∀ X : Cx, On X P w K mg base → FnAt L X ("show_sum" : Str) 0 (d + 2)
  f_show_term : ∀ X : Cx, On X P w K mg base → FnAt L X ("show_term" : Str) 1 (d + 2)
  k_show_saying : ∀ X : Cx, On X P w K mg base → FnAtK L X ("show_saying" : Str) 3 (d + 2) [("saying" : Str)]
  k_show_term : ∀ X : Cx, On X P w K mg base → FnAtK L X ("show_term" : Str) 1 (d + 2) [("term" : Str)]
  g_all : ∀ X : Cx, On X P w K mg base → X.mg ("all" : Str) = none
  g_bool : ∀ X : Cx, On X P w K mg base → X.mg ("bool" : Str) = none
  g_dict : ∀ X : Cx, On X P w K mg base → X.mg ("dict" : Str) = none
  g_int : ∀ X : Cx, On X P w K mg base → X.mg ("int" : Str) = none
  g_isinstance : ∀ X : Cx, On X P w K mg base → X.mg ("isinstance" : Str) = none
  g_len : ∀ X : Cx, On X P w K mg base → X.mg ("len" : Str) = none
  g_list : ∀ X : Cx, On X P w K mg base → X.mg ("list" : Str) = none
  g_max : ∀ X : Cx, On X P w K mg base → X.mg ("max" : Str) = none
  g_min : ∀ X : Cx, On X P w K mg base → X.mg ("min" : Str) = none
  g_range : ∀ X : Cx, On X P w K mg base → X.mg ("range" : Str) = none
  g_sorted : ∀ X : Cx, On X P w K mg base → X.mg ("sorted" : Str) = none
  g_str : ∀ X : Cx, On X P w K mg base → X.mg ("str" : Str) = none
  g_tuple : ∀ X : Cx, On X P w K mg base → X.mg ("tuple" : Str) = none
section
variable {P : Program} {w : World} {K : PySem.W.Frag} {mg : Str → Option Value} {base : Heap} {L : Lib} {d : Nat}
theorem sc_show_sum : FnScope N_show_sum [("name" : Str), ("number" : Str)] (defScope s_show_sum) := ⟨rfl, rfl, rfl, by decide +kernel, rfl, by decide +kernel, by decide +kernel⟩
theorem h_show_sum (T : Txt P w K mg base L d) (f : Addr) (cdv : Value) (A : Around) (outer : List Env) (s : Shared) (H : Hp) (E : XK) (hr : Room (d + 2) (A.deeper (PyProof.Rows.envOfC ("show_sum" : Str) (defScope s_show_sum) s.heap.objs.size f cdv))) :
    DSs L (cxOf (L2.CX P w) P w K mg base N_show_sum ("show_sum" : Str) (defScope s_show_sum) f cdv A outer s H E) (fun c d _ H => E c d H) (defBody s_show_sum) b_show_sum := by
  have hu := hr.units
  have nd := sc_show_sum.nd
  exact (dss_cons (ds_ite (DW.t (dw_or (dt_cmp .eq hu (d_var 0) d_str rfl) (dw_or1 (dt_cmp .lt hu (d_var 1) d_int rfl)))) (dss_cons (ds_ret (d_bin .add (d_var 0) (d_bltT (f := .str) blt_str rfl (T.g_str _ ⟨rfl, rfl, rfl, rfl, rfl⟩) bb_str (da_cons (d_var 1) da_nil)))) dss_nil) dss_nil) (dss_cons (ds_ret (d_ife (dt_cmp .gt hu (d_var 1) d_int rfl) (d_bin .add (d_bin .add (d_var 0) d_str) (d_bltT (f := .str) blt_str rfl (T.g_str _ ⟨rfl, rfl, rfl, rfl, rfl⟩) bb_str (da_cons (d_var 1) da_nil))) (d_var 0))) dss_nil))
theorem sc_show_term : FnScope N_show_term [("term" : Str)] (defScope s_show_term) := ⟨rfl, rfl, rfl, by decide +kernel, rfl, by decide +kernel, by decide +kernel⟩
theorem h_show_term (T : Txt P w K mg base L d) (f : Addr) (cdv : Value) (A : Around) (outer : List Env) (s : Shared) (H : Hp) (E : XK) (hr : Room (d + 2) (A.deeper (PyProof.Rows.envOfC ("show_term" : Str) (defScope s_show_term) s.heap.objs.size f cdv))) :
    DSs L (cxOf (L2.CX P w) P w K mg base N_show_term ("show_term" : Str) (defScope s_show_term) f cdv A outer s H E) (fun c d _ H => E c d H) (defBody s_show_term) b_show_term := by
  have hu := hr.units
  have nd := sc_show_term.nd
  exact (dss_cons (ds_ite (dt_cmp .eq hu (d_bltB (f := .len) (blt_len trivial) rfl (T.g_len _ ⟨rfl, rfl, rfl, rfl, rfl⟩) bb_len (da_cons (d_var 0) da_nil)) d_int rfl) (dss_cons (ds_ret (d_call (T.f_show_sum _ ⟨rfl, rfl, rfl, rfl, rfl⟩) hr (takes_of rfl rfl rfl rfl) rfl (da_cons (d_idx hu (d_var 0) d_int) (da_cons (d_idx hu (d_var 0) d_int) da_nil)))) dss_nil) dss_nil) (dss_cons (ds_unp (d_var 0) (dg_tp rfl (.cons (i := 1) rfl nd rfl (by first | exact Or.inl rfl | exact Or.inr rfl) (by first | exact Or.inl rfl | exact Or.inr rfl) (.cons (i := 2) rfl nd rfl (by first | exact Or.inl rfl | exact Or.inr rfl) (by first | exact Or.inl rfl | exact Or.inr rfl) (.cons (i := 3) rfl nd rfl (by first | exact Or.inl rfl | exact Or.inr rfl) (by first | exact Or.inl rfl | exact Or.inr rfl) .nil))))) (dss_cons (ds_ret (d_call (T.f_show_sum _ ⟨rfl, rfl, rfl, rfl, rfl⟩) hr (takes_of rfl rfl rfl rfl) rfl (da_cons (d_bin .add (d_bin .add (d_bin .add (d_var 1) d_str) (d_call (T.f_show_term _ ⟨rfl, rfl, rfl, rfl, rfl⟩) hr (takes_of rfl rfl rfl rfl) rfl (da_cons (d_var 2) da_nil))) d_str) (da_cons (d_var 3) da_nil)))) dss_nil)))
theorem sc_show_part : FnScope N_show_part [("part" : Str)] (defScope s_show_part) := ⟨rfl, rfl, rfl, by decide +kernel, rfl, by decide +kernel, by decide +kernel⟩
theorem h_show_part (T : Txt P w K mg base L d) (f : Addr) (cdv : Value) (A : Around) (outer : List Env) (s : Shared) (H : Hp) (E : XK) (hr : Room (d + 2) (A.deeper (PyProof.Rows.envOfC ("show_part" : Str) (defScope s_show_part) s.heap.objs.size f cdv))) :
    DSs L (cxOf (L2.CX P w) P w K mg base N_show_part ("show_part" : Str) (defScope s_show_part) f cdv A outer s H E) (fun c d _ H => E c d H) (defBody s_show_part) b_show_part := by
  have hu := hr.units
  have nd := sc_show_part.nd
  exact (dss_cons (ds_ite (dt_cmp .isN hu (d_var 0) d_non rfl) (dss_cons (ds_ret d_str) dss_nil) dss_nil) (dss_cons (ds_ite (dt_val (d_isi .tuple rfl (T.g_isinstance _ ⟨rfl, rfl, rfl, rfl, rfl⟩) rfl (T.g_tuple _ ⟨rfl, rfl, rfl, rfl, rfl⟩) (d_var 0) bb_isinstance (bb_ty .tuple) (ne_ty .tuple) (nd_ty .tuple))) (dss_cons (ds_ret (d_call (T.f_show_term _ ⟨rfl, rfl, rfl, rfl, rfl⟩) hr (takes_of rfl rfl rfl rfl) rfl (da_cons (d_var 0) da_nil))) dss_nil) dss_nil) (dss_cons (ds_ret (d_bltT (f := .str) blt_str rfl (T.g_str _ ⟨rfl, rfl, rfl, rfl, rfl⟩) bb_str (da_cons (d_var 0) da_nil))) dss_nil)))
theorem sc_show_saying : FnScope N_show_saying [("saying" : Str)] (defScope s_show_saying) := ⟨rfl, rfl, rfl, by decide +kernel, rfl, by decide +kernel, by decide +kernel⟩
theorem h_show_saying (T : Txt P w K mg base L d) (f : Addr) (cdv : Value) (A : Around) (outer : List Env) (s : Shared) (H : Hp) (E : XK) (hr : Room (d + 2) (A.deeper (PyProof.Rows.envOfC ("show_saying" : Str) (defScope s_show_saying) s.heap.objs.size f cdv))) :
    DSs L (cxOf (L2.CX P w) P w K mg base N_show_saying ("show_saying" : Str) (defScope s_show_saying) f cdv A outer s H E) (fun c d _ H => E c d H) (defBody s_show_saying) b_show_saying := by
  have hu := hr.units
  have nd := sc_show_saying.nd
  exact (dss_cons (ds_ret (d_join d_str (d_lc (own := [(("part" : Str), 1)]) rfl nd (di_ex (d_var 0)) (blkOk_by (by kernel_rfl)) (fun _ _ _ _ _ => (dg_nm 1 nd rfl (by first | exact Or.inl rfl | exact Or.inr rfl) (by first | exact Or.inl rfl | exact Or.inr rfl))) (fun _ _ _ _ _ => dts_nil) (fun _ _ _ _ _ => (d_call (T.f_show_part _ ⟨rfl, rfl, rfl, rfl, rfl⟩) hr takes0 rfl (da_cons (d_var 1) da_nil))) (by decide)))) dss_nil)
theorem sc__law_figure : FnScope N__law_figure [("_law_script" : Str), ("_law_at" : Str)] (defScope s__law_figure) := ⟨rfl, rfl, rfl, by decide +kernel, rfl, by decide +kernel, by decide +kernel⟩
theorem h__law_figure (T : Txt P w K mg base L d) (f : Addr) (cdv : Value) (A : Around) (outer : List Env) (s : Shared) (H : Hp) (E : XK) (hr : Room (d + 2) (A.deeper (PyProof.Rows.envOfC ("_law_figure" : Str) (defScope s__law_figure) s.heap.objs.size f cdv))) :
    DSs L (cxOf (L2.CX P w) P w K mg base N__law_figure ("_law_figure" : Str) (defScope s__law_figure) f cdv A outer s H E) (fun c d _ H => E c d H) (defBody s__law_figure) b__law_figure := by
  have hu := hr.units
  have nd := sc__law_figure.nd
  exact (dss_cons (ds_set 2 nd rfl (by first | exact Or.inl rfl | exact Or.inr rfl) (by first | exact Or.inl rfl | exact Or.inr rfl) d_int) (dss_cons (ds_ite (dt_cmp .lt hu (d_var 1) (d_bltB (f := .len) (blt_len trivial) rfl (T.g_len _ ⟨rfl, rfl, rfl, rfl, rfl⟩) bb_len (da_cons (d_var 0) da_nil)) rfl) (dss_cons (ds_set 2 nd rfl (by first | exact Or.inl rfl | exact Or.inr rfl) (by first | exact Or.inl rfl | exact Or.inr rfl) (d_idx hu (d_var 0) (d_var 1))) dss_nil) dss_nil) (dss_cons (ds_ite (dt_cmp .lt hu (d_var 2) d_int rfl) (dss_cons (ds_set 2 nd rfl (by first | exact Or.inl rfl | exact Or.inr rfl) (by first | exact Or.inl rfl | exact Or.inr rfl) (d_bin .sub (d_neg d_int) (d_bin .mul d_int (d_var 2)))) dss_nil) dss_nil) (dss_cons (ds_ret (d_bin .mod (d_bltT (f := .int) blt_int rfl (T.g_int _ ⟨rfl, rfl, rfl, rfl, rfl⟩) bb_int (da_cons (d_var 2) da_nil)) (d_bin .mul (d_bin .mul (d_bin .pow d_int d_int) (d_bin .pow d_int d_int)) (d_bin .pow d_int d_int)))) dss_nil))))
theorem sc__law_draws : FnScope N__law_draws [("_law_script" : Str), ("_law_at" : Str), ("_law_limits" : Str)] (defScope s__law_draws) := ⟨rfl, rfl, rfl, by decide +kernel, rfl, by decide +kernel, by decide +kernel⟩
theorem h__law_draws (T : Txt P w K mg base L d) (f : Addr) (cdv : Value) (A : Around) (outer : List Env) (s : Shared) (H : Hp) (E : XK) (hr : Room (d + 2) (A.deeper (PyProof.Rows.envOfC ("_law_draws" : Str) (defScope s__law_draws) s.heap.objs.size f cdv))) :
    DSs L (cxOf (L2.CX P w) P w K mg base N__law_draws ("_law_draws" : Str) (defScope s__law_draws) f cdv A outer s H E) (fun c d _ H => E c d H) (defBody s__law_draws) b__law_draws := by
  have hu := hr.units
  have nd := sc__law_draws.nd
  have hp : PassesOwn (model P w) (A.deeper (PyProof.Rows.envOfC ("_law_draws" : Str) (defScope s__law_draws) s.heap.objs.size f cdv)) (PyProof.Rows.envOfC ("_law_draws" : Str) (defScope s__law_draws) s.heap.objs.size f cdv) (cxOf (L2.CX P w) P w K mg base N__law_draws ("_law_draws" : Str) (defScope s__law_draws) f cdv A outer s H E).xe := passes_of rfl
  exact (dss_cons (ds_set 3 nd rfl (by first | exact Or.inl rfl | exact Or.inr rfl) (by first | exact Or.inl rfl | exact Or.inr rfl) (d_call (T.f__law_figure _ ⟨rfl, rfl, rfl, rfl, rfl⟩) hr (takes_of rfl rfl rfl rfl) rfl (da_cons (d_var 0) (da_cons (d_var 1) da_nil)))) (dss_cons (ds_set 4 nd rfl (by first | exact Or.inl rfl | exact Or.inr rfl) (by first | exact Or.inl rfl | exact Or.inr rfl) (d_bin .sub (d_var 3) (d_bin .pow d_int d_int))) (dss_cons (ds_set 5 nd rfl (by first | exact Or.inl rfl | exact Or.inr rfl) (by first | exact Or.inl rfl | exact Or.inr rfl) (d_lst da_nil)) (dss_cons (ds_for hp rfl (di_rng1 rfl (T.g_range _ ⟨rfl, rfl, rfl, rfl, rfl⟩) (d_bltB (f := .len) (blt_len trivial) rfl (T.g_len _ ⟨rfl, rfl, rfl, rfl, rfl⟩) bb_len (da_cons (d_var 2) da_nil))) (dg_nm 6 nd rfl (by first | exact Or.inl rfl | exact Or.inr rfl) (by first | exact Or.inl rfl | exact Or.inr rfl)) (dss_cons (ds_set 7 nd rfl (by first | exact Or.inl rfl | exact Or.inr rfl) (by first | exact Or.inl rfl | exact Or.inr rfl) (d_bin .mod (d_bltT (f := .int) blt_int rfl (T.g_int _ ⟨rfl, rfl, rfl, rfl, rfl⟩) bb_int (da_cons (d_bin .add (d_bin .add (d_bin .mul (d_var 3) (d_bin .add d_int (d_bin .mul (d_bin .mul d_int (d_var 6)) (d_var 6)))) (d_bin .mul (d_bin .add (d_var 6) d_int) d_int)) (d_bin .mul (d_var 1) d_int)) da_nil)) d_int)) (dss_cons (ds_set 7 nd rfl (by first | exact Or.inl rfl | exact Or.inr rfl) (by first | exact Or.inl rfl | exact Or.inr rfl) (d_bin .fdiv (d_bin .mod (d_bltT (f := .int) blt_int rfl (T.g_int _ ⟨rfl, rfl, rfl, rfl, rfl⟩) bb_int (da_cons (d_bin .add (d_bin .add (d_bin .mul (d_var 7) (d_var 7)) (d_bin .mul d_int (d_var 6))) (d_var 3)) da_nil)) d_int) d_int)) (dss_cons (ds_ite (dt_cmp .ge hu (d_var 3) (d_bin .pow d_int d_int) rfl) (dss_cons (ds_set 7 nd rfl (by first | exact Or.inl rfl | exact Or.inr rfl) (by first | exact Or.inl rfl | exact Or.inr rfl) (d_var 4)) (dss_cons (ds_set 4 nd rfl (by first | exact Or.inl rfl | exact Or.inr rfl) (by first | exact Or.inl rfl | exact Or.inr rfl) (d_bin .fdiv (d_var 4) (d_idx hu (d_var 2) (d_var 6)))) dss_nil)) dss_nil) (dss_cons (ds_exp (d_append (d_var 5) (da_cons (d_bin .mod (d_bltT (f := .int) blt_int rfl (T.g_int _ ⟨rfl, rfl, rfl, rfl, rfl⟩) bb_int (da_cons (d_var 7) da_nil)) (d_idx hu (d_var 2) (d_var 6))) da_nil))) dss_nil))))) (dss_cons (ds_ret (d_var 5)) dss_nil)))))
theorem sc__law_long : FnScope N__law_long [("_law_script" : Str), ("_law_at" : Str), ("_law_many" : Str)] (defScope s__law_long) := ⟨rfl, rfl, rfl, by decide +kernel, rfl, by decide +kernel, by decide +kernel⟩
theorem h__law_long (T : Txt P w K mg base L d) (f : Addr) (cdv : Value) (A : Around) (outer : List Env) (s : Shared) (H : Hp) (E : XK) (hr : Room (d + 2) (A.deeper (PyProof.Rows.envOfC ("_law_long" : Str) (defScope s__law_long) s.heap.objs.size f cdv))) :
    DSs L (cxOf (L2.CX P w) P w K mg base N__law_long ("_law_long" : Str) (defScope s__law_long) f cdv A outer s H E) (fun c d _ H => E c d H) (defBody s__law_long) b__law_long := by
  have hu := hr.units
  have nd := sc__law_long.nd
  have hp : PassesOwn (model P w) (A.deeper (PyProof.Rows.envOfC ("_law_long" : Str) (defScope s__law_long) s.heap.objs.size f cdv)) (PyProof.Rows.envOfC ("_law_long" : Str) (defScope s__law_long) s.heap.objs.size f cdv) (cxOf (L2.CX P w) P w K mg base N__law_long ("_law_long" : Str) (defScope s__law_long) f cdv A outer s H E).xe := passes_of rfl
  exact (dss_cons (ds_set 3 nd rfl (by first | exact Or.inl rfl | exact Or.inr rfl) (by first | exact Or.inl rfl | exact Or.inr rfl) (d_call (T.f__law_draws _ ⟨rfl, rfl, rfl, rfl, rfl⟩) hr (takes_of rfl rfl rfl rfl) rfl (da_cons (d_var 0) (da_cons (d_var 1) (da_cons (d_bin .mul (d_lst (da_cons d_int (da_cons d_int (da_cons (d_bin .pow d_int d_int) (da_cons (d_bin .pow d_int d_int) (da_cons (d_bin .pow d_int d_int) (da_cons (d_bin .pow d_int d_int) da_nil))))))) (d_var 2)) da_nil))))) (dss_cons (ds_set 4 nd rfl (by first | exact Or.inl rfl | exact Or.inr rfl) (by first | exact Or.inl rfl | exact Or.inr rfl) (d_lst da_nil)) (dss_cons (ds_for hp rfl (di_rng1 rfl (T.g_range _ ⟨rfl, rfl, rfl, rfl, rfl⟩) (d_var 2)) (dg_nm 5 nd rfl (by first | exact Or.inl rfl | exact Or.inr rfl) (by first | exact Or.inl rfl | exact Or.inr rfl)) (dss_cons (ds_set 6 nd rfl (by first | exact Or.inl rfl | exact Or.inr rfl) (by first | exact Or.inl rfl | exact Or.inr rfl) d_int) (dss_cons (ds_for hp rfl (di_rng1 rfl (T.g_range _ ⟨rfl, rfl, rfl, rfl, rfl⟩) (d_idx hu (d_var 3) (d_bin .mul d_int (d_var 5)))) (dg_nm 7 nd rfl (by first | exact Or.inl rfl | exact Or.inr rfl) (by first | exact Or.inl rfl | exact Or.inr rfl)) (dss_cons (ds_set 6 nd rfl (by first | exact Or.inl rfl | exact Or.inr rfl) (by first | exact Or.inl rfl | exact Or.inr rfl) (d_bin .mul (d_var 6) d_int)) dss_nil)) (dss_cons (ds_set 8 nd rfl (by first | exact Or.inl rfl | exact Or.inr rfl) (by first | exact Or.inl rfl | exact Or.inr rfl) d_int) (dss_cons (ds_for hp rfl (di_ex (d_slc (d_var 3) (do_some (d_bin .add (d_bin .mul d_int (d_var 5)) d_int)) (do_some (d_bin .add (d_bin .mul d_int (d_var 5)) d_int)))) (dg_nm 9 nd rfl (by first | exact Or.inl rfl | exact Or.inr rfl) (by first | exact Or.inl rfl | exact Or.inr rfl)) (dss_cons (ds_set 8 nd rfl (by first | exact Or.inl rfl | exact Or.inr rfl) (by first | exact Or.inl rfl | exact Or.inr rfl) (d_bin .add (d_bin .mul (d_var 8) (d_bin .pow d_int d_int)) (d_var 9))) dss_nil)) (dss_cons (ds_set 8 nd rfl (by first | exact Or.inl rfl | exact Or.inr rfl) (by first | exact Or.inl rfl | exact Or.inr rfl) (d_bin .mod (d_bltT (f := .int) blt_int rfl (T.g_int _ ⟨rfl, rfl, rfl, rfl, rfl⟩) bb_int (da_cons (d_var 8) da_nil)) (d_var 6))) (dss_cons (ds_exp (d_append (d_var 4) (da_cons (d_ife (dt_cmp .eq hu (d_idx hu (d_var 3) (d_bin .add (d_bin .mul d_int (d_var 5)) d_int)) d_int rfl) (d_neg (d_var 8)) (d_var 8)) da_nil))) dss_nil))))))) (dss_cons (ds_ret (d_var 4)) dss_nil))))
theorem sc__law_same : FnScope N__law_same [("_law_found" : Str), ("_law_due" : Str)] (defScope s__law_same) := ⟨rfl, rfl, rfl, by decide +kernel, rfl, by decide +kernel, by decide +kernel⟩
theorem h__law_same (T : Txt P w K mg base L d) (f : Addr) (cdv : Value) (A : Around) (outer : List Env) (s : Shared) (H : Hp) (E : XK) (hr : Room (d + 2) (A.deeper (PyProof.Rows.envOfC ("_law_same" : Str) (defScope s__law_same) s.heap.objs.size f cdv))) :
    DSs L (cxOf (L2.CX P w) P w K mg base N__law_same ("_law_same" : Str) (defScope s__law_same) f cdv A outer s H E) (fun c d _ H => E c d H) (defBody s__law_same) b__law_same := by
  have hu := hr.units
  have nd := sc__law_same.nd
  exact (dss_cons (ds_ite (dt_cmp .isN hu (d_var 1) d_non rfl) (dss_cons (ds_ret (d_cmp .isN hu (d_var 0) d_non rfl)) dss_nil) dss_nil) (dss_cons (ds_ite (DW.t (dw_or (dt_val (d_isi .bool rfl (T.g_isinstance _ ⟨rfl, rfl, rfl, rfl, rfl⟩) rfl (T.g_bool _ ⟨rfl, rfl, rfl, rfl, rfl⟩) (d_var 1) bb_isinstance (bb_ty .bool) (ne_ty .bool) (nd_ty .bool))) (dw_or1 (dt_val (d_isi .bool rfl (T.g_isinstance _ ⟨rfl, rfl, rfl, rfl, rfl⟩) rfl (T.g_bool _ ⟨rfl, rfl, rfl, rfl, rfl⟩) (d_var 0) bb_isinstance (bb_ty .bool) (ne_ty .bool) (nd_ty .bool)))))) (dss_cons (ds_ret (d_and (d_isi .bool rfl (T.g_isinstance _ ⟨rfl, rfl, rfl, rfl, rfl⟩) rfl (T.g_bool _ ⟨rfl, rfl, rfl, rfl, rfl⟩) (d_var 1) bb_isinstance (bb_ty .bool) (ne_ty .bool) (nd_ty .bool)) (d_and (d_isi .bool rfl (T.g_isinstance _ ⟨rfl, rfl, rfl, rfl, rfl⟩) rfl (T.g_bool _ ⟨rfl, rfl, rfl, rfl, rfl⟩) (d_var 0) bb_isinstance (bb_ty .bool) (ne_ty .bool) (nd_ty .bool)) (d_one (d_cmp .eq hu (d_var 0) (d_var 1) rfl))))) dss_nil) dss_nil) (dss_cons (ds_ite (dt_val (d_isi .int rfl (T.g_isinstance _ ⟨rfl, rfl, rfl, rfl, rfl⟩) rfl (T.g_int _ ⟨rfl, rfl, rfl, rfl, rfl⟩) (d_var 1) bb_isinstance (bb_ty .int) (ne_ty .int) (nd_ty .int))) (dss_cons (ds_ret (d_and (d_isi .int rfl (T.g_isinstance _ ⟨rfl, rfl, rfl, rfl, rfl⟩) rfl (T.g_int _ ⟨rfl, rfl, rfl, rfl, rfl⟩) (d_var 0) bb_isinstance (bb_ty .int) (ne_ty .int) (nd_ty .int)) (d_one (d_cmp .eq hu (d_var 0) (d_var 1) rfl)))) dss_nil) dss_nil) (dss_cons (ds_ite (dt_val (d_isi .str rfl (T.g_isinstance _ ⟨rfl, rfl, rfl, rfl, rfl⟩) rfl (T.g_str _ ⟨rfl, rfl, rfl, rfl, rfl⟩) (d_var 1) bb_isinstance (bb_ty .str) (ne_ty .str) (nd_ty .str))) (dss_cons (ds_ret (d_and (d_isi .str rfl (T.g_isinstance _ ⟨rfl, rfl, rfl, rfl, rfl⟩) rfl (T.g_str _ ⟨rfl, rfl, rfl, rfl, rfl⟩) (d_var 0) bb_isinstance (bb_ty .str) (ne_ty .str) (nd_ty .str)) (d_one (d_cmp .eq hu (d_var 0) (d_var 1) rfl)))) dss_nil) dss_nil) (dss_cons (ds_ite (dt_val (d_isi .dict rfl (T.g_isinstance _ ⟨rfl, rfl, rfl, rfl, rfl⟩) rfl (T.g_dict _ ⟨rfl, rfl, rfl, rfl, rfl⟩) (d_var 1) bb_isinstance (bb_ty .dict) (ne_ty .dict) (nd_ty .dict))) (dss_cons (ds_ite (DW.t (dw_or (dt_not (dt_val (d_isi .dict rfl (T.g_isinstance _ ⟨rfl, rfl, rfl, rfl, rfl⟩) rfl (T.g_dict _ ⟨rfl, rfl, rfl, rfl, rfl⟩) (d_var 0) bb_isinstance (bb_ty .dict) (ne_ty .dict) (nd_ty .dict)))) (dw_or1 (dt_cmp .ne hu (d_bltB (f := .len) (blt_len trivial) rfl (T.g_len _ ⟨rfl, rfl, rfl, rfl, rfl⟩) bb_len (da_cons (d_var 0) da_nil)) (d_bltB (f := .len) (blt_len trivial) rfl (T.g_len _ ⟨rfl, rfl, rfl, rfl, rfl⟩) bb_len (da_cons (d_var 1) da_nil)) rfl)))) (dss_cons (ds_ret d_bl) dss_nil) dss_nil) (dss_cons (ds_ret (d_bltB (f := .all) (blt_all rfl) rfl (T.g_all _ ⟨rfl, rfl, rfl, rfl, rfl⟩) bb_all (da_cons (d_lc (own := [(("_law_key" : Str), 3)]) rfl nd (di_ex (d_var 1)) (blkOk_by (by kernel_rfl)) (fun _ _ _ _ _ => (dg_nm 3 nd rfl (by first | exact Or.inl rfl | exact Or.inr rfl) (by first | exact Or.inl rfl | exact Or.inr rfl))) (fun _ _ _ _ _ => dts_nil) (fun _ _ _ _ _ => (d_and (d_cmp .inn hu (d_var 3) (d_var 0) rfl) (d_one (d_call (T.f__law_same _ ⟨rfl, rfl, rfl, rfl, rfl⟩) hr takes0 rfl (da_cons (d_idx hu (d_var 0) (d_var 3)) (da_cons (d_idx hu (d_var 1) (d_var 3)) da_nil)))))) (by decide)) da_nil))) dss_nil)) dss_nil) (dss_cons (ds_ite (DW.t (dw_or (dt_cmp .ne hu (d_isi .list rfl (T.g_isinstance _ ⟨rfl, rfl, rfl, rfl, rfl⟩) rfl (T.g_list _ ⟨rfl, rfl, rfl, rfl, rfl⟩) (d_var 1) bb_isinstance (bb_ty .list) (ne_ty .list) (nd_ty .list)) (d_isi .list rfl (T.g_isinstance _ ⟨rfl, rfl, rfl, rfl, rfl⟩) rfl (T.g_list _ ⟨rfl, rfl, rfl, rfl, rfl⟩) (d_var 0) bb_isinstance (bb_ty .list) (ne_ty .list) (nd_ty .list)) rfl) (dw_or1 (dt_cmp .ne hu (d_isi .tuple rfl (T.g_isinstance _ ⟨rfl, rfl, rfl, rfl, rfl⟩) rfl (T.g_tuple _ ⟨rfl, rfl, rfl, rfl, rfl⟩) (d_var 1) bb_isinstance (bb_ty .tuple) (ne_ty .tuple) (nd_ty .tuple)) (d_isi .tuple rfl (T.g_isinstance _ ⟨rfl, rfl, rfl, rfl, rfl⟩) rfl (T.g_tuple _ ⟨rfl, rfl, rfl, rfl, rfl⟩) (d_var 0) bb_isinstance (bb_ty .tuple) (ne_ty .tuple) (nd_ty .tuple)) rfl)))) (dss_cons (ds_ret d_bl) dss_nil) dss_nil) (dss_cons (ds_ite (dt_cmp .ne hu (d_bltB (f := .len) (blt_len trivial) rfl (T.g_len _ ⟨rfl, rfl, rfl, rfl, rfl⟩) bb_len (da_cons (d_var 0) da_nil)) (d_bltB (f := .len) (blt_len trivial) rfl (T.g_len _ ⟨rfl, rfl, rfl, rfl, rfl⟩) bb_len (da_cons (d_var 1) da_nil)) rfl) (dss_cons (ds_ret d_bl) dss_nil) dss_nil) (dss_cons (ds_ret (d_bltB (f := .all) (blt_all rfl) rfl (T.g_all _ ⟨rfl, rfl, rfl, rfl, rfl⟩) bb_all (da_cons (d_lc (own := [(("_law_k" : Str), 2)]) rfl nd (di_rng1 rfl (T.g_range _ ⟨rfl, rfl, rfl, rfl, rfl⟩) (d_bltB (f := .len) (blt_len trivial) rfl (T.g_len _ ⟨rfl, rfl, rfl, rfl, rfl⟩) bb_len (da_cons (d_var 1) da_nil))) (blkOk_by (by kernel_rfl)) (fun _ _ _ _ _ => (dg_nm 2 nd rfl (by first | exact Or.inl rfl | exact Or.inr rfl) (by first | exact Or.inl rfl | exact Or.inr rfl))) (fun _ _ _ _ _ => dts_nil) (fun _ _ _ _ _ => (d_call (T.f__law_same _ ⟨rfl, rfl, rfl, rfl, rfl⟩) hr takes0 rfl (da_cons (d_idx hu (d_var 0) (d_var 2)) (da_cons (d_idx hu (d_var 1) (d_var 2)) da_nil)))) (by decide)) da_nil))) dss_nil))))))))
theorem sc__law_names : FnScope N__law_names [("_law_script" : Str), ("_law_at" : Str), ("_law_many" : Str)] (defScope s__law_names) := ⟨rfl, rfl, rfl, by decide +kernel, rfl, by decide +kernel, by decide +kernel⟩
theorem h__law_names (T : Txt P w K mg base L d) (f : Addr) (cdv : Value) (A : Around) (outer : List Env) (s : Shared) (H : Hp) (E : XK) (hr : Room (d + 2) (A.deeper (PyProof.Rows.envOfC ("_law_names" : Str) (defScope s__law_names) s.heap.objs.size f cdv))) :
    DSs L (cxOf (L2.CX P w) P w K mg base N__law_names ("_law_names" : Str) (defScope s__law_names) f cdv A outer s H E) (fun c d _ H => E c d H) (defBody s__law_names) b__law_names := by
  have hu := hr.units
  have nd := sc__law_names.nd
  have hp : PassesOwn (model P w) (A.deeper (PyProof.Rows.envOfC ("_law_names" : Str) (defScope s__law_names) s.heap.objs.size f cdv)) (PyProof.Rows.envOfC ("_law_names" : Str) (defScope s__law_names) s.heap.objs.size f cdv) (cxOf (L2.CX P w) P w K mg base N__law_names ("_law_names" : Str) (defScope s__law_names) f cdv A outer s H E).xe := passes_of rfl
  exact (dss_cons (ds_set 3 nd rfl (by first | exact Or.inl rfl | exact Or.inr rfl) (by first | exact Or.inl rfl | exact Or.inr rfl) d_str) (dss_cons (ds_set 4 nd rfl (by first | exact Or.inl rfl | exact Or.inr rfl) (by first | exact Or.inl rfl | exact Or.inr rfl) (d_call (T.f__law_draws _ ⟨rfl, rfl, rfl, rfl, rfl⟩) hr (takes_of rfl rfl rfl rfl) rfl (da_cons (d_var 0) (da_cons (d_var 1) (da_cons (d_bin .add (d_lst (da_cons d_int da_nil)) (d_bin .mul (d_lst (da_cons d_int (da_cons d_int (da_cons d_int (da_cons d_int (da_cons d_int (da_cons d_int (da_cons d_int da_nil)))))))) (d_var 2))) da_nil))))) (dss_cons (ds_set 5 nd rfl (by first | exact Or.inl rfl | exact Or.inr rfl) (by first | exact Or.inl rfl | exact Or.inr rfl) (d_lst da_nil)) (dss_cons (ds_for hp rfl (di_rng1 rfl (T.g_range _ ⟨rfl, rfl, rfl, rfl, rfl⟩) (d_var 2)) (dg_nm 6 nd rfl (by first | exact Or.inl rfl | exact Or.inr rfl) (by first | exact Or.inl rfl | exact Or.inr rfl)) (dss_cons (ds_set 7 nd rfl (by first | exact Or.inl rfl | exact Or.inr rfl) (by first | exact Or.inl rfl | exact Or.inr rfl) (d_slc (d_var 4) (do_some (d_bin .add d_int (d_bin .mul d_int (d_var 6)))) (do_some (d_bin .add (d_bin .add d_int (d_bin .mul d_int (d_var 6))) (d_idx hu (d_var 4) (d_bin .add d_int (d_bin .mul d_int (d_var 6)))))))) (dss_cons (ds_ite (dt_cmp .eq hu (d_idx hu (d_var 4) d_int) d_int rfl) (dss_cons (ds_setLc (own := [(("_law_sign" : Str), 10)]) 7 rfl nd rfl rfl rfl (di_ex (d_var 7)) (blkOk_by (by kernel_rfl)) (fun _ _ _ _ _ => (dg_nm 10 nd rfl (by first | exact Or.inl rfl | exact Or.inr rfl) (by first | exact Or.inl rfl | exact Or.inr rfl))) (fun _ _ _ _ _ => dts_nil) (fun _ _ _ _ _ => (d_bin .mod (d_bltT (f := .int) blt_int rfl (T.g_int _ ⟨rfl, rfl, rfl, rfl, rfl⟩) bb_int (da_cons (d_var 10) da_nil)) d_int)) (by decide)) dss_nil) dss_nil) (dss_cons (ds_set 8 nd rfl (by first | exact Or.inl rfl | exact Or.inr rfl) (by first | exact Or.inl rfl | exact Or.inr rfl) (d_join d_str (d_lc (own := [(("_law_sign" : Str), 10)]) rfl nd (di_ex (d_var 7)) (blkOk_by (by kernel_rfl)) (fun _ _ _ _ _ => (dg_nm 10 nd rfl (by first | exact Or.inl rfl | exact Or.inr rfl) (by first | exact Or.inl rfl | exact Or.inr rfl))) (fun _ _ _ _ _ => dts_nil) (fun _ _ _ _ _ => (d_idx hu (d_var 3) (d_var 10))) (by decide)))) (dss_cons (ds_for hp rfl (di_rng1 rfl (T.g_range _ ⟨rfl, rfl, rfl, rfl, rfl⟩) d_int) (dg_nm 9 nd rfl (by first | exact Or.inl rfl | exact Or.inr rfl) (by first | exact Or.inl rfl | exact Or.inr rfl)) (dss_cons (ds_ite (dt_cmp .inn hu (d_var 8) (d_var 5) rfl) (dss_cons (ds_set 8 nd rfl (by first | exact Or.inl rfl | exact Or.inr rfl) (by first | exact Or.inl rfl | exact Or.inr rfl) (d_bin .add (d_idx hu (d_var 3) (d_bin .mod (d_bltT (f := .int) blt_int rfl (T.g_int _ ⟨rfl, rfl, rfl, rfl, rfl⟩) bb_int (da_cons (d_bin .add (d_bin .add (d_idx hu (d_var 7) d_int) (d_var 9)) d_int) da_nil)) d_int)) (d_slc (d_var 8) (do_some d_int) do_none))) dss_nil) dss_nil) dss_nil)) (dss_cons (ds_exp (d_append (d_var 5) (da_cons (d_var 8) da_nil))) dss_nil)))))) (dss_cons (ds_ret (d_var 5)) dss_nil)))))
theorem sc__law_row : FnScope N__law_row [("_law_script" : Str), ("_law_at" : Str), ("_law_first" : Str), ("_law_size" : Str), ("_law_high" : Str)] (defScope s__law_row) := ⟨rfl, rfl, rfl, by decide +kernel, rfl, by decide +kernel, by decide +kernel⟩
theorem h__law_row (T : Txt P w K mg base L d) (f : Addr) (cdv : Value) (A : Around) (outer : List Env) (s : Shared) (H : Hp) (E : XK) (hr : Room (d + 2) (A.deeper (PyProof.Rows.envOfC ("_law_row" : Str) (defScope s__law_row) s.heap.objs.size f cdv))) :
    DSs L (cxOf (L2.CX P w) P w K mg base N__law_row ("_law_row" : Str) (defScope s__law_row) f cdv A outer s H E) (fun c d _ H => E c d H) (defBody s__law_row) b__law_row := by
  have hu := hr.units
  have nd := sc__law_row.nd
  exact (dss_cons (ds_set 5 nd rfl (by first | exact Or.inl rfl | exact Or.inr rfl) (by first | exact Or.inl rfl | exact Or.inr rfl) (d_call (T.f__law_draws _ ⟨rfl, rfl, rfl, rfl, rfl⟩) hr (takes_of rfl rfl rfl rfl) rfl (da_cons (d_var 0) (da_cons (d_var 1) (da_cons (d_bin .add (d_lst (da_cons d_int (da_cons (d_var 3) (da_cons (d_var 4) da_nil)))) (d_bin .mul (d_lst (da_cons d_int (da_cons (d_var 4) da_nil))) (d_var 3))) da_nil))))) (dss_cons (ds_set 6 nd rfl (by first | exact Or.inl rfl | exact Or.inr rfl) (by first | exact Or.inl rfl | exact Or.inr rfl) (d_lc (own := [(("_law_k" : Str), 8)]) rfl nd (di_rng1 rfl (T.g_range _ ⟨rfl, rfl, rfl, rfl, rfl⟩) (d_var 3)) (blkOk_by (by kernel_rfl)) (fun _ _ _ _ _ => (dg_nm 8 nd rfl (by first | exact Or.inl rfl | exact Or.inr rfl) (by first | exact Or.inl rfl | exact Or.inr rfl))) (fun _ _ _ _ _ => (dts_one (dt_cmp .eq hu (d_idx hu (d_var 5) (d_bin .add d_int (d_bin .mul d_int (d_var 8)))) d_int rfl))) (fun _ _ _ _ _ => (d_tup (da_cons (d_bin .add (d_var 2) (d_var 8)) (da_cons (d_idx hu (d_var 5) (d_bin .add d_int (d_bin .mul d_int (d_var 8)))) da_nil)))) (by decide))) (dss_cons (ds_ite (dt_cmp .eq hu (d_var 6) (d_lst da_nil) rfl) (dss_cons (ds_set 6 nd rfl (by first | exact Or.inl rfl | exact Or.inr rfl) (by first | exact Or.inl rfl | exact Or.inr rfl) (d_lst (da_cons (d_tup (da_cons (d_bin .add (d_var 2) (d_idx hu (d_var 5) d_int)) (da_cons (d_idx hu (d_var 5) d_int) da_nil))) da_nil))) dss_nil) dss_nil) (dss_cons (ds_ite (dt_cmp .eq hu (d_idx hu (d_var 5) d_int) d_int rfl) (dss_cons (ds_set 6 nd rfl (by first | exact Or.inl rfl | exact Or.inr rfl) (by first | exact Or.inl rfl | exact Or.inr rfl) (d_rev (d_var 6))) dss_nil) dss_nil) (dss_cons (ds_ite (dt_cmp .eq hu (d_idx hu (d_var 5) d_int) d_int rfl) (dss_cons (ds_set 6 nd rfl (by first | exact Or.inl rfl | exact Or.inr rfl) (by first | exact Or.inl rfl | exact Or.inr rfl) (d_bin .add (d_slc (d_var 6) (do_some d_int) do_none) (d_slc (d_var 6) do_none (do_some d_int)))) dss_nil) dss_nil) (dss_cons (ds_ite (dt_cmp .eq hu (d_idx hu (d_var 5) d_int) d_int rfl) (dss_cons (ds_set 7 nd rfl (by first | exact Or.inl rfl | exact Or.inr rfl) (by first | exact Or.inl rfl | exact Or.inr rfl) (d_bltB (f := .sorted) (blt_sorted rfl) rfl (T.g_sorted _ ⟨rfl, rfl, rfl, rfl, rfl⟩) bb_sorted (da_cons (d_lc (own := [(("_law_entry" : Str), 9)]) rfl nd (di_ex (d_var 6)) (blkOk_by (by kernel_rfl)) (fun _ _ _ _ _ => (dg_nm 9 nd rfl (by first | exact Or.inl rfl | exact Or.inr rfl) (by first | exact Or.inl rfl | exact Or.inr rfl))) (fun _ _ _ _ _ => dts_nil) (fun _ _ _ _ _ => (d_idx hu (d_var 9) d_int)) (by decide)) da_nil))) (dss_cons (ds_set 6 nd rfl (by first | exact Or.inl rfl | exact Or.inr rfl) (by first | exact Or.inl rfl | exact Or.inr rfl) (d_lc (own := [(("_law_k" : Str), 8)]) rfl nd (di_rng1 rfl (T.g_range _ ⟨rfl, rfl, rfl, rfl, rfl⟩) (d_bltB (f := .len) (blt_len trivial) rfl (T.g_len _ ⟨rfl, rfl, rfl, rfl, rfl⟩) bb_len (da_cons (d_var 6) da_nil))) (blkOk_by (by kernel_rfl)) (fun _ _ _ _ _ => (dg_nm 8 nd rfl (by first | exact Or.inl rfl | exact Or.inr rfl) (by first | exact Or.inl rfl | exact Or.inr rfl))) (fun _ _ _ _ _ => dts_nil) (fun _ _ _ _ _ => (d_tup (da_cons (d_idx hu (d_idx hu (d_var 6) (d_var 8)) d_int) (da_cons (d_idx hu (d_var 7) (d_var 8)) da_nil)))) (by decide))) dss_nil)) dss_nil) (dss_cons (ds_ret (d_var 6)) dss_nil)))))))
theorem sc__law_parts : FnScope N__law_parts [("_law_script" : Str), ("_law_at" : Str)] (defScope s__law_parts) := ⟨rfl, rfl, rfl, by decide +kernel, rfl, by decide +kernel, by decide +kernel⟩
theorem h__law_parts (T : Txt P w K mg base L d) (f : Addr) (cdv : Value) (A : Around) (outer : List Env) (s : Shared) (H : Hp) (E : XK) (hr : Room (d + 2) (A.deeper (PyProof.Rows.envOfC ("_law_parts" : Str) (defScope s__law_parts) s.heap.objs.size f cdv))) :
    DSs L (cxOf (L2.CX P w) P w K mg base N__law_parts ("_law_parts" : Str) (defScope s__law_parts) f cdv A outer s H E) (fun c d _ H => E c d H) (defBody s__law_parts) b__law_parts := by
  have hu := hr.units
  have nd := sc__law_parts.nd
  have hp : PassesOwn (model P w) (A.deeper (PyProof.Rows.envOfC ("_law_parts" : Str) (defScope s__law_parts) s.heap.objs.size f cdv)) (PyProof.Rows.envOfC ("_law_parts" : Str) (defScope s__law_parts) s.heap.objs.size f cdv) (cxOf (L2.CX P w) P w K mg base N__law_parts ("_law_parts" : Str) (defScope s__law_parts) f cdv A outer s H E).xe := passes_of rfl
  exact (dss_cons (ds_set 2 nd rfl (by first | exact Or.inl rfl | exact Or.inr rfl) (by first | exact Or.inl rfl | exact Or.inr rfl) (d_call (T.f__law_draws _ ⟨rfl, rfl, rfl, rfl, rfl⟩) hr (takes_of rfl rfl rfl rfl) rfl (da_cons (d_var 0) (da_cons (d_var 1) (da_cons (d_bin .add (d_bin .add (d_lst (da_cons d_int (da_cons d_int (da_cons d_int (da_cons d_int (da_cons d_int da_nil)))))) (d_bin .mul (d_lst (da_cons d_int da_nil)) d_int)) (d_bin .mul (d_lst (da_cons d_int da_nil)) d_int)) da_nil))))) (dss_cons (ds_set 3 nd rfl (by first | exact Or.inl rfl | exact Or.inr rfl) (by first | exact Or.inl rfl | exact Or.inr rfl) (d_call (T.f__law_names _ ⟨rfl, rfl, rfl, rfl, rfl⟩) hr (takes_of rfl rfl rfl rfl) rfl (da_cons (d_var 0) (da_cons (d_bin .add (d_var 1) d_int) (da_cons d_int da_nil))))) (dss_cons (ds_set 4 nd rfl (by first | exact Or.inl rfl | exact Or.inr rfl) (by first | exact Or.inl rfl | exact Or.inr rfl) d_dnew) (dss_cons (ds_for hp rfl (di_rng1 rfl (T.g_range _ ⟨rfl, rfl, rfl, rfl, rfl⟩) (d_idx hu (d_var 2) d_int)) (dg_nm 5 nd rfl (by first | exact Or.inl rfl | exact Or.inr rfl) (by first | exact Or.inl rfl | exact Or.inr rfl)) (dss_cons (ds_seti hu (d_var 4) (d_idx hu (d_var 3) (d_var 5)) (d_bin .sub (d_idx hu (d_var 2) (d_bin .add d_int (d_var 5))) d_int)) dss_nil)) (dss_cons (ds_set 6 nd rfl (by first | exact Or.inl rfl | exact Or.inr rfl) (by first | exact Or.inl rfl | exact Or.inr rfl) d_dnew) (dss_cons (ds_for hp rfl (di_rng1 rfl (T.g_range _ ⟨rfl, rfl, rfl, rfl, rfl⟩) (d_idx hu (d_var 2) d_int)) (dg_nm 5 nd rfl (by first | exact Or.inl rfl | exact Or.inr rfl) (by first | exact Or.inl rfl | exact Or.inr rfl)) (dss_cons (ds_seti hu (d_var 6) (d_idx hu (d_var 3) (d_bin .add d_int (d_var 5))) (d_bin .sub (d_idx hu (d_var 2) (d_bin .add d_int (d_var 5))) d_int)) dss_nil)) (dss_cons (ds_set 7 nd rfl (by first | exact Or.inl rfl | exact Or.inr rfl) (by first | exact Or.inl rfl | exact Or.inr rfl) d_dnew) (dss_cons (ds_for hp rfl (di_rng1 rfl (T.g_range _ ⟨rfl, rfl, rfl, rfl, rfl⟩) (d_idx hu (d_var 2) d_int)) (dg_nm 5 nd rfl (by first | exact Or.inl rfl | exact Or.inr rfl) (by first | exact Or.inl rfl | exact Or.inr rfl)) (dss_cons (ds_seti hu (d_var 7) (d_idx hu (d_var 3) (d_bin .add d_int (d_var 5))) (d_call (T.f__law_row _ ⟨rfl, rfl, rfl, rfl, rfl⟩) hr (takes_of rfl rfl rfl rfl) rfl (da_cons (d_var 0) (da_cons (d_bin .add (d_bin .add (d_var 1) d_int) (d_var 5)) (da_cons (d_neg d_int) (da_cons d_int (da_cons (d_bin .sub d_int (d_idx hu (d_var 2) d_int)) da_nil))))))) dss_nil)) (dss_cons (ds_ite (DW.t (dw_and (dt_cmp .gt hu (d_idx hu (d_var 2) d_int) d_int rfl) (dw_and1 (dt_cmp .eq hu (d_idx hu (d_var 2) d_int) d_int rfl)))) (dss_cons (ds_set 8 nd rfl (by first | exact Or.inl rfl | exact Or.inr rfl) (by first | exact Or.inl rfl | exact Or.inr rfl) (d_lc (own := [(("_law_place" : Str), 11), (("_law_value" : Str), 12)]) (g := gTL K 2 (gCons (gName 11) (gCons (gName 12) gNil))) rfl nd (di_ex (d_idx hu (d_var 7) (d_idx hu (d_var 3) d_int))) (blkOk_by (by kernel_rfl)) (fun _ _ _ _ _ => (dg_tp rfl (.cons (i := 11) rfl nd rfl (by first | exact Or.inl rfl | exact Or.inr rfl) (by first | exact Or.inl rfl | exact Or.inr rfl) (.cons (i := 12) rfl nd rfl (by first | exact Or.inl rfl | exact Or.inr rfl) (by first | exact Or.inl rfl | exact Or.inr rfl) .nil)))) (fun _ _ _ _ _ => dts_nil) (fun _ _ _ _ _ => (d_tup (da_cons (d_var 11) (da_cons (d_bin .add (d_var 12) (d_idx hu (d_var 2) d_int)) da_nil)))) (by decide))) (dss_cons (ds_seti hu (d_var 8) (d_bin .mod (d_bltT (f := .int) blt_int rfl (T.g_int _ ⟨rfl, rfl, rfl, rfl, rfl⟩) bb_int (da_cons (d_idx hu (d_var 2) d_int) da_nil)) (d_bltB (f := .len) (blt_len trivial) rfl (T.g_len _ ⟨rfl, rfl, rfl, rfl, rfl⟩) bb_len (da_cons (d_var 8) da_nil))) (d_idx hu (d_idx hu (d_var 7) (d_idx hu (d_var 3) d_int)) d_int)) (dss_cons (ds_set 9 nd rfl (by first | exact Or.inl rfl | exact Or.inr rfl) (by first | exact Or.inl rfl | exact Or.inr rfl) (d_lc (own := [(("_law_entry" : Str), 10)]) rfl nd (di_ex (d_var 8)) (blkOk_by (by kernel_rfl)) (fun _ _ _ _ _ => (dg_nm 10 nd rfl (by first | exact Or.inl rfl | exact Or.inr rfl) (by first | exact Or.inl rfl | exact Or.inr rfl))) (fun _ _ _ _ _ => dts_nil) (fun _ _ _ _ _ => (d_idx hu (d_var 10) d_int)) (by decide))) (dss_cons (ds_seti hu (d_var 7) (d_idx hu (d_var 3) d_int) (d_lc (own := [(("_law_k" : Str), 5)]) rfl nd (di_rng1 rfl (T.g_range _ ⟨rfl, rfl, rfl, rfl, rfl⟩) (d_bltB (f := .len) (blt_len trivial) rfl (T.g_len _ ⟨rfl, rfl, rfl, rfl, rfl⟩) bb_len (da_cons (d_var 8) da_nil))) (blkOk_by (by kernel_rfl)) (fun _ _ _ _ _ => (dg_nm 5 nd rfl (by first | exact Or.inl rfl | exact Or.inr rfl) (by first | exact Or.inl rfl | exact Or.inr rfl))) (fun _ _ _ _ _ => (dts_one (dt_cmp .notin hu (d_idx hu (d_idx hu (d_var 8) (d_var 5)) d_int) (d_slc (d_var 9) do_none (do_some (d_var 5))) rfl))) (fun _ _ _ _ _ => (d_idx hu (d_var 8) (d_var 5))) (by decide))) dss_nil)))) dss_nil) (dss_cons (ds_ret (d_tup (da_cons (d_var 4) (da_cons (d_var 6) (da_cons (d_var 7) da_nil))))) dss_nil))))))))))
theorem sc__law_sums : FnScope N__law_sums [("_law_drawn" : Str), ("_law_pool" : Str), ("_law_numbers" : Str), ("_law_arrays" : Str)] (defScope s__law_sums) := ⟨rfl, rfl, rfl, by decide +kernel, rfl, by decide +kernel, by decide +kernel⟩
theorem h__law_sums (T : Txt P w K mg base L d) (f : Addr) (cdv : Value) (A : Around) (outer : List Env) (s : Shared) (H : Hp) (E : XK) (hr : Room (d + 2) (A.deeper (PyProof.Rows.envOfC ("_law_sums" : Str) (defScope s__law_sums) s.heap.objs.size f cdv))) :
    DSs L (cxOf (L2.CX P w) P w K mg base N__law_sums ("_law_sums" : Str) (defScope s__law_sums) f cdv A outer s H E) (fun c d _ H => E c d H) (defBody s__law_sums) b__law_sums := by
  have hu := hr.units
  have nd := sc__law_sums.nd
  have hp : PassesOwn (model P w) (A.deeper (PyProof.Rows.envOfC ("_law_sums" : Str) (defScope s__law_sums) s.heap.objs.size f cdv)) (PyProof.Rows.envOfC ("_law_sums" : Str) (defScope s__law_sums) s.heap.objs.size f cdv) (cxOf (L2.CX P w) P w K mg base N__law_sums ("_law_sums" : Str) (defScope s__law_sums) f cdv A outer s H E).xe := passes_of rfl
  exact (dss_cons (ds_set 4 nd rfl (by first | exact Or.inl rfl | exact Or.inr rfl) (by first | exact Or.inl rfl | exact Or.inr rfl) (d_lst da_nil)) (dss_cons (ds_for hp rfl (di_rng1 rfl (T.g_range _ ⟨rfl, rfl, rfl, rfl, rfl⟩) d_int) (dg_nm 5 nd rfl (by first | exact Or.inl rfl | exact Or.inr rfl) (by first | exact Or.inl rfl | exact Or.inr rfl)) (dss_cons (ds_set 6 nd rfl (by first | exact Or.inl rfl | exact Or.inr rfl) (by first | exact Or.inl rfl | exact Or.inr rfl) (d_bin .add (d_lst (da_cons d_str da_nil)) (d_var 2))) (dss_cons (ds_unp (d_slc (d_var 0) (do_some (d_bin .mul d_int (d_var 5))) (do_some (d_bin .add (d_bin .mul d_int (d_var 5)) d_int))) (dg_tp rfl (.cons (i := 8) rfl nd rfl (by first | exact Or.inl rfl | exact Or.inr rfl) (by first | exact Or.inl rfl | exact Or.inr rfl) (.cons (i := 9) rfl nd rfl (by first | exact Or.inl rfl | exact Or.inr rfl) (by first | exact Or.inl rfl | exact Or.inr rfl) (.cons (i := 10) rfl nd rfl (by first | exact Or.inl rfl | exact Or.inr rfl) (by first | exact Or.inl rfl | exact Or.inr rfl) (.cons (i := 11) rfl nd rfl (by first | exact Or.inl rfl | exact Or.inr rfl) (by first | exact Or.inl rfl | exact Or.inr rfl) (.cons (i := 12) rfl nd rfl (by first | exact Or.inl rfl | exact Or.inr rfl) (by first | exact Or.inl rfl | exact Or.inr rfl) .nil))))))) (dss_cons (ds_set 7 nd rfl (by first | exact Or.inl rfl | exact Or.inr rfl) (by first | exact Or.inl rfl | exact Or.inr rfl) (d_tup (da_cons (d_idx hu (d_var 6) (d_bin .mod (d_bltT (f := .int) blt_int rfl (T.g_int _ ⟨rfl, rfl, rfl, rfl, rfl⟩) bb_int (da_cons (d_var 9) da_nil)) (d_bltB (f := .len) (blt_len trivial) rfl (T.g_len _ ⟨rfl, rfl, rfl, rfl, rfl⟩) bb_len (da_cons (d_var 6) da_nil)))) (da_cons (d_bin .sub (d_var 10) d_int) da_nil)))) (dss_cons (ds_ite (DW.t (dw_and (dt_cmp .eq hu (d_var 8) d_int rfl) (dw_and1 (dt_cmp .gt hu (d_bltB (f := .len) (blt_len trivial) rfl (T.g_len _ ⟨rfl, rfl, rfl, rfl, rfl⟩) bb_len (da_cons (d_var 3) da_nil)) d_int rfl)))) (dss_cons (ds_set 7 nd rfl (by first | exact Or.inl rfl | exact Or.inr rfl) (by first | exact Or.inl rfl | exact Or.inr rfl) (d_tup (da_cons (d_idx hu (d_var 3) (d_bin .mod (d_bltT (f := .int) blt_int rfl (T.g_int _ ⟨rfl, rfl, rfl, rfl, rfl⟩) bb_int (da_cons (d_var 9) da_nil)) (d_bltB (f := .len) (blt_len trivial) rfl (T.g_len _ ⟨rfl, rfl, rfl, rfl, rfl⟩) bb_len (da_cons (d_var 3) da_nil)))) (da_cons (d_tup (da_cons (d_idx hu (d_var 1) (d_bin .mod (d_bltT (f := .int) blt_int rfl (T.g_int _ ⟨rfl, rfl, rfl, rfl, rfl⟩) bb_int (da_cons (d_var 11) da_nil)) (d_bltB (f := .len) (blt_len trivial) rfl (T.g_len _ ⟨rfl, rfl, rfl, rfl, rfl⟩) bb_len (da_cons (d_var 1) da_nil)))) (da_cons (d_bin .sub (d_var 12) d_int) da_nil))) (da_cons (d_bin .sub (d_var 10) d_int) da_nil))))) dss_nil) dss_nil) (dss_cons (ds_exp (d_append (d_var 4) (da_cons (d_var 7) da_nil))) dss_nil)))))) (dss_cons (ds_ret (d_var 4)) dss_nil)))
theorem sc__law_saying : FnScope N__law_saying [("_law_script" : Str), ("_law_at" : Str), ("_law_parts_here" : Str)] (defScope s__law_saying) := ⟨rfl, rfl, rfl, by decide +kernel, rfl, by decide +kernel, by decide +kernel⟩
theorem h__law_saying (T : Txt P w K mg base L d) (f : Addr) (cdv : Value) (A : Around) (outer : List Env) (s : Shared) (H : Hp) (E : XK) (hr : Room (d + 2) (A.deeper (PyProof.Rows.envOfC ("_law_saying" : Str) (defScope s__law_saying) s.heap.objs.size f cdv))) :
    DSs L (cxOf (L2.CX P w) P w K mg base N__law_saying ("_law_saying" : Str) (defScope s__law_saying) f cdv A outer s H E) (fun c d _ H => E c d H) (defBody s__law_saying) b__law_saying := by
  have hu := hr.units
  have nd := sc__law_saying.nd
  exact (dss_cons (ds_unp (d_lc (own := [(("_law_names_here" : Str), 15)]) rfl nd (di_ex (d_var 2)) (blkOk_by (by kernel_rfl)) (fun _ _ _ _ _ => (dg_nm 15 nd rfl (by first | exact Or.inl rfl | exact Or.inr rfl) (by first | exact Or.inl rfl | exact Or.inr rfl))) (fun _ _ _ _ _ => dts_nil) (fun _ _ _ _ _ => (d_bltT (f := .list) (blt_list rfl) rfl (T.g_list _ ⟨rfl, rfl, rfl, rfl, rfl⟩) bb_list (da_cons (d_var 15) da_nil))) (by decide)) (dg_tp rfl (.cons (i := 12) rfl nd rfl (by first | exact Or.inl rfl | exact Or.inr rfl) (by first | exact Or.inl rfl | exact Or.inr rfl) (.cons (i := 13) rfl nd rfl (by first | exact Or.inl rfl | exact Or.inr rfl) (by first | exact Or.inl rfl | exact Or.inr rfl) (.cons (i := 14) rfl nd rfl (by first | exact Or.inl rfl | exact Or.inr rfl) (by first | exact Or.inl rfl | exact Or.inr rfl) .nil))))) (dss_cons (ds_set 3 nd rfl (by first | exact Or.inl rfl | exact Or.inr rfl) (by first | exact Or.inl rfl | exact Or.inr rfl) (d_call (T.f__law_draws _ ⟨rfl, rfl, rfl, rfl, rfl⟩) hr (takes_of rfl rfl rfl rfl) rfl (da_cons (d_var 0) (da_cons (d_var 1) (da_cons (d_bin .add (d_bin .add (d_bin .add (d_lst (da_cons d_int da_nil)) (d_bin .mul (d_lst (da_cons d_int (da_cons d_int (da_cons d_int da_nil)))) d_int)) (d_bin .mul (d_lst (da_cons d_int (da_cons d_int (da_cons d_int (da_cons d_int (da_cons d_int da_nil)))))) d_int)) (d_lst (da_cons d_int (da_cons d_int (da_cons d_int da_nil))))) da_nil))))) (dss_cons (ds_set 4 nd rfl (by first | exact Or.inl rfl | exact Or.inr rfl) (by first | exact Or.inl rfl | exact Or.inr rfl) (d_bin .add (d_lst (da_cons d_str da_nil)) (d_var 12))) (dss_cons (ds_set 5 nd rfl (by first | exact Or.inl rfl | exact Or.inr rfl) (by first | exact Or.inl rfl | exact Or.inr rfl) (d_lc (own := [(("_law_k" : Str), 16)]) rfl nd (di_rng1 rfl (T.g_range _ ⟨rfl, rfl, rfl, rfl, rfl⟩) d_int) (blkOk_by (by kernel_rfl)) (fun _ _ _ _ _ => (dg_nm 16 nd rfl (by first | exact Or.inl rfl | exact Or.inr rfl) (by first | exact Or.inl rfl | exact Or.inr rfl))) (fun _ _ _ _ _ => dts_nil) (fun _ _ _ _ _ => (d_tup (da_cons (d_idx hu (d_var 4) (d_bin .mod (d_bltT (f := .int) blt_int rfl (T.g_int _ ⟨rfl, rfl, rfl, rfl, rfl⟩) bb_int (da_cons (d_idx hu (d_var 3) (d_bin .add d_int (d_bin .mul d_int (d_var 16)))) da_nil)) (d_bltB (f := .len) (blt_len trivial) rfl (T.g_len _ ⟨rfl, rfl, rfl, rfl, rfl⟩) bb_len (da_cons (d_var 4) da_nil)))) (da_cons (d_bin .sub (d_idx hu (d_var 3) (d_bin .add d_int (d_bin .mul d_int (d_var 16)))) d_int) da_nil)))) (by decide))) (dss_cons (ds_setLc (own := [(("_law_k" : Str), 16)]) 6 rfl nd rfl rfl rfl (di_rng1 rfl (T.g_range _ ⟨rfl, rfl, rfl, rfl, rfl⟩) d_int) (blkOk_by (by kernel_rfl)) (fun _ _ _ _ _ => (dg_nm 16 nd rfl (by first | exact Or.inl rfl | exact Or.inr rfl) (by first | exact Or.inl rfl | exact Or.inr rfl))) (fun _ _ _ _ _ => dts_nil) (fun _ _ _ _ _ => (d_ife (dt_cmp .eq hu (d_idx hu (d_var 3) (d_bin .add d_int (d_bin .mul d_int (d_var 16)))) d_int rfl) d_non (d_idx hu (d_var 5) (d_var 16)))) (by decide)) (dss_cons (ds_set 7 nd rfl (by first | exact Or.inl rfl | exact Or.inr rfl) (by first | exact Or.inl rfl | exact Or.inr rfl) (d_call (T.f__law_sums _ ⟨rfl, rfl, rfl, rfl, rfl⟩) hr (takes_of rfl rfl rfl rfl) rfl (da_cons (d_slc (d_var 3) (do_some d_int) (do_some d_int)) (da_cons (d_var 4) (da_cons (d_var 13) (da_cons (d_var 14) da_nil)))))) (dss_cons (ds_set 8 nd rfl (by first | exact Or.inl rfl | exact Or.inr rfl) (by first | exact Or.inl rfl | exact Or.inr rfl) (d_lst (da_cons (d_tup (da_cons d_str (da_cons (d_idx hu (d_var 5) d_int) (da_cons (d_idx hu (d_var 5) d_int) da_nil)))) (da_cons (d_tup (da_cons d_str (da_cons (d_idx hu (d_var 7) d_int) (da_cons (d_idx hu (d_var 7) d_int) da_nil)))) da_nil)))) (dss_cons (ds_ite (dt_cmp .eq hu (d_bltB (f := .len) (blt_len trivial) rfl (T.g_len _ ⟨rfl, rfl, rfl, rfl, rfl⟩) bb_len (da_cons (d_var 14) da_nil)) d_int rfl) (dss_cons (ds_ret (d_idx hu (d_var 8) (d_bin .mod (d_bltT (f := .int) blt_int rfl (T.g_int _ ⟨rfl, rfl, rfl, rfl, rfl⟩) bb_int (da_cons (d_idx hu (d_var 3) d_int) da_nil)) d_int))) dss_nil) dss_nil) (dss_cons (ds_set 9 nd rfl (by first | exact Or.inl rfl | exact Or.inr rfl) (by first | exact Or.inl rfl | exact Or.inr rfl) (d_idx hu (d_var 14) (d_bin .mod (d_bltT (f := .int) blt_int rfl (T.g_int _ ⟨rfl, rfl, rfl, rfl, rfl⟩) bb_int (da_cons (d_idx hu (d_var 3) d_int) da_nil)) (d_bltB (f := .len) (blt_len trivial) rfl (T.g_len _ ⟨rfl, rfl, rfl, rfl, rfl⟩) bb_len (da_cons (d_var 14) da_nil))))) (dss_cons (ds_set 10 nd rfl (by first | exact Or.inl rfl | exact Or.inr rfl) (by first | exact Or.inl rfl | exact Or.inr rfl) (d_idx hu (d_var 14) (d_bin .mod (d_bltT (f := .int) blt_int rfl (T.g_int _ ⟨rfl, rfl, rfl, rfl, rfl⟩) bb_int (da_cons (d_idx hu (d_var 3) d_int) da_nil)) (d_bltB (f := .len) (blt_len trivial) rfl (T.g_len _ ⟨rfl, rfl, rfl, rfl, rfl⟩) bb_len (da_cons (d_var 14) da_nil))))) (dss_cons (ds_set 11 nd rfl (by first | exact Or.inl rfl | exact Or.inr rfl) (by first | exact Or.inl rfl | exact Or.inr rfl) (d_bin .add (d_var 8) (d_lst (da_cons (d_tup (da_cons d_str (da_cons (d_var 9) (da_cons (d_idx hu (d_var 6) d_int) (da_cons (d_idx hu (d_var 6) d_int) da_nil))))) da_nil)))) (dss_cons (ds_set 11 nd rfl (by first | exact Or.inl rfl | exact Or.inr rfl) (by first | exact Or.inl rfl | exact Or.inr rfl) (d_bin .add (d_var 11) (d_lst (da_cons (d_tup (da_cons d_str (da_cons (d_var 9) (da_cons (d_idx hu (d_var 6) d_int) (da_cons (d_idx hu (d_var 6) d_int) (da_cons (d_idx hu (d_var 7) d_int) da_nil)))))) (da_cons (d_tup (da_cons d_str (da_cons (d_var 9) (da_cons (d_idx hu (d_var 6) d_int) (da_cons (d_idx hu (d_var 6) d_int) (da_cons (d_idx hu (d_var 7) d_int) da_nil)))))) da_nil))))) (dss_cons (ds_set 11 nd rfl (by first | exact Or.inl rfl | exact Or.inr rfl) (by first | exact Or.inl rfl | exact Or.inr rfl) (d_bin .add (d_var 11) (d_lst (da_cons (d_tup (da_cons d_str (da_cons (d_var 9) (da_cons (d_idx hu (d_var 6) d_int) (da_cons (d_idx hu (d_var 6) d_int) (da_cons (d_var 10) (da_cons (d_idx hu (d_var 6) d_int) (da_cons (d_idx hu (d_var 6) d_int) (da_cons (d_bin .sub (d_idx hu (d_var 3) d_int) d_int) da_nil))))))))) da_nil)))) (dss_cons (ds_set 11 nd rfl (by first | exact Or.inl rfl | exact Or.inr rfl) (by first | exact Or.inl rfl | exact Or.inr rfl) (d_bin .add (d_var 11) (d_lst (da_cons (d_tup (da_cons d_str (da_cons (d_var 9) (da_cons (d_var 10) (da_cons (d_idx hu (d_var 6) d_int) (da_cons (d_idx hu (d_var 6) d_int) (da_cons (d_bin .sub (d_idx hu (d_var 3) d_int) d_int) da_nil))))))) da_nil)))) (dss_cons (ds_ret (d_idx hu (d_var 11) (d_idx hu (d_var 3) d_int))) dss_nil)))))))))))))))
theorem sc__law_scale : FnScope N__law_scale [("_law_script" : Str), ("_law_at" : Str)] (defScope s__law_scale) := ⟨rfl, rfl, rfl, by decide +kernel, rfl, by decide +kernel, by decide +kernel⟩
theorem h__law_scale (T : Txt P w K mg base L d) (f : Addr) (cdv : Value) (A : Around) (outer : List Env) (s : Shared) (H : Hp) (E : XK) (hr : Room (d + 2) (A.deeper (PyProof.Rows.envOfC ("_law_scale" : Str) (defScope s__law_scale) s.heap.objs.size f cdv))) :
    DSs L (cxOf (L2.CX P w) P w K mg base N__law_scale ("_law_scale" : Str) (defScope s__law_scale) f cdv A outer s H E) (fun c d _ H => E c d H) (defBody s__law_scale) b__law_scale := by
  have hu := hr.units
  have nd := sc__law_scale.nd
  exact (dss_cons (ds_set 2 nd rfl (by first | exact Or.inl rfl | exact Or.inr rfl) (by first | exact Or.inl rfl | exact Or.inr rfl) (d_call (T.f__law_draws _ ⟨rfl, rfl, rfl, rfl, rfl⟩) hr (takes_of rfl rfl rfl rfl) rfl (da_cons (d_var 0) (da_cons (d_var 1) (da_cons (d_lst (da_cons d_int (da_cons (d_bin .pow d_int d_int) (da_cons (d_bin .pow d_int d_int) (da_cons (d_bin .pow d_int d_int) (da_cons (d_bin .pow d_int d_int) da_nil)))))) da_nil))))) (dss_cons (ds_set 3 nd rfl (by first | exact Or.inl rfl | exact Or.inr rfl) (by first | exact Or.inl rfl | exact Or.inr rfl) (d_call (T.f__law_long _ ⟨rfl, rfl, rfl, rfl, rfl⟩) hr (takes_of rfl rfl rfl rfl) rfl (da_cons (d_var 0) (da_cons (d_bin .add (d_var 1) d_int) (da_cons d_int da_nil))))) (dss_cons (ds_ite (dt_cmp .eq hu (d_idx hu (d_var 2) d_int) d_int rfl) (dss_cons (ds_ret (d_tup (da_cons d_int (da_cons d_int (da_cons d_int (da_cons d_int da_nil)))))) dss_nil) dss_nil) (dss_cons (ds_ite (dt_cmp .eq hu (d_idx hu (d_var 2) d_int) d_int rfl) (dss_cons (ds_ret (d_tup (da_cons d_int (da_cons (d_bin .fdiv (d_idx hu (d_var 3) d_int) d_int) (da_cons d_int (da_cons (d_bin .fdiv (d_idx hu (d_var 3) d_int) d_int) da_nil)))))) dss_nil) dss_nil) (dss_cons (ds_ret (d_tup (da_cons (d_bin .add d_int (d_bin .mul (d_idx hu (d_var 2) d_int) (d_idx hu (d_var 2) d_int))) (da_cons (d_bin .fdiv (d_idx hu (d_var 3) d_int) d_int) (da_cons (d_bin .add d_int (d_bin .mul (d_idx hu (d_var 2) d_int) (d_idx hu (d_var 2) d_int))) (da_cons (d_bin .fdiv (d_idx hu (d_var 3) d_int) d_int) da_nil)))))) dss_nil)))))
theorem sc__law_scaled_term : FnScope N__law_scaled_term [("_law_term" : Str), ("_law_scale_here" : Str), ("_law_role" : Str)] (defScope s__law_scaled_term) := ⟨rfl, rfl, rfl, by decide +kernel, rfl, by decide +kernel, by decide +kernel⟩
theorem h__law_scaled_term (T : Txt P w K mg base L d) (f : Addr) (cdv : Value) (A : Around) (outer : List Env) (s : Shared) (H : Hp) (E : XK) (hr : Room (d + 2) (A.deeper (PyProof.Rows.envOfC ("_law_scaled_term" : Str) (defScope s__law_scaled_term) s.heap.objs.size f cdv))) :
    DSs L (cxOf (L2.CX P w) P w K mg base N__law_scaled_term ("_law_scaled_term" : Str) (defScope s__law_scaled_term) f cdv A outer s H E) (fun c d _ H => E c d H) (defBody s__law_scaled_term) b__law_scaled_term := by
  have hu := hr.units
  have nd := sc__law_scaled_term.nd
  exact (dss_cons (ds_ite (dt_cmp .isN hu (d_var 0) d_non rfl) (dss_cons (ds_ret d_non) dss_nil) dss_nil) (dss_cons (ds_ite (dt_cmp .eq hu (d_bltB (f := .len) (blt_len trivial) rfl (T.g_len _ ⟨rfl, rfl, rfl, rfl, rfl⟩) bb_len (da_cons (d_var 0) da_nil)) d_int rfl) (dss_cons (ds_ret (d_tup (da_cons (d_idx hu (d_var 0) d_int) (da_cons (d_call (T.f__law_scaled_term _ ⟨rfl, rfl, rfl, rfl, rfl⟩) hr (takes_of rfl rfl rfl rfl) rfl (da_cons (d_idx hu (d_var 0) d_int) (da_cons (d_var 1) (da_cons d_int da_nil)))) (da_cons (d_bin .mul (d_idx hu (d_var 0) d_int) (d_idx hu (d_var 1) d_int)) da_nil))))) dss_nil) dss_nil) (dss_cons (ds_set 3 nd rfl (by first | exact Or.inl rfl | exact Or.inr rfl) (by first | exact Or.inl rfl | exact Or.inr rfl) (d_bin .mul (d_idx hu (d_var 0) d_int) (d_idx hu (d_var 1) (d_bin .mul d_int (d_var 2))))) (dss_cons (ds_ite (dt_cmp .eq hu (d_idx hu (d_var 0) d_int) d_str rfl) (dss_cons (ds_set 3 nd rfl (by first | exact Or.inl rfl | exact Or.inr rfl) (by first | exact Or.inl rfl | exact Or.inr rfl) (d_bin .add (d_var 3) (d_idx hu (d_var 1) (d_bin .add (d_bin .mul d_int (d_var 2)) d_int)))) dss_nil) dss_nil) (dss_cons (ds_ret (d_tup (da_cons (d_idx hu (d_var 0) d_int) (da_cons (d_var 3) da_nil)))) dss_nil)))))
theorem sc__law_scaled_saying : FnScope N__law_scaled_saying [("_law_saying_here" : Str), ("_law_scale_here" : Str)] (defScope s__law_scaled_saying) := ⟨rfl, rfl, rfl, by decide +kernel, rfl, by decide +kernel, by decide +kernel⟩
theorem h__law_scaled_saying (T : Txt P w K mg base L d) (f : Addr) (cdv : Value) (A : Around) (outer : List Env) (s : Shared) (H : Hp) (E : XK) (hr : Room (d + 2) (A.deeper (PyProof.Rows.envOfC ("_law_scaled_saying" : Str) (defScope s__law_scaled_saying) s.heap.objs.size f cdv))) :
    DSs L (cxOf (L2.CX P w) P w K mg base N__law_scaled_saying ("_law_scaled_saying" : Str) (defScope s__law_scaled_saying) f cdv A outer s H E) (fun c d _ H => E c d H) (defBody s__law_scaled_saying) b__law_scaled_saying := by
  have hu := hr.units
  have nd := sc__law_scaled_saying.nd
  have hp : PassesOwn (model P w) (A.deeper (PyProof.Rows.envOfC ("_law_scaled_saying" : Str) (defScope s__law_scaled_saying) s.heap.objs.size f cdv)) (PyProof.Rows.envOfC ("_law_scaled_saying" : Str) (defScope s__law_scaled_saying) s.heap.objs.size f cdv) (cxOf (L2.CX P w) P w K mg base N__law_scaled_saying ("_law_scaled_saying" : Str) (defScope s__law_scaled_saying) f cdv A outer s H E).xe := passes_of rfl
  exact (dss_cons (ds_ite (dt_cmp .eq hu (d_idx hu (d_var 0) d_int) d_str rfl) (dss_cons (ds_ret (d_tup (da_cons d_str (da_cons (d_call (T.f__law_scaled_term _ ⟨rfl, rfl, rfl, rfl, rfl⟩) hr (takes_of rfl rfl rfl rfl) rfl (da_cons (d_idx hu (d_var 0) d_int) (da_cons (d_var 1) (da_cons d_int da_nil)))) (da_cons (d_call (T.f__law_scaled_term _ ⟨rfl, rfl, rfl, rfl, rfl⟩) hr (takes_of rfl rfl rfl rfl) rfl (da_cons (d_idx hu (d_var 0) d_int) (da_cons (d_var 1) (da_cons d_int da_nil)))) da_nil))))) dss_nil) dss_nil) (dss_cons (ds_ite (dt_cmp .eq hu (d_idx hu (d_var 0) d_int) d_str rfl) (dss_cons (ds_ret (d_tup (da_cons d_str (da_cons (d_call (T.f__law_scaled_term _ ⟨rfl, rfl, rfl, rfl, rfl⟩) hr (takes_of rfl rfl rfl rfl) rfl (da_cons (d_idx hu (d_var 0) d_int) (da_cons (d_var 1) (da_cons d_int da_nil)))) (da_cons (d_call (T.f__law_scaled_term _ ⟨rfl, rfl, rfl, rfl, rfl⟩) hr (takes_of rfl rfl rfl rfl) rfl (da_cons (d_idx hu (d_var 0) d_int) (da_cons (d_var 1) (da_cons d_int da_nil)))) da_nil))))) dss_nil) dss_nil) (dss_cons (ds_set 2 nd rfl (by first | exact Or.inl rfl | exact Or.inr rfl) (by first | exact Or.inl rfl | exact Or.inr rfl) (d_lst da_nil)) (dss_cons (ds_for hp rfl (di_ex (d_var 0)) (dg_nm 3 nd rfl (by first | exact Or.inl rfl | exact Or.inr rfl) (by first | exact Or.inl rfl | exact Or.inr rfl)) (dss_cons (ds_ite (dt_val (d_isi .int rfl (T.g_isinstance _ ⟨rfl, rfl, rfl, rfl, rfl⟩) rfl (T.g_int _ ⟨rfl, rfl, rfl, rfl, rfl⟩) (d_var 3) bb_isinstance (bb_ty .int) (ne_ty .int) (nd_ty .int))) (dss_cons (ds_exp (d_append (d_var 2) (da_cons (d_bin .mul (d_var 3) (d_idx hu (d_var 1) d_int)) da_nil))) dss_nil) (dss_cons (ds_ite (dt_val (d_isi .str rfl (T.g_isinstance _ ⟨rfl, rfl, rfl, rfl, rfl⟩) rfl (T.g_str _ ⟨rfl, rfl, rfl, rfl, rfl⟩) (d_var 3) bb_isinstance (bb_ty .str) (ne_ty .str) (nd_ty .str))) (dss_cons (ds_exp (d_append (d_var 2) (da_cons (d_var 3) da_nil))) dss_nil) (dss_cons (ds_exp (d_append (d_var 2) (da_cons (d_call (T.f__law_scaled_term _ ⟨rfl, rfl, rfl, rfl, rfl⟩) hr (takes_of rfl rfl rfl rfl) rfl (da_cons (d_var 3) (da_cons (d_var 1) (da_cons d_int da_nil)))) da_nil))) dss_nil)) dss_nil)) dss_nil)) (dss_cons (ds_ite (dt_cmp .inn hu (d_idx hu (d_var 0) d_int) (d_tup (da_cons d_str (da_cons d_str da_nil))) rfl) (dss_cons (ds_seti hu (d_var 2) d_int (d_call (T.f__law_scaled_term _ ⟨rfl, rfl, rfl, rfl, rfl⟩) hr (takes_of rfl rfl rfl rfl) rfl (da_cons (d_idx hu (d_var 0) d_int) (da_cons (d_var 1) (da_cons d_int da_nil))))) dss_nil) dss_nil) (dss_cons (ds_ret (d_bltT (f := .tuple) blt_tuple rfl (T.g_tuple _ ⟨rfl, rfl, rfl, rfl, rfl⟩) bb_tuple (da_cons (d_var 2) da_nil))) dss_nil))))))
theorem sc__law_tail_text : FnScope N__law_tail_text [("_law_k" : Str)] (defScope s__law_tail_text) := ⟨rfl, rfl, rfl, by decide +kernel, rfl, by decide +kernel, by decide +kernel⟩
theorem h__law_tail_text (T : Txt P w K mg base L d) (f : Addr) (cdv : Value) (A : Around) (outer : List Env) (s : Shared) (H : Hp) (E : XK) (hr : Room (d + 2) (A.deeper (PyProof.Rows.envOfC ("_law_tail_text" : Str) (defScope s__law_tail_text) s.heap.objs.size f cdv))) :
    DSs L (cxOf (L2.CX P w) P w K mg base N__law_tail_text ("_law_tail_text" : Str) (defScope s__law_tail_text) f cdv A outer s H E) (fun c d _ H => E c d H) (defBody s__law_tail_text) b__law_tail_text := by
  have hu := hr.units
  have nd := sc__law_tail_text.nd
  exact (dss_cons (ds_ite (dt_cmp .gt hu (d_var 0) d_int rfl) (dss_cons (ds_ret (d_bin .add d_str (d_bltT (f := .str) blt_str rfl (T.g_str _ ⟨rfl, rfl, rfl, rfl, rfl⟩) bb_str (da_cons (d_var 0) da_nil)))) dss_nil) dss_nil) (dss_cons (ds_ret (d_ife (dt_cmp .lt hu (d_var 0) d_int rfl) (d_bltT (f := .str) blt_str rfl (T.g_str _ ⟨rfl, rfl, rfl, rfl, rfl⟩) bb_str (da_cons (d_var 0) da_nil)) d_str)) dss_nil))
theorem sc__law_term_text : FnScope N__law_term_text [("_law_term" : Str)] (defScope s__law_term_text) := ⟨rfl, rfl, rfl, by decide +kernel, rfl, by decide +kernel, by decide +kernel⟩
theorem h__law_term_text (T : Txt P w K mg base L d) (f : Addr) (cdv : Value) (A : Around) (outer : List Env) (s : Shared) (H : Hp) (E : XK) (hr : Room (d + 2) (A.deeper (PyProof.Rows.envOfC ("_law_term_text" : Str) (defScope s__law_term_text) s.heap.objs.size f cdv))) :
    DSs L (cxOf (L2.CX P w) P w K mg base N__law_term_text ("_law_term_text" : Str) (defScope s__law_term_text) f cdv A outer s H E) (fun c d _ H => E c d H) (defBody s__law_term_text) b__law_term_text := by
  have hu := hr.units
  have nd := sc__law_term_text.nd
  exact (dss_cons (ds_ite (dt_cmp .eq hu (d_bltB (f := .len) (blt_len trivial) rfl (T.g_len _ ⟨rfl, rfl, rfl, rfl, rfl⟩) bb_len (da_cons (d_var 0) da_nil)) d_int rfl) (dss_cons (ds_ret (d_bin .add (d_bin .add (d_bin .add (d_bin .add (d_idx hu (d_var 0) d_int) d_str) (d_call (T.f__law_term_text _ ⟨rfl, rfl, rfl, rfl, rfl⟩) hr (takes_of rfl rfl rfl rfl) rfl (da_cons (d_idx hu (d_var 0) d_int) da_nil))) d_str) (d_call (T.f__law_tail_text _ ⟨rfl, rfl, rfl, rfl, rfl⟩) hr (takes_of rfl rfl rfl rfl) rfl (da_cons (d_idx hu (d_var 0) d_int) da_nil)))) dss_nil) dss_nil) (dss_cons (ds_ite (dt_cmp .eq hu (d_idx hu (d_var 0) d_int) d_str rfl) (dss_cons (ds_ret (d_bltT (f := .str) blt_str rfl (T.g_str _ ⟨rfl, rfl, rfl, rfl, rfl⟩) bb_str (da_cons (d_idx hu (d_var 0) d_int) da_nil))) dss_nil) dss_nil) (dss_cons (ds_ret (d_bin .add (d_idx hu (d_var 0) d_int) (d_call (T.f__law_tail_text _ ⟨rfl, rfl, rfl, rfl, rfl⟩) hr (takes_of rfl rfl rfl rfl) rfl (da_cons (d_idx hu (d_var 0) d_int) da_nil)))) dss_nil)))
theorem sc__law_saying_text : FnScope N__law_saying_text [("_law_saying_here" : Str)] (defScope s__law_saying_text) := ⟨rfl, rfl, rfl, by decide +kernel, rfl, by decide +kernel, by decide +kernel⟩
theorem h__law_saying_text (T : Txt P w K mg base L d) (f : Addr) (cdv : Value) (A : Around) (outer : List Env) (s : Shared) (H : Hp) (E : XK) (hr : Room (d + 2) (A.deeper (PyProof.Rows.envOfC ("_law_saying_text" : Str) (defScope s__law_saying_text) s.heap.objs.size f cdv))) :
    DSs L (cxOf (L2.CX P w) P w K mg base N__law_saying_text ("_law_saying_text" : Str) (defScope s__law_saying_text) f cdv A outer s H E) (fun c d _ H => E c d H) (defBody s__law_saying_text) b__law_saying_text := by
  have hu := hr.units
  have nd := sc__law_saying_text.nd
  have hp : PassesOwn (model P w) (A.deeper (PyProof.Rows.envOfC ("_law_saying_text" : Str) (defScope s__law_saying_text) s.heap.objs.size f cdv)) (PyProof.Rows.envOfC ("_law_saying_text" : Str) (defScope s__law_saying_text) s.heap.objs.size f cdv) (cxOf (L2.CX P w) P w K mg base N__law_saying_text ("_law_saying_text" : Str) (defScope s__law_saying_text) f cdv A outer s H E).xe := passes_of rfl
  exact (dss_cons (ds_set 1 nd rfl (by first | exact Or.inl rfl | exact Or.inr rfl) (by first | exact Or.inl rfl | exact Or.inr rfl) (d_idx hu (d_var 0) d_int)) (dss_cons (ds_for hp rfl (di_ex (d_slc (d_var 0) (do_some d_int) do_none)) (dg_nm 2 nd rfl (by first | exact Or.inl rfl | exact Or.inr rfl) (by first | exact Or.inl rfl | exact Or.inr rfl)) (dss_cons (ds_set 1 nd rfl (by first | exact Or.inl rfl | exact Or.inr rfl) (by first | exact Or.inl rfl | exact Or.inr rfl) (d_bin .add (d_var 1) d_str)) (dss_cons (ds_ite (dt_cmp .isN hu (d_var 2) d_non rfl) (dss_cons (ds_set 1 nd rfl (by first | exact Or.inl rfl | exact Or.inr rfl) (by first | exact Or.inl rfl | exact Or.inr rfl) (d_bin .add (d_var 1) d_str)) dss_nil) (dss_cons (ds_ite (dt_val (d_isi .str rfl (T.g_isinstance _ ⟨rfl, rfl, rfl, rfl, rfl⟩) rfl (T.g_str _ ⟨rfl, rfl, rfl, rfl, rfl⟩) (d_var 2) bb_isinstance (bb_ty .str) (ne_ty .str) (nd_ty .str))) (dss_cons (ds_set 1 nd rfl (by first | exact Or.inl rfl | exact Or.inr rfl) (by first | exact Or.inl rfl | exact Or.inr rfl) (d_bin .add (d_var 1) (d_var 2))) dss_nil) (dss_cons (ds_ite (dt_val (d_isi .int rfl (T.g_isinstance _ ⟨rfl, rfl, rfl, rfl, rfl⟩) rfl (T.g_int _ ⟨rfl, rfl, rfl, rfl, rfl⟩) (d_var 2) bb_isinstance (bb_ty .int) (ne_ty .int) (nd_ty .int))) (dss_cons (ds_set 1 nd rfl (by first | exact Or.inl rfl | exact Or.inr rfl) (by first | exact Or.inl rfl | exact Or.inr rfl) (d_bin .add (d_var 1) (d_bltT (f := .str) blt_str rfl (T.g_str _ ⟨rfl, rfl, rfl, rfl, rfl⟩) bb_str (da_cons (d_var 2) da_nil)))) dss_nil) (dss_cons (ds_set 1 nd rfl (by first | exact Or.inl rfl | exact Or.inr rfl) (by first | exact Or.inl rfl | exact Or.inr rfl) (d_bin .add (d_var 1) (d_call (T.f__law_term_text _ ⟨rfl, rfl, rfl, rfl, rfl⟩) hr (takes_of rfl rfl rfl rfl) rfl (da_cons (d_var 2) da_nil)))) dss_nil)) dss_nil)) dss_nil)) dss_nil))) (dss_cons (ds_ret (d_var 1)) dss_nil)))
theorem sc_law : FnScope N_law [("_law_script" : Str)] (defScope s_law) := ⟨rfl, rfl, rfl, by decide +kernel, rfl, by decide +kernel, by decide +kernel⟩
theorem h_law (T : Txt P w K mg base L d) (f : Addr) (cdv : Value) (A : Around) (outer : List Env) (s : Shared) (H : Hp) (E : XK) (hr : Room (d + 2) (A.deeper (PyProof.Rows.envOfC ("law" : Str) (defScope s_law) s.heap.objs.size f cdv))) :
    DSs L (cxOf (L2.CX P w) P w K mg base N_law ("law" : Str) (defScope s_law) f cdv A outer s H E) (fun c d _ H => E c d H) (defBody s_law) b_law := by
  have hu := hr.units
  have nd := sc_law.nd
  have hp : PassesOwn (model P w) (A.deeper (PyProof.Rows.envOfC ("law" : Str) (defScope s_law) s.heap.objs.size f cdv)) (PyProof.Rows.envOfC ("law" : Str) (defScope s_law) s.heap.objs.size f cdv) (cxOf (L2.CX P w) P w K mg base N_law ("law" : Str) (defScope s_law) f cdv A outer s H E).xe := passes_of rfl
  exact (dss_cons (ds_set 1 nd rfl (by first | exact Or.inl rfl | exact Or.inr rfl) (by first | exact Or.inl rfl | exact Or.inr rfl) (d_call (T.f__law_parts _ ⟨rfl, rfl, rfl, rfl, rfl⟩) hr (takes_of rfl rfl rfl rfl) rfl (da_cons (d_var 0) (da_cons d_int da_nil)))) (dss_cons (ds_set 2 nd rfl (by first | exact Or.inl rfl | exact Or.inr rfl) (by first | exact Or.inl rfl | exact Or.inr rfl) (d_call (T.f__law_scale _ ⟨rfl, rfl, rfl, rfl, rfl⟩) hr (takes_of rfl rfl rfl rfl) rfl (da_cons (d_var 0) (da_cons d_int da_nil)))) (dss_cons (ds_for hp rfl (di_rng2 rfl (T.g_range _ ⟨rfl, rfl, rfl, rfl, rfl⟩) d_int (d_bltB (f := .max) (blt_max rfl) rfl (T.g_max _ ⟨rfl, rfl, rfl, rfl, rfl⟩) bb_max (da_cons d_int (da_cons (d_bltB (f := .min) (blt_min rfl) rfl (T.g_min _ ⟨rfl, rfl, rfl, rfl, rfl⟩) bb_min (da_cons (d_bltB (f := .len) (blt_len trivial) rfl (T.g_len _ ⟨rfl, rfl, rfl, rfl, rfl⟩) bb_len (da_cons (d_var 0) da_nil)) (da_cons d_int da_nil))) da_nil)))) (dg_nm 3 nd rfl (by first | exact Or.inl rfl | exact Or.inr rfl) (by first | exact Or.inl rfl | exact Or.inr rfl)) (dss_cons (ds_set 4 nd rfl (by first | exact Or.inl rfl | exact Or.inr rfl) (by first | exact Or.inl rfl | exact Or.inr rfl) (d_call (T.f__law_saying _ ⟨rfl, rfl, rfl, rfl, rfl⟩) hr (takes_of rfl rfl rfl rfl) rfl (da_cons (d_var 0) (da_cons (d_var 3) (da_cons (d_var 1) da_nil))))) (dss_cons (ds_ite (dt_cmp .eq hu (d_bin .mod (d_bltT (f := .int) blt_int rfl (T.g_int _ ⟨rfl, rfl, rfl, rfl, rfl⟩) bb_int (da_cons (d_var 3) da_nil)) d_int) d_int rfl) (dss_cons (ds_set 4 nd rfl (by first | exact Or.inl rfl | exact Or.inr rfl) (by first | exact Or.inl rfl | exact Or.inr rfl) (d_call (T.f__law_scaled_saying _ ⟨rfl, rfl, rfl, rfl, rfl⟩) hr (takes_of rfl rfl rfl rfl) rfl (da_cons (d_var 4) (da_cons (d_var 2) da_nil)))) dss_nil) dss_nil) (dss_cons (ds_set 5 nd rfl (by first | exact Or.inl rfl | exact Or.inr rfl) (by first | exact Or.inl rfl | exact Or.inr rfl) (d_call (T.f__law_saying_text _ ⟨rfl, rfl, rfl, rfl, rfl⟩) hr (takes_of rfl rfl rfl rfl) rfl (da_cons (d_var 4) da_nil))) (dss_cons (ds_ite (dt_not (dt_val (d_call (T.f__law_same _ ⟨rfl, rfl, rfl, rfl, rfl⟩) hr (takes_of rfl rfl rfl rfl) rfl (da_cons (d_lst (da_cons (d_call (T.f_show_saying _ ⟨rfl, rfl, rfl, rfl, rfl⟩) hr (takes_of rfl rfl rfl rfl) rfl (da_cons (d_var 4) da_nil)) (da_cons (d_callK (T.k_show_saying _ ⟨rfl, rfl, rfl, rfl, rfl⟩) hr (takes_of rfl rfl rfl rfl) rfl (dk_cons (d_var 4) dk_nil)) da_nil))) (da_cons (d_lst (da_cons (d_var 5) (da_cons (d_var 5) da_nil))) da_nil))))) (dss_cons (ds_ret d_bl) dss_nil) dss_nil) (dss_cons (ds_for hp rfl (di_ex (d_slc (d_var 4) (do_some d_int) do_none)) (dg_nm 6 nd rfl (by first | exact Or.inl rfl | exact Or.inr rfl) (by first | exact Or.inl rfl | exact Or.inr rfl)) (dss_cons (ds_ite (dt_val (d_isi .tuple rfl (T.g_isinstance _ ⟨rfl, rfl, rfl, rfl, rfl⟩) rfl (T.g_tuple _ ⟨rfl, rfl, rfl, rfl, rfl⟩) (d_var 6) bb_isinstance (bb_ty .tuple) (ne_ty .tuple) (nd_ty .tuple))) (dss_cons (ds_set 7 nd rfl (by first | exact Or.inl rfl | exact Or.inr rfl) (by first | exact Or.inl rfl | exact Or.inr rfl) (d_bin .add (d_slc (d_var 6) do_none (do_some (d_neg d_int))) (d_tup (da_cons d_int da_nil)))) (dss_cons (ds_set 8 nd rfl (by first | exact Or.inl rfl | exact Or.inr rfl) (by first | exact Or.inl rfl | exact Or.inr rfl) (d_lst (da_cons (d_call (T.f_show_term _ ⟨rfl, rfl, rfl, rfl, rfl⟩) hr (takes_of rfl rfl rfl rfl) rfl (da_cons (d_var 6) da_nil)) (da_cons (d_call (T.f_show_term _ ⟨rfl, rfl, rfl, rfl, rfl⟩) hr (takes_of rfl rfl rfl rfl) rfl (da_cons (d_var 7) da_nil)) (da_cons (d_callK (T.k_show_term _ ⟨rfl, rfl, rfl, rfl, rfl⟩) hr (takes_of rfl rfl rfl rfl) rfl (dk_cons (d_var 6) dk_nil)) da_nil))))) (dss_cons (ds_set 9 nd rfl (by first | exact Or.inl rfl | exact Or.inr rfl) (by first | exact Or.inl rfl | exact Or.inr rfl) (d_call (T.f__law_term_text _ ⟨rfl, rfl, rfl, rfl, rfl⟩) hr (takes_of rfl rfl rfl rfl) rfl (da_cons (d_var 6) da_nil))) (dss_cons (ds_ite (dt_not (dt_val (d_call (T.f__law_same _ ⟨rfl, rfl, rfl, rfl, rfl⟩) hr (takes_of rfl rfl rfl rfl) rfl (da_cons (d_var 8) (da_cons (d_lst (da_cons (d_var 9) (da_cons (d_call (T.f__law_term_text _ ⟨rfl, rfl, rfl, rfl, rfl⟩) hr (takes_of rfl rfl rfl rfl) rfl (da_cons (d_var 7) da_nil)) (da_cons (d_var 9) da_nil)))) da_nil))))) (dss_cons (ds_ret d_bl) dss_nil) dss_nil) dss_nil)))) dss_nil) dss_nil)) dss_nil)))))) (dss_cons (ds_ret d_bl) dss_nil))))
end
def tbl (cl : Cl) (i : Nat) (args : List Val) (st : Store) : Res Val := match i with
  | 0 => if args.length = 2 then runB cl 2 b_show_sum args st else .stuck
  | 1 => if args.length = 1 then runB cl 4 b_show_term args st else .stuck
  | 2 => if args.length = 1 then runB cl 1 b_show_part args st else .stuck
  | 3 => if args.length = 1 then runB cl 2 b_show_saying args st else .stuck
  | 4 => if args.length = 2 then runB cl 3 b__law_figure args st else .stuck
  | 5 => if args.length = 3 then runB cl 8 b__law_draws args st else .stuck
  | 6 => if args.length = 3 then runB cl 10 b__law_long args st else .stuck
  | 7 => if args.length = 2 then runB cl 4 b__law_same args st else .stuck
  | 8 => if args.length = 3 then runB cl 11 b__law_names args st else .stuck
  | 9 => if args.length = 5 then runB cl 10 b__law_row args st else .stuck
  | 10 => if args.length = 2 then runB cl 13 b__law_parts args st else .stuck
  | 11 => if args.length = 4 then runB cl 13 b__law_sums args st else .stuck
  | 12 => if args.length = 3 then runB cl 17 b__law_saying args st else .stuck
  | 13 => if args.length = 2 then runB cl 4 b__law_scale args st else .stuck
  | 14 => if args.length = 3 then runB cl 4 b__law_scaled_term args st else .stuck
  | 15 => if args.length = 2 then runB cl 4 b__law_scaled_saying args st else .stuck
  | 16 => if args.length = 1 then runB cl 1 b__law_tail_text args st else .stuck
  | 17 => if args.length = 1 then runB cl 1 b__law_term_text args st else .stuck
  | 18 => if args.length = 1 then runB cl 3 b__law_saying_text args st else .stuck
  | 19 => if args.length = 1 then runB cl 10 b_law args st else .stuck
  | _ => .stuck
def clN : Nat → Cl
  | 0, _, _, _ => .stuck
  | d + 1, i, args, st => tbl (clN d) i args st
def CAof (K : PySem.W.Frag) (c : Nat) : Addr := match c with
  | _ => 0
def LL (K : PySem.W.Frag) (d : Nat) : Lib := ⟨clN d, CAof K⟩
structure Fac (P : Program) (w : World) (K : PySem.W.Frag) (mg : Str → Option Value) : Prop where
  z : True
  B_show_sum : ∃ a fd, FnB K mg ("show_sum" : Str) [("name" : Str), ("number" : Str)] s_show_sum a fd
  B_show_term : ∃ a fd, FnB K mg ("show_term" : Str) [("term" : Str)] s_show_term a fd
  B_show_part : ∃ a fd, FnB K mg ("show_part" : Str) [("part" : Str)] s_show_part a fd
  B_show_saying : ∃ a fd, FnB K mg ("show_saying" : Str) [("saying" : Str)] s_show_saying a fd
  B__law_figure : ∃ a fd, FnB K mg ("_law_figure" : Str) [("_law_script" : Str), ("_law_at" : Str)] s__law_figure a fd
  B__law_draws : ∃ a fd, FnB K mg ("_law_draws" : Str) [("_law_script" : Str), ("_law_at" : Str), ("_law_limits" : Str)] s__law_draws a fd
  B__law_long : ∃ a fd, FnB K mg ("_law_long" : Str) [("_law_script" : Str), ("_law_at" : Str), ("_law_many" : Str)] s__law_long a fd
  B__law_same : ∃ a fd, FnB K mg ("_law_same" : Str) [("_law_found" : Str), ("_law_due" : Str)] s__law_same a fd
  B__law_names : ∃ a fd, FnB K mg ("_law_names" : Str) [("_law_script" : Str), ("_law_at" : Str), ("_law_many" : Str)] s__law_names a fd
  B__law_row : ∃ a fd, FnB K mg ("_law_row" : Str) [("_law_script" : Str), ("_law_at" : Str), ("_law_first" : Str), ("_law_size" : Str), ("_law_high" : Str)] s__law_row a fd
  B__law_parts : ∃ a fd, FnB K mg ("_law_parts" : Str) [("_law_script" : Str), ("_law_at" : Str)] s__law_parts a fd
  B__law_sums : ∃ a fd, FnB K mg ("_law_sums" : Str) [("_law_drawn" : Str), ("_law_pool" : Str), ("_law_numbers" : Str), ("_law_arrays" : Str)] s__law_sums a fd
  B__law_saying : ∃ a fd, FnB K mg ("_law_saying" : Str) [("_law_script" : Str), ("_law_at" : Str), ("_law_parts_here" : Str)] s__law_saying a fd
  B__law_scale : ∃ a fd, FnB K mg ("_law_scale" : Str) [("_law_script" : Str), ("_law_at" : Str)] s__law_scale a fd
  B__law_scaled_term : ∃ a fd, FnB K mg ("_law_scaled_term" : Str) [("_law_term" : Str), ("_law_scale_here" : Str), ("_law_role" : Str)] s__law_scaled_term a fd
  B__law_scaled_saying : ∃ a fd, FnB K mg ("_law_scaled_saying" : Str) [("_law_saying_here" : Str), ("_law_scale_here" : Str)] s__law_scaled_saying a fd
  B__law_tail_text : ∃ a fd, FnB K mg ("_law_tail_text" : Str) [("_law_k" : Str)] s__law_tail_text a fd
  B__law_term_text : ∃ a fd, FnB K mg ("_law_term_text" : Str) [("_law_term" : Str)] s__law_term_text a fd
  B__law_saying_text : ∃ a fd, FnB K mg ("_law_saying_text" : Str) [("_law_saying_here" : Str)] s__law_saying_text a fd
  B_law : ∃ a fd, FnB K mg ("law" : Str) [("_law_script" : Str)] s_law a fd
  g_all : mg ("all" : Str) = none
  g_bool : mg ("bool" : Str) = none
  g_dict : mg ("dict" : Str) = none
  g_int : mg ("int" : Str) = none
  g_isinstance : mg ("isinstance" : Str) = none
  g_len : mg ("len" : Str) = none
  g_list : mg ("list" : Str) = none
  g_max : mg ("max" : Str) = none
  g_min : mg ("min" : Str) = none
  g_range : mg ("range" : Str) = none
  g_sorted : mg ("sorted" : Str) = none
  g_str : mg ("str" : Str) = none
  g_tuple : mg ("tuple" : Str) = none
structure Lev (P : Program) (w : World) (K : PySem.W.Frag) (mg : Str → Option Value) (base : Heap) (d : Nat) : Prop where
  L_show_sum : FnG P w K mg base (CAof K) ("show_sum" : Str) [("name" : Str), ("number" : Str)] (d + 2) (clN d 0) s_show_sum
  L_show_term : FnG P w K mg base (CAof K) ("show_term" : Str) [("term" : Str)] (d + 2) (clN d 1) s_show_term
  L_show_part : FnG P w K mg base (CAof K) ("show_part" : Str) [("part" : Str)] (d + 2) (clN d 2) s_show_part
  L_show_saying : FnG P w K mg base (CAof K) ("show_saying" : Str) [("saying" : Str)] (d + 2) (clN d 3) s_show_saying
  L__law_figure : FnG P w K mg base (CAof K) ("_law_figure" : Str) [("_law_script" : Str), ("_law_at" : Str)] (d + 2) (clN d 4) s__law_figure
  L__law_draws : FnG P w K mg base (CAof K) ("_law_draws" : Str) [("_law_script" : Str), ("_law_at" : Str), ("_law_limits" : Str)] (d + 2) (clN d 5) s__law_draws
  L__law_long : FnG P w K mg base (CAof K) ("_law_long" : Str) [("_law_script" : Str), ("_law_at" : Str), ("_law_many" : Str)] (d + 2) (clN d 6) s__law_long
  L__law_same : FnG P w K mg base (CAof K) ("_law_same" : Str) [("_law_found" : Str), ("_law_due" : Str)] (d + 2) (clN d 7) s__law_same
  L__law_names : FnG P w K mg base (CAof K) ("_law_names" : Str) [("_law_script" : Str), ("_law_at" : Str), ("_law_many" : Str)] (d + 2) (clN d 8) s__law_names
  L__law_row : FnG P w K mg base (CAof K) ("_law_row" : Str) [("_law_script" : Str), ("_law_at" : Str), ("_law_first" : Str), ("_law_size" : Str), ("_law_high" : Str)] (d + 2) (clN d 9) s__law_row
  L__law_parts : FnG P w K mg base (CAof K) ("_law_parts" : Str) [("_law_script" : Str), ("_law_at" : Str)] (d + 2) (clN d 10) s__law_parts
  L__law_sums : FnG P w K mg base (CAof K) ("_law_sums" : Str) [("_law_drawn" : Str), ("_law_pool" : Str), ("_law_numbers" : Str), ("_law_arrays" : Str)] (d + 2) (clN d 11) s__law_sums
  L__law_saying : FnG P w K mg base (CAof K) ("_law_saying" : Str) [("_law_script" : Str), ("_law_at" : Str), ("_law_parts_here" : Str)] (d + 2) (clN d 12) s__law_saying
  L__law_scale : FnG P w K mg base (CAof K) ("_law_scale" : Str) [("_law_script" : Str), ("_law_at" : Str)] (d + 2) (clN d 13) s__law_scale
  L__law_scaled_term : FnG P w K mg base (CAof K) ("_law_scaled_term" : Str) [("_law_term" : Str), ("_law_scale_here" : Str), ("_law_role" : Str)] (d + 2) (clN d 14) s__law_scaled_term
  L__law_scaled_saying : FnG P w K mg base (CAof K) ("_law_scaled_saying" : Str) [("_law_saying_here" : Str), ("_law_scale_here" : Str)] (d + 2) (clN d 15) s__law_scaled_saying
  L__law_tail_text : FnG P w K mg base (CAof K) ("_law_tail_text" : Str) [("_law_k" : Str)] (d + 2) (clN d 16) s__law_tail_text
  L__law_term_text : FnG P w K mg base (CAof K) ("_law_term_text" : Str) [("_law_term" : Str)] (d + 2) (clN d 17) s__law_term_text
  L__law_saying_text : FnG P w K mg base (CAof K) ("_law_saying_text" : Str) [("_law_saying_here" : Str)] (d + 2) (clN d 18) s__law_saying_text
  L_law : FnG P w K mg base (CAof K) ("law" : Str) [("_law_script" : Str)] (d + 2) (clN d 19) s_law
section
variable {P : Program} {w : World} {K : PySem.W.Frag} {mg : Str → Option Value} {base : Heap}

theorem st_show_sum : ∀ (d : Nat) (args : List Val) (st : Store), args.length ≠ [("name" : Str), ("number" : Str)].length → clN d 0 args st = .stuck
  | 0, _, _, _ => rfl
  | d + 1, args, st, h => (if_neg h : (if args.length = 2 then runB (clN d) 2 b_show_sum args st else Res.stuck) = .stuck)
theorem st_show_term : ∀ (d : Nat) (args : List Val) (st : Store), args.length ≠ [("term" : Str)].length → clN d 1 args st = .stuck
  | 0, _, _, _ => rfl
  | d + 1, args, st, h => (if_neg h : (if args.length = 1 then runB (clN d) 4 b_show_term args st else Res.stuck) = .stuck)
theorem st_show_part : ∀ (d : Nat) (args : List Val) (st : Store), args.length ≠ [("part" : Str)].length → clN d 2 args st = .stuck
  | 0, _, _, _ => rfl
  | d + 1, args, st, h => (if_neg h : (if args.length = 1 then runB (clN d) 1 b_show_part args st else Res.stuck) = .stuck)
theorem st_show_saying : ∀ (d : Nat) (args : List Val) (st : Store), args.length ≠ [("saying" : Str)].length → clN d 3 args st = .stuck
  | 0, _, _, _ => rfl
  | d + 1, args, st, h => (if_neg h : (if args.length = 1 then runB (clN d) 2 b_show_saying args st else Res.stuck) = .stuck)
theorem st__law_figure : ∀ (d : Nat) (args : List Val) (st : Store), args.length ≠ [("_law_script" : Str), ("_law_at" : Str)].length → clN d 4 args st = .stuck
  | 0, _, _, _ => rfl
  | d + 1, args, st, h => (if_neg h : (if args.length = 2 then runB (clN d) 3 b__law_figure args st else Res.stuck) = .stuck)
theorem st__law_draws : ∀ (d : Nat) (args : List Val) (st : Store), args.length ≠ [("_law_script" : Str), ("_law_at" : Str), ("_law_limits" : Str)].length → clN d 5 args st = .stuck
  | 0, _, _, _ => rfl
  | d + 1, args, st, h => (if_neg h : (if args.length = 3 then runB (clN d) 8 b__law_draws args st else Res.stuck) = .stuck)
theorem st__law_long : ∀ (d : Nat) (args : List Val) (st : Store), args.length ≠ [("_law_script" : Str), ("_law_at" : Str), ("_law_many" : Str)].length → clN d 6 args st = .stuck
  | 0, _, _, _ => rfl
  | d + 1, args, st, h => (if_neg h : (if args.length = 3 then runB (clN d) 10 b__law_long args st else Res.stuck) = .stuck)
theorem st__law_same : ∀ (d : Nat) (args : List Val) (st : Store), args.length ≠ [("_law_found" : Str), ("_law_due" : Str)].length → clN d 7 args st = .stuck
  | 0, _, _, _ => rfl
  | d + 1, args, st, h => (if_neg h : (if args.length = 2 then runB (clN d) 4 b__law_same args st else Res.stuck) = .stuck)
theorem st__law_names : ∀ (d : Nat) (args : List Val) (st : Store), args.length ≠ [("_law_script" : Str), ("_law_at" : Str), ("_law_many" : Str)].length → clN d 8 args st = .stuck
  | 0, _, _, _ => rfl
  | d + 1, args, st, h => (if_neg h : (if args.length = 3 then runB (clN d) 11 b__law_names args st else Res.stuck) = .stuck)
theorem st__law_row : ∀ (d : Nat) (args : List Val) (st : Store), args.length ≠ [("_law_script" : Str), ("_law_at" : Str), ("_law_first" : Str), ("_law_size" : Str), ("_law_high" : Str)].length → clN d 9 args st = .stuck
  | 0, _, _, _ => rfl
  | d + 1, args, st, h => (if_neg h : (if args.length = 5 then runB (clN d) 10 b__law_row args st else Res.stuck) = .stuck)
theorem st__law_parts : ∀ (d : Nat) (args : List Val) (st : Store), args.length ≠ [("_law_script" : Str), ("_law_at" : Str)].length → clN d 10 args st = .stuck
  | 0, _, _, _ => rfl
  | d + 1, args, st, h => (if_neg h : (if args.length = 2 then runB (clN d) 13 b__law_parts args st else Res.stuck) = .stuck)
theorem st__law_sums : ∀ (d : Nat) (args : List Val) (st : Store), args.length ≠ [("_law_drawn" : Str), ("_law_pool" : Str), ("_law_numbers" : Str), ("_law_arrays" : Str)].length → clN d 11 args st = .stuck
  | 0, _, _, _ => rfl
  | d + 1, args, st, h => (if_neg h : (if args.length = 4 then runB (clN d) 13 b__law_sums args st else Res.stuck) = .stuck)
theorem st__law_saying : ∀ (d : Nat) (args : List Val) (st : Store), args.length ≠ [("_law_script" : Str), ("_law_at" : Str), ("_law_parts_here" : Str)].length → clN d 12 args st = .stuck
  | 0, _, _, _ => rfl
  | d + 1, args, st, h => (if_neg h : (if args.length = 3 then runB (clN d) 17 b__law_saying args st else Res.stuck) = .stuck)
theorem st__law_scale : ∀ (d : Nat) (args : List Val) (st : Store), args.length ≠ [("_law_script" : Str), ("_law_at" : Str)].length → clN d 13 args st = .stuck
  | 0, _, _, _ => rfl
  | d + 1, args, st, h => (if_neg h : (if args.length = 2 then runB (clN d) 4 b__law_scale args st else Res.stuck) = .stuck)
theorem st__law_scaled_term : ∀ (d : Nat) (args : List Val) (st : Store), args.length ≠ [("_law_term" : Str), ("_law_scale_here" : Str), ("_law_role" : Str)].length → clN d 14 args st = .stuck
  | 0, _, _, _ => rfl
  | d + 1, args, st, h => (if_neg h : (if args.length = 3 then runB (clN d) 4 b__law_scaled_term args st else Res.stuck) = .stuck)
theorem st__law_scaled_saying : ∀ (d : Nat) (args : List Val) (st : Store), args.length ≠ [("_law_saying_here" : Str), ("_law_scale_here" : Str)].length → clN d 15 args st = .stuck
  | 0, _, _, _ => rfl
  | d + 1, args, st, h => (if_neg h : (if args.length = 2 then runB (clN d) 4 b__law_scaled_saying args st else Res.stuck) = .stuck)
theorem st__law_tail_text : ∀ (d : Nat) (args : List Val) (st : Store), args.length ≠ [("_law_k" : Str)].length → clN d 16 args st = .stuck
  | 0, _, _, _ => rfl
  | d + 1, args, st, h => (if_neg h : (if args.length = 1 then runB (clN d) 1 b__law_tail_text args st else Res.stuck) = .stuck)
theorem st__law_term_text : ∀ (d : Nat) (args : List Val) (st : Store), args.length ≠ [("_law_term" : Str)].length → clN d 17 args st = .stuck
  | 0, _, _, _ => rfl
  | d + 1, args, st, h => (if_neg h : (if args.length = 1 then runB (clN d) 1 b__law_term_text args st else Res.stuck) = .stuck)
theorem st__law_saying_text : ∀ (d : Nat) (args : List Val) (st : Store), args.length ≠ [("_law_saying_here" : Str)].length → clN d 18 args st = .stuck
  | 0, _, _, _ => rfl
  | d + 1, args, st, h => (if_neg h : (if args.length = 1 then runB (clN d) 3 b__law_saying_text args st else Res.stuck) = .stuck)
theorem txt_of {d : Nat} (C : Fac P w K mg) (V : Lev P w K mg base d) : Txt P w K mg base (LL K d) d where
  z := trivial
  f__law_draws := V.L__law_draws.at_ (L := LL K d) (st__law_draws d)
  f__law_figure := V.L__law_figure.at_ (L := LL K d) (st__law_figure d)
  f__law_long := V.L__law_long.at_ (L := LL K d) (st__law_long d)
  f__law_names := V.L__law_names.at_ (L := LL K d) (st__law_names d)
  f__law_parts := V.L__law_parts.at_ (L := LL K d) (st__law_parts d)
  f__law_row := V.L__law_row.at_ (L := LL K d) (st__law_row d)
  f__law_same := V.L__law_same.at_ (L := LL K d) (st__law_same d)
  f__law_saying := V.L__law_saying.at_ (L := LL K d) (st__law_saying d)
  f__law_saying_text := V.L__law_saying_text.at_ (L := LL K d) (st__law_saying_text d)
  f__law_scale := V.L__law_scale.at_ (L := LL K d) (st__law_scale d)
  f__law_scaled_saying := V.L__law_scaled_saying.at_ (L := LL K d) (st__law_scaled_saying d)
  f__law_scaled_term := V.L__law_scaled_term.at_ (L := LL K d) (st__law_scaled_term d)
  f__law_sums := V.L__law_sums.at_ (L := LL K d) (st__law_sums d)
  f__law_tail_text := V.L__law_tail_text.at_ (L := LL K d) (st__law_tail_text d)
  f__law_term_text := V.L__law_term_text.at_ (L := LL K d) (st__law_term_text d)
  f_show_part := V.L_show_part.at_ (L := LL K d) (st_show_part d)
  f_show_saying := V.L_show_saying.at_ (L := LL K d) (st_show_saying d)
  f_show_sum := V.L_show_sum.at_ (L := LL K d) (st_show_sum d)
  f_show_term := V.L_show_term.at_ (L := LL K d) (st_show_term d)
  k_show_saying := V.L_show_saying.atK (L := LL K d) (st_show_saying d)
  k_show_term := V.L_show_term.atK (L := LL K d) (st_show_term d)
  g_all := by rintro X ⟨rfl, rfl, rfl, rfl, rfl⟩; exact C.g_all
  g_bool := by rintro X ⟨rfl, rfl, rfl, rfl, rfl⟩; exact C.g_bool
  g_dict := by rintro X ⟨rfl, rfl, rfl, rfl, rfl⟩; exact C.g_dict
  g_int := by rintro X ⟨rfl, rfl, rfl, rfl, rfl⟩; exact C.g_int
  g_isinstance := by rintro X ⟨rfl, rfl, rfl, rfl, rfl⟩; exact C.g_isinstance
  g_len := by rintro X ⟨rfl, rfl, rfl, rfl, rfl⟩; exact C.g_len
  g_list := by rintro X ⟨rfl, rfl, rfl, rfl, rfl⟩; exact C.g_list
  g_max := by rintro X ⟨rfl, rfl, rfl, rfl, rfl⟩; exact C.g_max
  g_min := by rintro X ⟨rfl, rfl, rfl, rfl, rfl⟩; exact C.g_min
  g_range := by rintro X ⟨rfl, rfl, rfl, rfl, rfl⟩; exact C.g_range
  g_sorted := by rintro X ⟨rfl, rfl, rfl, rfl, rfl⟩; exact C.g_sorted
  g_str := by rintro X ⟨rfl, rfl, rfl, rfl, rfl⟩; exact C.g_str
  g_tuple := by rintro X ⟨rfl, rfl, rfl, rfl, rfl⟩; exact C.g_tuple
theorem lev0 (C : Fac P w K mg) : Lev P w K mg base 0 where
  L_show_sum := by
    obtain ⟨a, fd, B⟩ := C.B_show_sum
    exact FnG.zero B sc_show_sum fun _ _ => rfl
  L_show_term := by
    obtain ⟨a, fd, B⟩ := C.B_show_term
    exact FnG.zero B sc_show_term fun _ _ => rfl
  L_show_part := by
    obtain ⟨a, fd, B⟩ := C.B_show_part
    exact FnG.zero B sc_show_part fun _ _ => rfl
  L_show_saying := by
    obtain ⟨a, fd, B⟩ := C.B_show_saying
    exact FnG.zero B sc_show_saying fun _ _ => rfl
  L__law_figure := by
    obtain ⟨a, fd, B⟩ := C.B__law_figure
    exact FnG.zero B sc__law_figure fun _ _ => rfl
  L__law_draws := by
    obtain ⟨a, fd, B⟩ := C.B__law_draws
    exact FnG.zero B sc__law_draws fun _ _ => rfl
  L__law_long := by
    obtain ⟨a, fd, B⟩ := C.B__law_long
    exact FnG.zero B sc__law_long fun _ _ => rfl
  L__law_same := by
    obtain ⟨a, fd, B⟩ := C.B__law_same
    exact FnG.zero B sc__law_same fun _ _ => rfl
  L__law_names := by
    obtain ⟨a, fd, B⟩ := C.B__law_names
    exact FnG.zero B sc__law_names fun _ _ => rfl
  L__law_row := by
    obtain ⟨a, fd, B⟩ := C.B__law_row
    exact FnG.zero B sc__law_row fun _ _ => rfl
  L__law_parts := by
    obtain ⟨a, fd, B⟩ := C.B__law_parts
    exact FnG.zero B sc__law_parts fun _ _ => rfl
  L__law_sums := by
    obtain ⟨a, fd, B⟩ := C.B__law_sums
    exact FnG.zero B sc__law_sums fun _ _ => rfl
  L__law_saying := by
    obtain ⟨a, fd, B⟩ := C.B__law_saying
    exact FnG.zero B sc__law_saying fun _ _ => rfl
  L__law_scale := by
    obtain ⟨a, fd, B⟩ := C.B__law_scale
    exact FnG.zero B sc__law_scale fun _ _ => rfl
  L__law_scaled_term := by
    obtain ⟨a, fd, B⟩ := C.B__law_scaled_term
    exact FnG.zero B sc__law_scaled_term fun _ _ => rfl
  L__law_scaled_saying := by
    obtain ⟨a, fd, B⟩ := C.B__law_scaled_saying
    exact FnG.zero B sc__law_scaled_saying fun _ _ => rfl
  L__law_tail_text := by
    obtain ⟨a, fd, B⟩ := C.B__law_tail_text
    exact FnG.zero B sc__law_tail_text fun _ _ => rfl
  L__law_term_text := by
    obtain ⟨a, fd, B⟩ := C.B__law_term_text
    exact FnG.zero B sc__law_term_text fun _ _ => rfl
  L__law_saying_text := by
    obtain ⟨a, fd, B⟩ := C.B__law_saying_text
    exact FnG.zero B sc__law_saying_text fun _ _ => rfl
  L_law := by
    obtain ⟨a, fd, B⟩ := C.B_law
    exact FnG.zero B sc_law fun _ _ => rfl
theorem levS {d : Nat} (C : Fac P w K mg) (V : Lev P w K mg base d) : Lev P w K mg base (d + 1) where
  L_show_sum := by
    obtain ⟨a, fd, B⟩ := C.B_show_sum
    exact FnG.succ (L := LL K d) B sc_show_sum (fun _ _ => rfl) fun cdv A outer s H E hr => h_show_sum (txt_of C V) a cdv A outer s H E hr
  L_show_term := by
    obtain ⟨a, fd, B⟩ := C.B_show_term
    exact FnG.succ (L := LL K d) B sc_show_term (fun _ _ => rfl) fun cdv A outer s H E hr => h_show_term (txt_of C V) a cdv A outer s H E hr
  L_show_part := by
    obtain ⟨a, fd, B⟩ := C.B_show_part
    exact FnG.succ (L := LL K d) B sc_show_part (fun _ _ => rfl) fun cdv A outer s H E hr => h_show_part (txt_of C V) a cdv A outer s H E hr
  L_show_saying := by
    obtain ⟨a, fd, B⟩ := C.B_show_saying
    exact FnG.succ (L := LL K d) B sc_show_saying (fun _ _ => rfl) fun cdv A outer s H E hr => h_show_saying (txt_of C V) a cdv A outer s H E hr
  L__law_figure := by
    obtain ⟨a, fd, B⟩ := C.B__law_figure
    exact FnG.succ (L := LL K d) B sc__law_figure (fun _ _ => rfl) fun cdv A outer s H E hr => h__law_figure (txt_of C V) a cdv A outer s H E hr
  L__law_draws := by
    obtain ⟨a, fd, B⟩ := C.B__law_draws
    exact FnG.succ (L := LL K d) B sc__law_draws (fun _ _ => rfl) fun cdv A outer s H E hr => h__law_draws (txt_of C V) a cdv A outer s H E hr
  L__law_long := by
    obtain ⟨a, fd, B⟩ := C.B__law_long
    exact FnG.succ (L := LL K d) B sc__law_long (fun _ _ => rfl) fun cdv A outer s H E hr => h__law_long (txt_of C V) a cdv A outer s H E hr
  L__law_same := by
    obtain ⟨a, fd, B⟩ := C.B__law_same
    exact FnG.succ (L := LL K d) B sc__law_same (fun _ _ => rfl) fun cdv A outer s H E hr => h__law_same (txt_of C V) a cdv A outer s H E hr
  L__law_names := by
    obtain ⟨a, fd, B⟩ := C.B__law_names
    exact FnG.succ (L := LL K d) B sc__law_names (fun _ _ => rfl) fun cdv A outer s H E hr => h__law_names (txt_of C V) a cdv A outer s H E hr
  L__law_row := by
    obtain ⟨a, fd, B⟩ := C.B__law_row
    exact FnG.succ (L := LL K d) B sc__law_row (fun _ _ => rfl) fun cdv A outer s H E hr => h__law_row (txt_of C V) a cdv A outer s H E hr
  L__law_parts := by
    obtain ⟨a, fd, B⟩ := C.B__law_parts
    exact FnG.succ (L := LL K d) B sc__law_parts (fun _ _ => rfl) fun cdv A outer s H E hr => h__law_parts (txt_of C V) a cdv A outer s H E hr
  L__law_sums := by
    obtain ⟨a, fd, B⟩ := C.B__law_sums
    exact FnG.succ (L := LL K d) B sc__law_sums (fun _ _ => rfl) fun cdv A outer s H E hr => h__law_sums (txt_of C V) a cdv A outer s H E hr
  L__law_saying := by
    obtain ⟨a, fd, B⟩ := C.B__law_saying
    exact FnG.succ (L := LL K d) B sc__law_saying (fun _ _ => rfl) fun cdv A outer s H E hr => h__law_saying (txt_of C V) a cdv A outer s H E hr
  L__law_scale := by
    obtain ⟨a, fd, B⟩ := C.B__law_scale
    exact FnG.succ (L := LL K d) B sc__law_scale (fun _ _ => rfl) fun cdv A outer s H E hr => h__law_scale (txt_of C V) a cdv A outer s H E hr
  L__law_scaled_term := by
    obtain ⟨a, fd, B⟩ := C.B__law_scaled_term
    exact FnG.succ (L := LL K d) B sc__law_scaled_term (fun _ _ => rfl) fun cdv A outer s H E hr => h__law_scaled_term (txt_of C V) a cdv A outer s H E hr
  L__law_scaled_saying := by
    obtain ⟨a, fd, B⟩ := C.B__law_scaled_saying
    exact FnG.succ (L := LL K d) B sc__law_scaled_saying (fun _ _ => rfl) fun cdv A outer s H E hr => h__law_scaled_saying (txt_of C V) a cdv A outer s H E hr
  L__law_tail_text := by
    obtain ⟨a, fd, B⟩ := C.B__law_tail_text
    exact FnG.succ (L := LL K d) B sc__law_tail_text (fun _ _ => rfl) fun cdv A outer s H E hr => h__law_tail_text (txt_of C V) a cdv A outer s H E hr
  L__law_term_text := by
    obtain ⟨a, fd, B⟩ := C.B__law_term_text
    exact FnG.succ (L := LL K d) B sc__law_term_text (fun _ _ => rfl) fun cdv A outer s H E hr => h__law_term_text (txt_of C V) a cdv A outer s H E hr
  L__law_saying_text := by
    obtain ⟨a, fd, B⟩ := C.B__law_saying_text
    exact FnG.succ (L := LL K d) B sc__law_saying_text (fun _ _ => rfl) fun cdv A outer s H E hr => h__law_saying_text (txt_of C V) a cdv A outer s H E hr
  L_law := by
    obtain ⟨a, fd, B⟩ := C.B_law
    exact FnG.succ (L := LL K d) B sc_law (fun _ _ => rfl) fun cdv A outer s H E hr => h_law (txt_of C V) a cdv A outer s H E hr
theorem lev (C : Fac P w K mg) : ∀ d, Lev P w K mg base d
  | 0 => lev0 C
  | d + 1 => levS C (lev C d)
theorem law_ok {a : Addr} {fd : FuncData} (C : Fac P w K mg) (B : FnB K mg "law" [("_law_script" : Str)] s_law a fd) (D : Nat) : FnOk P w K mg base (L2.CX P w) (D + 3) a fd [("_law_script" : Str)] (spM K (CAof K) 1 (clN (D + 1) 19)) :=
  fn_okD (L := LL K D) B.F sc_law (fun _ _ => rfl) fun cdv A outer s H E hr => h_law (txt_of C (lev C D)) a cdv A outer s H E hr
theorem law_fin {w : World} (C : Fac P w K mg) {fa : Addr} (hmg : mg "law" = some (.ref fa)) (D : Nat) : ∃ fd : FuncData, (∀ (s : Shared) (u : Value), BindsTo s fd ⟨[u], []⟩ [(("_law_script" : Str), u)]) ∧ ∀ base : Heap, FnOk P w K mg base (L2.CX P w) (D + 3) fa fd [("_law_script" : Str)] (spM K (CAof K) 1 (clN (D + 1) 19)) := by
  obtain ⟨a, fd, B⟩ := C.B_law
  have e := hmg.symm.trans B.gl
  cases e
  exact ⟨fd, fun s v => B.bA s [v] rfl, fun base => law_ok C B D⟩
end
def fn : List He.DefD := [defD (("show_sum" : Str), none) ("show_sum" : Str) ("show_sum" : Str) s_show_sum, defD (("show_term" : Str), none) ("show_term" : Str) ("show_term" : Str) s_show_term, defD (("show_part" : Str), none) ("show_part" : Str) ("show_part" : Str) s_show_part, defD (("show_saying" : Str), none) ("show_saying" : Str) ("show_saying" : Str) s_show_saying, defD (("_law_figure" : Str), none) ("_law_figure" : Str) ("_law_figure" : Str) s__law_figure, defD (("_law_draws" : Str), none) ("_law_draws" : Str) ("_law_draws" : Str) s__law_draws, defD (("_law_long" : Str), none) ("_law_long" : Str) ("_law_long" : Str) s__law_long, defD (("_law_same" : Str), none) ("_law_same" : Str) ("_law_same" : Str) s__law_same, defD (("_law_names" : Str), none) ("_law_names" : Str) ("_law_names" : Str) s__law_names, defD (("_law_row" : Str), none) ("_law_row" : Str) ("_law_row" : Str) s__law_row, defD (("_law_parts" : Str), none) ("_law_parts" : Str) ("_law_parts" : Str) s__law_parts, defD (("_law_sums" : Str), none) ("_law_sums" : Str) ("_law_sums" : Str) s__law_sums, defD (("_law_saying" : Str), none) ("_law_saying" : Str) ("_law_saying" : Str) s__law_saying, defD (("_law_scale" : Str), none) ("_law_scale" : Str) ("_law_scale" : Str) s__law_scale, defD (("_law_scaled_term" : Str), none) ("_law_scaled_term" : Str) ("_law_scaled_term" : Str) s__law_scaled_term, defD (("_law_scaled_saying" : Str), none) ("_law_scaled_saying" : Str) ("_law_scaled_saying" : Str) s__law_scaled_saying, defD (("_law_tail_text" : Str), none) ("_law_tail_text" : Str) ("_law_tail_text" : Str) s__law_tail_text, defD (("_law_term_text" : Str), none) ("_law_term_text" : Str) ("_law_term_text" : Str) s__law_term_text, defD (("_law_saying_text" : Str), none) ("_law_saying_text" : Str) ("_law_saying_text" : Str) s__law_saying_text, defD (("law" : Str), none) ("law" : Str) ("law" : Str) s_law]
def fa : List He.Fa := [.glo ("show_sum" : Str), .glo ("show_term" : Str), .glo ("show_part" : Str), .glo ("show_saying" : Str), .glo ("_law_figure" : Str), .glo ("_law_draws" : Str), .glo ("_law_long" : Str), .glo ("_law_same" : Str), .glo ("_law_names" : Str), .glo ("_law_row" : Str), .glo ("_law_parts" : Str), .glo ("_law_sums" : Str), .glo ("_law_saying" : Str), .glo ("_law_scale" : Str), .glo ("_law_scaled_term" : Str), .glo ("_law_scaled_saying" : Str), .glo ("_law_tail_text" : Str), .glo ("_law_term_text" : Str), .glo ("_law_saying_text" : Str), .glo ("law" : Str), .free ("all" : Str), .free ("bool" : Str), .free ("dict" : Str), .free ("int" : Str), .free ("isinstance" : Str), .free ("len" : Str), .free ("list" : Str), .free ("max" : Str), .free ("min" : Str), .free ("range" : Str), .free ("sorted" : Str), .free ("str" : Str), .free ("tuple" : Str)]
def ts : List He.Tab := []
def exs : List (PySem.W.Frag → Bool) := []
def ex (K : PySem.W.Frag) : Bool := exs.all fun f => f K
theorem ex_at {K : PySem.W.Frag} (h : ex K = true) (i : Nat) {f : PySem.W.Frag → Bool} (e : exs[i]? = some f) : f K = true := List.all_eq_true.mp h f (List.mem_of_getElem? e)
theorem facts {P : Program} {w : World} {K : PySem.W.Frag} {h : Heap} {mg : Str → Option Value} (X : K.In h) (G : h.Ns mainGlobals mg) (c : He.SaysT fa fn ts w K) (c2 : ex K = true) : Fac P w K mg where
  z := trivial
  B_show_sum := by
    obtain ⟨fd, F⟩ := c.d.def_ 0 (d := defD (("show_sum" : Str), none) ("show_sum" : Str) ("show_sum" : Str) s_show_sum) rfl
    exact ⟨_, fd, fnB_of (He.glo_ok X G (c.d.fact 0 (f := .glo ("show_sum" : Str)) rfl)) F (fun _ _ _ _ _ _ us hl => match us, hl with | [_, _], _ => rfl) (fun _ _ _ _ _ _ us hl => match us, hl with | [_, _], _ => rfl)⟩
  B_show_term := by
    obtain ⟨fd, F⟩ := c.d.def_ 1 (d := defD (("show_term" : Str), none) ("show_term" : Str) ("show_term" : Str) s_show_term) rfl
    exact ⟨_, fd, fnB_of (He.glo_ok X G (c.d.fact 1 (f := .glo ("show_term" : Str)) rfl)) F (fun _ _ _ _ _ _ us hl => match us, hl with | [_], _ => rfl) (fun _ _ _ _ _ _ us hl => match us, hl with | [_], _ => rfl)⟩
  B_show_part := by
    obtain ⟨fd, F⟩ := c.d.def_ 2 (d := defD (("show_part" : Str), none) ("show_part" : Str) ("show_part" : Str) s_show_part) rfl
    exact ⟨_, fd, fnB_of (He.glo_ok X G (c.d.fact 2 (f := .glo ("show_part" : Str)) rfl)) F (fun _ _ _ _ _ _ us hl => match us, hl with | [_], _ => rfl) (fun _ _ _ _ _ _ us hl => match us, hl with | [_], _ => rfl)⟩
  B_show_saying := by
    obtain ⟨fd, F⟩ := c.d.def_ 3 (d := defD (("show_saying" : Str), none) ("show_saying" : Str) ("show_saying" : Str) s_show_saying) rfl
    exact ⟨_, fd, fnB_of (He.glo_ok X G (c.d.fact 3 (f := .glo ("show_saying" : Str)) rfl)) F (fun _ _ _ _ _ _ us hl => match us, hl with | [_], _ => rfl) (fun _ _ _ _ _ _ us hl => match us, hl with | [_], _ => rfl)⟩
  B__law_figure := by
    obtain ⟨fd, F⟩ := c.d.def_ 4 (d := defD (("_law_figure" : Str), none) ("_law_figure" : Str) ("_law_figure" : Str) s__law_figure) rfl
    exact ⟨_, fd, fnB_of (He.glo_ok X G (c.d.fact 4 (f := .glo ("_law_figure" : Str)) rfl)) F (fun _ _ _ _ _ _ us hl => match us, hl with | [_, _], _ => rfl) (fun _ _ _ _ _ _ us hl => match us, hl with | [_, _], _ => rfl)⟩
  B__law_draws := by
    obtain ⟨fd, F⟩ := c.d.def_ 5 (d := defD (("_law_draws" : Str), none) ("_law_draws" : Str) ("_law_draws" : Str) s__law_draws) rfl
    exact ⟨_, fd, fnB_of (He.glo_ok X G (c.d.fact 5 (f := .glo ("_law_draws" : Str)) rfl)) F (fun _ _ _ _ _ _ us hl => match us, hl with | [_, _, _], _ => rfl) (fun _ _ _ _ _ _ us hl => match us, hl with | [_, _, _], _ => rfl)⟩
  B__law_long := by
    obtain ⟨fd, F⟩ := c.d.def_ 6 (d := defD (("_law_long" : Str), none) ("_law_long" : Str) ("_law_long" : Str) s__law_long) rfl
    exact ⟨_, fd, fnB_of (He.glo_ok X G (c.d.fact 6 (f := .glo ("_law_long" : Str)) rfl)) F (fun _ _ _ _ _ _ us hl => match us, hl with | [_, _, _], _ => rfl) (fun _ _ _ _ _ _ us hl => match us, hl with | [_, _, _], _ => rfl)⟩
  B__law_same := by
    obtain ⟨fd, F⟩ := c.d.def_ 7 (d := defD (("_law_same" : Str), none) ("_law_same" : Str) ("_law_same" : Str) s__law_same) rfl
    exact ⟨_, fd, fnB_of (He.glo_ok X G (c.d.fact 7 (f := .glo ("_law_same" : Str)) rfl)) F (fun _ _ _ _ _ _ us hl => match us, hl with | [_, _], _ => rfl) (fun _ _ _ _ _ _ us hl => match us, hl with | [_, _], _ => rfl)⟩
  B__law_names := by
    obtain ⟨fd, F⟩ := c.d.def_ 8 (d := defD (("_law_names" : Str), none) ("_law_names" : Str) ("_law_names" : Str) s__law_names) rfl
    exact ⟨_, fd, fnB_of (He.glo_ok X G (c.d.fact 8 (f := .glo ("_law_names" : Str)) rfl)) F (fun _ _ _ _ _ _ us hl => match us, hl with | [_, _, _], _ => rfl) (fun _ _ _ _ _ _ us hl => match us, hl with | [_, _, _], _ => rfl)⟩
  B__law_row := by
    obtain ⟨fd, F⟩ := c.d.def_ 9 (d := defD (("_law_row" : Str), none) ("_law_row" : Str) ("_law_row" : Str) s__law_row) rfl
    exact ⟨_, fd, fnB_of (He.glo_ok X G (c.d.fact 9 (f := .glo ("_law_row" : Str)) rfl)) F (fun _ _ _ _ _ _ us hl => match us, hl with | [_, _, _, _, _], _ => rfl) (fun _ _ _ _ _ _ us hl => match us, hl with | [_, _, _, _, _], _ => rfl)⟩
  B__law_parts := by
    obtain ⟨fd, F⟩ := c.d.def_ 10 (d := defD (("_law_parts" : Str), none) ("_law_parts" : Str) ("_law_parts" : Str) s__law_parts) rfl
    exact ⟨_, fd, fnB_of (He.glo_ok X G (c.d.fact 10 (f := .glo ("_law_parts" : Str)) rfl)) F (fun _ _ _ _ _ _ us hl => match us, hl with | [_, _], _ => rfl) (fun _ _ _ _ _ _ us hl => match us, hl with | [_, _], _ => rfl)⟩
  B__law_sums := by
    obtain ⟨fd, F⟩ := c.d.def_ 11 (d := defD (("_law_sums" : Str), none) ("_law_sums" : Str) ("_law_sums" : Str) s__law_sums) rfl
    exact ⟨_, fd, fnB_of (He.glo_ok X G (c.d.fact 11 (f := .glo ("_law_sums" : Str)) rfl)) F (fun _ _ _ _ _ _ us hl => match us, hl with | [_, _, _, _], _ => rfl) (fun _ _ _ _ _ _ us hl => match us, hl with | [_, _, _, _], _ => rfl)⟩
  B__law_saying := by
    obtain ⟨fd, F⟩ := c.d.def_ 12 (d := defD (("_law_saying" : Str), none) ("_law_saying" : Str) ("_law_saying" : Str) s__law_saying) rfl
    exact ⟨_, fd, fnB_of (He.glo_ok X G (c.d.fact 12 (f := .glo ("_law_saying" : Str)) rfl)) F (fun _ _ _ _ _ _ us hl => match us, hl with | [_, _, _], _ => rfl) (fun _ _ _ _ _ _ us hl => match us, hl with | [_, _, _], _ => rfl)⟩
  B__law_scale := by
    obtain ⟨fd, F⟩ := c.d.def_ 13 (d := defD (("_law_scale" : Str), none) ("_law_scale" : Str) ("_law_scale" : Str) s__law_scale) rfl
    exact ⟨_, fd, fnB_of (He.glo_ok X G (c.d.fact 13 (f := .glo ("_law_scale" : Str)) rfl)) F (fun _ _ _ _ _ _ us hl => match us, hl with | [_, _], _ => rfl) (fun _ _ _ _ _ _ us hl => match us, hl with | [_, _], _ => rfl)⟩
  B__law_scaled_term := by
    obtain ⟨fd, F⟩ := c.d.def_ 14 (d := defD (("_law_scaled_term" : Str), none) ("_law_scaled_term" : Str) ("_law_scaled_term" : Str) s__law_scaled_term) rfl
    exact ⟨_, fd, fnB_of (He.glo_ok X G (c.d.fact 14 (f := .glo ("_law_scaled_term" : Str)) rfl)) F (fun _ _ _ _ _ _ us hl => match us, hl with | [_, _, _], _ => rfl) (fun _ _ _ _ _ _ us hl => match us, hl with | [_, _, _], _ => rfl)⟩
  B__law_scaled_saying := by
    obtain ⟨fd, F⟩ := c.d.def_ 15 (d := defD (("_law_scaled_saying" : Str), none) ("_law_scaled_saying" : Str) ("_law_scaled_saying" : Str) s__law_scaled_saying) rfl
    exact ⟨_, fd, fnB_of (He.glo_ok X G (c.d.fact 15 (f := .glo ("_law_scaled_saying" : Str)) rfl)) F (fun _ _ _ _ _ _ us hl => match us, hl with | [_, _], _ => rfl) (fun _ _ _ _ _ _ us hl => match us, hl with | [_, _], _ => rfl)⟩
  B__law_tail_text := by
    obtain ⟨fd, F⟩ := c.d.def_ 16 (d := defD (("_law_tail_text" : Str), none) ("_law_tail_text" : Str) ("_law_tail_text" : Str) s__law_tail_text) rfl
    exact ⟨_, fd, fnB_of (He.glo_ok X G (c.d.fact 16 (f := .glo ("_law_tail_text" : Str)) rfl)) F (fun _ _ _ _ _ _ us hl => match us, hl with | [_], _ => rfl) (fun _ _ _ _ _ _ us hl => match us, hl with | [_], _ => rfl)⟩
  B__law_term_text := by
    obtain ⟨fd, F⟩ := c.d.def_ 17 (d := defD (("_law_term_text" : Str), none) ("_law_term_text" : Str) ("_law_term_text" : Str) s__law_term_text) rfl
    exact ⟨_, fd, fnB_of (He.glo_ok X G (c.d.fact 17 (f := .glo ("_law_term_text" : Str)) rfl)) F (fun _ _ _ _ _ _ us hl => match us, hl with | [_], _ => rfl) (fun _ _ _ _ _ _ us hl => match us, hl with | [_], _ => rfl)⟩
  B__law_saying_text := by
    obtain ⟨fd, F⟩ := c.d.def_ 18 (d := defD (("_law_saying_text" : Str), none) ("_law_saying_text" : Str) ("_law_saying_text" : Str) s__law_saying_text) rfl
    exact ⟨_, fd, fnB_of (He.glo_ok X G (c.d.fact 18 (f := .glo ("_law_saying_text" : Str)) rfl)) F (fun _ _ _ _ _ _ us hl => match us, hl with | [_], _ => rfl) (fun _ _ _ _ _ _ us hl => match us, hl with | [_], _ => rfl)⟩
  B_law := by
    obtain ⟨fd, F⟩ := c.d.def_ 19 (d := defD (("law" : Str), none) ("law" : Str) ("law" : Str) s_law) rfl
    exact ⟨_, fd, fnB_of (He.glo_ok X G (c.d.fact 19 (f := .glo ("law" : Str)) rfl)) F (fun _ _ _ _ _ _ us hl => match us, hl with | [_], _ => rfl) (fun _ _ _ _ _ _ us hl => match us, hl with | [_], _ => rfl)⟩
  g_all := He.free_ok X G (c.d.fact 20 (f := .free ("all" : Str)) rfl)
  g_bool := He.free_ok X G (c.d.fact 21 (f := .free ("bool" : Str)) rfl)
  g_dict := He.free_ok X G (c.d.fact 22 (f := .free ("dict" : Str)) rfl)
  g_int := He.free_ok X G (c.d.fact 23 (f := .free ("int" : Str)) rfl)
  g_isinstance := He.free_ok X G (c.d.fact 24 (f := .free ("isinstance" : Str)) rfl)
  g_len := He.free_ok X G (c.d.fact 25 (f := .free ("len" : Str)) rfl)
  g_list := He.free_ok X G (c.d.fact 26 (f := .free ("list" : Str)) rfl)
  g_max := He.free_ok X G (c.d.fact 27 (f := .free ("max" : Str)) rfl)
  g_min := He.free_ok X G (c.d.fact 28 (f := .free ("min" : Str)) rfl)
  g_range := He.free_ok X G (c.d.fact 29 (f := .free ("range" : Str)) rfl)
  g_sorted := He.free_ok X G (c.d.fact 30 (f := .free ("sorted" : Str)) rfl)
  g_str := He.free_ok X G (c.d.fact 31 (f := .free ("str" : Str)) rfl)
  g_tuple := He.free_ok X G (c.d.fact 32 (f := .free ("tuple" : Str)) rfl)
end EVL

/-! ## P1 -/
set_option maxRecDepth 10000
set_option maxHeartbeats 800000
namespace EVL
open PySem L2 EV
theorem figure_ok {d n : Nat} {st : Store} {ns : List Int} {p : Int} (hs : lstAt st n = some (ns.map .int)) (hp : 0 ≤ p) : wr (clN (d + 1) id__law_figure [.ref n, .int p] st) (fun v st' => st = st' ∧ ∃ k : Int, v = .int k ∧ 0 ≤ k) noX := by
  show wr (runB (clN d) 3 b__law_figure [.ref n, .int p] st) _ noX
  unfold b__law_figure
  rw [w_run]
  refine w_cut (fun ρ st' => st = st' ∧ ρ = [some (.ref n), some (.int p), some (.int 0)]) (by rw [w_set, w_con]; exact ⟨rfl, rfl⟩) ?_
  rintro _ _ ⟨rfl, rfl⟩
  refine w_cut (fun ρ st2 => st = st2 ∧ ∃ k : Int, ρ = [some (.ref n), some (.int p), some (.int k)]) ?_ ?_
  · simp only [w_varM, w_con, w_bin, w_neg, w_not, w_and, w_or, w_cmp, w_chain, w_ife, w_call, w_callp, w_star, w_blt, w_mth, w_idx, w_slc, w_lst, w_tup, w_tab, w_tin, w_dnew, w_rev, w_lc, w_lsc, w_dc, w_disp, w_get, w_fld, w_mk, w_meth, w_prop, w_nil, w_cons, w_onone, w_osome, w_tnone, w_tsome, w_tnot, w_tand, w_tor, w_tval, w_iex, w_irng1, w_irng2, w_irng3, w_izip, w_run, w_snil, w_scons, w_set, w_unp, w_seti, w_setf, w_exp, w_ret, w_retn, w_pass, w_ifs, w_loop, w_rais, w_try, wr_ok, wr_some, wr_none, wr_stuck, wr_bind, wr_quiet, wr_lift_ite, wr_ite, wo_ite, wo_next, wo_ret, wo_brk, wo_cnt, o_add, o_sub, o_mul, o_fdiv, o_mod, o_pow, o_neg, o_lt, o_le, o_gt, o_ge, o_eq, o_ne, o_eqs, o_nes, o_isB, o_notB, o_tbl, o_int, o_lst, decide_eq_true_eq, Bool.not_eq_true', decide_eq_false_iff_not, beq_iff_eq, List.map_cons, List.map_nil, List.length_cons, List.length_nil, List.replicate_succ, List.replicate_zero, List.cons_append, List.nil_append, List.getElem?_cons_zero, List.getElem?_cons_succ, List.set_cons_zero, List.set_cons_succ, Nat.reduceSub, Nat.reduceAdd, Nat.zero_add, Option.map_some, Option.map_none, c_na10, o_rng1, len_rng, len_lst, len_tup, Int.toNat_natCast, Int.reduceToNat, Int.reduceLE, Int.reduceLT, Nat.reducePow, Nat.reduceLT, and_self, if_true, if_false, ite_true, ite_false, true_and, and_true, reduceIte, o_len hs, o_idx hs, List.length_map]
    split
    · rename_i h
      obtain ⟨k, rfl⟩ : ∃ k : Nat, p = k := ⟨p.toNat, by omega⟩
      have hk : k < ns.length := by omega
      rw [ix_at (List.getElem?_eq_getElem hk)]
      simp only [w_varM, w_con, w_bin, w_neg, w_not, w_and, w_or, w_cmp, w_chain, w_ife, w_call, w_callp, w_star, w_blt, w_mth, w_idx, w_slc, w_lst, w_tup, w_tab, w_tin, w_dnew, w_rev, w_lc, w_lsc, w_dc, w_disp, w_get, w_fld, w_mk, w_meth, w_prop, w_nil, w_cons, w_onone, w_osome, w_tnone, w_tsome, w_tnot, w_tand, w_tor, w_tval, w_iex, w_irng1, w_irng2, w_irng3, w_izip, w_run, w_snil, w_scons, w_set, w_unp, w_seti, w_setf, w_exp, w_ret, w_retn, w_pass, w_ifs, w_loop, w_rais, w_try, wr_ok, wr_some, wr_none, wr_stuck, wr_bind, wr_quiet, wr_lift_ite, wr_ite, wo_ite, wo_next, wo_ret, wo_brk, wo_cnt, o_add, o_sub, o_mul, o_fdiv, o_mod, o_pow, o_neg, o_lt, o_le, o_gt, o_ge, o_eq, o_ne, o_eqs, o_nes, o_isB, o_notB, o_tbl, o_int, o_lst, decide_eq_true_eq, Bool.not_eq_true', decide_eq_false_iff_not, beq_iff_eq, List.map_cons, List.map_nil, List.length_cons, List.length_nil, List.replicate_succ, List.replicate_zero, List.cons_append, List.nil_append, List.getElem?_cons_zero, List.getElem?_cons_succ, List.set_cons_zero, List.set_cons_succ, Nat.reduceSub, Nat.reduceAdd, Nat.zero_add, Option.map_some, Option.map_none, c_na10, o_rng1, len_rng, len_lst, len_tup, Int.toNat_natCast, Int.reduceToNat, Int.reduceLE, Int.reduceLT, Nat.reducePow, Nat.reduceLT, and_self, if_true, if_false, ite_true, ite_false, true_and, and_true, reduceIte]
      exact ⟨_, rfl⟩
    · exact ⟨_, rfl⟩
  · rintro _ _ ⟨rfl, k, rfl⟩
    refine w_cut (fun ρ st2 => st = st2 ∧ ∃ k : Int, ρ = [some (.ref n), some (.int p), some (.int k)]) ?_ ?_
    · simp only [w_varM, w_con, w_bin, w_neg, w_not, w_and, w_or, w_cmp, w_chain, w_ife, w_call, w_callp, w_star, w_blt, w_mth, w_idx, w_slc, w_lst, w_tup, w_tab, w_tin, w_dnew, w_rev, w_lc, w_lsc, w_dc, w_disp, w_get, w_fld, w_mk, w_meth, w_prop, w_nil, w_cons, w_onone, w_osome, w_tnone, w_tsome, w_tnot, w_tand, w_tor, w_tval, w_iex, w_irng1, w_irng2, w_irng3, w_izip, w_run, w_snil, w_scons, w_set, w_unp, w_seti, w_setf, w_exp, w_ret, w_retn, w_pass, w_ifs, w_loop, w_rais, w_try, wr_ok, wr_some, wr_none, wr_stuck, wr_bind, wr_quiet, wr_lift_ite, wr_ite, wo_ite, wo_next, wo_ret, wo_brk, wo_cnt, o_add, o_sub, o_mul, o_fdiv, o_mod, o_pow, o_neg, o_lt, o_le, o_gt, o_ge, o_eq, o_ne, o_eqs, o_nes, o_isB, o_notB, o_tbl, o_int, o_lst, decide_eq_true_eq, Bool.not_eq_true', decide_eq_false_iff_not, beq_iff_eq, List.map_cons, List.map_nil, List.length_cons, List.length_nil, List.replicate_succ, List.replicate_zero, List.cons_append, List.nil_append, List.getElem?_cons_zero, List.getElem?_cons_succ, List.set_cons_zero, List.set_cons_succ, Nat.reduceSub, Nat.reduceAdd, Nat.zero_add, Option.map_some, Option.map_none, c_na10, o_rng1, len_rng, len_lst, len_tup, Int.toNat_natCast, Int.reduceToNat, Int.reduceLE, Int.reduceLT, Nat.reducePow, Nat.reduceLT, and_self, if_true, if_false, ite_true, ite_false, true_and, and_true, reduceIte, mulOk_l (show -(2 ^ 64) < (2 : Int) ∧ (2 : Int) < 2 ^ 64 by decide)]
      split <;> exact ⟨_, rfl⟩
    · rintro _ _ ⟨rfl, k, rfl⟩
      simp only [w_varM, w_con, w_bin, w_neg, w_not, w_and, w_or, w_cmp, w_chain, w_ife, w_call, w_callp, w_star, w_blt, w_mth, w_idx, w_slc, w_lst, w_tup, w_tab, w_tin, w_dnew, w_rev, w_lc, w_lsc, w_dc, w_disp, w_get, w_fld, w_mk, w_meth, w_prop, w_nil, w_cons, w_onone, w_osome, w_tnone, w_tsome, w_tnot, w_tand, w_tor, w_tval, w_iex, w_irng1, w_irng2, w_irng3, w_izip, w_run, w_snil, w_scons, w_set, w_unp, w_seti, w_setf, w_exp, w_ret, w_retn, w_pass, w_ifs, w_loop, w_rais, w_try, wr_ok, wr_some, wr_none, wr_stuck, wr_bind, wr_quiet, wr_lift_ite, wr_ite, wo_ite, wo_next, wo_ret, wo_brk, wo_cnt, o_add, o_sub, o_mul, o_fdiv, o_mod, o_pow, o_neg, o_lt, o_le, o_gt, o_ge, o_eq, o_ne, o_eqs, o_nes, o_isB, o_notB, o_tbl, o_int, o_lst, decide_eq_true_eq, Bool.not_eq_true', decide_eq_false_iff_not, beq_iff_eq, List.map_cons, List.map_nil, List.length_cons, List.length_nil, List.replicate_succ, List.replicate_zero, List.cons_append, List.nil_append, List.getElem?_cons_zero, List.getElem?_cons_succ, List.set_cons_zero, List.set_cons_succ, Nat.reduceSub, Nat.reduceAdd, Nat.zero_add, Option.map_some, Option.map_none, c_na10, o_rng1, len_rng, len_lst, len_tup, Int.toNat_natCast, Int.reduceToNat, Int.reduceLE, Int.reduceLT, Nat.reducePow, Nat.reduceLT, and_self, if_true, if_false, ite_true, ite_false, true_and, and_true, reduceIte, c_180.1, c_180.2]
      rw [if_pos (by decide +kernel)]
      exact ⟨_, rfl, Int.emod_nonneg _ (by decide +kernel)⟩
theorem sq_ok (x : Int) : mulOk (x % 2147483587) (x % 2147483587) = true := by
  have a : 0 ≤ x % 2147483587 := Int.emod_nonneg _ (by decide)
  have b : x % 2147483587 < 2147483587 := Int.emod_lt_of_pos _ (by decide)
  exact mulOk_r ⟨by omega, by omega⟩
/-- what is between the turns of _law_draws -/
def DrawsI (st : Store) (n m q : Nat) (p f : Int) (ls : List Int) (i : Nat) (ρ : Fr) (st1 : Store) : Prop := ∃ (k s : Option Val) (r : Int) (acc : List Int), ρ = [some (.ref n), some (.int p), some (.ref m), some (.int f), some (.int r), some (.ref q), k, s] ∧ st <+: st1 ∧ mutAt st1 q = some (acc.map .int) ∧ acc.length = i ∧
    ∀ (i : Nat) (x l : Int), acc[i]? = some x → ls[i]? = some l → 0 ≤ x ∧ x < l
theorem draws_turn {cl : Cl} {st st1 : Store} {n m q i : Nat} {p f r k : Int} {ls : List Int} {s : Option Val} {acc : List Int} {D : En} (hm : lstAt st m = some (ls.map .int)) (hl : ∀ l ∈ ls, 0 < l ∧ l < 2 ^ 62) (hn : ls.length < 100000) (hi : i < ls.length) (hk : k = i) (hq : st.length ≤ q)
    (hpre : st <+: st1) (hacc : mutAt st1 q = some (acc.map .int)) (hal : acc.length = i) (hb : ∀ (i : Nat) (x l : Int), acc[i]? = some x → ls[i]? = some l → 0 ≤ x ∧ x < l) (hD : D.nx = DrawsI st n m q p f ls (i + 1)) :
    wo (EV.exs cl l__law_draws_0 [some (.ref n), some (.int p), some (.ref m), some (.int f), some (.int r), some (.ref q), some (.int k), s] st1) D := by
  unfold l__law_draws_0
  have hm3 : lstAt st1 m = some (ls.map .int) := pre_lst hpre hm
  have hli : ls[i]? = some ls[i] := List.getElem?_eq_getElem hi
  have hix : atI (ls.map Val.int) k = some (.int ls[i]) := by rw [hk]; exact ix_at hli
  have l0 := (hl _ (List.getElem_mem hi)).1
  have l1 := (hl _ (List.getElem_mem hi)).2
  have hi' : k < 100000 := by omega
  have hi0 : 0 ≤ k := by omega
  have m1 : mulOk 2 k = true := mulOk_r ⟨by omega, by omega⟩
  have m2 : mulOk (2 * k) k = true := mulOk_r ⟨by omega, by omega⟩
  have q2 : 2 * k * k < 200000 * 100000 := by
    have a : 2 * k ≤ 200000 := by omega
    have b : 2 * k * k ≤ 200000 * k := Int.mul_le_mul_of_nonneg_right a (by omega)
    omega
  have q3 : 0 ≤ 2 * k * k := Int.mul_nonneg (by omega) (by omega)
  have m3 : mulOk f (30011 + 2 * k * k) = true := mulOk_r ⟨by omega, by omega⟩
  have m4 : mulOk (k + 5) 86028121 = true := mulOk_r ⟨by decide, by decide⟩
  have m5 : mulOk p 15485863 = true := mulOk_r ⟨by decide, by decide⟩
  have m6 : mulOk 611953 k = true := mulOk_r ⟨by omega, by omega⟩
  have f11 : (11 : Int).natAbs.log2 < 9000 := by decide
  have fl := (fd_ok l0 l1).2
  refine w_cut (fun ρ st2 => st1 = st2 ∧ ∃ z : Int, mulOk z z = true ∧ ρ = [some (.ref n), some (.int p), some (.ref m), some (.int f), some (.int r), some (.ref q), some (.int k), some (.int z)]) ?_ ?_
  · simp only [w_varM, w_con, w_bin, w_neg, w_not, w_and, w_or, w_cmp, w_chain, w_ife, w_call, w_callp, w_star, w_blt, w_mth, w_idx, w_slc, w_lst, w_tup, w_tab, w_tin, w_dnew, w_rev, w_lc, w_lsc, w_dc, w_disp, w_get, w_fld, w_mk, w_meth, w_prop, w_nil, w_cons, w_onone, w_osome, w_tnone, w_tsome, w_tnot, w_tand, w_tor, w_tval, w_iex, w_irng1, w_irng2, w_irng3, w_izip, w_run, w_snil, w_scons, w_set, w_unp, w_seti, w_setf, w_exp, w_ret, w_retn, w_pass, w_ifs, w_loop, w_rais, w_try, wr_ok, wr_some, wr_none, wr_stuck, wr_bind, wr_quiet, wr_lift_ite, wr_ite, wo_ite, wo_next, wo_ret, wo_brk, wo_cnt, o_add, o_sub, o_mul, o_fdiv, o_mod, o_pow, o_neg, o_lt, o_le, o_gt, o_ge, o_eq, o_ne, o_eqs, o_nes, o_isB, o_notB, o_tbl, o_int, o_lst, decide_eq_true_eq, Bool.not_eq_true', decide_eq_false_iff_not, beq_iff_eq, List.map_cons, List.map_nil, List.length_cons, List.length_nil, List.replicate_succ, List.replicate_zero, List.cons_append, List.nil_append, List.getElem?_cons_zero, List.getElem?_cons_succ, List.set_cons_zero, List.set_cons_succ, Nat.reduceSub, Nat.reduceAdd, Nat.zero_add, Option.map_some, Option.map_none, c_na10, o_rng1, len_rng, len_lst, len_tup, Int.toNat_natCast, Int.reduceToNat, Int.reduceLE, Int.reduceLT, Nat.reducePow, Nat.reduceLT, and_self, if_true, if_false, ite_true, ite_false, true_and, and_true, reduceIte, m1, m2, m3, m4, m5]
    exact ⟨_, sq_ok _, rfl⟩
  rintro _ _ ⟨rfl, z, m7, rfl⟩
  refine w_cut (fun ρ st2 => st1 = st2 ∧ ∃ z : Int, ρ = [some (.ref n), some (.int p), some (.ref m), some (.int f), some (.int r), some (.ref q), some (.int k), some (.int z)]) ?_ ?_
  · simp only [w_varM, w_con, w_bin, w_neg, w_not, w_and, w_or, w_cmp, w_chain, w_ife, w_call, w_callp, w_star, w_blt, w_mth, w_idx, w_slc, w_lst, w_tup, w_tab, w_tin, w_dnew, w_rev, w_lc, w_lsc, w_dc, w_disp, w_get, w_fld, w_mk, w_meth, w_prop, w_nil, w_cons, w_onone, w_osome, w_tnone, w_tsome, w_tnot, w_tand, w_tor, w_tval, w_iex, w_irng1, w_irng2, w_irng3, w_izip, w_run, w_snil, w_scons, w_set, w_unp, w_seti, w_setf, w_exp, w_ret, w_retn, w_pass, w_ifs, w_loop, w_rais, w_try, wr_ok, wr_some, wr_none, wr_stuck, wr_bind, wr_quiet, wr_lift_ite, wr_ite, wo_ite, wo_next, wo_ret, wo_brk, wo_cnt, o_add, o_sub, o_mul, o_fdiv, o_mod, o_pow, o_neg, o_lt, o_le, o_gt, o_ge, o_eq, o_ne, o_eqs, o_nes, o_isB, o_notB, o_tbl, o_int, o_lst, decide_eq_true_eq, Bool.not_eq_true', decide_eq_false_iff_not, beq_iff_eq, List.map_cons, List.map_nil, List.length_cons, List.length_nil, List.replicate_succ, List.replicate_zero, List.cons_append, List.nil_append, List.getElem?_cons_zero, List.getElem?_cons_succ, List.set_cons_zero, List.set_cons_succ, Nat.reduceSub, Nat.reduceAdd, Nat.zero_add, Option.map_some, Option.map_none, c_na10, o_rng1, len_rng, len_lst, len_tup, Int.toNat_natCast, Int.reduceToNat, Int.reduceLE, Int.reduceLT, Nat.reducePow, Nat.reduceLT, and_self, if_true, if_false, ite_true, ite_false, true_and, and_true, reduceIte, m6, m7, f11]
    exact ⟨_, rfl⟩
  rintro _ _ ⟨rfl, z, rfl⟩
  refine w_cut (fun ρ st2 => st1 = st2 ∧ ∃ z r : Int, ρ = [some (.ref n), some (.int p), some (.ref m), some (.int f), some (.int r), some (.ref q), some (.int k), some (.int z)]) ?_ ?_
  · simp only [w_varM, w_con, w_bin, w_neg, w_not, w_and, w_or, w_cmp, w_chain, w_ife, w_call, w_callp, w_star, w_blt, w_mth, w_idx, w_slc, w_lst, w_tup, w_tab, w_tin, w_dnew, w_rev, w_lc, w_lsc, w_dc, w_disp, w_get, w_fld, w_mk, w_meth, w_prop, w_nil, w_cons, w_onone, w_osome, w_tnone, w_tsome, w_tnot, w_tand, w_tor, w_tval, w_iex, w_irng1, w_irng2, w_irng3, w_izip, w_run, w_snil, w_scons, w_set, w_unp, w_seti, w_setf, w_exp, w_ret, w_retn, w_pass, w_ifs, w_loop, w_rais, w_try, wr_ok, wr_some, wr_none, wr_stuck, wr_bind, wr_quiet, wr_lift_ite, wr_ite, wo_ite, wo_next, wo_ret, wo_brk, wo_cnt, o_add, o_sub, o_mul, o_fdiv, o_mod, o_pow, o_neg, o_lt, o_le, o_gt, o_ge, o_eq, o_ne, o_eqs, o_nes, o_isB, o_notB, o_tbl, o_int, o_lst, decide_eq_true_eq, Bool.not_eq_true', decide_eq_false_iff_not, beq_iff_eq, List.map_cons, List.map_nil, List.length_cons, List.length_nil, List.replicate_succ, List.replicate_zero, List.cons_append, List.nil_append, List.getElem?_cons_zero, List.getElem?_cons_succ, List.set_cons_zero, List.set_cons_succ, Nat.reduceSub, Nat.reduceAdd, Nat.zero_add, Option.map_some, Option.map_none, c_na10, o_rng1, len_rng, len_lst, len_tup, Int.toNat_natCast, Int.reduceToNat, Int.reduceLE, Int.reduceLT, Nat.reducePow, Nat.reduceLT, and_self, if_true, if_false, ite_true, ite_false, true_and, and_true, reduceIte, o_idx hm3, hix, l0, fl]
    split
    · exact ⟨_, _, rfl⟩
    · exact ⟨_, _, rfl⟩
  rintro _ _ ⟨rfl, z, r', rfl⟩
  simp only [w_varM, w_con, w_bin, w_neg, w_not, w_and, w_or, w_cmp, w_chain, w_ife, w_call, w_callp, w_star, w_blt, w_mth, w_idx, w_slc, w_lst, w_tup, w_tab, w_tin, w_dnew, w_rev, w_lc, w_lsc, w_dc, w_disp, w_get, w_fld, w_mk, w_meth, w_prop, w_nil, w_cons, w_onone, w_osome, w_tnone, w_tsome, w_tnot, w_tand, w_tor, w_tval, w_iex, w_irng1, w_irng2, w_irng3, w_izip, w_run, w_snil, w_scons, w_set, w_unp, w_seti, w_setf, w_exp, w_ret, w_retn, w_pass, w_ifs, w_loop, w_rais, w_try, wr_ok, wr_some, wr_none, wr_stuck, wr_bind, wr_quiet, wr_lift_ite, wr_ite, wo_ite, wo_next, wo_ret, wo_brk, wo_cnt, o_add, o_sub, o_mul, o_fdiv, o_mod, o_pow, o_neg, o_lt, o_le, o_gt, o_ge, o_eq, o_ne, o_eqs, o_nes, o_isB, o_notB, o_tbl, o_int, o_lst, decide_eq_true_eq, Bool.not_eq_true', decide_eq_false_iff_not, beq_iff_eq, List.map_cons, List.map_nil, List.length_cons, List.length_nil, List.replicate_succ, List.replicate_zero, List.cons_append, List.nil_append, List.getElem?_cons_zero, List.getElem?_cons_succ, List.set_cons_zero, List.set_cons_succ, Nat.reduceSub, Nat.reduceAdd, Nat.zero_add, Option.map_some, Option.map_none, c_na10, o_rng1, len_rng, len_lst, len_tup, Int.toNat_natCast, Int.reduceToNat, Int.reduceLE, Int.reduceLT, Nat.reducePow, Nat.reduceLT, and_self, if_true, if_false, ite_true, ite_false, true_and, and_true, reduceIte, o_rapp hacc, o_idx hm3, hix, l0, o_app hacc, List.length_map]
  rw [if_pos (by omega), hD]
  have ha : (acc.map Val.int) ++ [Val.int (z % ls[i])] = (acc ++ [z % ls[i]]).map Val.int := by rw [List.map_append]; rfl
  rw [ha]
  refine ⟨_, _, _, _, rfl, pre_set hpre hq, mut_set hacc, by rw [List.length_append, hal]; rfl, ?_⟩
  intro j x l h1 h2
  by_cases hj : j < acc.length
  · rw [List.getElem?_append_left hj] at h1
    exact hb j x l h1 h2
  · have ej : j = i := by
      have q := (List.getElem?_eq_some_iff.mp h1).1
      rw [List.length_append] at q
      have q2 : j < acc.length + 1 := q
      omega
    subst ej
    rw [List.getElem?_append_right (by omega), hal, Nat.sub_self] at h1
    have e1 : z % ls[j] = x := by simpa using h1
    rw [hli] at h2
    have e2 : ls[j] = l := by simpa using h2
    rw [← e1, ← e2]
    exact ⟨Int.emod_nonneg _ (by omega), Int.emod_lt_of_pos _ l0⟩
theorem draws_ok {d n m : Nat} {st : Store} {ns ls : List Int} {p : Int} (hs : lstAt st n = some (ns.map .int)) (hm : lstAt st m = some (ls.map .int)) (hp : 0 ≤ p) (hl : ∀ l ∈ ls, 0 < l ∧ l < 2 ^ 62) (hn : ls.length < 100000) :
    wr (clN (d + 2) id__law_draws [.ref n, .int p, .ref m] st) (fun v st' => st <+: st' ∧ ∃ ds : List Int, v = .ref st.length ∧ st'[st.length]? = some (.lst (ds.map .int)) ∧ ds.length = ls.length ∧ ∀ (i : Nat) (x l : Int), ds[i]? = some x → ls[i]? = some l → 0 ≤ x ∧ x < l) noX := by
  show wr (runB (clN (d + 1)) 8 b__law_draws [.ref n, .int p, .ref m] st) _ noX
  unfold b__law_draws
  rw [w_run]
  refine w_cut (fun ρ st2 => st = st2 ∧ ∃ f : Int, 0 ≤ f ∧ ρ = [some (.ref n), some (.int p), some (.ref m), some (.int f), none, none, none, none]) ?_ ?_
  · simp only [w_varM, w_con, w_bin, w_neg, w_not, w_and, w_or, w_cmp, w_chain, w_ife, w_call, w_callp, w_star, w_blt, w_mth, w_idx, w_slc, w_lst, w_tup, w_tab, w_tin, w_dnew, w_rev, w_lc, w_lsc, w_dc, w_disp, w_get, w_fld, w_mk, w_meth, w_prop, w_nil, w_cons, w_onone, w_osome, w_tnone, w_tsome, w_tnot, w_tand, w_tor, w_tval, w_iex, w_irng1, w_irng2, w_irng3, w_izip, w_run, w_snil, w_scons, w_set, w_unp, w_seti, w_setf, w_exp, w_ret, w_retn, w_pass, w_ifs, w_loop, w_rais, w_try, wr_ok, wr_some, wr_none, wr_stuck, wr_bind, wr_quiet, wr_lift_ite, wr_ite, wo_ite, wo_next, wo_ret, wo_brk, wo_cnt, o_add, o_sub, o_mul, o_fdiv, o_mod, o_pow, o_neg, o_lt, o_le, o_gt, o_ge, o_eq, o_ne, o_eqs, o_nes, o_isB, o_notB, o_tbl, o_int, o_lst, decide_eq_true_eq, Bool.not_eq_true', decide_eq_false_iff_not, beq_iff_eq, List.map_cons, List.map_nil, List.length_cons, List.length_nil, List.replicate_succ, List.replicate_zero, List.cons_append, List.nil_append, List.getElem?_cons_zero, List.getElem?_cons_succ, List.set_cons_zero, List.set_cons_succ, Nat.reduceSub, Nat.reduceAdd, Nat.zero_add, Option.map_some, Option.map_none, c_na10, o_rng1, len_rng, len_lst, len_tup, Int.toNat_natCast, Int.reduceToNat, Int.reduceLE, Int.reduceLT, Nat.reducePow, Nat.reduceLT, and_self, if_true, if_false, ite_true, ite_false, true_and, and_true, reduceIte]
    refine wr_imp (figure_ok hs hp) ?_
    rintro _ _ ⟨rfl, k, rfl, hk⟩
    exact ⟨rfl, k, hk, rfl⟩
  rintro _ _ ⟨rfl, f, hf, rfl⟩
  have hm2 : lstAt (st ++ [.lst []]) m = some (ls.map .int) := pre_lst (pre_app pre_rfl _) hm
  have hr : rngOk (ls.length : Int) = true := rng_ok ⟨by omega, by omega⟩
  have z0 : lineOk 0 = true := by decide
  simp only [w_varM, w_con, w_bin, w_neg, w_not, w_and, w_or, w_cmp, w_chain, w_ife, w_call, w_callp, w_star, w_blt, w_mth, w_idx, w_slc, w_lst, w_tup, w_tab, w_tin, w_dnew, w_rev, w_lc, w_lsc, w_dc, w_disp, w_get, w_fld, w_mk, w_meth, w_prop, w_nil, w_cons, w_onone, w_osome, w_tnone, w_tsome, w_tnot, w_tand, w_tor, w_tval, w_iex, w_irng1, w_irng2, w_irng3, w_izip, w_run, w_snil, w_scons, w_set, w_unp, w_seti, w_setf, w_exp, w_ret, w_retn, w_pass, w_ifs, w_loop, w_rais, w_try, wr_ok, wr_some, wr_none, wr_stuck, wr_bind, wr_quiet, wr_lift_ite, wr_ite, wo_ite, wo_next, wo_ret, wo_brk, wo_cnt, o_add, o_sub, o_mul, o_fdiv, o_mod, o_pow, o_neg, o_lt, o_le, o_gt, o_ge, o_eq, o_ne, o_eqs, o_nes, o_isB, o_notB, o_tbl, o_int, o_lst, decide_eq_true_eq, Bool.not_eq_true', decide_eq_false_iff_not, beq_iff_eq, List.map_cons, List.map_nil, List.length_cons, List.length_nil, List.replicate_succ, List.replicate_zero, List.cons_append, List.nil_append, List.getElem?_cons_zero, List.getElem?_cons_succ, List.set_cons_zero, List.set_cons_succ, Nat.reduceSub, Nat.reduceAdd, Nat.zero_add, Option.map_some, Option.map_none, c_na10, o_rng1, len_rng, len_lst, len_tup, Int.toNat_natCast, Int.reduceToNat, Int.reduceLE, Int.reduceLT, Nat.reducePow, Nat.reduceLT, and_self, if_true, if_false, ite_true, ite_false, true_and, and_true, reduceIte, z0, o_len hm2, List.length_map, hr]
  refine for_rng (DrawsI st n m st.length p f ls) ⟨none, none, _, [], rfl, pre_app pre_rfl _, mut_new, rfl, by intro i x l h; cases h⟩ ?_ ?_
  · rintro i _ st1 hi ⟨k, s, r, acc, rfl, hpre, hacc, hal, hb⟩
    refine ⟨_, give_nm, ?_⟩
    simp only [List.set_cons_succ, List.set_cons_zero]
    exact draws_turn hm hl hn hi (by omega) (Nat.le_refl _) hpre hacc hal hb rfl
  · rintro _ st1 ⟨k, s, r, acc, rfl, hpre, hacc, hal, hb⟩
    simp only [w_varM, w_con, w_bin, w_neg, w_not, w_and, w_or, w_cmp, w_chain, w_ife, w_call, w_callp, w_star, w_blt, w_mth, w_idx, w_slc, w_lst, w_tup, w_tab, w_tin, w_dnew, w_rev, w_lc, w_lsc, w_dc, w_disp, w_get, w_fld, w_mk, w_meth, w_prop, w_nil, w_cons, w_onone, w_osome, w_tnone, w_tsome, w_tnot, w_tand, w_tor, w_tval, w_iex, w_irng1, w_irng2, w_irng3, w_izip, w_run, w_snil, w_scons, w_set, w_unp, w_seti, w_setf, w_exp, w_ret, w_retn, w_pass, w_ifs, w_loop, w_rais, w_try, wr_ok, wr_some, wr_none, wr_stuck, wr_bind, wr_quiet, wr_lift_ite, wr_ite, wo_ite, wo_next, wo_ret, wo_brk, wo_cnt, o_add, o_sub, o_mul, o_fdiv, o_mod, o_pow, o_neg, o_lt, o_le, o_gt, o_ge, o_eq, o_ne, o_eqs, o_nes, o_isB, o_notB, o_tbl, o_int, o_lst, decide_eq_true_eq, Bool.not_eq_true', decide_eq_false_iff_not, beq_iff_eq, List.map_cons, List.map_nil, List.length_cons, List.length_nil, List.replicate_succ, List.replicate_zero, List.cons_append, List.nil_append, List.getElem?_cons_zero, List.getElem?_cons_succ, List.set_cons_zero, List.set_cons_succ, Nat.reduceSub, Nat.reduceAdd, Nat.zero_add, Option.map_some, Option.map_none, c_na10, o_rng1, len_rng, len_lst, len_tup, Int.toNat_natCast, Int.reduceToNat, Int.reduceLE, Int.reduceLT, Nat.reducePow, Nat.reduceLT, and_self, if_true, if_false, ite_true, ite_false, true_and, and_true, reduceIte]
    refine ⟨hpre, acc, ?_, hal, hb⟩
    have q := hacc
    unfold mutAt at q
    cases e : st1[st.length]? with
    | none => rw [e] at q; cases q
    | some o => rw [e] at q; cases o <;> first | (cases q; rfl) | cases q
end EVL

/-! ## P2 -/
set_option maxRecDepth 10000
set_option maxHeartbeats 800000
namespace EVL
open PySem L2 EV
theorem set_new {st : Store} {o u : Ob} : (st ++ [o]).set st.length u = st ++ [u] := by
  rw [List.set_append_right _ _ (Nat.le_refl _), Nat.sub_self]
  rfl
/-- a name: one to six letters -/
structure IsName (x : Str) : Prop where
  lo : 1 ≤ x.cps.size
  hi : x.cps.size ≤ 6
  all : ∀ (i : Nat) (c : Nat), x.cps[i]? = some c → 97 ≤ c ∧ c ≤ 122
theorem cps_a : ("a" : Str).cps.toList = [97] := by decide +kernel
theorem cps_z : ("z" : Str).cps.toList = [122] := by decide +kernel
theorem lt_one {a b : Nat} : ([a] < [b]) ↔ a < b := by
  constructor
  · intro h
    rcases List.cons_lt_cons_iff.mp h with h | ⟨_, h⟩
    · exact h
    · exact absurd h (by simp)
  · intro h
    exact List.cons_lt_cons_iff.mpr (.inl h)
theorem le_a {st : Store} {c : Nat} (h : 97 ≤ c) : cmpV .le (.str "a") (.str ⟨#[c]⟩) st = some true := by
  show some (!decide (([c] : List Nat) < ("a" : Str).cps.toList)) = _
  rw [cps_a, decide_eq_false (fun z => by have := lt_one.mp z; omega)]
  rfl
theorem le_z {st : Store} {c : Nat} (h : c ≤ 122) : cmpV .le (.str ⟨#[c]⟩) (.str "z") st = some true := by
  show some (!decide (("z" : Str).cps.toList < ([c] : List Nat))) = _
  rw [cps_z, decide_eq_false (fun z => by have := lt_one.mp z; omega)]
  rfl
theorem bools_map : ∀ bs : List Bool, boolsOf (bs.map Val.bl) = some bs
  | [] => rfl
  | b :: bs => by
    show (boolsOf (bs.map Val.bl)).map (b :: ·) = _
    rw [bools_map bs]
    rfl
theorem o_all {st : Store} {n : Nat} {bs : List Bool} (h : lstAt st n = some (bs.map .bl)) : bltV .all [.ref n] st = some (.bl (bs.all id), st) := by
  have e : bltV .all [.ref n] st = (lstAt st n).bind fun ws => (boolsOf ws).map fun bs => (Val.bl (List.all bs id), st) := by
    show (match lstAt st n with
      | some ws => (boolsOf ws).map fun bs => (Val.bl (List.all bs id), st)
      | none => none) = _
    cases lstAt st n <;> rfl
  rw [e, h]
  show (boolsOf (bs.map Val.bl)).map _ = _
  rw [bools_map]
  rfl
theorem all_rep (n : Nat) : (List.replicate n true).all id = true := by
  rw [List.all_eq_true]
  intro x h
  exact (List.mem_replicate.mp h).2
end EVL

/-! ## P3 -/
set_option maxRecDepth 10000
set_option maxHeartbeats 800000
namespace EVL
open PySem L2 EV
def Tru (st : Store) : Val → Store → Prop := fun v st' => v = .bl true ∧ st <+: st'
theorem kaa : (("array" : Str) == "array") = true := by decide +kernel
theorem kva : (("value" : Str) == "array") = false := by decide +kernel
theorem kvv : (("value" : Str) == "value") = true := by decide +kernel
theorem kpa : (("place" : Str) == "array") = false := by decide +kernel
theorem kpv : (("place" : Str) == "value") = false := by decide +kernel
theorem kpp : (("place" : Str) == "place") = true := by decide +kernel
theorem kea : (("end" : Str) == "array") = false := by decide +kernel
theorem kev : (("end" : Str) == "value") = false := by decide +kernel
theorem kep : (("end" : Str) == "place") = false := by decide +kernel
theorem kee : (("end" : Str) == "end") = true := by decide +kernel
theorem kna : (("number" : Str) == "array") = false := by decide +kernel
theorem knv : (("number" : Str) == "value") = false := by decide +kernel
theorem knp : (("number" : Str) == "place") = false := by decide +kernel
theorem kne : (("number" : Str) == "end") = false := by decide +kernel
/-- a value without objects, of depth n at most -/
def Pur : Nat → Val → Prop
  | 0, v => flat v = true
  | n + 1, v => flat v = true ∨ ∃ vs, v = .tup vs ∧ vs.length < 1000 ∧ ∀ u ∈ vs, Pur n u
theorem isi_flat {st : Store} {v : Val} (h : flat v = true) : isiV .list st v = some false ∧ isiV .tuple st v = some false ∧ isiV .dict st v = some false := by
  cases v <;> first | exact ⟨rfl, rfl, rfl⟩ | cases h
theorem o_isi {T : Ty} {st : Store} {v : Val} {b : Bool} (h : isiV T st v = some b) : bltV (.isi T) [v] st = some (.bl b, st) := by
  show (isiV T st v).map _ = _
  rw [h]
  rfl
theorem o_tuple {st : Store} {n : Nat} {vs : List Val} (h : lstAt st n = some vs) : bltV .tuple [.ref n] st = some (.tup vs, st) := by
  show (match lstAt st n with
    | some ws => some (Val.tup ws, st)
    | none => none) = _
  rw [h]
theorem o_isn {st : Store} : cmpV .isN .non .non st = some true := rfl
theorem same_flat {d : Nat} {st : Store} {v : Val} (h : flat v = true) : wr (clN (d + 1) id__law_same [v, v] st) (Tru st) noX := by
  show wr (runB (clN d) 4 b__law_same [v, v] st) _ noX
  unfold b__law_same
  cases v with
  | non =>
    simp only [w_varM, w_con, w_bin, w_neg, w_not, w_and, w_or, w_cmp, w_chain, w_ife, w_call, w_callp, w_star, w_blt, w_mth, w_idx, w_slc, w_lst, w_tup, w_tab, w_tin, w_dnew, w_rev, w_lc, w_lsc, w_dc, w_disp, w_get, w_fld, w_mk, w_meth, w_prop, w_nil, w_cons, w_onone, w_osome, w_tnone, w_tsome, w_tnot, w_tand, w_tor, w_tval, w_iex, w_irng1, w_irng2, w_irng3, w_izip, w_run, w_snil, w_scons, w_set, w_unp, w_seti, w_setf, w_exp, w_ret, w_retn, w_pass, w_ifs, w_loop, w_rais, w_try, wr_ok, wr_some, wr_none, wr_stuck, wr_bind, wr_quiet, wr_lift_ite, wr_ite, wo_ite, wo_next, wo_ret, wo_brk, wo_cnt, o_add, o_sub, o_mul, o_fdiv, o_mod, o_pow, o_neg, o_lt, o_le, o_gt, o_ge, o_eq, o_ne, o_eqs, o_nes, o_isB, o_notB, o_tbl, o_int, o_lst, decide_eq_true_eq, Bool.not_eq_true', decide_eq_false_iff_not, beq_iff_eq, List.map_cons, List.map_nil, List.length_cons, List.length_nil, List.replicate_succ, List.replicate_zero, List.cons_append, List.nil_append, List.getElem?_cons_zero, List.getElem?_cons_succ, List.set_cons_zero, List.set_cons_succ, Nat.reduceSub, Nat.reduceAdd, Nat.zero_add, Option.map_some, Option.map_none, c_na10, o_rng1, len_rng, len_lst, len_tup, Int.toNat_natCast, Int.reduceToNat, Int.reduceLE, Int.reduceLT, Nat.reducePow, Nat.reduceLT, and_self, if_true, if_false, ite_true, ite_false, true_and, and_true, reduceIte, o_isn]
    exact ⟨rfl, pre_rfl⟩
  | bl b =>
    have e0 : cmpV .isN (.bl b) .non st = some false := rfl
    have e1 : bltV (.isi .bool) [.bl b] st = some (.bl true, st) := rfl
    have e2 : cmpV .eq (.bl b) (.bl b) st = some true := by
      show some (b == b) = _
      rw [beq_self_eq_true]
    simp only [w_varM, w_con, w_bin, w_neg, w_not, w_and, w_or, w_cmp, w_chain, w_ife, w_call, w_callp, w_star, w_blt, w_mth, w_idx, w_slc, w_lst, w_tup, w_tab, w_tin, w_dnew, w_rev, w_lc, w_lsc, w_dc, w_disp, w_get, w_fld, w_mk, w_meth, w_prop, w_nil, w_cons, w_onone, w_osome, w_tnone, w_tsome, w_tnot, w_tand, w_tor, w_tval, w_iex, w_irng1, w_irng2, w_irng3, w_izip, w_run, w_snil, w_scons, w_set, w_unp, w_seti, w_setf, w_exp, w_ret, w_retn, w_pass, w_ifs, w_loop, w_rais, w_try, wr_ok, wr_some, wr_none, wr_stuck, wr_bind, wr_quiet, wr_lift_ite, wr_ite, wo_ite, wo_next, wo_ret, wo_brk, wo_cnt, o_add, o_sub, o_mul, o_fdiv, o_mod, o_pow, o_neg, o_lt, o_le, o_gt, o_ge, o_eq, o_ne, o_eqs, o_nes, o_isB, o_notB, o_tbl, o_int, o_lst, decide_eq_true_eq, Bool.not_eq_true', decide_eq_false_iff_not, beq_iff_eq, List.map_cons, List.map_nil, List.length_cons, List.length_nil, List.replicate_succ, List.replicate_zero, List.cons_append, List.nil_append, List.getElem?_cons_zero, List.getElem?_cons_succ, List.set_cons_zero, List.set_cons_succ, Nat.reduceSub, Nat.reduceAdd, Nat.zero_add, Option.map_some, Option.map_none, c_na10, o_rng1, len_rng, len_lst, len_tup, Int.toNat_natCast, Int.reduceToNat, Int.reduceLE, Int.reduceLT, Nat.reducePow, Nat.reduceLT, and_self, if_true, if_false, ite_true, ite_false, true_and, and_true, reduceIte, e0, e1, e2, Bool.false_eq_true]
    exact ⟨rfl, pre_rfl⟩
  | int i =>
    have e0 : cmpV .isN (.int i) .non st = some false := rfl
    have e1 : bltV (.isi .bool) [.int i] st = some (.bl false, st) := rfl
    have e2 : bltV (.isi .int) [.int i] st = some (.bl true, st) := rfl
    simp only [w_varM, w_con, w_bin, w_neg, w_not, w_and, w_or, w_cmp, w_chain, w_ife, w_call, w_callp, w_star, w_blt, w_mth, w_idx, w_slc, w_lst, w_tup, w_tab, w_tin, w_dnew, w_rev, w_lc, w_lsc, w_dc, w_disp, w_get, w_fld, w_mk, w_meth, w_prop, w_nil, w_cons, w_onone, w_osome, w_tnone, w_tsome, w_tnot, w_tand, w_tor, w_tval, w_iex, w_irng1, w_irng2, w_irng3, w_izip, w_run, w_snil, w_scons, w_set, w_unp, w_seti, w_setf, w_exp, w_ret, w_retn, w_pass, w_ifs, w_loop, w_rais, w_try, wr_ok, wr_some, wr_none, wr_stuck, wr_bind, wr_quiet, wr_lift_ite, wr_ite, wo_ite, wo_next, wo_ret, wo_brk, wo_cnt, o_add, o_sub, o_mul, o_fdiv, o_mod, o_pow, o_neg, o_lt, o_le, o_gt, o_ge, o_eq, o_ne, o_eqs, o_nes, o_isB, o_notB, o_tbl, o_int, o_lst, decide_eq_true_eq, Bool.not_eq_true', decide_eq_false_iff_not, beq_iff_eq, List.map_cons, List.map_nil, List.length_cons, List.length_nil, List.replicate_succ, List.replicate_zero, List.cons_append, List.nil_append, List.getElem?_cons_zero, List.getElem?_cons_succ, List.set_cons_zero, List.set_cons_succ, Nat.reduceSub, Nat.reduceAdd, Nat.zero_add, Option.map_some, Option.map_none, c_na10, o_rng1, len_rng, len_lst, len_tup, Int.toNat_natCast, Int.reduceToNat, Int.reduceLE, Int.reduceLT, Nat.reducePow, Nat.reduceLT, and_self, if_true, if_false, ite_true, ite_false, true_and, and_true, reduceIte, e0, e1, e2, Bool.false_eq_true, beq_self_eq_true]
    exact ⟨rfl, pre_rfl⟩
  | str x =>
    have e0 : cmpV .isN (.str x) .non st = some false := rfl
    have e1 : bltV (.isi .bool) [.str x] st = some (.bl false, st) := rfl
    have e2 : bltV (.isi .int) [.str x] st = some (.bl false, st) := rfl
    have e3 : bltV (.isi .str) [.str x] st = some (.bl true, st) := rfl
    simp only [w_varM, w_con, w_bin, w_neg, w_not, w_and, w_or, w_cmp, w_chain, w_ife, w_call, w_callp, w_star, w_blt, w_mth, w_idx, w_slc, w_lst, w_tup, w_tab, w_tin, w_dnew, w_rev, w_lc, w_lsc, w_dc, w_disp, w_get, w_fld, w_mk, w_meth, w_prop, w_nil, w_cons, w_onone, w_osome, w_tnone, w_tsome, w_tnot, w_tand, w_tor, w_tval, w_iex, w_irng1, w_irng2, w_irng3, w_izip, w_run, w_snil, w_scons, w_set, w_unp, w_seti, w_setf, w_exp, w_ret, w_retn, w_pass, w_ifs, w_loop, w_rais, w_try, wr_ok, wr_some, wr_none, wr_stuck, wr_bind, wr_quiet, wr_lift_ite, wr_ite, wo_ite, wo_next, wo_ret, wo_brk, wo_cnt, o_add, o_sub, o_mul, o_fdiv, o_mod, o_pow, o_neg, o_lt, o_le, o_gt, o_ge, o_eq, o_ne, o_eqs, o_nes, o_isB, o_notB, o_tbl, o_int, o_lst, decide_eq_true_eq, Bool.not_eq_true', decide_eq_false_iff_not, beq_iff_eq, List.map_cons, List.map_nil, List.length_cons, List.length_nil, List.replicate_succ, List.replicate_zero, List.cons_append, List.nil_append, List.getElem?_cons_zero, List.getElem?_cons_succ, List.set_cons_zero, List.set_cons_succ, Nat.reduceSub, Nat.reduceAdd, Nat.zero_add, Option.map_some, Option.map_none, c_na10, o_rng1, len_rng, len_lst, len_tup, Int.toNat_natCast, Int.reduceToNat, Int.reduceLE, Int.reduceLT, Nat.reducePow, Nat.reduceLT, and_self, if_true, if_false, ite_true, ite_false, true_and, and_true, reduceIte, e0, e1, e2, e3, Bool.false_eq_true, beq_self_eq_true]
    exact ⟨rfl, pre_rfl⟩
  | _ => cases h
theorem same_ok : ∀ (n d : Nat) (st : Store) (v : Val), Pur n v → wr (clN (d + n + 1) id__law_same [v, v] st) (Tru st) noX
  | 0, d, st, v, h => same_flat h
  | n + 1, d, st, v, .inl h => same_flat h
  | n + 1, d, st, _, .inr ⟨vs, rfl, hl, hp⟩ => by
    show wr (runB (clN (d + n + 1)) 4 b__law_same [.tup vs, .tup vs] st) _ noX
    unfold b__law_same
    have e0 : cmpV .isN (.tup vs) .non st = some false := rfl
    have e1 : bltV (.isi .bool) [.tup vs] st = some (.bl false, st) := rfl
    have e2 : bltV (.isi .int) [.tup vs] st = some (.bl false, st) := rfl
    have e3 : bltV (.isi .str) [.tup vs] st = some (.bl false, st) := rfl
    have e4 : bltV (.isi .dict) [.tup vs] st = some (.bl false, st) := rfl
    have e5 : bltV (.isi .list) [.tup vs] st = some (.bl false, st) := rfl
    have e6 : bltV (.isi .tuple) [.tup vs] st = some (.bl true, st) := rfl
    have e7 : cmpV .ne (.bl false) (.bl false) st = some false := rfl
    have e8 : cmpV .ne (.bl true) (.bl true) st = some false := rfl
    have e9 : bltV .len [.tup vs] st = some (.int vs.length, st) := rfl
    have ea : rngOk (vs.length : Int) = true := rng_ok ⟨by omega, by omega⟩
    simp only [w_varM, w_con, w_bin, w_neg, w_not, w_and, w_or, w_cmp, w_chain, w_ife, w_call, w_callp, w_star, w_blt, w_mth, w_idx, w_slc, w_lst, w_tup, w_tab, w_tin, w_dnew, w_rev, w_lc, w_lsc, w_dc, w_disp, w_get, w_fld, w_mk, w_meth, w_prop, w_nil, w_cons, w_onone, w_osome, w_tnone, w_tsome, w_tnot, w_tand, w_tor, w_tval, w_iex, w_irng1, w_irng2, w_irng3, w_izip, w_run, w_snil, w_scons, w_set, w_unp, w_seti, w_setf, w_exp, w_ret, w_retn, w_pass, w_ifs, w_loop, w_rais, w_try, wr_ok, wr_some, wr_none, wr_stuck, wr_bind, wr_quiet, wr_lift_ite, wr_ite, wo_ite, wo_next, wo_ret, wo_brk, wo_cnt, o_add, o_sub, o_mul, o_fdiv, o_mod, o_pow, o_neg, o_lt, o_le, o_gt, o_ge, o_eq, o_ne, o_eqs, o_nes, o_isB, o_notB, o_tbl, o_int, o_lst, decide_eq_true_eq, Bool.not_eq_true', decide_eq_false_iff_not, beq_iff_eq, List.map_cons, List.map_nil, List.length_cons, List.length_nil, List.replicate_succ, List.replicate_zero, List.cons_append, List.nil_append, List.getElem?_cons_zero, List.getElem?_cons_succ, List.set_cons_zero, List.set_cons_succ, Nat.reduceSub, Nat.reduceAdd, Nat.zero_add, Option.map_some, Option.map_none, c_na10, o_rng1, len_rng, len_lst, len_tup, Int.toNat_natCast, Int.reduceToNat, Int.reduceLE, Int.reduceLT, Nat.reducePow, Nat.reduceLT, and_self, if_true, if_false, ite_true, ite_false, true_and, and_true, reduceIte, e0, e1, e2, e3, e4, e5, e6, e7, e8, e9, ea, Bool.false_eq_true, beq_self_eq_true, Bool.not_true]
    refine lc_of (n := vs.length) rfl (fun i s acc => acc = (List.replicate i true).map .bl ∧ st <+: s ∧ mutAt s st.length = some acc) ?_ ?_ vs.length 0 _ [] (Nat.zero_add _) ⟨rfl, pre_app pre_rfl _, mut_new⟩
    · rintro i s _ hi ⟨rfl, pre, hm⟩
      have hv : vs[i]? = some vs[i] := List.getElem?_eq_getElem hi
      refine ⟨.int (0 + (i : Int)), _, rfl, give_nm, ?_⟩
      have ez : (0 : Int) + (i : Int) = i := by omega
      unfold x__law_same_1
      have ix : ∀ s, idxV s (.tup vs) (.int (i : Int)) = some vs[i] := fun s => by
        show atI vs (i : Int) = _
        exact atI_nat hv
      simp only [w_varM, w_con, w_bin, w_neg, w_not, w_and, w_or, w_cmp, w_chain, w_ife, w_call, w_callp, w_star, w_blt, w_mth, w_idx, w_slc, w_lst, w_tup, w_tab, w_tin, w_dnew, w_rev, w_lc, w_lsc, w_dc, w_disp, w_get, w_fld, w_mk, w_meth, w_prop, w_nil, w_cons, w_onone, w_osome, w_tnone, w_tsome, w_tnot, w_tand, w_tor, w_tval, w_iex, w_irng1, w_irng2, w_irng3, w_izip, w_run, w_snil, w_scons, w_set, w_unp, w_seti, w_setf, w_exp, w_ret, w_retn, w_pass, w_ifs, w_loop, w_rais, w_try, wr_ok, wr_some, wr_none, wr_stuck, wr_bind, wr_quiet, wr_lift_ite, wr_ite, wo_ite, wo_next, wo_ret, wo_brk, wo_cnt, o_add, o_sub, o_mul, o_fdiv, o_mod, o_pow, o_neg, o_lt, o_le, o_gt, o_ge, o_eq, o_ne, o_eqs, o_nes, o_isB, o_notB, o_tbl, o_int, o_lst, decide_eq_true_eq, Bool.not_eq_true', decide_eq_false_iff_not, beq_iff_eq, List.map_cons, List.map_nil, List.length_cons, List.length_nil, List.replicate_succ, List.replicate_zero, List.cons_append, List.nil_append, List.getElem?_cons_zero, List.getElem?_cons_succ, List.set_cons_zero, List.set_cons_succ, Nat.reduceSub, Nat.reduceAdd, Nat.zero_add, Option.map_some, Option.map_none, c_na10, o_rng1, len_rng, len_lst, len_tup, Int.toNat_natCast, Int.reduceToNat, Int.reduceLE, Int.reduceLT, Nat.reducePow, Nat.reduceLT, and_self, if_true, if_false, ite_true, ite_false, true_and, and_true, reduceIte, wipeF, ez, ix]
      refine wr_imp (same_ok n d s vs[i] (hp _ (List.getElem_mem hi))) ?_
      rintro _ s2 ⟨rfl, pre2⟩
      have hm2 := mut_pre pre2 hm
      refine ⟨hm2, by rw [List.length_map, List.length_replicate]; omega, ?_, pre_set (pre.trans pre2) (Nat.le_refl _), mut_set hm2⟩
      rw [List.map_replicate]
      exact (List.replicate_succ' (n := i) (a := Val.bl true)).symm
    · rintro s _ ⟨rfl, pre, hm⟩
      refine ⟨rfl, ?_⟩
      rw [o_all (mut_lst hm), wr_some, all_rep]
      exact ⟨rfl, pre⟩
theorem cut_1 (x : Val) (ps : List Val) : EV.cut (x :: ps) (some 1) none = ps := by
  unfold EV.cut
  simp [HT.sIx]
theorem o_tslc {st : Store} {vs : List Val} {l h : Option Int} : slcV (.tup vs) l h st = some (.tup (EV.cut vs l h), st) := rfl
theorem zip_t {st : Store} {vs us : List Val} : zipOf st (.tup vs) (.tup us) = some (.zipT vs us) := rfl
theorem len_zip {vs us : List Val} : (Wk.zipT vs us).len = min vs.length us.length := rfl
theorem item_zip {st : Store} {vs us : List Val} {i : Nat} {v u : Val} (h : vs[i]? = some v) (k : us[i]? = some u) : (Wk.zipT vs us).item st i = some (.tup [v, u]) := by
  show (match vs[i]?, us[i]? with
    | some v, some u => some (Val.tup [v, u])
    | _, _ => none) = _
  rw [h, k]
theorem map_at {ks : List Str} {i : Nat} {k : Str} (h : ks[i]? = some k) : (ks.map Val.str)[i]? = some (.str k) := by rw [List.getElem?_map, h]; rfl
theorem o_tlen {st : Store} {vs : List Val} : bltV .len [.tup vs] st = some (.int vs.length, st) := rfl
end EVL

/-! ## P4 -/
set_option maxRecDepth 10000
set_option maxHeartbeats 800000
namespace EVL
open PySem L2 EV
def Sm (B : Nat) (k : Int) : Prop := k.natAbs < 2 ^ B
theorem Sm.mono {A B : Nat} {k : Int} (h : Sm A k) (q : A ≤ B) : Sm B k := Nat.lt_of_lt_of_le h (Nat.pow_le_pow_right (by decide) q)
theorem Sm.log {k : Int} (h : Sm 200 k) : k.natAbs.log2 < 1920 := by
  by_cases h0 : k.natAbs = 0
  · rw [h0]; decide
  · exact Nat.lt_of_lt_of_le ((Nat.log2_lt h0).mpr h) (by decide)
theorem sm0 (B : Nat) : Sm B 0 := by
  show (0 : Int).natAbs < 2 ^ B
  exact Nat.two_pow_pos B
def Plain (B : Nat) (v : Val) : Prop := ∃ (x : Str) (k : Int), v = .tup [.str x, .int k] ∧ (x = "" ∨ IsName x) ∧ Sm B k
def VTerm (B : Nat) (v : Val) : Prop := Plain B v ∨ ∃ (a : Str) (p : Val) (k : Int), v = .tup [.str a, p, .int k] ∧ IsName a ∧ Plain B p ∧ Sm B k
def Endy (B : Nat) (v : Val) : Prop := v = .non ∨ Plain B v
theorem endy_non {B : Nat} : Endy B .non := Or.inl rfl
def Part (B : Nat) (k : Str) (v : Val) : Prop := (k = "array" ∧ ∃ x, v = .str x ∧ IsName x) ∨ (k = "value" ∧ VTerm B v) ∨ (k = "place" ∧ Plain B v) ∨ (k = "end" ∧ (v = .non ∨ Plain B v)) ∨ (k = "number" ∧ ∃ i, v = .int i ∧ Sm B i)
def tab_SHAPES : List (Str × Val) := [("place", .tup [.str "place", .str "place"]), ("value", .tup [.str "value", .str "value"]), ("rising", .tup [.str "array", .str "end", .str "end"]), ("low", .tup [.str "array", .str "end", .str "end", .str "value"]), ("high", .tup [.str "array", .str "end", .str "end", .str "value"]), ("below", .tup [.str "array", .str "end", .str "end", .str "array", .str "end", .str "end", .str "number"]), ("same", .tup [.str "array", .str "array", .str "end", .str "end", .str "number"])]
/-- a statement of the right form, by the shapes' table -/
def Say (B : Nat) (v : Val) : Prop := ∃ (z : Str) (ks : List Str) (ps : List Val), v = .tup (.str z :: ps) ∧ tab_SHAPES.lookup z = some (.tup (ks.map .str)) ∧ ps.length = ks.length ∧ ks.length < 10 ∧ ∀ (i : Nat) (p : Val) (k : Str), ps[i]? = some p → ks[i]? = some k → Part B k p
theorem tab_place : tab_SHAPES.lookup ("place" : Str) = some (.tup ((["place", "place"] : List Str).map .str)) := by kernel_rfl
theorem tab_value : tab_SHAPES.lookup ("value" : Str) = some (.tup ((["value", "value"] : List Str).map .str)) := by kernel_rfl
theorem tab_rising : tab_SHAPES.lookup ("rising" : Str) = some (.tup ((["array", "end", "end"] : List Str).map .str)) := by kernel_rfl
theorem tab_low : tab_SHAPES.lookup ("low" : Str) = some (.tup ((["array", "end", "end", "value"] : List Str).map .str)) := by kernel_rfl
theorem tab_high : tab_SHAPES.lookup ("high" : Str) = some (.tup ((["array", "end", "end", "value"] : List Str).map .str)) := by kernel_rfl
theorem tab_below : tab_SHAPES.lookup ("below" : Str) = some (.tup ((["array", "end", "end", "array", "end", "end", "number"] : List Str).map .str)) := by kernel_rfl
theorem tab_same : tab_SHAPES.lookup ("same" : Str) = some (.tup ((["array", "array", "end", "end", "number"] : List Str).map .str)) := by kernel_rfl
/-! the shapes -/
theorem say_of {B : Nat} {z : Str} {ks : List Str} {ps : List Val} (ht : tab_SHAPES.lookup z = some (.tup (ks.map .str))) (hl : ps.length = ks.length) (hk : ks.length < 10) (h : ∀ (i : Nat) (p : Val) (k : Str), ps[i]? = some p → ks[i]? = some k → Part B k p) : Say B (.tup (.str z :: ps)) := ⟨z, ks, ps, rfl, ht, hl, hk, h⟩
theorem pa {B : Nat} {x : Str} (h : IsName x) : Part B "array" (.str x) := .inl ⟨rfl, x, rfl, h⟩
theorem pv {B : Nat} {v : Val} (h : VTerm B v) : Part B "value" v := .inr (.inl ⟨rfl, h⟩)
theorem pp {B : Nat} {v : Val} (h : Plain B v) : Part B "place" v := .inr (.inr (.inl ⟨rfl, h⟩))
theorem pe {B : Nat} {v : Val} (h : Endy B v) : Part B "end" v := .inr (.inr (.inr (.inl ⟨rfl, h⟩)))
theorem pn {B : Nat} {i : Int} (h : Sm B i) : Part B "number" (.int i) := .inr (.inr (.inr (.inr ⟨rfl, i, rfl, h⟩)))
/-- parts one by one -/
inductive PartsL (B : Nat) : List Str → List Val → Prop
  | nil : PartsL B [] []
  | cons {k : Str} {p : Val} {ks : List Str} {ps : List Val} (h : Part B k p) (t : PartsL B ks ps) : PartsL B (k :: ks) (p :: ps)
theorem PartsL.len {B : Nat} {ks : List Str} {ps : List Val} (h : PartsL B ks ps) : ps.length = ks.length := by
  induction h with
  | nil => rfl
  | cons h t ih => rw [List.length_cons, List.length_cons, ih]
theorem PartsL.at_ {B : Nat} {ks : List Str} {ps : List Val} (h : PartsL B ks ps) : ∀ (i : Nat) (p : Val) (k : Str), ps[i]? = some p → ks[i]? = some k → Part B k p := by
  induction h with
  | nil => intro i p k h; cases h
  | cons h t ih =>
    intro i p k h1 h2
    cases i with
    | zero => cases h1; cases h2; exact h
    | succ i => exact ih i p k h1 h2
theorem sayL {B : Nat} {z : Str} {ks : List Str} {ps : List Val} (ht : tab_SHAPES.lookup z = some (.tup (ks.map .str))) (hk : ks.length < 10) (h : PartsL B ks ps) : Say B (.tup (.str z :: ps)) := say_of ht h.len hk h.at_
theorem say_place {B : Nat} {p q : Val} (hp : Plain B p) (hq : Plain B q) : Say B (.tup [.str "place", p, q]) := sayL tab_place (by decide) (.cons (pp hp) (.cons (pp hq) .nil))
theorem say_value {B : Nat} {p q : Val} (hp : VTerm B p) (hq : VTerm B q) : Say B (.tup [.str "value", p, q]) := sayL tab_value (by decide) (.cons (pv hp) (.cons (pv hq) .nil))
theorem say_rising {B : Nat} {x : Str} {p q : Val} (hx : IsName x) (hp : Endy B p) (hq : Endy B q) : Say B (.tup [.str "rising", .str x, p, q]) := sayL tab_rising (by decide) (.cons (pa hx) (.cons (pe hp) (.cons (pe hq) .nil)))
theorem say_low {B : Nat} {x : Str} {p q u : Val} (hx : IsName x) (hp : Endy B p) (hq : Endy B q) (hu : VTerm B u) : Say B (.tup [.str "low", .str x, p, q, u]) := sayL tab_low (by decide) (.cons (pa hx) (.cons (pe hp) (.cons (pe hq) (.cons (pv hu) .nil))))
theorem say_high {B : Nat} {x : Str} {p q u : Val} (hx : IsName x) (hp : Endy B p) (hq : Endy B q) (hu : VTerm B u) : Say B (.tup [.str "high", .str x, p, q, u]) := sayL tab_high (by decide) (.cons (pa hx) (.cons (pe hp) (.cons (pe hq) (.cons (pv hu) .nil))))
theorem say_below {B : Nat} {x y : Str} {p q r s : Val} {k : Int} (hx : IsName x) (hy : IsName y) (hp : Endy B p) (hq : Endy B q) (hr : Endy B r) (hs : Endy B s) (hk : Sm B k) : Say B (.tup [.str "below", .str x, p, q, .str y, r, s, .int k]) :=
  sayL tab_below (by decide) (.cons (pa hx) (.cons (pe hp) (.cons (pe hq) (.cons (pa hy) (.cons (pe hr) (.cons (pe hs) (.cons (pn hk) .nil)))))))
theorem say_same {B : Nat} {x y : Str} {p q : Val} {k : Int} (hx : IsName x) (hy : IsName y) (hp : Endy B p) (hq : Endy B q) (hk : Sm B k) : Say B (.tup [.str "same", .str x, .str y, p, q, .int k]) :=
  sayL tab_same (by decide) (.cons (pa hx) (.cons (pa hy) (.cons (pe hp) (.cons (pe hq) (.cons (pn hk) .nil)))))
theorem part_place {B : Nat} {v : Val} (h : Part B "place" v) : Plain B v := by
  rcases h with ⟨e, _⟩ | ⟨e, _⟩ | ⟨_, h⟩ | ⟨e, _⟩ | ⟨e, _⟩
  · exact absurd e (by decide +kernel)
  · exact absurd e (by decide +kernel)
  · exact h
  · exact absurd e (by decide +kernel)
  · exact absurd e (by decide +kernel)
theorem part_value {B : Nat} {v : Val} (h : Part B "value" v) : VTerm B v := by
  rcases h with ⟨e, _⟩ | ⟨_, h⟩ | ⟨e, _⟩ | ⟨e, _⟩ | ⟨e, _⟩
  · exact absurd e (by decide +kernel)
  · exact h
  · exact absurd e (by decide +kernel)
  · exact absurd e (by decide +kernel)
  · exact absurd e (by decide +kernel)
theorem partsL_of {B : Nat} : ∀ (ks : List Str) (ps : List Val), ps.length = ks.length → (∀ (i : Nat) (p : Val) (k : Str), ps[i]? = some p → ks[i]? = some k → Part B k p) → PartsL B ks ps
  | [], [], _, _ => .nil
  | [], _ :: _, h, _ => by cases h
  | _ :: _, [], h, _ => by cases h
  | k :: ks, p :: ps, h, hp => .cons (hp 0 p k rfl rfl) (partsL_of ks ps (by simpa using h) fun i p k h1 h2 => hp (i + 1) p k h1 h2)
theorem ks_of {z : Str} {ks L : List Str} (h : tab_SHAPES.lookup z = some (.tup (ks.map .str))) (t : tab_SHAPES.lookup z = some (.tup (L.map .str))) : ks = L := by
  rw [h] at t
  have e := Val.tup.inj (Option.some.inj t)
  exact (List.map_inj_right (fun _ _ q => Val.str.inj q)).mp e
/-- the shapes that a statement may have -/
theorem say_cases {B : Nat} {v : Val} (h : Say B v) : (∃ p q, v = .tup [.str "place", p, q] ∧ Plain B p ∧ Plain B q) ∨ (∃ p q, v = .tup [.str "value", p, q] ∧ VTerm B p ∧ VTerm B q) ∨
    ∃ (z : Str) (ks : List Str) (ps : List Val), v = .tup (.str z :: ps) ∧ tab_SHAPES.lookup z = some (.tup (ks.map .str)) ∧ PartsL B ks ps ∧ ks.length < 10 ∧ z ≠ "place" ∧ z ≠ "value" := by
  obtain ⟨z, ks, ps, rfl, ht, hl, hk, hp⟩ := h
  have hP := partsL_of ks ps hl hp
  by_cases h1 : z = "place"
  · subst h1
    have e := ks_of ht tab_place
    subst e
    cases hP with
    | cons h1 t =>
      cases t with
      | cons h2 t =>
        cases t
        exact .inl ⟨_, _, rfl, part_place h1, part_place h2⟩
  · by_cases h2 : z = "value"
    · subst h2
      have e := ks_of ht tab_value
      subst e
      cases hP with
      | cons h1 t =>
        cases t with
        | cons h2 t =>
          cases t
          exact .inr (.inl ⟨_, _, rfl, part_value h1, part_value h2⟩)
    · exact .inr (.inr ⟨z, ks, ps, rfl, ht, hP, hk, h1, h2⟩)
end EVL

/-! ## P5 -/
set_option maxRecDepth 10000
set_option maxHeartbeats 800000
namespace EVL
open PySem L2 EV
theorem sm_mul {k a : Int} (hk : Sm 10 k) (ha : -(2 ^ 64) < a ∧ a < 2 ^ 64) : Sm 150 (k * a) := by
  have h1 : k.natAbs < 2 ^ 10 := hk
  have h2 : a.natAbs < 2 ^ 64 := by omega
  show (k * a).natAbs < 2 ^ 150
  rw [Int.natAbs_mul]
  have h3 : k.natAbs * a.natAbs ≤ 2 ^ 10 * 2 ^ 64 := Nat.mul_le_mul (Nat.le_of_lt h1) (Nat.le_of_lt h2)
  exact Nat.lt_of_le_of_lt h3 (by decide)
theorem sm_add {k a : Int} (hk : Sm 150 k) (ha : Sm 150 a) : Sm 200 (k + a) := by
  have h1 : k.natAbs < 2 ^ 150 := hk
  have h2 : a.natAbs < 2 ^ 150 := ha
  show (k + a).natAbs < 2 ^ 200
  omega
/-- how all is scaled and shifted -/
def Scale (v : Val) : Prop := ∃ a b c e : Int, v = .tup [.int a, .int b, .int c, .int e] ∧ (-(2 ^ 64) < a ∧ a < 2 ^ 64) ∧ (-(2 ^ 64) < c ∧ c < 2 ^ 64) ∧ Sm 120 b ∧ Sm 120 e
theorem scaled_non {d : Nat} {st : Store} {s : Val} {r : Int} : wr (clN (d + 1) id__law_scaled_term [.non, s, .int r] st) (fun u st' => u = .non ∧ st <+: st') noX := by
  show wr (runB (clN d) 4 b__law_scaled_term [.non, s, .int r] st) _ noX
  unfold b__law_scaled_term
  simp only [w_varM, w_con, w_bin, w_neg, w_not, w_and, w_or, w_cmp, w_chain, w_ife, w_call, w_callp, w_star, w_blt, w_mth, w_idx, w_slc, w_lst, w_tup, w_tab, w_tin, w_dnew, w_rev, w_lc, w_lsc, w_dc, w_disp, w_get, w_fld, w_mk, w_meth, w_prop, w_nil, w_cons, w_onone, w_osome, w_tnone, w_tsome, w_tnot, w_tand, w_tor, w_tval, w_iex, w_irng1, w_irng2, w_irng3, w_izip, w_run, w_snil, w_scons, w_set, w_unp, w_seti, w_setf, w_exp, w_ret, w_retn, w_pass, w_ifs, w_loop, w_rais, w_try, wr_ok, wr_some, wr_none, wr_stuck, wr_bind, wr_quiet, wr_lift_ite, wr_ite, wo_ite, wo_next, wo_ret, wo_brk, wo_cnt, o_add, o_sub, o_mul, o_fdiv, o_mod, o_pow, o_neg, o_lt, o_le, o_gt, o_ge, o_eq, o_ne, o_eqs, o_nes, o_isB, o_notB, o_tbl, o_int, o_lst, decide_eq_true_eq, Bool.not_eq_true', decide_eq_false_iff_not, beq_iff_eq, List.map_cons, List.map_nil, List.length_cons, List.length_nil, List.replicate_succ, List.replicate_zero, List.cons_append, List.nil_append, List.getElem?_cons_zero, List.getElem?_cons_succ, List.set_cons_zero, List.set_cons_succ, Nat.reduceSub, Nat.reduceAdd, Nat.zero_add, Option.map_some, Option.map_none, c_na10, o_rng1, len_rng, len_lst, len_tup, Int.toNat_natCast, Int.reduceToNat, Int.reduceLE, Int.reduceLT, Nat.reducePow, Nat.reduceLT, and_self, if_true, if_false, ite_true, ite_false, true_and, and_true, reduceIte, o_isn]
  exact pre_rfl
theorem scaled_plain {d : Nat} {st : Store} {s v : Val} {r : Int} (hs : Scale s) (hr : r = 0 ∨ r = 1) (h : Plain 10 v) : wr (clN (d + 1) id__law_scaled_term [v, s, .int r] st) (fun u st' => Plain 200 u ∧ st <+: st') noX := by
  obtain ⟨x, k, rfl, hx, hk⟩ := h
  obtain ⟨a, b, c, e, rfl, ha, hc, hb, he⟩ := hs
  show wr (runB (clN d) 4 b__law_scaled_term [.tup [.str x, .int k], .tup [.int a, .int b, .int c, .int e], .int r] st) _ noX
  unfold b__law_scaled_term
  have e0 : cmpV .isN (.tup [.str x, .int k]) .non st = some false := rfl
  have e2 : bltV .len [.tup [.str x, .int k]] st = some (.int 2, st) := rfl
  have e3 : cmpV .eq (.int 2) (.int 3) st = some false := rfl
  have i0 : ∀ s, idxV s (.tup [.str x, .int k]) (.int 0) = some (.str x) := fun _ => rfl
  have i1 : ∀ s, idxV s (.tup [.str x, .int k]) (.int 1) = some (.int k) := fun _ => rfl
  have m1 : mulOk k a = true := mulOk_r ha
  have m2 : mulOk k c = true := mulOk_r hc
  have m3 : mulOk 2 r = true := mulOk_l ⟨by decide, by decide⟩
  have z2 : lineOk 2 = true := by decide
  have x0 : idxV st (.tup [.int a, .int b, .int c, .int e]) (.int (2 * r)) = some (.int (if r = 0 then a else c)) := by
    rcases hr with rfl | rfl <;> rfl
  have x1 : idxV st (.tup [.int a, .int b, .int c, .int e]) (.int (2 * r + 1)) = some (.int (if r = 0 then b else e)) := by
    rcases hr with rfl | rfl <;> rfl
  have m4 : mulOk k (if r = 0 then a else c) = true := by
    split
    · exact m1
    · exact m2
  simp only [w_varM, w_con, w_bin, w_neg, w_not, w_and, w_or, w_cmp, w_chain, w_ife, w_call, w_callp, w_star, w_blt, w_mth, w_idx, w_slc, w_lst, w_tup, w_tab, w_tin, w_dnew, w_rev, w_lc, w_lsc, w_dc, w_disp, w_get, w_fld, w_mk, w_meth, w_prop, w_nil, w_cons, w_onone, w_osome, w_tnone, w_tsome, w_tnot, w_tand, w_tor, w_tval, w_iex, w_irng1, w_irng2, w_irng3, w_izip, w_run, w_snil, w_scons, w_set, w_unp, w_seti, w_setf, w_exp, w_ret, w_retn, w_pass, w_ifs, w_loop, w_rais, w_try, wr_ok, wr_some, wr_none, wr_stuck, wr_bind, wr_quiet, wr_lift_ite, wr_ite, wo_ite, wo_next, wo_ret, wo_brk, wo_cnt, o_add, o_sub, o_mul, o_fdiv, o_mod, o_pow, o_neg, o_lt, o_le, o_gt, o_ge, o_eq, o_ne, o_eqs, o_nes, o_isB, o_notB, o_tbl, o_int, o_lst, decide_eq_true_eq, Bool.not_eq_true', decide_eq_false_iff_not, beq_iff_eq, List.map_cons, List.map_nil, List.length_cons, List.length_nil, List.replicate_succ, List.replicate_zero, List.cons_append, List.nil_append, List.getElem?_cons_zero, List.getElem?_cons_succ, List.set_cons_zero, List.set_cons_succ, Nat.reduceSub, Nat.reduceAdd, Nat.zero_add, Option.map_some, Option.map_none, c_na10, o_rng1, len_rng, len_lst, len_tup, Int.toNat_natCast, Int.reduceToNat, Int.reduceLE, Int.reduceLT, Nat.reducePow, Nat.reduceLT, and_self, if_true, if_false, ite_true, ite_false, true_and, and_true, reduceIte, e0, e2, e3, i0, i1, m3, x0, x1, m4, z2, Bool.false_eq_true]
  have sM : Sm 150 (k * if r = 0 then a else c) := by
    split
    · exact sm_mul hk ha
    · exact sm_mul hk hc
  have sB : Sm 150 (if r = 0 then b else e) := by
    split
    · exact hb.mono (by decide)
    · exact he.mono (by decide)
  split
  · exact ⟨⟨x, _, rfl, hx, sm_add sM sB⟩, pre_rfl⟩
  · exact ⟨⟨x, _, rfl, hx, sM.mono (by decide)⟩, pre_rfl⟩
theorem scaled_cell {d : Nat} {st : Store} {s p : Val} {a : Str} {k r : Int} (hs : Scale s) (ha : IsName a) (hp : Plain 10 p) (hk : Sm 10 k) : wr (clN (d + 2) id__law_scaled_term [.tup [.str a, p, .int k], s, .int r] st) (fun u st' => VTerm 200 u ∧ st <+: st') noX := by
  have hs' := hs
  obtain ⟨b1, b2, b3, b4, rfl, h1, h3, _, _⟩ := hs
  show wr (runB (clN (d + 1)) 4 b__law_scaled_term [.tup [.str a, p, .int k], .tup [.int b1, .int b2, .int b3, .int b4], .int r] st) _ noX
  unfold b__law_scaled_term
  have e0 : cmpV .isN (.tup [.str a, p, .int k]) .non st = some false := rfl
  have e2 : bltV .len [.tup [.str a, p, .int k]] st = some (.int 3, st) := rfl
  have e3 : cmpV .eq (.int 3) (.int 3) st = some true := rfl
  have i0 : ∀ s, idxV s (.tup [.str a, p, .int k]) (.int 0) = some (.str a) := fun _ => rfl
  have i1 : ∀ s, idxV s (.tup [.str a, p, .int k]) (.int 1) = some p := fun _ => rfl
  have i2 : ∀ s, idxV s (.tup [.str a, p, .int k]) (.int 2) = some (.int k) := fun _ => rfl
  have x2 : ∀ s, idxV s (.tup [.int b1, .int b2, .int b3, .int b4]) (.int 2) = some (.int b3) := fun _ => rfl
  have m2 : mulOk k b3 = true := mulOk_r h3
  have z3 : lineOk 3 = true := by decide
  simp only [w_varM, w_con, w_bin, w_neg, w_not, w_and, w_or, w_cmp, w_chain, w_ife, w_call, w_callp, w_star, w_blt, w_mth, w_idx, w_slc, w_lst, w_tup, w_tab, w_tin, w_dnew, w_rev, w_lc, w_lsc, w_dc, w_disp, w_get, w_fld, w_mk, w_meth, w_prop, w_nil, w_cons, w_onone, w_osome, w_tnone, w_tsome, w_tnot, w_tand, w_tor, w_tval, w_iex, w_irng1, w_irng2, w_irng3, w_izip, w_run, w_snil, w_scons, w_set, w_unp, w_seti, w_setf, w_exp, w_ret, w_retn, w_pass, w_ifs, w_loop, w_rais, w_try, wr_ok, wr_some, wr_none, wr_stuck, wr_bind, wr_quiet, wr_lift_ite, wr_ite, wo_ite, wo_next, wo_ret, wo_brk, wo_cnt, o_add, o_sub, o_mul, o_fdiv, o_mod, o_pow, o_neg, o_lt, o_le, o_gt, o_ge, o_eq, o_ne, o_eqs, o_nes, o_isB, o_notB, o_tbl, o_int, o_lst, decide_eq_true_eq, Bool.not_eq_true', decide_eq_false_iff_not, beq_iff_eq, List.map_cons, List.map_nil, List.length_cons, List.length_nil, List.replicate_succ, List.replicate_zero, List.cons_append, List.nil_append, List.getElem?_cons_zero, List.getElem?_cons_succ, List.set_cons_zero, List.set_cons_succ, Nat.reduceSub, Nat.reduceAdd, Nat.zero_add, Option.map_some, Option.map_none, c_na10, o_rng1, len_rng, len_lst, len_tup, Int.toNat_natCast, Int.reduceToNat, Int.reduceLE, Int.reduceLT, Nat.reducePow, Nat.reduceLT, and_self, if_true, if_false, ite_true, ite_false, true_and, and_true, reduceIte, e0, e2, e3, i0, i1, Bool.false_eq_true]
  refine wr_imp (scaled_plain (d := d) hs' (.inl rfl) hp) ?_
  rintro u s1 ⟨hu, pre⟩
  simp only [w_varM, w_con, w_bin, w_neg, w_not, w_and, w_or, w_cmp, w_chain, w_ife, w_call, w_callp, w_star, w_blt, w_mth, w_idx, w_slc, w_lst, w_tup, w_tab, w_tin, w_dnew, w_rev, w_lc, w_lsc, w_dc, w_disp, w_get, w_fld, w_mk, w_meth, w_prop, w_nil, w_cons, w_onone, w_osome, w_tnone, w_tsome, w_tnot, w_tand, w_tor, w_tval, w_iex, w_irng1, w_irng2, w_irng3, w_izip, w_run, w_snil, w_scons, w_set, w_unp, w_seti, w_setf, w_exp, w_ret, w_retn, w_pass, w_ifs, w_loop, w_rais, w_try, wr_ok, wr_some, wr_none, wr_stuck, wr_bind, wr_quiet, wr_lift_ite, wr_ite, wo_ite, wo_next, wo_ret, wo_brk, wo_cnt, o_add, o_sub, o_mul, o_fdiv, o_mod, o_pow, o_neg, o_lt, o_le, o_gt, o_ge, o_eq, o_ne, o_eqs, o_nes, o_isB, o_notB, o_tbl, o_int, o_lst, decide_eq_true_eq, Bool.not_eq_true', decide_eq_false_iff_not, beq_iff_eq, List.map_cons, List.map_nil, List.length_cons, List.length_nil, List.replicate_succ, List.replicate_zero, List.cons_append, List.nil_append, List.getElem?_cons_zero, List.getElem?_cons_succ, List.set_cons_zero, List.set_cons_succ, Nat.reduceSub, Nat.reduceAdd, Nat.zero_add, Option.map_some, Option.map_none, c_na10, o_rng1, len_rng, len_lst, len_tup, Int.toNat_natCast, Int.reduceToNat, Int.reduceLE, Int.reduceLT, Nat.reducePow, Nat.reduceLT, and_self, if_true, if_false, ite_true, ite_false, true_and, and_true, reduceIte, i2, x2, m2, z3]
  exact ⟨.inr ⟨a, u, _, rfl, ha, hu, (sm_mul hk h3).mono (by decide)⟩, pre⟩
end EVL

/-! ## P6 -/
set_option maxRecDepth 10000
set_option maxHeartbeats 800000
namespace EVL
open PySem L2 EV
/-- the turns of _law_long's inner loops -/
theorem long_top {cl : Cl} {st : Store} {a b c dd e f h i j : Option Val} {n : Nat} {D : En} (hn : n ≤ 30) (hD : ∀ t' j, 0 < t' → t' ≤ 10 ^ 30 → D.nx [a, b, c, dd, e, f, some (.int t'), j, h, i] st) :
    wo (forTurns (Tg.nm 7).give (EV.exs cl l__law_long_0) (.rng 0 n) n 0 [a, b, c, dd, e, f, some (.int 1), j, h, i] st) D := by
  refine for_rng (fun k ρ s => s = st ∧ ∃ t' j, (0 < t' ∧ t' ≤ 10 ^ k) ∧ ρ = [a, b, c, dd, e, f, some (.int t'), j, h, i]) ⟨rfl, 1, j, ⟨by decide, by decide⟩, rfl⟩ ?_ ?_
  · rintro k _ _ hk ⟨rfl, t', j', h0, rfl⟩
    refine ⟨_, give_nm, ?_⟩
    unfold l__law_long_0
    simp only [w_varM, w_con, w_bin, w_neg, w_not, w_and, w_or, w_cmp, w_chain, w_ife, w_call, w_callp, w_star, w_blt, w_mth, w_idx, w_slc, w_lst, w_tup, w_tab, w_tin, w_dnew, w_rev, w_lc, w_lsc, w_dc, w_disp, w_get, w_fld, w_mk, w_meth, w_prop, w_nil, w_cons, w_onone, w_osome, w_tnone, w_tsome, w_tnot, w_tand, w_tor, w_tval, w_iex, w_irng1, w_irng2, w_irng3, w_izip, w_run, w_snil, w_scons, w_set, w_unp, w_seti, w_setf, w_exp, w_ret, w_retn, w_pass, w_ifs, w_loop, w_rais, w_try, wr_ok, wr_some, wr_none, wr_stuck, wr_bind, wr_quiet, wr_lift_ite, wr_ite, wo_ite, wo_next, wo_ret, wo_brk, wo_cnt, o_add, o_sub, o_mul, o_fdiv, o_mod, o_pow, o_neg, o_lt, o_le, o_gt, o_ge, o_eq, o_ne, o_eqs, o_nes, o_isB, o_notB, o_tbl, o_int, o_lst, decide_eq_true_eq, Bool.not_eq_true', decide_eq_false_iff_not, beq_iff_eq, List.map_cons, List.map_nil, List.length_cons, List.length_nil, List.replicate_succ, List.replicate_zero, List.cons_append, List.nil_append, List.getElem?_cons_zero, List.getElem?_cons_succ, List.set_cons_zero, List.set_cons_succ, Nat.reduceSub, Nat.reduceAdd, Nat.zero_add, Option.map_some, Option.map_none, c_na10, o_rng1, len_rng, len_lst, len_tup, Int.toNat_natCast, Int.reduceToNat, Int.reduceLE, Int.reduceLT, Nat.reducePow, Nat.reduceLT, and_self, if_true, if_false, ite_true, ite_false, true_and, and_true, reduceIte, mulOk_r (i := t') (show -(2 ^ 64) < (10 : Int) ∧ (10 : Int) < 2 ^ 64 by decide)]
    exact ⟨_, _, ⟨by omega, by rw [Int.pow_succ]; omega⟩, rfl⟩
  · rintro _ _ ⟨rfl, t', j', h0, rfl⟩
    refine hD t' j' h0.1 (Int.le_trans h0.2 ?_)
    exact_mod_cast Nat.pow_le_pow_right (show 0 < 10 by decide) hn
theorem long_num {cl : Cl} {st : Store} {a b c dd e f g h i : Option Val} {z : Int} {m : Nat} {xs : List Int} {D : En} (hm : lstAt st m = some (xs.map .int)) (hD : ∀ z' i, D.nx [a, b, c, dd, e, f, g, h, some (.int z'), i] st) :
    wo (forTurns (Tg.nm 9).give (EV.exs cl l__law_long_1) (.lst m xs.length) xs.length 0 [a, b, c, dd, e, f, g, h, some (.int z), i] st) D := by
  refine for_lst (xs.map .int) (List.length_map _) (fun k ρ s => s = st ∧ ∃ z' i, ρ = [a, b, c, dd, e, f, g, h, some (.int z'), i]) ⟨rfl, z, i, rfl⟩ (fun k ρ s q => by rw [q.1]; exact hm) ?_ ?_
  · rintro k v _ _ hk ⟨rfl, z', i', rfl⟩
    obtain ⟨x, rfl⟩ : ∃ x, v = .int x := by
      rw [List.getElem?_map] at hk
      cases e : xs[k]? with
      | none => rw [e] at hk; cases hk
      | some x => rw [e] at hk; exact ⟨x, (Option.some.inj hk).symm⟩
    refine ⟨_, give_nm, ?_⟩
    unfold l__law_long_1
    simp only [w_varM, w_con, w_bin, w_neg, w_not, w_and, w_or, w_cmp, w_chain, w_ife, w_call, w_callp, w_star, w_blt, w_mth, w_idx, w_slc, w_lst, w_tup, w_tab, w_tin, w_dnew, w_rev, w_lc, w_lsc, w_dc, w_disp, w_get, w_fld, w_mk, w_meth, w_prop, w_nil, w_cons, w_onone, w_osome, w_tnone, w_tsome, w_tnot, w_tand, w_tor, w_tval, w_iex, w_irng1, w_irng2, w_irng3, w_izip, w_run, w_snil, w_scons, w_set, w_unp, w_seti, w_setf, w_exp, w_ret, w_retn, w_pass, w_ifs, w_loop, w_rais, w_try, wr_ok, wr_some, wr_none, wr_stuck, wr_bind, wr_quiet, wr_lift_ite, wr_ite, wo_ite, wo_next, wo_ret, wo_brk, wo_cnt, o_add, o_sub, o_mul, o_fdiv, o_mod, o_pow, o_neg, o_lt, o_le, o_gt, o_ge, o_eq, o_ne, o_eqs, o_nes, o_isB, o_notB, o_tbl, o_int, o_lst, decide_eq_true_eq, Bool.not_eq_true', decide_eq_false_iff_not, beq_iff_eq, List.map_cons, List.map_nil, List.length_cons, List.length_nil, List.replicate_succ, List.replicate_zero, List.cons_append, List.nil_append, List.getElem?_cons_zero, List.getElem?_cons_succ, List.set_cons_zero, List.set_cons_succ, Nat.reduceSub, Nat.reduceAdd, Nat.zero_add, Option.map_some, Option.map_none, c_na10, o_rng1, len_rng, len_lst, len_tup, Int.toNat_natCast, Int.reduceToNat, Int.reduceLE, Int.reduceLT, Nat.reducePow, Nat.reduceLT, and_self, if_true, if_false, ite_true, ite_false, true_and, and_true, reduceIte, mulOk_r (i := z') (show -(2 ^ 64) < (10 ^ 8 : Int) ∧ (10 ^ 8 : Int) < 2 ^ 64 by decide)]
    exact ⟨_, _, rfl⟩
  · rintro _ _ ⟨rfl, z', i', rfl⟩
    exact hD z' i'
theorem cut_map (xs : List Int) (lo hi : Option Int) : EV.cut (xs.map Val.int) lo hi = (EV.cut xs lo hi).map Val.int := by
  unfold EV.cut
  rw [List.length_map, List.map_take, List.map_drop]
theorem o_slc {st : Store} {n : Nat} {vs : List Val} {lo hi : Option Int} (h : lstAt st n = some vs) : slcV (.ref n) lo hi st = some (.ref st.length, st ++ [.lst (EV.cut vs lo hi)]) := by
  show (match lstAt st n with
    | some vs => alloc st (.lst (EV.cut vs lo hi))
    | none => none) = _
  rw [h]
  rfl
theorem wk_lst {st : Store} {n : Nat} {vs : List Val} (h : lstAt st n = some vs) : wkOf st (.ref n) = some (.lst n vs.length) := by
  show (lstAt st n).map _ = _
  rw [h]
  rfl
def LongI (n m q : Nat) (p : Int) (many : Nat) (st : Store) (k : Nat) (ρ : Fr) (s : Store) : Prop := ∃ (v g h i j : Option Val) (acc : List Int), ρ = [some (.ref n), some (.int p), some (.int many), some (.ref m), some (.ref q), v, g, h, i, j] ∧ st <+: s ∧ mutAt s q = some (acc.map .int) ∧ acc.length = k ∧ ∀ x ∈ acc, Sm 110 x
theorem long_turn {cl : Cl} {st st1 : Store} {n m q many : Nat} {p K : Int} {ds acc : List Int} {g h i j : Option Val} {k : Nat} {D : En} (hds : lstAt st m = some (ds.map .int)) (hlen : ds.length = 6 * many) (hmany : many < 1000) (hb : ∀ (a : Nat) (x : Int), ds[6 * a]? = some x → 0 ≤ x ∧ x < 31)
    (hk : k < many) (hK : K = k) (hq : st.length ≤ q) (pre : st <+: st1) (hacc : mutAt st1 q = some (acc.map .int)) (hal : acc.length = k) (hsm : ∀ x ∈ acc, Sm 110 x) (hD : D.nx = LongI n m q p many st (k + 1)) :
    wo (EV.exs cl l__law_long_2 [some (.ref n), some (.int p), some (.int many), some (.ref m), some (.ref q), some (.int K), g, h, i, j] st1) D := by
  unfold l__law_long_2
  have hm1 : lstAt st1 m = some (ds.map .int) := pre_lst pre hds
  obtain ⟨x, hx⟩ : ∃ x, ds[6 * k]? = some x := ⟨_, List.getElem?_eq_getElem (by omega)⟩
  obtain ⟨y, hy⟩ : ∃ y, ds[6 * k + 1]? = some y := ⟨_, List.getElem?_eq_getElem (by omega)⟩
  have hx2 := hb k x hx
  have ix : atI (ds.map Val.int) (6 * K) = some (.int x) := by
    rw [hK, show (6 * (k : Int)) = ((6 * k : Nat) : Int) by omega]
    exact ix_at hx
  have iy : atI (ds.map Val.int) (6 * K + 1) = some (.int y) := by
    rw [hK, show (6 * (k : Int) + 1) = ((6 * k + 1 : Nat) : Int) by omega]
    exact ix_at hy
  have m6 : mulOk 6 K = true := mulOk_l ⟨by decide, by decide⟩
  have hr : rngOk x = true := rng_ok ⟨by have := hx2.1; omega, by have := hx2.2; omega⟩
  refine w_cut (fun ρ s => st1 = s ∧ ρ = [some (.ref n), some (.int p), some (.int many), some (.ref m), some (.ref q), some (.int K), some (.int 1), h, i, j]) (by simp only [w_varM, w_con, w_bin, w_neg, w_not, w_and, w_or, w_cmp, w_chain, w_ife, w_call, w_callp, w_star, w_blt, w_mth, w_idx, w_slc, w_lst, w_tup, w_tab, w_tin, w_dnew, w_rev, w_lc, w_lsc, w_dc, w_disp, w_get, w_fld, w_mk, w_meth, w_prop, w_nil, w_cons, w_onone, w_osome, w_tnone, w_tsome, w_tnot, w_tand, w_tor, w_tval, w_iex, w_irng1, w_irng2, w_irng3, w_izip, w_run, w_snil, w_scons, w_set, w_unp, w_seti, w_setf, w_exp, w_ret, w_retn, w_pass, w_ifs, w_loop, w_rais, w_try, wr_ok, wr_some, wr_none, wr_stuck, wr_bind, wr_quiet, wr_lift_ite, wr_ite, wo_ite, wo_next, wo_ret, wo_brk, wo_cnt, o_add, o_sub, o_mul, o_fdiv, o_mod, o_pow, o_neg, o_lt, o_le, o_gt, o_ge, o_eq, o_ne, o_eqs, o_nes, o_isB, o_notB, o_tbl, o_int, o_lst, decide_eq_true_eq, Bool.not_eq_true', decide_eq_false_iff_not, beq_iff_eq, List.map_cons, List.map_nil, List.length_cons, List.length_nil, List.replicate_succ, List.replicate_zero, List.cons_append, List.nil_append, List.getElem?_cons_zero, List.getElem?_cons_succ, List.set_cons_zero, List.set_cons_succ, Nat.reduceSub, Nat.reduceAdd, Nat.zero_add, Option.map_some, Option.map_none, c_na10, o_rng1, len_rng, len_lst, len_tup, Int.toNat_natCast, Int.reduceToNat, Int.reduceLE, Int.reduceLT, Nat.reducePow, Nat.reduceLT, and_self, if_true, if_false, ite_true, ite_false, true_and, and_true, reduceIte]) ?_
  rintro _ _ ⟨rfl, rfl⟩
  refine w_cut (fun ρ s => st1 = s ∧ ∃ t h, (0 < t ∧ t ≤ 10 ^ 30) ∧ ρ = [some (.ref n), some (.int p), some (.int many), some (.ref m), some (.ref q), some (.int K), some (.int t), h, i, j]) ?_ ?_
  · simp only [w_varM, w_con, w_bin, w_neg, w_not, w_and, w_or, w_cmp, w_chain, w_ife, w_call, w_callp, w_star, w_blt, w_mth, w_idx, w_slc, w_lst, w_tup, w_tab, w_tin, w_dnew, w_rev, w_lc, w_lsc, w_dc, w_disp, w_get, w_fld, w_mk, w_meth, w_prop, w_nil, w_cons, w_onone, w_osome, w_tnone, w_tsome, w_tnot, w_tand, w_tor, w_tval, w_iex, w_irng1, w_irng2, w_irng3, w_izip, w_run, w_snil, w_scons, w_set, w_unp, w_seti, w_setf, w_exp, w_ret, w_retn, w_pass, w_ifs, w_loop, w_rais, w_try, wr_ok, wr_some, wr_none, wr_stuck, wr_bind, wr_quiet, wr_lift_ite, wr_ite, wo_ite, wo_next, wo_ret, wo_brk, wo_cnt, o_add, o_sub, o_mul, o_fdiv, o_mod, o_pow, o_neg, o_lt, o_le, o_gt, o_ge, o_eq, o_ne, o_eqs, o_nes, o_isB, o_notB, o_tbl, o_int, o_lst, decide_eq_true_eq, Bool.not_eq_true', decide_eq_false_iff_not, beq_iff_eq, List.map_cons, List.map_nil, List.length_cons, List.length_nil, List.replicate_succ, List.replicate_zero, List.cons_append, List.nil_append, List.getElem?_cons_zero, List.getElem?_cons_succ, List.set_cons_zero, List.set_cons_succ, Nat.reduceSub, Nat.reduceAdd, Nat.zero_add, Option.map_some, Option.map_none, c_na10, o_rng1, len_rng, len_lst, len_tup, Int.toNat_natCast, Int.reduceToNat, Int.reduceLE, Int.reduceLT, Nat.reducePow, Nat.reduceLT, and_self, if_true, if_false, ite_true, ite_false, true_and, and_true, reduceIte, o_idx hm1, ix, m6, hr]
    exact long_top (by omega) fun t' j h0 h1 => ⟨rfl, t', j, ⟨h0, h1⟩, rfl⟩
  rintro _ _ ⟨rfl, t, h, ht, rfl⟩
  refine w_cut (fun ρ s => st1 = s ∧ ρ = [some (.ref n), some (.int p), some (.int many), some (.ref m), some (.ref q), some (.int K), some (.int t), h, some (.int 0), j]) (by simp only [w_varM, w_con, w_bin, w_neg, w_not, w_and, w_or, w_cmp, w_chain, w_ife, w_call, w_callp, w_star, w_blt, w_mth, w_idx, w_slc, w_lst, w_tup, w_tab, w_tin, w_dnew, w_rev, w_lc, w_lsc, w_dc, w_disp, w_get, w_fld, w_mk, w_meth, w_prop, w_nil, w_cons, w_onone, w_osome, w_tnone, w_tsome, w_tnot, w_tand, w_tor, w_tval, w_iex, w_irng1, w_irng2, w_irng3, w_izip, w_run, w_snil, w_scons, w_set, w_unp, w_seti, w_setf, w_exp, w_ret, w_retn, w_pass, w_ifs, w_loop, w_rais, w_try, wr_ok, wr_some, wr_none, wr_stuck, wr_bind, wr_quiet, wr_lift_ite, wr_ite, wo_ite, wo_next, wo_ret, wo_brk, wo_cnt, o_add, o_sub, o_mul, o_fdiv, o_mod, o_pow, o_neg, o_lt, o_le, o_gt, o_ge, o_eq, o_ne, o_eqs, o_nes, o_isB, o_notB, o_tbl, o_int, o_lst, decide_eq_true_eq, Bool.not_eq_true', decide_eq_false_iff_not, beq_iff_eq, List.map_cons, List.map_nil, List.length_cons, List.length_nil, List.replicate_succ, List.replicate_zero, List.cons_append, List.nil_append, List.getElem?_cons_zero, List.getElem?_cons_succ, List.set_cons_zero, List.set_cons_succ, Nat.reduceSub, Nat.reduceAdd, Nat.zero_add, Option.map_some, Option.map_none, c_na10, o_rng1, len_rng, len_lst, len_tup, Int.toNat_natCast, Int.reduceToNat, Int.reduceLE, Int.reduceLT, Nat.reducePow, Nat.reduceLT, and_self, if_true, if_false, ite_true, ite_false, true_and, and_true, reduceIte]) ?_
  rintro _ _ ⟨rfl, rfl⟩
  refine w_cut (fun ρ s => st1 <+: s ∧ ∃ z j, ρ = [some (.ref n), some (.int p), some (.int many), some (.ref m), some (.ref q), some (.int K), some (.int t), h, some (.int z), j]) ?_ ?_
  · have ho : ∀ lo hi, slcV (.ref m) lo hi st1 = some (.ref st1.length, st1 ++ [.lst ((EV.cut ds lo hi).map .int)]) := fun lo hi => by rw [o_slc hm1, cut_map]
    have hw : ∀ xs : List Int, wkOf (st1 ++ [.lst (xs.map .int)]) (.ref st1.length) = some (.lst st1.length xs.length) := fun xs => by
      have e : lstAt (st1 ++ [Ob.lst (xs.map .int)]) st1.length = some (xs.map .int) := mut_lst mut_new
      rw [wk_lst e, List.length_map]
    simp only [w_varM, w_con, w_bin, w_neg, w_not, w_and, w_or, w_cmp, w_chain, w_ife, w_call, w_callp, w_star, w_blt, w_mth, w_idx, w_slc, w_lst, w_tup, w_tab, w_tin, w_dnew, w_rev, w_lc, w_lsc, w_dc, w_disp, w_get, w_fld, w_mk, w_meth, w_prop, w_nil, w_cons, w_onone, w_osome, w_tnone, w_tsome, w_tnot, w_tand, w_tor, w_tval, w_iex, w_irng1, w_irng2, w_irng3, w_izip, w_run, w_snil, w_scons, w_set, w_unp, w_seti, w_setf, w_exp, w_ret, w_retn, w_pass, w_ifs, w_loop, w_rais, w_try, wr_ok, wr_some, wr_none, wr_stuck, wr_bind, wr_quiet, wr_lift_ite, wr_ite, wo_ite, wo_next, wo_ret, wo_brk, wo_cnt, o_add, o_sub, o_mul, o_fdiv, o_mod, o_pow, o_neg, o_lt, o_le, o_gt, o_ge, o_eq, o_ne, o_eqs, o_nes, o_isB, o_notB, o_tbl, o_int, o_lst, decide_eq_true_eq, Bool.not_eq_true', decide_eq_false_iff_not, beq_iff_eq, List.map_cons, List.map_nil, List.length_cons, List.length_nil, List.replicate_succ, List.replicate_zero, List.cons_append, List.nil_append, List.getElem?_cons_zero, List.getElem?_cons_succ, List.set_cons_zero, List.set_cons_succ, Nat.reduceSub, Nat.reduceAdd, Nat.zero_add, Option.map_some, Option.map_none, c_na10, o_rng1, len_rng, len_lst, len_tup, Int.toNat_natCast, Int.reduceToNat, Int.reduceLE, Int.reduceLT, Nat.reducePow, Nat.reduceLT, and_self, if_true, if_false, ite_true, ite_false, true_and, and_true, reduceIte, m6, ho, hw]
    exact long_num (mut_lst mut_new) fun z' i => ⟨pre_app pre_rfl _, z', i, rfl⟩
  rintro _ s ⟨pre2, z, j, rfl⟩
  have hm2 := pre_lst pre2 hm1
  have ha2 := mut_pre pre2 hacc
  refine w_cut (fun ρ s' => s = s' ∧ ∃ z, Sm 110 z ∧ ρ = [some (.ref n), some (.int p), some (.int many), some (.ref m), some (.ref q), some (.int K), some (.int t), h, some (.int z), j]) ?_ ?_
  · simp only [w_varM, w_con, w_bin, w_neg, w_not, w_and, w_or, w_cmp, w_chain, w_ife, w_call, w_callp, w_star, w_blt, w_mth, w_idx, w_slc, w_lst, w_tup, w_tab, w_tin, w_dnew, w_rev, w_lc, w_lsc, w_dc, w_disp, w_get, w_fld, w_mk, w_meth, w_prop, w_nil, w_cons, w_onone, w_osome, w_tnone, w_tsome, w_tnot, w_tand, w_tor, w_tval, w_iex, w_irng1, w_irng2, w_irng3, w_izip, w_run, w_snil, w_scons, w_set, w_unp, w_seti, w_setf, w_exp, w_ret, w_retn, w_pass, w_ifs, w_loop, w_rais, w_try, wr_ok, wr_some, wr_none, wr_stuck, wr_bind, wr_quiet, wr_lift_ite, wr_ite, wo_ite, wo_next, wo_ret, wo_brk, wo_cnt, o_add, o_sub, o_mul, o_fdiv, o_mod, o_pow, o_neg, o_lt, o_le, o_gt, o_ge, o_eq, o_ne, o_eqs, o_nes, o_isB, o_notB, o_tbl, o_int, o_lst, decide_eq_true_eq, Bool.not_eq_true', decide_eq_false_iff_not, beq_iff_eq, List.map_cons, List.map_nil, List.length_cons, List.length_nil, List.replicate_succ, List.replicate_zero, List.cons_append, List.nil_append, List.getElem?_cons_zero, List.getElem?_cons_succ, List.set_cons_zero, List.set_cons_succ, Nat.reduceSub, Nat.reduceAdd, Nat.zero_add, Option.map_some, Option.map_none, c_na10, o_rng1, len_rng, len_lst, len_tup, Int.toNat_natCast, Int.reduceToNat, Int.reduceLE, Int.reduceLT, Nat.reducePow, Nat.reduceLT, and_self, if_true, if_false, ite_true, ite_false, true_and, and_true, reduceIte, ht.1]
    refine ⟨_, ?_, rfl⟩
    have z1 := Int.emod_nonneg z (show t ≠ 0 by omega)
    have z2 := Int.emod_lt_of_pos z ht.1
    show (z % t).natAbs < 2 ^ 110
    omega
  rintro _ _ ⟨rfl, z, hz, rfl⟩
  have fin : ∀ y : Int, Sm 110 y → LongI n m q p many st (k + 1) [some (.ref n), some (.int p), some (.int many), some (.ref m), some (.ref q), some (.int K), some (.int t), h, some (.int z), j] (s.set q (.lst (acc.map .int ++ [.int y]))) := fun y hy => by
    refine ⟨_, _, _, _, _, acc ++ [y], rfl, pre_set (pre.trans pre2) hq, ?_, by rw [List.length_append, hal]; rfl, fun w hw => ?_⟩
    rotate_left
    · rcases List.mem_append.mp hw with hw | hw
      · exact hsm w hw
      · rw [List.mem_singleton] at hw
        subst hw
        exact hy
    rw [List.map_append]
    exact mut_set ha2
  have hsm' : (acc.map Val.int).length < 16777216 := by rw [List.length_map]; omega
  by_cases e : y = 1
  · subst e
    simp only [w_varM, w_con, w_bin, w_neg, w_not, w_and, w_or, w_cmp, w_chain, w_ife, w_call, w_callp, w_star, w_blt, w_mth, w_idx, w_slc, w_lst, w_tup, w_tab, w_tin, w_dnew, w_rev, w_lc, w_lsc, w_dc, w_disp, w_get, w_fld, w_mk, w_meth, w_prop, w_nil, w_cons, w_onone, w_osome, w_tnone, w_tsome, w_tnot, w_tand, w_tor, w_tval, w_iex, w_irng1, w_irng2, w_irng3, w_izip, w_run, w_snil, w_scons, w_set, w_unp, w_seti, w_setf, w_exp, w_ret, w_retn, w_pass, w_ifs, w_loop, w_rais, w_try, wr_ok, wr_some, wr_none, wr_stuck, wr_bind, wr_quiet, wr_lift_ite, wr_ite, wo_ite, wo_next, wo_ret, wo_brk, wo_cnt, o_add, o_sub, o_mul, o_fdiv, o_mod, o_pow, o_neg, o_lt, o_le, o_gt, o_ge, o_eq, o_ne, o_eqs, o_nes, o_isB, o_notB, o_tbl, o_int, o_lst, decide_eq_true_eq, Bool.not_eq_true', decide_eq_false_iff_not, beq_iff_eq, List.map_cons, List.map_nil, List.length_cons, List.length_nil, List.replicate_succ, List.replicate_zero, List.cons_append, List.nil_append, List.getElem?_cons_zero, List.getElem?_cons_succ, List.set_cons_zero, List.set_cons_succ, Nat.reduceSub, Nat.reduceAdd, Nat.zero_add, Option.map_some, Option.map_none, c_na10, o_rng1, len_rng, len_lst, len_tup, Int.toNat_natCast, Int.reduceToNat, Int.reduceLE, Int.reduceLT, Nat.reducePow, Nat.reduceLT, and_self, if_true, if_false, ite_true, ite_false, true_and, and_true, reduceIte, m6, o_rapp ha2, o_idx hm2, iy, o_app ha2, hsm']
    rw [hD]
    exact fin _ (by first | exact hz | exact (show (-z).natAbs < 2 ^ 110 by rw [Int.natAbs_neg]; exact hz))
  · have eb : (y == 1) = false := by rw [beq_eq_false_iff_ne]; exact e
    simp only [w_varM, w_con, w_bin, w_neg, w_not, w_and, w_or, w_cmp, w_chain, w_ife, w_call, w_callp, w_star, w_blt, w_mth, w_idx, w_slc, w_lst, w_tup, w_tab, w_tin, w_dnew, w_rev, w_lc, w_lsc, w_dc, w_disp, w_get, w_fld, w_mk, w_meth, w_prop, w_nil, w_cons, w_onone, w_osome, w_tnone, w_tsome, w_tnot, w_tand, w_tor, w_tval, w_iex, w_irng1, w_irng2, w_irng3, w_izip, w_run, w_snil, w_scons, w_set, w_unp, w_seti, w_setf, w_exp, w_ret, w_retn, w_pass, w_ifs, w_loop, w_rais, w_try, wr_ok, wr_some, wr_none, wr_stuck, wr_bind, wr_quiet, wr_lift_ite, wr_ite, wo_ite, wo_next, wo_ret, wo_brk, wo_cnt, o_add, o_sub, o_mul, o_fdiv, o_mod, o_pow, o_neg, o_lt, o_le, o_gt, o_ge, o_eq, o_ne, o_eqs, o_nes, o_isB, o_notB, o_tbl, o_int, o_lst, decide_eq_true_eq, Bool.not_eq_true', decide_eq_false_iff_not, beq_iff_eq, List.map_cons, List.map_nil, List.length_cons, List.length_nil, List.replicate_succ, List.replicate_zero, List.cons_append, List.nil_append, List.getElem?_cons_zero, List.getElem?_cons_succ, List.set_cons_zero, List.set_cons_succ, Nat.reduceSub, Nat.reduceAdd, Nat.zero_add, Option.map_some, Option.map_none, c_na10, o_rng1, len_rng, len_lst, len_tup, Int.toNat_natCast, Int.reduceToNat, Int.reduceLE, Int.reduceLT, Nat.reducePow, Nat.reduceLT, and_self, if_true, if_false, ite_true, ite_false, true_and, and_true, reduceIte, m6, o_rapp ha2, o_idx hm2, iy, o_app ha2, hsm', e, eb]
    rw [hD]
    exact fin _ (by first | exact hz | exact (show (-z).natAbs < 2 ^ 110 by rw [Int.natAbs_neg]; exact hz))
end EVL

/-! ## P7 -/
set_option maxRecDepth 10000
set_option maxHeartbeats 800000
namespace EVL
open PySem L2 EV
def lim6 : List Int := [31, 2, 10 ^ 8, 10 ^ 8, 10 ^ 8, 10 ^ 8]
theorem o_rep {st : Store} {n : Nat} {vs : List Val} (h : mutAt st n = some vs) (k : Int) (hk : -(2 ^ 63) ≤ k ∧ k < 2 ^ 63) (hl : vs.length * k.toNat ≤ 16777216) : binV .mul (.ref n) (.int k) st = some (.ref st.length, st ++ [.lst (List.replicate k.toNat vs).flatten]) := by
  show (match mutAt st n with
    | some xs => if decide (-(2 ^ 63) ≤ k ∧ k < 2 ^ 63) && lineOk (xs.length * k.toNat) then alloc st (.lst (List.replicate k.toNat xs).flatten) else none
    | none => none) = _
  rw [h]
  show (if (decide (-(2 ^ 63) ≤ k ∧ k < 2 ^ 63) && lineOk (vs.length * k.toNat)) = true then _ else none) = _
  rw [decide_eq_true hk, show lineOk (vs.length * k.toNat) = true from decide_eq_true hl]
  rfl
theorem long_ok {d n : Nat} {st : Store} {ns : List Int} {p : Int} (hs : lstAt st n = some (ns.map .int)) (hp : 0 ≤ p) :
    wr (clN (d + 3) id__law_long [.ref n, .int p, .int 2] st) (fun v st' => st <+: st' ∧ ∃ (q : Nat) (x y : Int), v = .ref q ∧ lstAt st' q = some [.int x, .int y] ∧ Sm 110 x ∧ Sm 110 y) noX := by
  show wr (runB (clN (d + 2)) 10 b__law_long [.ref n, .int p, .int 2] st) _ noX
  unfold b__law_long
  rw [w_run]
  refine w_cut (fun ρ s => st <+: s ∧ ∃ (m : Nat) (ds : List Int), ρ = [some (.ref n), some (.int p), some (.int 2), some (.ref m), none, none, none, none, none, none] ∧ lstAt s m = some (ds.map .int) ∧ ds.length = 12 ∧ ∀ (a : Nat) (x : Int), ds[6 * a]? = some x → 0 ≤ x ∧ x < 31) ?_ ?_
  · have l6 : lineOk 6 = true := by decide
    have o2 := fun st : Store => o_rep (st := st ++ [.lst (lim6.map .int)]) (n := st.length) mut_new 2 ⟨by decide, by decide⟩ (by decide)
    have eL : (lim6.map Val.int) = [.int 31, .int 2, .int (10 ^ 8), .int (10 ^ 8), .int (10 ^ 8), .int (10 ^ 8)] := rfl
    simp only [eL] at o2
    simp only [w_varM, w_con, w_bin, w_neg, w_not, w_and, w_or, w_cmp, w_chain, w_ife, w_call, w_callp, w_star, w_blt, w_mth, w_idx, w_slc, w_lst, w_tup, w_tab, w_tin, w_dnew, w_rev, w_lc, w_lsc, w_dc, w_disp, w_get, w_fld, w_mk, w_meth, w_prop, w_nil, w_cons, w_onone, w_osome, w_tnone, w_tsome, w_tnot, w_tand, w_tor, w_tval, w_iex, w_irng1, w_irng2, w_irng3, w_izip, w_run, w_snil, w_scons, w_set, w_unp, w_seti, w_setf, w_exp, w_ret, w_retn, w_pass, w_ifs, w_loop, w_rais, w_try, wr_ok, wr_some, wr_none, wr_stuck, wr_bind, wr_quiet, wr_lift_ite, wr_ite, wo_ite, wo_next, wo_ret, wo_brk, wo_cnt, o_add, o_sub, o_mul, o_fdiv, o_mod, o_pow, o_neg, o_lt, o_le, o_gt, o_ge, o_eq, o_ne, o_eqs, o_nes, o_isB, o_notB, o_tbl, o_int, o_lst, decide_eq_true_eq, Bool.not_eq_true', decide_eq_false_iff_not, beq_iff_eq, List.map_cons, List.map_nil, List.length_cons, List.length_nil, List.replicate_succ, List.replicate_zero, List.cons_append, List.nil_append, List.getElem?_cons_zero, List.getElem?_cons_succ, List.set_cons_zero, List.set_cons_succ, Nat.reduceSub, Nat.reduceAdd, Nat.zero_add, Option.map_some, Option.map_none, c_na10, o_rng1, len_rng, len_lst, len_tup, Int.toNat_natCast, Int.reduceToNat, Int.reduceLE, Int.reduceLT, Nat.reducePow, Nat.reduceLT, and_self, if_true, if_false, ite_true, ite_false, true_and, and_true, reduceIte, l6, o2]
    have hm : lstAt (st ++ [Ob.lst [Val.int 31, Val.int 2, Val.int (10 ^ 8), Val.int (10 ^ 8), Val.int (10 ^ 8), Val.int (10 ^ 8)]] ++ [Ob.lst [[Val.int 31, Val.int 2, Val.int (10 ^ 8), Val.int (10 ^ 8), Val.int (10 ^ 8), Val.int (10 ^ 8)], [Val.int 31, Val.int 2, Val.int (10 ^ 8), Val.int (10 ^ 8), Val.int (10 ^ 8), Val.int (10 ^ 8)]].flatten])
        (List.length (st ++ [Ob.lst [Val.int 31, Val.int 2, Val.int (10 ^ 8), Val.int (10 ^ 8), Val.int (10 ^ 8), Val.int (10 ^ 8)]])) = some ((lim6 ++ lim6).map .int) := mut_lst mut_new
    refine wr_imp (draws_ok (d := d) (pre_lst (pre_app (pre_app pre_rfl _) _) hs) hm hp (by decide +kernel) (by decide)) ?_
    rintro _ s ⟨pre, ds, rfl, hds, hl, hb⟩
    refine ⟨(pre_app (pre_app pre_rfl _) _).trans pre, _, ds, rfl, ?_, hl, ?_⟩
    · unfold lstAt
      rw [hds]
    · intro a x hx
      have hlt := (List.getElem?_eq_some_iff.mp hx).1
      have hl2 : ds.length = 12 := hl
      have ha : a = 0 ∨ a = 1 := by omega
      rcases ha with rfl | rfl
      · exact hb 0 x 31 hx rfl
      · exact hb 6 x 31 hx rfl
  rintro _ s ⟨pre, m, ds, rfl, hds, hl, hb⟩
  have r2 : rngOk 2 = true := by decide
  have l0 : lineOk 0 = true := by decide
  simp only [w_varM, w_con, w_bin, w_neg, w_not, w_and, w_or, w_cmp, w_chain, w_ife, w_call, w_callp, w_star, w_blt, w_mth, w_idx, w_slc, w_lst, w_tup, w_tab, w_tin, w_dnew, w_rev, w_lc, w_lsc, w_dc, w_disp, w_get, w_fld, w_mk, w_meth, w_prop, w_nil, w_cons, w_onone, w_osome, w_tnone, w_tsome, w_tnot, w_tand, w_tor, w_tval, w_iex, w_irng1, w_irng2, w_irng3, w_izip, w_run, w_snil, w_scons, w_set, w_unp, w_seti, w_setf, w_exp, w_ret, w_retn, w_pass, w_ifs, w_loop, w_rais, w_try, wr_ok, wr_some, wr_none, wr_stuck, wr_bind, wr_quiet, wr_lift_ite, wr_ite, wo_ite, wo_next, wo_ret, wo_brk, wo_cnt, o_add, o_sub, o_mul, o_fdiv, o_mod, o_pow, o_neg, o_lt, o_le, o_gt, o_ge, o_eq, o_ne, o_eqs, o_nes, o_isB, o_notB, o_tbl, o_int, o_lst, decide_eq_true_eq, Bool.not_eq_true', decide_eq_false_iff_not, beq_iff_eq, List.map_cons, List.map_nil, List.length_cons, List.length_nil, List.replicate_succ, List.replicate_zero, List.cons_append, List.nil_append, List.getElem?_cons_zero, List.getElem?_cons_succ, List.set_cons_zero, List.set_cons_succ, Nat.reduceSub, Nat.reduceAdd, Nat.zero_add, Option.map_some, Option.map_none, c_na10, o_rng1, len_rng, len_lst, len_tup, Int.toNat_natCast, Int.reduceToNat, Int.reduceLE, Int.reduceLT, Nat.reducePow, Nat.reduceLT, and_self, if_true, if_false, ite_true, ite_false, true_and, and_true, reduceIte, l0, r2]
  refine for_rng (LongI n m s.length p 2 s) ⟨_, _, _, _, _, [], rfl, pre_app pre_rfl _, mut_new, rfl, fun x hx => absurd hx List.not_mem_nil⟩ ?_ ?_
  · rintro k _ s1 hk ⟨v, g, h, i, j, acc, rfl, pre1, hacc, hal, hsm⟩
    refine ⟨_, give_nm, ?_⟩
    simp only [List.set_cons_succ, List.set_cons_zero]
    exact long_turn hds hl (by decide) hb hk (by omega) (Nat.le_refl _) pre1 hacc hal hsm rfl
  · rintro _ s1 ⟨v, g, h, i, j, acc, rfl, pre1, hacc, hal, hsm⟩
    simp only [w_varM, w_con, w_bin, w_neg, w_not, w_and, w_or, w_cmp, w_chain, w_ife, w_call, w_callp, w_star, w_blt, w_mth, w_idx, w_slc, w_lst, w_tup, w_tab, w_tin, w_dnew, w_rev, w_lc, w_lsc, w_dc, w_disp, w_get, w_fld, w_mk, w_meth, w_prop, w_nil, w_cons, w_onone, w_osome, w_tnone, w_tsome, w_tnot, w_tand, w_tor, w_tval, w_iex, w_irng1, w_irng2, w_irng3, w_izip, w_run, w_snil, w_scons, w_set, w_unp, w_seti, w_setf, w_exp, w_ret, w_retn, w_pass, w_ifs, w_loop, w_rais, w_try, wr_ok, wr_some, wr_none, wr_stuck, wr_bind, wr_quiet, wr_lift_ite, wr_ite, wo_ite, wo_next, wo_ret, wo_brk, wo_cnt, o_add, o_sub, o_mul, o_fdiv, o_mod, o_pow, o_neg, o_lt, o_le, o_gt, o_ge, o_eq, o_ne, o_eqs, o_nes, o_isB, o_notB, o_tbl, o_int, o_lst, decide_eq_true_eq, Bool.not_eq_true', decide_eq_false_iff_not, beq_iff_eq, List.map_cons, List.map_nil, List.length_cons, List.length_nil, List.replicate_succ, List.replicate_zero, List.cons_append, List.nil_append, List.getElem?_cons_zero, List.getElem?_cons_succ, List.set_cons_zero, List.set_cons_succ, Nat.reduceSub, Nat.reduceAdd, Nat.zero_add, Option.map_some, Option.map_none, c_na10, o_rng1, len_rng, len_lst, len_tup, Int.toNat_natCast, Int.reduceToNat, Int.reduceLE, Int.reduceLT, Nat.reducePow, Nat.reduceLT, and_self, if_true, if_false, ite_true, ite_false, true_and, and_true, reduceIte]
    match acc, hal with
    | [x, y], _ => exact ⟨pre.trans pre1, _, x, y, rfl, mut_lst hacc, hsm x (by simp), hsm y (by simp)⟩
end EVL

/-! ## P8 -/
set_option maxRecDepth 10000
set_option maxHeartbeats 800000
namespace EVL
open PySem L2 EV
theorem sm_div {x : Int} (h : Sm 110 x) : Sm 120 (x / 10) := by
  have h1 : x.natAbs < 2 ^ 110 := h
  show (x / 10).natAbs < 2 ^ 120
  omega
theorem prod_ok {a b : Int} (ha : 0 ≤ a ∧ a < 10 ^ 8) (hb : 0 ≤ b ∧ b < 10 ^ 6) : mulOk a b = true ∧ -(2 ^ 64) < 1 + a * b ∧ 1 + a * b < 2 ^ 64 := by
  have h0 : 0 ≤ a * b := Int.mul_nonneg ha.1 hb.1
  have h1 : a * b ≤ 10 ^ 8 * b := Int.mul_le_mul_of_nonneg_right (by have := ha.2; omega) hb.1
  have h2 := hb.2
  exact ⟨mulOk_l ⟨by have := ha.1; omega, by have := ha.2; omega⟩, by omega, by omega⟩
theorem scale_ok {d n : Nat} {st : Store} {ns : List Int} {p : Int} (hs : lstAt st n = some (ns.map .int)) (hp : 0 ≤ p) :
    wr (clN (d + 4) id__law_scale [.ref n, .int p] st) (fun v st' => st <+: st' ∧ Scale v) noX := by
  show wr (runB (clN (d + 3)) 4 b__law_scale [.ref n, .int p] st) _ noX
  unfold b__law_scale
  rw [w_run]
  refine w_cut (fun ρ s => st <+: s ∧ ∃ (m : Nat) (a b c e f : Int), ρ = [some (.ref n), some (.int p), some (.ref m), none] ∧ lstAt s m = some (([a, b, c, e, f] : List Int).map .int) ∧ (0 ≤ b ∧ b < 10 ^ 8) ∧ (0 ≤ c ∧ c < 10 ^ 6) ∧ (0 ≤ e ∧ e < 10 ^ 8) ∧ (0 ≤ f ∧ f < 10 ^ 6)) ?_ ?_
  · have l5 : lineOk 5 = true := by decide
    simp only [w_varM, w_con, w_bin, w_neg, w_not, w_and, w_or, w_cmp, w_chain, w_ife, w_call, w_callp, w_star, w_blt, w_mth, w_idx, w_slc, w_lst, w_tup, w_tab, w_tin, w_dnew, w_rev, w_lc, w_lsc, w_dc, w_disp, w_get, w_fld, w_mk, w_meth, w_prop, w_nil, w_cons, w_onone, w_osome, w_tnone, w_tsome, w_tnot, w_tand, w_tor, w_tval, w_iex, w_irng1, w_irng2, w_irng3, w_izip, w_run, w_snil, w_scons, w_set, w_unp, w_seti, w_setf, w_exp, w_ret, w_retn, w_pass, w_ifs, w_loop, w_rais, w_try, wr_ok, wr_some, wr_none, wr_stuck, wr_bind, wr_quiet, wr_lift_ite, wr_ite, wo_ite, wo_next, wo_ret, wo_brk, wo_cnt, o_add, o_sub, o_mul, o_fdiv, o_mod, o_pow, o_neg, o_lt, o_le, o_gt, o_ge, o_eq, o_ne, o_eqs, o_nes, o_isB, o_notB, o_tbl, o_int, o_lst, decide_eq_true_eq, Bool.not_eq_true', decide_eq_false_iff_not, beq_iff_eq, List.map_cons, List.map_nil, List.length_cons, List.length_nil, List.replicate_succ, List.replicate_zero, List.cons_append, List.nil_append, List.getElem?_cons_zero, List.getElem?_cons_succ, List.set_cons_zero, List.set_cons_succ, Nat.reduceSub, Nat.reduceAdd, Nat.zero_add, Option.map_some, Option.map_none, c_na10, o_rng1, len_rng, len_lst, len_tup, Int.toNat_natCast, Int.reduceToNat, Int.reduceLE, Int.reduceLT, Nat.reducePow, Nat.reduceLT, and_self, if_true, if_false, ite_true, ite_false, true_and, and_true, reduceIte, l5]
    have hm : lstAt (st ++ [Ob.lst [Val.int 4, Val.int (10 ^ 8), Val.int (10 ^ 6), Val.int (10 ^ 8), Val.int (10 ^ 6)]]) st.length = some (([4, 10 ^ 8, 10 ^ 6, 10 ^ 8, 10 ^ 6] : List Int).map .int) := mut_lst mut_new
    refine wr_imp (draws_ok (d := d + 1) (pre_lst (pre_app pre_rfl _) hs) hm hp (by decide +kernel) (by decide)) ?_
    rintro _ s ⟨pre, ds, rfl, hds, hl, hb⟩
    match ds, hl with
    | [a, b, c, e, f], _ =>
      refine ⟨(pre_app pre_rfl _).trans pre, _, a, b, c, e, f, rfl, ?_, hb 1 b _ rfl rfl, hb 2 c _ rfl rfl, hb 3 e _ rfl rfl, hb 4 f _ rfl rfl⟩
      unfold lstAt
      rw [hds]
      rfl
  rintro _ s ⟨pre, m, a, b, c, e, f, rfl, hm, hb, hc, he, hf⟩
  refine w_cut (fun ρ s' => s <+: s' ∧ ∃ (q : Nat) (x y : Int), ρ = [some (.ref n), some (.int p), some (.ref m), some (.ref q)] ∧ lstAt s' q = some (([x, y] : List Int).map .int) ∧ Sm 110 x ∧ Sm 110 y) ?_ ?_
  · simp only [w_varM, w_con, w_bin, w_neg, w_not, w_and, w_or, w_cmp, w_chain, w_ife, w_call, w_callp, w_star, w_blt, w_mth, w_idx, w_slc, w_lst, w_tup, w_tab, w_tin, w_dnew, w_rev, w_lc, w_lsc, w_dc, w_disp, w_get, w_fld, w_mk, w_meth, w_prop, w_nil, w_cons, w_onone, w_osome, w_tnone, w_tsome, w_tnot, w_tand, w_tor, w_tval, w_iex, w_irng1, w_irng2, w_irng3, w_izip, w_run, w_snil, w_scons, w_set, w_unp, w_seti, w_setf, w_exp, w_ret, w_retn, w_pass, w_ifs, w_loop, w_rais, w_try, wr_ok, wr_some, wr_none, wr_stuck, wr_bind, wr_quiet, wr_lift_ite, wr_ite, wo_ite, wo_next, wo_ret, wo_brk, wo_cnt, o_add, o_sub, o_mul, o_fdiv, o_mod, o_pow, o_neg, o_lt, o_le, o_gt, o_ge, o_eq, o_ne, o_eqs, o_nes, o_isB, o_notB, o_tbl, o_int, o_lst, decide_eq_true_eq, Bool.not_eq_true', decide_eq_false_iff_not, beq_iff_eq, List.map_cons, List.map_nil, List.length_cons, List.length_nil, List.replicate_succ, List.replicate_zero, List.cons_append, List.nil_append, List.getElem?_cons_zero, List.getElem?_cons_succ, List.set_cons_zero, List.set_cons_succ, Nat.reduceSub, Nat.reduceAdd, Nat.zero_add, Option.map_some, Option.map_none, c_na10, o_rng1, len_rng, len_lst, len_tup, Int.toNat_natCast, Int.reduceToNat, Int.reduceLE, Int.reduceLT, Nat.reducePow, Nat.reduceLT, and_self, if_true, if_false, ite_true, ite_false, true_and, and_true, reduceIte]
    refine wr_imp (long_ok (d := d) (pre_lst pre hs) (by omega)) ?_
    rintro _ s1 ⟨pre1, q, x, y, rfl, hq, hx, hy⟩
    exact ⟨pre1, q, x, y, rfl, hq, hx, hy⟩
  rintro _ s1 ⟨pre1, q, x, y, rfl, hq, hx, hy⟩
  have hm1 := pre_lst pre1 hm
  have p1 := prod_ok hb hc
  have p2 := prod_ok he hf
  have a0 : atI (([a, b, c, e, f] : List Int).map Val.int) 0 = some (.int a) := ix_at (k := 0) rfl
  have a1 : atI (([a, b, c, e, f] : List Int).map Val.int) 1 = some (.int b) := ix_at (k := 1) rfl
  have a2 : atI (([a, b, c, e, f] : List Int).map Val.int) 2 = some (.int c) := ix_at (k := 2) rfl
  have a3 : atI (([a, b, c, e, f] : List Int).map Val.int) 3 = some (.int e) := ix_at (k := 3) rfl
  have a4 : atI (([a, b, c, e, f] : List Int).map Val.int) 4 = some (.int f) := ix_at (k := 4) rfl
  have q0 : atI (([x, y] : List Int).map Val.int) 0 = some (.int x) := ix_at (k := 0) rfl
  have q1 : atI (([x, y] : List Int).map Val.int) 1 = some (.int y) := ix_at (k := 1) rfl
  have i0 : idxV s1 (.ref m) (.int 0) = some (.int a) := (o_idx hm1).trans a0
  have i1 : idxV s1 (.ref m) (.int 1) = some (.int b) := (o_idx hm1).trans a1
  have i2 : idxV s1 (.ref m) (.int 2) = some (.int c) := (o_idx hm1).trans a2
  have i3 : idxV s1 (.ref m) (.int 3) = some (.int e) := (o_idx hm1).trans a3
  have i4 : idxV s1 (.ref m) (.int 4) = some (.int f) := (o_idx hm1).trans a4
  have j0 : idxV s1 (.ref q) (.int 0) = some (.int x) := (o_idx hq).trans q0
  have j1 : idxV s1 (.ref q) (.int 1) = some (.int y) := (o_idx hq).trans q1
  have f10 : (10 : Int).natAbs.log2 < 9000 := by decide
  have f10' : Nat.log2 10 < 9000 := by decide
  have l4 : lineOk 4 = true := by decide
  simp only [w_varM, w_con, w_bin, w_neg, w_not, w_and, w_or, w_cmp, w_chain, w_ife, w_call, w_callp, w_star, w_blt, w_mth, w_idx, w_slc, w_lst, w_tup, w_tab, w_tin, w_dnew, w_rev, w_lc, w_lsc, w_dc, w_disp, w_get, w_fld, w_mk, w_meth, w_prop, w_nil, w_cons, w_onone, w_osome, w_tnone, w_tsome, w_tnot, w_tand, w_tor, w_tval, w_iex, w_irng1, w_irng2, w_irng3, w_izip, w_run, w_snil, w_scons, w_set, w_unp, w_seti, w_setf, w_exp, w_ret, w_retn, w_pass, w_ifs, w_loop, w_rais, w_try, wr_ok, wr_some, wr_none, wr_stuck, wr_bind, wr_quiet, wr_lift_ite, wr_ite, wo_ite, wo_next, wo_ret, wo_brk, wo_cnt, o_add, o_sub, o_mul, o_fdiv, o_mod, o_pow, o_neg, o_lt, o_le, o_gt, o_ge, o_eq, o_ne, o_eqs, o_nes, o_isB, o_notB, o_tbl, o_int, o_lst, decide_eq_true_eq, Bool.not_eq_true', decide_eq_false_iff_not, beq_iff_eq, List.map_cons, List.map_nil, List.length_cons, List.length_nil, List.replicate_succ, List.replicate_zero, List.cons_append, List.nil_append, List.getElem?_cons_zero, List.getElem?_cons_succ, List.set_cons_zero, List.set_cons_succ, Nat.reduceSub, Nat.reduceAdd, Nat.zero_add, Option.map_some, Option.map_none, c_na10, o_rng1, len_rng, len_lst, len_tup, Int.toNat_natCast, Int.reduceToNat, Int.reduceLE, Int.reduceLT, Nat.reducePow, Nat.reduceLT, and_self, if_true, if_false, ite_true, ite_false, true_and, and_true, reduceIte, i0, i1, i2, i3, i4, j0, j1, f10, f10', l4, p1.1, p2.1]
  split
  · exact ⟨pre.trans pre1, _, _, _, _, rfl, ⟨by decide, by decide⟩, ⟨by decide, by decide⟩, sm0 _, sm0 _⟩
  · split
    · exact ⟨pre.trans pre1, _, _, _, _, rfl, ⟨by decide, by decide⟩, ⟨by decide, by decide⟩, sm_div hx, sm_div hy⟩
    · exact ⟨pre.trans pre1, _, _, _, _, rfl, p1.2, p2.2, sm_div hx, sm_div hy⟩
end EVL

/-! ## P9 -/
set_option maxRecDepth 10000
set_option maxHeartbeats 800000
namespace EVL
open PySem L2 EV
/-- what _law_draws hands on: numbers below the limits -/
def Drawn (st : Store) (m : Nat) (ls : List Int) : Prop := ∃ ds : List Int, lstAt st m = some (ds.map .int) ∧ ds.length = ls.length ∧ ∀ (i : Nat) (x l : Int), ds[i]? = some x → ls[i]? = some l → 0 ≤ x ∧ x < l
theorem Drawn.mono {st st' : Store} {m : Nat} {ls : List Int} (p : st <+: st') : Drawn st m ls → Drawn st' m ls := fun ⟨ds, h1, h2⟩ => ⟨ds, pre_lst p h1, h2⟩
/-- a call of _law_draws with a written list -/
theorem drawn {d n : Nat} {st : Store} {ns ls : List Int} {ρ : Fr} {p : Int} {a b e : Ex} (ha : ev (clN (d + 2)) a ρ st = .ok (.ref n) st) (hb : ev (clN (d + 2)) b ρ st = .ok (.int p) st) (hs : lstAt st n = some (ns.map .int)) (hp : 0 ≤ p) (he : lsE ρ e = some ls) (hl : (ls.all fun l => decide (0 < l ∧ l < 2 ^ 62)) = true) (hn : ls.length < 100000) :
    wr (ev (clN (d + 2)) (.call id__law_draws (.cons a (.cons b (.cons e .nil)))) ρ st) (fun v st' => st <+: st' ∧ ∃ m, v = .ref m ∧ Drawn st' m ls) noX := by
  rw [w_call, w_cons, ha, wr_ok, w_cons, hb, wr_ok, w_cons]
  refine wr_imp (lsE_ok e he) ?_
  rintro _ s1 ⟨p1, m, rfl, hm, h1⟩
  rw [w_nil]
  have hl' : ∀ l ∈ ls, 0 < l ∧ l < 2 ^ 62 := fun l h => of_decide_eq_true (List.all_eq_true.mp hl l h)
  refine wr_imp (draws_ok (d := d) (pre_lst p1 hs) (mut_lst h1) hp hl' hn) ?_
  rintro _ s2 ⟨p2, ds, rfl, h2, h3, h4⟩
  refine ⟨p1.trans p2, _, rfl, ds, ?_, h3, h4⟩
  unfold lstAt
  rw [h2]
theorem letters_at {i : Nat} (h : i < 26) : ("abcdefghijklmnopqrstuvwxyz" : Str).cps.toList[i]? = some (97 + i) := by
  have e : ("abcdefghijklmnopqrstuvwxyz" : Str).cps.toList = (List.range 26).map (97 + ·) := by decide +kernel
  rw [e, List.getElem?_map, List.getElem?_range h]
  rfl
theorem o_letter {st : Store} {x : Int} (h : 0 ≤ x ∧ x < 26) : idxV st (.str "abcdefghijklmnopqrstuvwxyz") (.int x) = some (.str ⟨#[97 + x.toNat]⟩) := by
  obtain ⟨k, rfl⟩ : ∃ k : Nat, x = k := ⟨x.toNat, by omega⟩
  have hk : k < 26 := by omega
  show (if lineOk ("abcdefghijklmnopqrstuvwxyz" : Str).length = true then (atI ("abcdefghijklmnopqrstuvwxyz" : Str).cps.toList (k : Int)).map _ else none) = _
  rw [if_pos (by decide +kernel), atI_nat (letters_at hk)]
  rfl
/-- signs of a name -/
def Signs (xs : List Int) : Prop := (1 ≤ xs.length ∧ xs.length ≤ 6) ∧ ∀ x ∈ xs, 0 ≤ x ∧ x < 26
def nameOf (xs : List Int) : Str := ⟨(xs.map fun x => 97 + x.toNat).toArray⟩
theorem nameOf_ok {xs : List Int} (h : Signs xs) : IsName (nameOf xs) := by
  refine ⟨?_, ?_, ?_⟩
  · show 1 ≤ ((xs.map fun x => 97 + x.toNat).toArray).size
    rw [List.size_toArray, List.length_map]; exact h.1.1
  · show ((xs.map fun x => 97 + x.toNat).toArray).size ≤ 6
    rw [List.size_toArray, List.length_map]; exact h.1.2
  · intro i c hc
    have hc : ((xs.map fun x => 97 + x.toNat).toArray)[i]? = some c := hc
    rw [List.getElem?_toArray, List.getElem?_map] at hc
    cases e : xs[i]? with
    | none => rw [e] at hc; cases hc
    | some x =>
      rw [e] at hc
      have hc : 97 + x.toNat = c := Option.some.inj hc
      have hx := h.2 x (List.mem_of_getElem? e)
      omega
/-- the name behind its first letter, with another one ahead -/
theorem other_ok {x : Str} {k : Nat} (h : IsName x) (hk : k < 26) : IsName ((⟨#[97 + k]⟩ : Str) ++ cutS x (some 1) none) := by
  have hl : x.length = x.cps.size := rfl
  have e1 : HT.sIx x.length 0 (some 1) = 1 := by
    have := h.lo
    rw [show (1 : Int) = ((1 : Nat) : Int) from rfl, HT.sIx_nat]
    omega
  have ec : (cutS x (some 1) none).cps = (x.cps.toList.drop 1).toArray := by
    unfold cutS
    show ((x.cps.toList.drop (HT.sIx x.length 0 (some 1))).take (HT.sIx x.length x.length none - HT.sIx x.length 0 (some 1))).toArray = _
    rw [e1]
    congr 1
    rw [List.take_of_length_le]
    rw [List.length_drop, Array.length_toList]
    exact Nat.le_refl _
  have ea : ((⟨#[97 + k]⟩ : Str) ++ cutS x (some 1) none).cps = ((97 + k) :: x.cps.toList.drop 1).toArray := by
    show #[97 + k] ++ (cutS x (some 1) none).cps = _
    rw [ec]
    simp
  have hs : ((97 + k) :: x.cps.toList.drop 1).length = x.cps.size := by
    rw [List.length_cons, List.length_drop, Array.length_toList]
    have := h.lo
    omega
  refine ⟨?_, ?_, ?_⟩
  · rw [ea, List.size_toArray, hs]; exact h.lo
  · rw [ea, List.size_toArray, hs]; exact h.hi
  · intro i c hc
    rw [ea, List.getElem?_toArray] at hc
    cases i with
    | zero => have hc : 97 + k = c := Option.some.inj hc; omega
    | succ i =>
      rw [List.getElem?_cons_succ, List.getElem?_drop, Array.getElem?_toList] at hc
      exact h.all _ _ hc
end EVL

/-! ## P10 -/
set_option maxRecDepth 10000
set_option maxHeartbeats 800000
namespace EVL
open PySem L2 EV
abbrev abc : Str := "abcdefghijklmnopqrstuvwxyz"
theorem flat_strs : ∀ acc : List Str, (acc.map Val.str).all flat = true
  | [] => rfl
  | x :: r => by
    show (flat (.str x) && (r.map Val.str).all flat) = true
    rw [flat_strs r]
    rfl
theorem mut_at {st : Store} {n : Nat} {vs : List Val} (h : mutAt st n = some vs) : st[n]? = some (.lst vs) := by
  unfold mutAt at h
  cases q : st[n]? with
  | none => rw [q] at h; cases h
  | some o => rw [q] at h; cases o <;> first | (cases h; rfl) | cases h
theorem o_in {st : Store} {q : Nat} {acc : List Str} {x : Str} (h : mutAt st q = some (acc.map .str)) : cmpV .inn (.str x) (.ref q) st = some ((acc.map Val.str).any fun w => eqF w (.str x)) := by
  have e : cmpV .inn (.str x) (.ref q) st = (match st[q]? with
    | some (.dct kvs) => some (kvs.any fun kv => decide (kv.1 = .inr x))
    | some (.lst vs) => if flat (.str x) && vs.all flat then some (vs.any fun w => eqF w (.str x)) else none
    | some (.fro vs) => if flat (.str x) && vs.all flat then some (vs.any fun w => eqF w (.str x)) else none
    | _ => none) := rfl
  rw [e, mut_at h]
  show (if flat (.str x) && (acc.map Val.str).all flat then _ else _) = _
  rw [flat_strs]
  rfl
theorem o_adds {st : Store} {x y : Str} (h : lineOk (x.length + y.length) = true) : binV .add (.str x) (.str y) st = some (.str (x ++ y), st) := if_pos h
theorem o_slcs {st : Store} {x : Str} {lo hi : Option Int} (h : lineOk x.length = true) : slcV (.str x) lo hi st = some (.str (cutS x lo hi), st) := if_pos h
theorem names_turn {cl : Cl} {st : Store} {a b c m k g : Option Val} {q s : Nat} {xs : List Int} {acc : List Str} {x : Str} {t : Option Val} {D : En} (hacc : mutAt st q = some (acc.map .str)) (hs : lstAt st s = some (xs.map .int)) (hx : Signs xs) (hn : IsName x)
    (hD : ∀ x' t, IsName x' → D.nx [a, b, c, some (.str abc), m, some (.ref q), k, some (.ref s), some (.str x'), t, g] st) :
    wo (forTurns (Tg.nm 9).give (EV.exs cl l__law_names_2) (.rng 0 26) 26 0 [a, b, c, some (.str abc), m, some (.ref q), k, some (.ref s), some (.str x), t, g] st) D := by
  refine for_rng (fun i ρ s' => st = s' ∧ ∃ x' t, IsName x' ∧ ρ = [a, b, c, some (.str abc), m, some (.ref q), k, some (.ref s), some (.str x'), t, g]) ⟨rfl, x, t, hn, rfl⟩ ?_ ?_
  · rintro i _ _ hi ⟨rfl, x', t', hx', rfl⟩
    refine ⟨_, give_nm, ?_⟩
    unfold l__law_names_2
    obtain ⟨x0, h0⟩ : ∃ x0, xs[0]? = some x0 := ⟨_, List.getElem?_eq_getElem (by have := hx.1.1; omega)⟩
    have i0 : atI (xs.map Val.int) 0 = some (.int x0) := ix_at (k := 0) h0
    have hl : lineOk x'.length = true := decide_eq_true (by have := hx'.hi; show x'.cps.size ≤ _; omega)
    simp only [w_varM, w_con, w_bin, w_neg, w_not, w_and, w_or, w_cmp, w_chain, w_ife, w_call, w_callp, w_star, w_blt, w_mth, w_idx, w_slc, w_lst, w_tup, w_tab, w_tin, w_dnew, w_rev, w_lc, w_lsc, w_dc, w_disp, w_get, w_fld, w_mk, w_meth, w_prop, w_nil, w_cons, w_onone, w_osome, w_tnone, w_tsome, w_tnot, w_tand, w_tor, w_tval, w_iex, w_irng1, w_irng2, w_irng3, w_izip, w_run, w_snil, w_scons, w_set, w_unp, w_seti, w_setf, w_exp, w_ret, w_retn, w_pass, w_ifs, w_loop, w_rais, w_try, wr_ok, wr_some, wr_none, wr_stuck, wr_bind, wr_quiet, wr_lift_ite, wr_ite, wo_ite, wo_next, wo_ret, wo_brk, wo_cnt, o_add, o_sub, o_mul, o_fdiv, o_mod, o_pow, o_neg, o_lt, o_le, o_gt, o_ge, o_eq, o_ne, o_eqs, o_nes, o_isB, o_notB, o_tbl, o_int, o_lst, decide_eq_true_eq, Bool.not_eq_true', decide_eq_false_iff_not, beq_iff_eq, List.map_cons, List.map_nil, List.length_cons, List.length_nil, List.replicate_succ, List.replicate_zero, List.cons_append, List.nil_append, List.getElem?_cons_zero, List.getElem?_cons_succ, List.set_cons_zero, List.set_cons_succ, Nat.reduceSub, Nat.reduceAdd, Nat.zero_add, Option.map_some, Option.map_none, c_na10, o_rng1, len_rng, len_lst, len_tup, Int.toNat_natCast, Int.reduceToNat, Int.reduceLE, Int.reduceLT, Nat.reducePow, Nat.reduceLT, and_self, if_true, if_false, ite_true, ite_false, true_and, and_true, reduceIte, o_in hacc, o_idx hs, i0, o_slcs hl]
    split
    · have ez : ∀ z : Int, 0 ≤ z % 26 ∧ z % 26 < 26 := fun z => ⟨Int.emod_nonneg _ (by decide), Int.emod_lt_of_pos _ (by decide)⟩
      have hz := ez (x0 + (0 + (i : Int)) + 1)
      have hz' := ez (x0 + (i : Int) + 1)
      have hk : lineOk (Str.length ⟨#[97 + ((x0 + (i : Int) + 1) % 26).toNat]⟩ + (cutS x' (some 1) none).length) = true := decide_eq_true (by
        have h1 := cutS_length x' (some 1) none
        have h2 := hx'.hi
        have h3 : x'.length = x'.cps.size := rfl
        show 1 + _ ≤ 16777216
        omega)
      have hk' : lineOk (Str.length ⟨#[97 + ((x0 + (0 + (i : Int)) + 1) % 26).toNat]⟩ + (cutS x' (some 1) none).length) = true := decide_eq_true (by
        have h1 := cutS_length x' (some 1) none
        have h2 := hx'.hi
        have h3 : x'.length = x'.cps.size := rfl
        show 1 + _ ≤ 16777216
        omega)
      have dd : (0 : Int) < 26 := by decide
      simp only [w_varM, w_con, w_bin, w_neg, w_not, w_and, w_or, w_cmp, w_chain, w_ife, w_call, w_callp, w_star, w_blt, w_mth, w_idx, w_slc, w_lst, w_tup, w_tab, w_tin, w_dnew, w_rev, w_lc, w_lsc, w_dc, w_disp, w_get, w_fld, w_mk, w_meth, w_prop, w_nil, w_cons, w_onone, w_osome, w_tnone, w_tsome, w_tnot, w_tand, w_tor, w_tval, w_iex, w_irng1, w_irng2, w_irng3, w_izip, w_run, w_snil, w_scons, w_set, w_unp, w_seti, w_setf, w_exp, w_ret, w_retn, w_pass, w_ifs, w_loop, w_rais, w_try, wr_ok, wr_some, wr_none, wr_stuck, wr_bind, wr_quiet, wr_lift_ite, wr_ite, wo_ite, wo_next, wo_ret, wo_brk, wo_cnt, o_add, o_sub, o_mul, o_fdiv, o_mod, o_pow, o_neg, o_lt, o_le, o_gt, o_ge, o_eq, o_ne, o_eqs, o_nes, o_isB, o_notB, o_tbl, o_int, o_lst, decide_eq_true_eq, Bool.not_eq_true', decide_eq_false_iff_not, beq_iff_eq, List.map_cons, List.map_nil, List.length_cons, List.length_nil, List.replicate_succ, List.replicate_zero, List.cons_append, List.nil_append, List.getElem?_cons_zero, List.getElem?_cons_succ, List.set_cons_zero, List.set_cons_succ, Nat.reduceSub, Nat.reduceAdd, Nat.zero_add, Option.map_some, Option.map_none, c_na10, o_rng1, len_rng, len_lst, len_tup, Int.toNat_natCast, Int.reduceToNat, Int.reduceLE, Int.reduceLT, Nat.reducePow, Nat.reduceLT, and_self, if_true, if_false, ite_true, ite_false, true_and, and_true, reduceIte, dd, o_letter hz, o_letter hz', o_adds hk, o_adds hk', o_slcs hl]
      exact ⟨_, _, other_ok hx' (by omega), rfl⟩
    · exact ⟨_, _, hx', rfl⟩
  · rintro _ _ ⟨rfl, x', t', hx', rfl⟩
    exact hD x' t' hx'
end EVL

/-! ## P11 -/
set_option maxRecDepth 10000
set_option maxHeartbeats 800000
namespace EVL
open PySem L2 EV
def nameLims (many : Nat) : List Int := 4 :: (List.replicate many [6, 26, 26, 26, 26, 26, 26]).flatten
theorem nameLims_len (many : Nat) : (nameLims many).length = 1 + 7 * many := by
  show ((List.replicate many [6, 26, 26, 26, 26, 26, 26]).flatten).length + 1 = _
  rw [len_rep]
  show many * 7 + 1 = _
  omega
theorem nameLims_at {many k j : Nat} (hk : k < many) (hj : j < 7) : (nameLims many)[1 + 7 * k + j]? = ([6, 26, 26, 26, 26, 26, 26] : List Int)[j]? := by
  have e : 1 + 7 * k + j = (7 * k + j) + 1 := by omega
  rw [e]
  show ((List.replicate many ([6, 26, 26, 26, 26, 26, 26] : List Int)).flatten)[7 * k + j]? = _
  exact at_rep many k j hk hj
/-- the turns' frame -/
def NamesI (n m q many : Nat) (p : Int) (st : Store) (k : Nat) (ρ : Fr) (s : Store) : Prop := ∃ (a b c d e : Option Val) (acc : List Str), ρ = [some (.ref n), some (.int p), some (.int many), some (.str abc), some (.ref m), some (.ref q), a, b, c, d, e] ∧ st <+: s ∧ mutAt s q = some (acc.map .str) ∧ acc.length = k ∧ ∀ x ∈ acc, IsName x
/-- the signs' list: a new list of these ints -/
theorem signs_mod {cl : Cl} {ρ : Fr} {st : Store} {s : Nat} {xs : List Int} (hρ : ρ.length = 11) (h7 : ρ[7]? = some (some (.ref s))) (hs : lstAt st s = some (xs.map .int)) (hl : xs.length < 100) :
    wr (ev cl (.lc x__law_names_0 (.nm 10) (.ex (.var 7)) .none [10]) ρ st) (fun v st' => st <+: st' ∧ v = .ref st.length ∧ lstAt st' st.length = some ((xs.map (· % 2)).map .int)) noX := by
  rw [w_lc, w_iex, w_var h7, wr_ok, o_wk hs, wr_ok]
  rw [List.length_map]
  refine lc_of (w := .lst s xs.length) (n := xs.length) rfl (fun i s' acc => acc = ((xs.take i).map (· % 2)).map .int ∧ st <+: s' ∧ mutAt s' st.length = some acc) ?_ ?_ xs.length 0 _ [] (Nat.zero_add _) ⟨rfl, pre_app pre_rfl _, mut_new⟩
  · rintro i s' _ hi ⟨rfl, pre, hm⟩
    have hv : xs[i]? = some xs[i] := List.getElem?_eq_getElem hi
    have hv' : (xs.map Val.int)[i]? = some (.int xs[i]) := by rw [List.getElem?_map, hv]; rfl
    refine ⟨.int xs[i], _, item_lst (List.length_map _) (pre_lst pre hs) hv', give_nm, ?_⟩
    unfold x__law_names_0
    have e10 : ((wipeF ρ [10]).set 10 (some (Val.int xs[i])))[10]? = some (some (.int xs[i])) := by
      show ((ρ.set 10 none).set 10 (some (Val.int xs[i])))[10]? = _
      rw [List.getElem?_set_self (by rw [List.length_set, hρ]; decide)]
    have d2 : (0 : Int) < 2 := by decide
    simp only [w_varM, w_con, w_bin, w_neg, w_not, w_and, w_or, w_cmp, w_chain, w_ife, w_call, w_callp, w_star, w_blt, w_mth, w_idx, w_slc, w_lst, w_tup, w_tab, w_tin, w_dnew, w_rev, w_lc, w_lsc, w_dc, w_disp, w_get, w_fld, w_mk, w_meth, w_prop, w_nil, w_cons, w_onone, w_osome, w_tnone, w_tsome, w_tnot, w_tand, w_tor, w_tval, w_iex, w_irng1, w_irng2, w_irng3, w_izip, w_run, w_snil, w_scons, w_set, w_unp, w_seti, w_setf, w_exp, w_ret, w_retn, w_pass, w_ifs, w_loop, w_rais, w_try, wr_ok, wr_some, wr_none, wr_stuck, wr_bind, wr_quiet, wr_lift_ite, wr_ite, wo_ite, wo_next, wo_ret, wo_brk, wo_cnt, o_add, o_sub, o_mul, o_fdiv, o_mod, o_pow, o_neg, o_lt, o_le, o_gt, o_ge, o_eq, o_ne, o_eqs, o_nes, o_isB, o_notB, o_tbl, o_int, o_lst, decide_eq_true_eq, Bool.not_eq_true', decide_eq_false_iff_not, beq_iff_eq, List.map_cons, List.map_nil, List.length_cons, List.length_nil, List.replicate_succ, List.replicate_zero, List.cons_append, List.nil_append, List.getElem?_cons_zero, List.getElem?_cons_succ, List.set_cons_zero, List.set_cons_succ, Nat.reduceSub, Nat.reduceAdd, Nat.zero_add, Option.map_some, Option.map_none, c_na10, o_rng1, len_rng, len_lst, len_tup, Int.toNat_natCast, Int.reduceToNat, Int.reduceLE, Int.reduceLT, Nat.reducePow, Nat.reduceLT, and_self, if_true, if_false, ite_true, ite_false, true_and, and_true, reduceIte, e10, d2]
    refine ⟨hm, by rw [List.length_map, List.length_map, List.length_take]; omega, ?_, pre_set pre (Nat.le_refl _), mut_set hm⟩
    rw [List.map_map, List.map_map]
    exact take_snoc hv
  · rintro s' _ ⟨rfl, pre, hm⟩
    rw [List.take_length] at hm
    exact ⟨fits_lst (List.length_map _) (pre_lst pre hs), pre, rfl, mut_lst hm⟩
theorem signs_name {cl : Cl} {ρ : Fr} {st : Store} {s : Nat} {xs : List Int} (hρ : ρ.length = 11) (h3 : ρ[3]? = some (some (.str abc))) (h7 : ρ[7]? = some (some (.ref s))) (hs : lstAt st s = some (xs.map .int)) (hx : Signs xs) :
    wr (ev cl (.mth .join (.con (.str ("" : Str))) (.cons (.lc x__law_names_1 (.nm 10) (.ex (.var 7)) .none [10]) .nil)) ρ st) (fun v st' => st <+: st' ∧ v = .str (nameOf xs)) noX := by
  have hr : rcv .join (.str ("" : Str)) st = true := rfl
  rw [w_mth, w_con, if_pos hr, w_cons]
  rw [w_lc, w_iex, w_var h7, wr_ok, o_wk hs, wr_ok, List.length_map]
  refine lc_of (w := .lst s xs.length) (n := xs.length) rfl (fun i s' acc => acc = ((xs.take i).map fun x => (⟨#[97 + x.toNat]⟩ : Str)).map .str ∧ st <+: s' ∧ mutAt s' st.length = some acc) ?_ ?_ xs.length 0 _ [] (Nat.zero_add _) ⟨rfl, pre_app pre_rfl _, mut_new⟩
  · rintro i s' _ hi ⟨rfl, pre, hm⟩
    have hv : xs[i]? = some xs[i] := List.getElem?_eq_getElem hi
    have hv' : (xs.map Val.int)[i]? = some (.int xs[i]) := by rw [List.getElem?_map, hv]; rfl
    refine ⟨.int xs[i], _, item_lst (List.length_map _) (pre_lst pre hs) hv', give_nm, ?_⟩
    unfold x__law_names_1
    have e10 : ((wipeF ρ [10]).set 10 (some (Val.int xs[i])))[10]? = some (some (.int xs[i])) := by
      show ((ρ.set 10 none).set 10 (some (Val.int xs[i])))[10]? = _
      rw [List.getElem?_set_self (by rw [List.length_set, hρ]; decide)]
    have e3 : ((wipeF ρ [10]).set 10 (some (Val.int xs[i])))[3]? = some (some (.str abc)) := by
      show ((ρ.set 10 none).set 10 (some (Val.int xs[i])))[3]? = _
      rw [List.getElem?_set_ne (by decide), List.getElem?_set_ne (by decide)]
      exact h3
    have hb := hx.2 _ (List.getElem_mem hi)
    simp only [w_varM, w_con, w_bin, w_neg, w_not, w_and, w_or, w_cmp, w_chain, w_ife, w_call, w_callp, w_star, w_blt, w_mth, w_idx, w_slc, w_lst, w_tup, w_tab, w_tin, w_dnew, w_rev, w_lc, w_lsc, w_dc, w_disp, w_get, w_fld, w_mk, w_meth, w_prop, w_nil, w_cons, w_onone, w_osome, w_tnone, w_tsome, w_tnot, w_tand, w_tor, w_tval, w_iex, w_irng1, w_irng2, w_irng3, w_izip, w_run, w_snil, w_scons, w_set, w_unp, w_seti, w_setf, w_exp, w_ret, w_retn, w_pass, w_ifs, w_loop, w_rais, w_try, wr_ok, wr_some, wr_none, wr_stuck, wr_bind, wr_quiet, wr_lift_ite, wr_ite, wo_ite, wo_next, wo_ret, wo_brk, wo_cnt, o_add, o_sub, o_mul, o_fdiv, o_mod, o_pow, o_neg, o_lt, o_le, o_gt, o_ge, o_eq, o_ne, o_eqs, o_nes, o_isB, o_notB, o_tbl, o_int, o_lst, decide_eq_true_eq, Bool.not_eq_true', decide_eq_false_iff_not, beq_iff_eq, List.map_cons, List.map_nil, List.length_cons, List.length_nil, List.replicate_succ, List.replicate_zero, List.cons_append, List.nil_append, List.getElem?_cons_zero, List.getElem?_cons_succ, List.set_cons_zero, List.set_cons_succ, Nat.reduceSub, Nat.reduceAdd, Nat.zero_add, Option.map_some, Option.map_none, c_na10, o_rng1, len_rng, len_lst, len_tup, Int.toNat_natCast, Int.reduceToNat, Int.reduceLE, Int.reduceLT, Nat.reducePow, Nat.reduceLT, and_self, if_true, if_false, ite_true, ite_false, true_and, and_true, reduceIte, e10, e3, o_letter hb]
    refine ⟨hm, by have := hx.1.2; rw [List.length_map, List.length_map, List.length_take]; omega, ?_, pre_set pre (Nat.le_refl _), mut_set hm⟩
    rw [List.map_map, List.map_map]
    exact take_snoc hv
  · rintro s' _ ⟨rfl, pre, hm⟩
    rw [List.take_length] at hm
    refine ⟨fits_lst (List.length_map _) (pre_lst pre hs), ?_⟩
    rw [w_nil, o_join (mut_lst hm) ?_, wr_some]
    · refine ⟨pre, ?_⟩
      have ej : Txt.join ("" : Str) (xs.map fun x => (⟨#[97 + x.toNat]⟩ : Str)) = nameOf xs := by
        have e1 : (xs.map fun x => (⟨#[97 + x.toNat]⟩ : Str)) = (xs.map fun x => 97 + x.toNat).map fun c => (⟨#[c]⟩ : Str) := by rw [List.map_map]; rfl
        rw [e1]
        exact (StrLaws.glued_eq_join _ _).trans (join_one _)
      rw [ej]
    · have e0 : ("" : Str).length = 0 := rfl
      rw [e0, Nat.mul_zero, Nat.add_zero, List.map_map]
      have : ((fun x : Str => x.length) ∘ fun x : Int => (⟨#[97 + x.toNat]⟩ : Str)) = fun _ => 1 := rfl
      rw [this, List.map_const', List.sum_replicate_nat]
      have := hx.1.2
      omega
end EVL

/-! ## P12 -/
set_option maxRecDepth 10000
set_option maxHeartbeats 800000
namespace EVL
open PySem L2 EV
theorem lims_take {ds ls : List Int} (h : ∀ (i : Nat) (x l : Int), ds[i]? = some x → ls[i]? = some l → 0 ≤ x ∧ x < l) {i : Nat} {l : Int} (hl : ls[i]? = some l) (he : ds.length = ls.length) : ∃ x, ds[i]? = some x ∧ 0 ≤ x ∧ x < l := by
  have hi := (List.getElem?_eq_some_iff.mp hl).1
  exact ⟨_, List.getElem?_eq_getElem (by omega), h i _ l (List.getElem?_eq_getElem (by omega)) hl⟩
theorem names_step {cl : Cl} {st st1 : Store} {n m q many : Nat} {p K : Int} {ds : List Int} {b c d e : Option Val} {acc : List Str} {k : Nat} {D : En} (hds : lstAt st m = some (ds.map .int)) (hlen : ds.length = (nameLims many).length) (hmany : many < 1000) (hb : ∀ (i : Nat) (x l : Int), ds[i]? = some x → (nameLims many)[i]? = some l → 0 ≤ x ∧ x < l)
    (hk : k < many) (hK : K = k) (hq : st.length ≤ q) (pre : st <+: st1) (hacc : mutAt st1 q = some (acc.map .str)) (hal : acc.length = k) (hn : ∀ x ∈ acc, IsName x) (hD : D.nx = NamesI n m q many p st (k + 1)) :
    wo (EV.exs cl l__law_names_3 [some (.ref n), some (.int p), some (.int many), some (.str abc), some (.ref m), some (.ref q), some (.int K), b, c, d, e] st1) D := by
  unfold l__law_names_3
  have hm1 : lstAt st1 m = some (ds.map .int) := pre_lst pre hds
  have hL := nameLims_len many
  obtain ⟨x0, h0⟩ : ∃ x0, ds[0]? = some x0 := ⟨_, List.getElem?_eq_getElem (by omega)⟩
  obtain ⟨c1, h1, c0, c6⟩ := lims_take hb (nameLims_at (j := 0) hk (by decide)) hlen
  have h1 : ds[1 + 7 * k]? = some c1 := h1
  obtain ⟨w, rfl⟩ : ∃ w : Nat, c1 = w := ⟨c1.toNat, by omega⟩
  have hw : w < 6 := by omega
  have i0 : atI (ds.map Val.int) 0 = some (.int x0) := ix_at (k := 0) h0
  have i1 : atI (ds.map Val.int) (1 + 7 * K) = some (.int w) := by
    rw [hK, show (1 + 7 * (k : Int)) = ((1 + 7 * k : Nat) : Int) by omega]
    exact ix_at h1
  have m7 : mulOk 7 K = true := mulOk_l ⟨by decide, by decide⟩
  have hcut : EV.cut ds (some (2 + 7 * K)) (some (3 + 7 * K + (w : Int))) = (ds.drop (2 + 7 * k)).take (w + 1) := by
    rw [hK, show (2 + 7 * (k : Int)) = ((2 + 7 * k : Nat) : Int) by omega, show (3 + 7 * (k : Int) + (w : Int)) = ((3 + 7 * k + w : Nat) : Int) by omega, cut_nat (by omega) (by omega)]
    congr 1
    omega
  have hsg : Signs ((ds.drop (2 + 7 * k)).take (w + 1)) := by
    have hln : ((ds.drop (2 + 7 * k)).take (w + 1)).length = w + 1 := len_piece (by omega)
    refine ⟨⟨by omega, by omega⟩, fun x hx => ?_⟩
    obtain ⟨j, hj⟩ := List.getElem?_of_mem hx
    have hjl := (List.getElem?_eq_some_iff.mp hj).1
    rw [at_piece (by omega)] at hj
    have e26 : (nameLims many)[2 + 7 * k + j]? = some 26 := by
      rw [show 2 + 7 * k + j = 1 + 7 * k + (j + 1) by omega, nameLims_at hk (by omega)]
      have hj6 : j < 6 := by omega
      revert hj6
      match j with
      | 0 | 1 | 2 | 3 | 4 | 5 => intro _; rfl
      | j + 6 => intro z; omega
    exact hb _ _ _ hj e26
  -- the signs
  refine w_cut (fun ρ s' => st1 <+: s' ∧ ∃ (u : Nat) (xs : List Int), Signs xs ∧ lstAt s' u = some (xs.map .int) ∧ ρ = [some (.ref n), some (.int p), some (.int many), some (.str abc), some (.ref m), some (.ref q), some (.int K), some (.ref u), c, d, e]) ?_ ?_
  · simp only [w_varM, w_con, w_bin, w_neg, w_not, w_and, w_or, w_cmp, w_chain, w_ife, w_call, w_callp, w_star, w_blt, w_mth, w_idx, w_slc, w_lst, w_tup, w_tab, w_tin, w_dnew, w_rev, w_lc, w_lsc, w_dc, w_disp, w_get, w_fld, w_mk, w_meth, w_prop, w_nil, w_cons, w_onone, w_osome, w_tnone, w_tsome, w_tnot, w_tand, w_tor, w_tval, w_iex, w_irng1, w_irng2, w_irng3, w_izip, w_run, w_snil, w_scons, w_set, w_unp, w_seti, w_setf, w_exp, w_ret, w_retn, w_pass, w_ifs, w_loop, w_rais, w_try, wr_ok, wr_some, wr_none, wr_stuck, wr_bind, wr_quiet, wr_lift_ite, wr_ite, wo_ite, wo_next, wo_ret, wo_brk, wo_cnt, o_add, o_sub, o_mul, o_fdiv, o_mod, o_pow, o_neg, o_lt, o_le, o_gt, o_ge, o_eq, o_ne, o_eqs, o_nes, o_isB, o_notB, o_tbl, o_int, o_lst, decide_eq_true_eq, Bool.not_eq_true', decide_eq_false_iff_not, beq_iff_eq, List.map_cons, List.map_nil, List.length_cons, List.length_nil, List.replicate_succ, List.replicate_zero, List.cons_append, List.nil_append, List.getElem?_cons_zero, List.getElem?_cons_succ, List.set_cons_zero, List.set_cons_succ, Nat.reduceSub, Nat.reduceAdd, Nat.zero_add, Option.map_some, Option.map_none, c_na10, o_rng1, len_rng, len_lst, len_tup, Int.toNat_natCast, Int.reduceToNat, Int.reduceLE, Int.reduceLT, Nat.reducePow, Nat.reduceLT, and_self, if_true, if_false, ite_true, ite_false, true_and, and_true, reduceIte, m7, o_idx hm1, i1, o_slcL hm1]
    rw [cut_ints, hcut]
    exact ⟨pre_app pre_rfl _, _, _, hsg, mut_lst mut_new, rfl⟩
  rintro _ s1 ⟨pre1, u, xs, hxs, hu, rfl⟩
  have hm2 := pre_lst pre1 hm1
  refine w_cut (fun ρ s' => s1 <+: s' ∧ ∃ (u : Nat) (xs : List Int), Signs xs ∧ lstAt s' u = some (xs.map .int) ∧ ρ = [some (.ref n), some (.int p), some (.int many), some (.str abc), some (.ref m), some (.ref q), some (.int K), some (.ref u), c, d, e]) ?_ ?_
  · rw [w_ifT (t_idx_eq (k := 0) rfl hm2 i0)]
    split
    · rw [w_one, w_set]
      refine wr_imp (signs_mod rfl rfl hu (by have := hxs.1.2; omega)) ?_
      rintro _ s2 ⟨pre2, rfl, hs2⟩
      refine ⟨pre2, _, _, ⟨by rw [List.length_map]; exact hxs.1, fun x hx => ?_⟩, hs2, rfl⟩
      obtain ⟨y, hy, rfl⟩ := List.mem_map.mp hx
      have a1 : 0 ≤ y % 2 := Int.emod_nonneg _ (by decide)
      have a2 : y % 2 < 2 := Int.emod_lt_of_pos _ (by decide)
      exact ⟨a1, by omega⟩
    · rw [w_snil]
      exact ⟨pre_rfl, _, _, hxs, hu, rfl⟩
  clear hxs hu
  rintro _ s2 ⟨pre2, u, xs, hxs, hu, rfl⟩
  refine w_cut (fun ρ s' => s2 <+: s' ∧ ρ = [some (.ref n), some (.int p), some (.int many), some (.str abc), some (.ref m), some (.ref q), some (.int K), some (.ref u), some (.str (nameOf xs)), d, e]) ?_ ?_
  · rw [w_set]
    refine wr_imp (signs_name rfl rfl rfl hu hxs) ?_
    rintro _ s3 ⟨pre3, rfl⟩
    exact ⟨pre3, rfl⟩
  rintro _ s3 ⟨pre3, rfl⟩
  have hu3 := pre_lst pre3 hu
  have ha3 := mut_pre (pre1.trans (pre2.trans pre3)) hacc
  refine w_cut (fun ρ s' => s3 = s' ∧ ∃ x t, IsName x ∧ ρ = [some (.ref n), some (.int p), some (.int many), some (.str abc), some (.ref m), some (.ref q), some (.int K), some (.ref u), some (.str x), t, e]) ?_ ?_
  · have r26 : rngOk 26 = true := by decide
    simp only [w_varM, w_con, w_bin, w_neg, w_not, w_and, w_or, w_cmp, w_chain, w_ife, w_call, w_callp, w_star, w_blt, w_mth, w_idx, w_slc, w_lst, w_tup, w_tab, w_tin, w_dnew, w_rev, w_lc, w_lsc, w_dc, w_disp, w_get, w_fld, w_mk, w_meth, w_prop, w_nil, w_cons, w_onone, w_osome, w_tnone, w_tsome, w_tnot, w_tand, w_tor, w_tval, w_iex, w_irng1, w_irng2, w_irng3, w_izip, w_run, w_snil, w_scons, w_set, w_unp, w_seti, w_setf, w_exp, w_ret, w_retn, w_pass, w_ifs, w_loop, w_rais, w_try, wr_ok, wr_some, wr_none, wr_stuck, wr_bind, wr_quiet, wr_lift_ite, wr_ite, wo_ite, wo_next, wo_ret, wo_brk, wo_cnt, o_add, o_sub, o_mul, o_fdiv, o_mod, o_pow, o_neg, o_lt, o_le, o_gt, o_ge, o_eq, o_ne, o_eqs, o_nes, o_isB, o_notB, o_tbl, o_int, o_lst, decide_eq_true_eq, Bool.not_eq_true', decide_eq_false_iff_not, beq_iff_eq, List.map_cons, List.map_nil, List.length_cons, List.length_nil, List.replicate_succ, List.replicate_zero, List.cons_append, List.nil_append, List.getElem?_cons_zero, List.getElem?_cons_succ, List.set_cons_zero, List.set_cons_succ, Nat.reduceSub, Nat.reduceAdd, Nat.zero_add, Option.map_some, Option.map_none, c_na10, o_rng1, len_rng, len_lst, len_tup, Int.toNat_natCast, Int.reduceToNat, Int.reduceLE, Int.reduceLT, Nat.reducePow, Nat.reduceLT, and_self, if_true, if_false, ite_true, ite_false, true_and, and_true, reduceIte, r26]
    exact names_turn ha3 hu3 hxs (nameOf_ok hxs) fun x' t h => ⟨rfl, x', t, h, rfl⟩
  rintro _ _ ⟨rfl, x, t, hx, rfl⟩
  have hsm : (acc.map Val.str).length < 16777216 := by rw [List.length_map]; omega
  simp only [w_varM, w_con, w_bin, w_neg, w_not, w_and, w_or, w_cmp, w_chain, w_ife, w_call, w_callp, w_star, w_blt, w_mth, w_idx, w_slc, w_lst, w_tup, w_tab, w_tin, w_dnew, w_rev, w_lc, w_lsc, w_dc, w_disp, w_get, w_fld, w_mk, w_meth, w_prop, w_nil, w_cons, w_onone, w_osome, w_tnone, w_tsome, w_tnot, w_tand, w_tor, w_tval, w_iex, w_irng1, w_irng2, w_irng3, w_izip, w_run, w_snil, w_scons, w_set, w_unp, w_seti, w_setf, w_exp, w_ret, w_retn, w_pass, w_ifs, w_loop, w_rais, w_try, wr_ok, wr_some, wr_none, wr_stuck, wr_bind, wr_quiet, wr_lift_ite, wr_ite, wo_ite, wo_next, wo_ret, wo_brk, wo_cnt, o_add, o_sub, o_mul, o_fdiv, o_mod, o_pow, o_neg, o_lt, o_le, o_gt, o_ge, o_eq, o_ne, o_eqs, o_nes, o_isB, o_notB, o_tbl, o_int, o_lst, decide_eq_true_eq, Bool.not_eq_true', decide_eq_false_iff_not, beq_iff_eq, List.map_cons, List.map_nil, List.length_cons, List.length_nil, List.replicate_succ, List.replicate_zero, List.cons_append, List.nil_append, List.getElem?_cons_zero, List.getElem?_cons_succ, List.set_cons_zero, List.set_cons_succ, Nat.reduceSub, Nat.reduceAdd, Nat.zero_add, Option.map_some, Option.map_none, c_na10, o_rng1, len_rng, len_lst, len_tup, Int.toNat_natCast, Int.reduceToNat, Int.reduceLE, Int.reduceLT, Nat.reducePow, Nat.reduceLT, and_self, if_true, if_false, ite_true, ite_false, true_and, and_true, reduceIte, o_rapp ha3, o_app ha3, hsm]
  rw [hD]
  refine ⟨_, _, _, _, _, acc ++ [x], rfl, pre_set (pre.trans (pre1.trans (pre2.trans pre3))) hq, ?_, by rw [List.length_append, hal]; rfl, ?_⟩
  · rw [List.map_append]
    exact mut_set ha3
  · intro y hy
    rcases List.mem_append.mp hy with hy | hy
    · exact hn y hy
    · rw [List.mem_singleton] at hy
      subst hy
      exact hx
theorem lims_names {n many : Nat} {p : Int} (hmany : many < 1000) : lsE [some (Val.ref n), some (.int p), some (.int many), some (.str abc), none, none, none, none, none, none, none] (.bin .add (.lst (.cons (.con (.int 4)) .nil)) (.bin .mul (.lst (.cons (.con (.int 6)) (.cons (.con (.int 26)) (.cons (.con (.int 26)) (.cons (.con (.int 26)) (.cons (.con (.int 26)) (.cons (.con (.int 26)) (.cons (.con (.int 26)) .nil)))))))) (.var 2))) = some (nameLims many) := by
  refine lsE_add (xs := [4]) (ys := (List.replicate many [6, 26, 26, 26, 26, 26, 26]).flatten) rfl ?_ ?_
  · have h := lsE_mul (ρ := [some (Val.ref n), some (.int p), some (.int many), some (.str abc), none, none, none, none, none, none, none]) (a := .lst (.cons (.con (.int 6)) (.cons (.con (.int 26)) (.cons (.con (.int 26)) (.cons (.con (.int 26)) (.cons (.con (.int 26)) (.cons (.con (.int 26)) (.cons (.con (.int 26)) .nil)))))))) (b := .var 2) (xs := [6, 26, 26, 26, 26, 26, 26]) (k := (many : Int)) rfl rfl (by omega) (by show 7 * (many : Int).toNat ≤ _; omega)
    rw [Int.toNat_natCast] at h
    exact h
  · rw [len_rep]
    show 1 + many * 7 ≤ _
    omega
/-- names -/
def Names (st : Store) (q many : Nat) : Prop := ∃ xs : List Str, lstAt st q = some (xs.map .str) ∧ xs.length = many ∧ ∀ x ∈ xs, IsName x
theorem names_ok {d n many : Nat} {st : Store} {ns : List Int} {p : Int} (hs : lstAt st n = some (ns.map .int)) (hp : 0 ≤ p) (hmany : many < 1000) :
    wr (clN (d + 3) id__law_names [.ref n, .int p, .int many] st) (fun v st' => st <+: st' ∧ ∃ q, v = .ref q ∧ Names st' q many) noX := by
  show wr (runB (clN (d + 2)) 11 b__law_names [.ref n, .int p, .int many] st) _ noX
  unfold b__law_names
  rw [w_run]
  refine w_cut (fun ρ s => st = s ∧ ρ = [some (.ref n), some (.int p), some (.int many), some (.str abc), none, none, none, none, none, none, none]) (by rw [w_set, w_con]; exact ⟨rfl, rfl⟩) ?_
  rintro _ _ ⟨rfl, rfl⟩
  refine w_cut (fun ρ s => st <+: s ∧ ∃ m, Drawn s m (nameLims many) ∧ ρ = [some (.ref n), some (.int p), some (.int many), some (.str abc), some (.ref m), none, none, none, none, none, none]) ?_ ?_
  · rw [w_set]
    have hb1 : lineOk (7 * many) = true := decide_eq_true (by omega)
    have hb2 : lineOk (1 + 7 * many) = true := decide_eq_true (by omega)
    have e3 := lims_names (n := n) (p := p) hmany
    refine wr_imp (drawn (d := d) (a := .var 0) (b := .var 1) (p := p) (n := n) rfl rfl hs hp e3 ?_ (by rw [nameLims_len]; omega)) ?_
    · rw [List.all_eq_true]
      intro l hl
      rcases List.mem_cons.mp hl with rfl | hl
      · decide
      · obtain ⟨L, hL, hl⟩ := List.mem_flatten.mp hl
        rw [(List.mem_replicate.mp hL).2] at hl
        have h7 : ∀ l ∈ ([6, 26, 26, 26, 26, 26, 26] : List Int), decide (0 < l ∧ l < 2 ^ 62) = true := by decide
        exact h7 l hl
    · rintro _ s ⟨pre, m, rfl, hm⟩
      exact ⟨pre, m, hm, rfl⟩
  rintro _ s ⟨pre, m, ⟨ds, hds, hlen, hb⟩, rfl⟩
  have l0 : lineOk 0 = true := by decide
  have hr : rngOk (many : Int) = true := rng_ok ⟨by omega, by omega⟩
  simp only [w_varM, w_con, w_bin, w_neg, w_not, w_and, w_or, w_cmp, w_chain, w_ife, w_call, w_callp, w_star, w_blt, w_mth, w_idx, w_slc, w_lst, w_tup, w_tab, w_tin, w_dnew, w_rev, w_lc, w_lsc, w_dc, w_disp, w_get, w_fld, w_mk, w_meth, w_prop, w_nil, w_cons, w_onone, w_osome, w_tnone, w_tsome, w_tnot, w_tand, w_tor, w_tval, w_iex, w_irng1, w_irng2, w_irng3, w_izip, w_run, w_snil, w_scons, w_set, w_unp, w_seti, w_setf, w_exp, w_ret, w_retn, w_pass, w_ifs, w_loop, w_rais, w_try, wr_ok, wr_some, wr_none, wr_stuck, wr_bind, wr_quiet, wr_lift_ite, wr_ite, wo_ite, wo_next, wo_ret, wo_brk, wo_cnt, o_add, o_sub, o_mul, o_fdiv, o_mod, o_pow, o_neg, o_lt, o_le, o_gt, o_ge, o_eq, o_ne, o_eqs, o_nes, o_isB, o_notB, o_tbl, o_int, o_lst, decide_eq_true_eq, Bool.not_eq_true', decide_eq_false_iff_not, beq_iff_eq, List.map_cons, List.map_nil, List.length_cons, List.length_nil, List.replicate_succ, List.replicate_zero, List.cons_append, List.nil_append, List.getElem?_cons_zero, List.getElem?_cons_succ, List.set_cons_zero, List.set_cons_succ, Nat.reduceSub, Nat.reduceAdd, Nat.zero_add, Option.map_some, Option.map_none, c_na10, o_rng1, len_rng, len_lst, len_tup, Int.toNat_natCast, Int.reduceToNat, Int.reduceLE, Int.reduceLT, Nat.reducePow, Nat.reduceLT, and_self, if_true, if_false, ite_true, ite_false, true_and, and_true, reduceIte, l0, hr]
  refine for_rng (NamesI n m s.length many p s) ⟨_, _, _, _, _, [], rfl, pre_app pre_rfl _, mut_new, rfl, fun x h => by cases h⟩ ?_ ?_
  · rintro k _ s1 hk ⟨a, b, c, d', e, acc, rfl, pre1, hacc, hal, hn⟩
    refine ⟨_, give_nm, ?_⟩
    simp only [List.set_cons_succ, List.set_cons_zero]
    exact names_step hds hlen hmany hb hk (by omega) (Nat.le_refl _) pre1 hacc hal hn rfl
  · rintro _ s1 ⟨a, b, c, d', e, acc, rfl, pre1, hacc, hal, hn⟩
    simp only [w_varM, w_con, w_bin, w_neg, w_not, w_and, w_or, w_cmp, w_chain, w_ife, w_call, w_callp, w_star, w_blt, w_mth, w_idx, w_slc, w_lst, w_tup, w_tab, w_tin, w_dnew, w_rev, w_lc, w_lsc, w_dc, w_disp, w_get, w_fld, w_mk, w_meth, w_prop, w_nil, w_cons, w_onone, w_osome, w_tnone, w_tsome, w_tnot, w_tand, w_tor, w_tval, w_iex, w_irng1, w_irng2, w_irng3, w_izip, w_run, w_snil, w_scons, w_set, w_unp, w_seti, w_setf, w_exp, w_ret, w_retn, w_pass, w_ifs, w_loop, w_rais, w_try, wr_ok, wr_some, wr_none, wr_stuck, wr_bind, wr_quiet, wr_lift_ite, wr_ite, wo_ite, wo_next, wo_ret, wo_brk, wo_cnt, o_add, o_sub, o_mul, o_fdiv, o_mod, o_pow, o_neg, o_lt, o_le, o_gt, o_ge, o_eq, o_ne, o_eqs, o_nes, o_isB, o_notB, o_tbl, o_int, o_lst, decide_eq_true_eq, Bool.not_eq_true', decide_eq_false_iff_not, beq_iff_eq, List.map_cons, List.map_nil, List.length_cons, List.length_nil, List.replicate_succ, List.replicate_zero, List.cons_append, List.nil_append, List.getElem?_cons_zero, List.getElem?_cons_succ, List.set_cons_zero, List.set_cons_succ, Nat.reduceSub, Nat.reduceAdd, Nat.zero_add, Option.map_some, Option.map_none, c_na10, o_rng1, len_rng, len_lst, len_tup, Int.toNat_natCast, Int.reduceToNat, Int.reduceLE, Int.reduceLT, Nat.reducePow, Nat.reduceLT, and_self, if_true, if_false, ite_true, ite_false, true_and, and_true, reduceIte]
    exact ⟨pre.trans pre1, _, rfl, acc, mut_lst hacc, hal, hn⟩
end EVL

/-! ## P13 -/
set_option maxRecDepth 10000
set_option maxHeartbeats 800000
namespace EVL
open PySem L2 EV
abbrev pairV (p : Int × Int) : Val := .tup [.int p.1, .int p.2]
abbrev pairD (p : Int × Int) : PyData := .tuple [.int p.1, .int p.2]
theorem pyPair {st : Store} {k : Nat} (p : Int × Int) (h : 3 ≤ k) : pyOf st k (pairV p) = some (pairD p) := by
  obtain ⟨j, rfl⟩ : ∃ j, k = j + 3 := ⟨k - 3, by omega⟩
  cases j <;> rfl
theorem pyPairs {st : Store} : ∀ (ps : List (Int × Int)) (k : Nat), ps.length + 4 ≤ k → pyAll st k (ps.map pairV) = some (ps.map pairD)
  | [], k, _ => by cases k <;> rfl
  | p :: ps, 0, h => by omega
  | p :: ps, k + 1, h => by
    have h : ps.length + 1 + 4 ≤ k + 1 := h
    show (match pyOf st k (pairV p), pyAll st k (ps.map pairV) with
      | some d, some ds => some (d :: ds)
      | _, _ => none) = _
    rw [pyPair p (by omega), pyPairs ps k (by omega)]
    rfl
theorem pyRow {st : Store} {r k : Nat} {ps : List (Int × Int)} (h : lstAt st r = some (ps.map pairV)) (hk : ps.length + 5 ≤ k) : pyOf st k (.ref r) = some (.list (ps.map pairD)) := by
  obtain ⟨j, rfl⟩ : ∃ j, k = j + 1 := ⟨k - 1, by omega⟩
  show (match lstAt st r with
    | some vs => (pyAll st j vs).map PyData.list
    | none => none) = _
  rw [h]
  show (pyAll st j (ps.map pairV)).map PyData.list = _
  rw [pyPairs ps j (by omega)]
  rfl
theorem canPairs : ∀ ps : List (Int × Int), PyData.canLayAll0 (ps.map pairD) = true
  | [] => rfl
  | p :: ps => by
    show (PyData.canLay0 (pairD p) && PyData.canLayAll0 (ps.map pairD)) = true
    rw [canPairs ps]
    rfl
theorem depPairs : ∀ ps : List (Int × Int), PyData.depthAll (ps.map pairD) ≤ 2
  | [] => by decide
  | p :: ps => by
    have h := depPairs ps
    show max (PyData.depth (pairD p)) (PyData.depthAll (ps.map pairD)) ≤ 2
    have e : PyData.depth (pairD p) ≤ 2 := by show max 0 (max 0 0) + 1 ≤ 2; decide
    omega
theorem shapedRow (ps : List (Int × Int)) : SeqAt.shaped (.list (ps.map pairD)) = true := by
  unfold SeqAt.shaped
  rw [show PyData.canLay0 (.list (ps.map pairD)) = true from canPairs ps]
  have h := depPairs ps
  have e : PyData.depth (.list (ps.map pairD)) ≤ 64 := by
    show PyData.depthAll (ps.map pairD) + 1 ≤ 64
    omega
  rw [decide_eq_true e]
  rfl
theorem row_nil {st : Store} {r m : Nat} {ps : List (Int × Int)} (h : lstAt st r = some (ps.map pairV)) (k : lstAt st m = some []) (hl : ps.length ≤ 1000) : cmpV .eq (.ref r) (.ref m) st = some ps.isEmpty := by
  have e1 := pyRow (k := 100000) h (by omega)
  have e2 := pyRow (k := 100000) (ps := []) k (by decide)
  show (match pyOf st 100000 (.ref r), pyOf st 100000 (.ref m) with
    | some d, some e => if SeqAt.shaped d && SeqAt.shaped e then some (PyData.eqv d e) else none
    | _, _ => none) = _
  rw [e1, e2]
  show (if SeqAt.shaped (.list (ps.map pairD)) && SeqAt.shaped (.list (([] : List (Int × Int)).map pairD)) then some (PyData.eqv (.list (ps.map pairD)) (.list [])) else none) = _
  rw [shapedRow, shapedRow]
  cases ps <;> rfl
end EVL

/-! ## P14 -/
set_option maxRecDepth 10000
set_option maxHeartbeats 800000
namespace EVL
open PySem L2 EV
/-- a list of pairs -/
def RowP (st : Store) (r : Nat) : Prop := ∃ ps : List (Int × Int), mutAt st r = some (ps.map pairV) ∧ ps.length ≤ 100
/-- a row: not empty -/
def Row (st : Store) (r : Nat) : Prop := ∃ ps : List (Int × Int), mutAt st r = some (ps.map pairV) ∧ ps.length ≤ 100 ∧ 0 < ps.length
def rowLims (size : Nat) (high : Int) : List Int := [4, (size : Int), high] ++ (List.replicate size [2, high]).flatten
theorem rowLims_len (size : Nat) (high : Int) : (rowLims size high).length = 3 + 2 * size := by
  unfold rowLims
  rw [List.length_append, len_rep]
  show 3 + size * 2 = _
  omega
abbrev rowF (n m size : Nat) (p f h : Int) (a b c d : Option Val) : Fr := [some (.ref n), some (.int p), some (.int f), some (.int (size : Int)), some (.int h), some (.ref m), a, b, c, d]
section
variable {cl : Cl} {st s : Store} {n m size : Nat} {p f h : Int} {ds : List Int} {a b c d : Option Val}
theorem at_ex {i : Nat} (hi : i < ds.length) : ∃ x, ds[i]? = some x := ⟨_, List.getElem?_eq_getElem hi⟩
theorem row_lc (hm : lstAt st m = some (ds.map .int)) (hl : ds.length = 3 + 2 * size) (hz : size ≤ 100) :
    wr (ev cl (.lc x__law_row_0 (.nm 8) (.rng1 (.var 3)) (.some (.val (.cmp .eq (.idx (.var 5) (.bin .add (.con (.int 3)) (.bin .mul (.con (.int 2)) (.var 8)))) (.con (.int 1))))) [8]) (rowF n m size p f h a b c d) st)
      (fun v st' => st <+: st' ∧ ∃ r, v = .ref r ∧ RowP st' r) noX := by
  have hr : rngOk (size : Int) = true := rng_ok ⟨by omega, by omega⟩
  rw [w_lc, w_irng1, w_var (v := .int (size : Int)) rfl, wr_ok, o_rng1 (cl := cl) (ρ := []), if_pos hr, Int.toNat_natCast]
  refine wr_imp (lc_sub (n := size) (fun y => ∃ q : Int × Int, y = pairV q) rfl (by omega) ?_ fun s _ => rfl) ?_
  · intro i s hi pre
    refine ⟨.int (0 + (i : Int)), _, rfl, give_nm, ?_⟩
    obtain ⟨x3, h3⟩ := at_ex (ds := ds) (i := 3 + 2 * i) (by omega)
    obtain ⟨x4, h4⟩ := at_ex (ds := ds) (i := 4 + 2 * i) (by omega)
    have hm2 := pre_lst pre hm
    have i3 : atI (ds.map Val.int) (3 + 2 * (i : Int)) = some (.int x3) := by
      rw [show (3 + 2 * (i : Int)) = ((3 + 2 * i : Nat) : Int) by omega]
      exact ix_at h3
    have i4 : atI (ds.map Val.int) (4 + 2 * (i : Int)) = some (.int x4) := by
      rw [show (4 + 2 * (i : Int)) = ((4 + 2 * i : Nat) : Int) by omega]
      exact ix_at h4
    have ez : (0 : Int) + (i : Int) = i := by omega
    have m2 : mulOk 2 (i : Int) = true := mulOk_l ⟨by decide, by decide⟩
    have l2 : lineOk 2 = true := by decide
    unfold x__law_row_0
    simp only [w_varM, w_con, w_bin, w_neg, w_not, w_and, w_or, w_cmp, w_chain, w_ife, w_call, w_callp, w_star, w_blt, w_mth, w_idx, w_slc, w_lst, w_tup, w_tab, w_tin, w_dnew, w_rev, w_lc, w_lsc, w_dc, w_disp, w_get, w_fld, w_mk, w_meth, w_prop, w_nil, w_cons, w_onone, w_osome, w_tnone, w_tsome, w_tnot, w_tand, w_tor, w_tval, w_iex, w_irng1, w_irng2, w_irng3, w_izip, w_run, w_snil, w_scons, w_set, w_unp, w_seti, w_setf, w_exp, w_ret, w_retn, w_pass, w_ifs, w_loop, w_rais, w_try, wr_ok, wr_some, wr_none, wr_stuck, wr_bind, wr_quiet, wr_lift_ite, wr_ite, wo_ite, wo_next, wo_ret, wo_brk, wo_cnt, o_add, o_sub, o_mul, o_fdiv, o_mod, o_pow, o_neg, o_lt, o_le, o_gt, o_ge, o_eq, o_ne, o_eqs, o_nes, o_isB, o_notB, o_tbl, o_int, o_lst, decide_eq_true_eq, Bool.not_eq_true', decide_eq_false_iff_not, beq_iff_eq, List.map_cons, List.map_nil, List.length_cons, List.length_nil, List.replicate_succ, List.replicate_zero, List.cons_append, List.nil_append, List.getElem?_cons_zero, List.getElem?_cons_succ, List.set_cons_zero, List.set_cons_succ, Nat.reduceSub, Nat.reduceAdd, Nat.zero_add, Option.map_some, Option.map_none, c_na10, o_rng1, len_rng, len_lst, len_tup, Int.toNat_natCast, Int.reduceToNat, Int.reduceLE, Int.reduceLT, Nat.reducePow, Nat.reduceLT, and_self, if_true, if_false, ite_true, ite_false, true_and, and_true, reduceIte, wipeF, ez, m2, o_idx hm2, i3]
    refine ⟨pre_rfl, fun _ => ?_⟩
    simp only [w_varM, w_con, w_bin, w_neg, w_not, w_and, w_or, w_cmp, w_chain, w_ife, w_call, w_callp, w_star, w_blt, w_mth, w_idx, w_slc, w_lst, w_tup, w_tab, w_tin, w_dnew, w_rev, w_lc, w_lsc, w_dc, w_disp, w_get, w_fld, w_mk, w_meth, w_prop, w_nil, w_cons, w_onone, w_osome, w_tnone, w_tsome, w_tnot, w_tand, w_tor, w_tval, w_iex, w_irng1, w_irng2, w_irng3, w_izip, w_run, w_snil, w_scons, w_set, w_unp, w_seti, w_setf, w_exp, w_ret, w_retn, w_pass, w_ifs, w_loop, w_rais, w_try, wr_ok, wr_some, wr_none, wr_stuck, wr_bind, wr_quiet, wr_lift_ite, wr_ite, wo_ite, wo_next, wo_ret, wo_brk, wo_cnt, o_add, o_sub, o_mul, o_fdiv, o_mod, o_pow, o_neg, o_lt, o_le, o_gt, o_ge, o_eq, o_ne, o_eqs, o_nes, o_isB, o_notB, o_tbl, o_int, o_lst, decide_eq_true_eq, Bool.not_eq_true', decide_eq_false_iff_not, beq_iff_eq, List.map_cons, List.map_nil, List.length_cons, List.length_nil, List.replicate_succ, List.replicate_zero, List.cons_append, List.nil_append, List.getElem?_cons_zero, List.getElem?_cons_succ, List.set_cons_zero, List.set_cons_succ, Nat.reduceSub, Nat.reduceAdd, Nat.zero_add, Option.map_some, Option.map_none, c_na10, o_rng1, len_rng, len_lst, len_tup, Int.toNat_natCast, Int.reduceToNat, Int.reduceLE, Int.reduceLT, Nat.reducePow, Nat.reduceLT, and_self, if_true, if_false, ite_true, ite_false, true_and, and_true, reduceIte, m2, o_idx hm2, i4, l2]
    exact ⟨⟨(f + i, x4), rfl⟩, pre_rfl⟩
  · rintro _ s ⟨pre, rfl, ys, hys, hlen, hR⟩
    obtain ⟨ps, rfl⟩ := of_pic hR
    exact ⟨pre, _, rfl, ps, hys, by rw [List.length_map] at hlen; omega⟩
end
theorem o_tuplen {st : Store} {vs : List Val} : bltV .len [.tup vs] st = some (.int vs.length, st) := rfl
theorem mut_len {st : Store} {n : Nat} {vs : List Val} (h : mutAt st n = some vs) : bltV .len [.ref n] st = some (.int vs.length, st) := o_len (mut_lst h)
theorem o_slcM {st : Store} {n : Nat} {vs : List Val} {lo hi : Option Int} (h : mutAt st n = some vs) : slcV (.ref n) lo hi st = some (.ref st.length, st ++ [.lst (EV.cut vs lo hi)]) := o_slcL (mut_lst h)
theorem o_revM {st : Store} {n : Nat} {vs : List Val} (h : mutAt st n = some vs) : revV (.ref n) st = some (.ref st.length, st ++ [.lst vs.reverse]) := by
  show (match lstAt st n with
    | some vs => alloc st (.lst vs.reverse)
    | none => none) = _
  rw [mut_lst h]
  rfl
theorem cut_pairs (ps : List (Int × Int)) (lo hi : Option Int) : EV.cut (ps.map pairV) lo hi = (EV.cut ps lo hi).map pairV := by
  unfold EV.cut
  rw [List.length_map, List.map_take, List.map_drop]
theorem o_sortI {st : Store} {n : Nat} {xs : List Int} (h : mutAt st n = some (xs.map .int)) : bltV .sorted [.ref n] st = some (.ref st.length, st ++ [.lst ((sortI xs).map .int)]) := by
  have e : bltV .sorted [.ref n] st = (match st[n]? with
    | some (.lst ws) => match sortV ws with
      | some us => alloc st (.lst us)
      | none => none
    | some (.fro ws) => match sortV ws with
      | some us => alloc st (.lst us)
      | none => none
    | some (.dct kvs) => match keysS (kvs.map (·.1)) with
      | some ks => if decide (ks.length < 64) then alloc st (.lst ((sortS ks).map .str)) else none
      | none => none
    | _ => none) := rfl
  rw [e, mut_at h]
  have e2 : sortV (xs.map Val.int) = some ((sortI xs).map .int) := by
    unfold sortV
    rw [ints_map]
  show (match sortV (xs.map Val.int) with
      | some us => alloc st (.lst us)
      | none => none) = _
  rw [e2]
  rfl
section
variable {cl : Cl} {st s : Store} {n m size r : Nat} {p f h : Int} {ds : List Int} {a b c d : Option Val} {ps : List (Int × Int)}
theorem row_vals (hr : mutAt st r = some (ps.map pairV)) (hl : ps.length ≤ 100) :
    wr (ev cl (.blt .sorted (.cons (.lc x__law_row_1 (.nm 9) (.ex (.var 6)) .none [9]) .nil)) (rowF n m size p f h (some (.ref r)) b c d) st)
      (fun v st' => st <+: st' ∧ ∃ (u : Nat) (xs : List Int), v = .ref u ∧ mutAt st' u = some (xs.map .int) ∧ xs.length = ps.length) noX := by
  rw [w_blt, w_cons, w_lc, w_iex, w_var (v := .ref r) rfl, wr_ok, o_wk (mut_lst hr), wr_ok, List.length_map]
  refine wr_imp (lc_rel (w := .lst r ps.length) (n := ps.length) (fun i y => ∃ x : Int, y = .int x) rfl (by omega) ?_ fun s pre => fits_lst (List.length_map _) (pre_lst pre (mut_lst hr))) ?_
  · intro i s hi pre
    have hv : (ps.map pairV)[i]? = some (pairV ps[i]) := by rw [List.getElem?_map, List.getElem?_eq_getElem hi]; rfl
    refine ⟨pairV ps[i], _, item_lst (List.length_map _) (pre_lst pre (mut_lst hr)) hv, give_nm, ?_⟩
    have i1 : ∀ s, idxV s (pairV ps[i]) (.int 1) = some (.int ps[i].2) := fun _ => rfl
    unfold x__law_row_1
    simp only [w_varM, w_con, w_bin, w_neg, w_not, w_and, w_or, w_cmp, w_chain, w_ife, w_call, w_callp, w_star, w_blt, w_mth, w_idx, w_slc, w_lst, w_tup, w_tab, w_tin, w_dnew, w_rev, w_lc, w_lsc, w_dc, w_disp, w_get, w_fld, w_mk, w_meth, w_prop, w_nil, w_cons, w_onone, w_osome, w_tnone, w_tsome, w_tnot, w_tand, w_tor, w_tval, w_iex, w_irng1, w_irng2, w_irng3, w_izip, w_run, w_snil, w_scons, w_set, w_unp, w_seti, w_setf, w_exp, w_ret, w_retn, w_pass, w_ifs, w_loop, w_rais, w_try, wr_ok, wr_some, wr_none, wr_stuck, wr_bind, wr_quiet, wr_lift_ite, wr_ite, wo_ite, wo_next, wo_ret, wo_brk, wo_cnt, o_add, o_sub, o_mul, o_fdiv, o_mod, o_pow, o_neg, o_lt, o_le, o_gt, o_ge, o_eq, o_ne, o_eqs, o_nes, o_isB, o_notB, o_tbl, o_int, o_lst, decide_eq_true_eq, Bool.not_eq_true', decide_eq_false_iff_not, beq_iff_eq, List.map_cons, List.map_nil, List.length_cons, List.length_nil, List.replicate_succ, List.replicate_zero, List.cons_append, List.nil_append, List.getElem?_cons_zero, List.getElem?_cons_succ, List.set_cons_zero, List.set_cons_succ, Nat.reduceSub, Nat.reduceAdd, Nat.zero_add, Option.map_some, Option.map_none, c_na10, o_rng1, len_rng, len_lst, len_tup, Int.toNat_natCast, Int.reduceToNat, Int.reduceLE, Int.reduceLT, Nat.reducePow, Nat.reduceLT, and_self, if_true, if_false, ite_true, ite_false, true_and, and_true, reduceIte, wipeF, i1]
    exact ⟨⟨_, rfl⟩, pre_rfl⟩
  · rintro _ s ⟨pre, rfl, ys, hys, hlen, hR⟩
    obtain ⟨xs, rfl⟩ := of_pic (f := Val.int) (ys := ys) fun y hy => by
      obtain ⟨i, hi⟩ := List.getElem?_of_mem hy
      exact hR i y hi
    rw [List.length_map] at hlen
    rw [w_nil, o_sortI hys, wr_some]
    exact ⟨pre_app pre _, _, sortI xs, rfl, mut_new, by unfold sortI; rw [List.length_mergeSort, hlen]⟩
theorem row_new {u : Nat} {xs : List Int} (hr : mutAt st r = some (ps.map pairV)) (hu : mutAt st u = some (xs.map .int)) (hx : xs.length = ps.length) (hl : ps.length ≤ 100) :
    wr (ev cl (.lc x__law_row_2 (.nm 8) (.rng1 (.blt .len (.cons (.var 6) .nil))) .none [8]) (rowF n m size p f h (some (.ref r)) (some (.ref u)) c d) st)
      (fun v st' => st <+: st' ∧ ∃ (r' : Nat) (qs : List (Int × Int)), v = .ref r' ∧ mutAt st' r' = some (qs.map pairV) ∧ qs.length = ps.length) noX := by
  have hg : rngOk (ps.length : Int) = true := rng_ok ⟨by omega, by omega⟩
  rw [w_lc, w_irng1, w_blt, w_cons, w_var (v := .ref r) rfl, wr_ok, w_nil, mut_len hr, wr_some, List.length_map, o_rng1 (cl := cl) (ρ := []), if_pos hg, Int.toNat_natCast]
  refine wr_imp (lc_rel (w := .rng 0 ps.length) (n := ps.length) (fun i y => ∃ q : Int × Int, y = pairV q) rfl (by omega) ?_ fun s pre => rfl) ?_
  · intro i s hi pre
    refine ⟨.int (0 + (i : Int)), _, rfl, give_nm, ?_⟩
    have ez : (0 : Int) + (i : Int) = i := by omega
    have hv : (ps.map pairV)[i]? = some (pairV ps[i]) := by rw [List.getElem?_map, List.getElem?_eq_getElem hi]; rfl
    have h1 : atI (ps.map pairV) (i : Int) = some (pairV ps[i]) := atI_nat hv
    have h2 : atI (xs.map Val.int) (i : Int) = some (.int (xs[i]'(by omega))) := ix_at (List.getElem?_eq_getElem (by omega))
    have i0 : ∀ s, idxV s (pairV ps[i]) (.int 0) = some (.int ps[i].1) := fun _ => rfl
    have l2 : lineOk 2 = true := by decide
    unfold x__law_row_2
    simp only [w_varM, w_con, w_bin, w_neg, w_not, w_and, w_or, w_cmp, w_chain, w_ife, w_call, w_callp, w_star, w_blt, w_mth, w_idx, w_slc, w_lst, w_tup, w_tab, w_tin, w_dnew, w_rev, w_lc, w_lsc, w_dc, w_disp, w_get, w_fld, w_mk, w_meth, w_prop, w_nil, w_cons, w_onone, w_osome, w_tnone, w_tsome, w_tnot, w_tand, w_tor, w_tval, w_iex, w_irng1, w_irng2, w_irng3, w_izip, w_run, w_snil, w_scons, w_set, w_unp, w_seti, w_setf, w_exp, w_ret, w_retn, w_pass, w_ifs, w_loop, w_rais, w_try, wr_ok, wr_some, wr_none, wr_stuck, wr_bind, wr_quiet, wr_lift_ite, wr_ite, wo_ite, wo_next, wo_ret, wo_brk, wo_cnt, o_add, o_sub, o_mul, o_fdiv, o_mod, o_pow, o_neg, o_lt, o_le, o_gt, o_ge, o_eq, o_ne, o_eqs, o_nes, o_isB, o_notB, o_tbl, o_int, o_lst, decide_eq_true_eq, Bool.not_eq_true', decide_eq_false_iff_not, beq_iff_eq, List.map_cons, List.map_nil, List.length_cons, List.length_nil, List.replicate_succ, List.replicate_zero, List.cons_append, List.nil_append, List.getElem?_cons_zero, List.getElem?_cons_succ, List.set_cons_zero, List.set_cons_succ, Nat.reduceSub, Nat.reduceAdd, Nat.zero_add, Option.map_some, Option.map_none, c_na10, o_rng1, len_rng, len_lst, len_tup, Int.toNat_natCast, Int.reduceToNat, Int.reduceLE, Int.reduceLT, Nat.reducePow, Nat.reduceLT, and_self, if_true, if_false, ite_true, ite_false, true_and, and_true, reduceIte, wipeF, ez, o_idx (pre_lst pre (mut_lst hr)), o_idx (pre_lst pre (mut_lst hu)), h1, h2, i0, l2]
    exact ⟨⟨(ps[i].1, xs[i]), rfl⟩, pre_rfl⟩
  · rintro _ s ⟨pre, rfl, ys, hys, hlen, hR⟩
    obtain ⟨qs, rfl⟩ := of_pic (f := pairV) (ys := ys) fun y hy => by
      obtain ⟨i, hi⟩ := List.getElem?_of_mem hy
      exact hR i y hi
    rw [List.length_map] at hlen
    exact ⟨pre, _, qs, rfl, hys, hlen⟩
end
end EVL

/-! ## P15 -/
set_option maxRecDepth 10000
set_option maxHeartbeats 800000
namespace EVL
open PySem L2 EV
theorem rowLims_ok {ρ : Fr} {size : Nat} {h : Int} (h3 : ρ[3]? = some (some (.int (size : Int)))) (h4 : ρ[4]? = some (some (.int h))) (hz : size ≤ 100) : lsE ρ (.bin .add (.lst (.cons (.con (.int 4)) (.cons (.var 3) (.cons (.var 4) .nil)))) (.bin .mul (.lst (.cons (.con (.int 2)) (.cons (.var 4) .nil))) (.var 3))) = some (rowLims size h) := by
  have v3 : inE ρ (.var 3) = some (size : Int) := by unfold inE; rw [h3]
  have v4 : inE ρ (.var 4) = some h := by unfold inE; rw [h4]
  have c (i : Int) : inE ρ (.con (.int i)) = some i := rfl
  have n0 : insE ρ .nil = some [] := rfl
  have e1 : lsE ρ (.lst (.cons (.con (.int 4)) (.cons (.var 3) (.cons (.var 4) .nil)))) = some [4, (size : Int), h] := by
    simp only [lsE, insE, v3, v4, c]
    rfl
  have e2 : lsE ρ (.lst (.cons (.con (.int 2)) (.cons (.var 4) .nil))) = some [2, h] := by
    simp only [lsE, insE, v3, v4, c]
    rfl
  refine lsE_add e1 (ys := (List.replicate size [2, h]).flatten) ?_ ?_
  · have q := lsE_mul (b := .var 3) e2 v3 (by omega) (by show 2 * (size : Int).toNat ≤ _; omega)
    rw [Int.toNat_natCast] at q
    exact q
  · rw [len_rep]
    show 3 + size * 2 ≤ _
    omega
theorem row_ok {d n size : Nat} {st : Store} {ns : List Int} {p f h : Int} (hs : lstAt st n = some (ns.map .int)) (hp : 0 ≤ p) (hz0 : 1 ≤ size) (hz : size ≤ 100) (hh : 0 < h ∧ h < 2 ^ 62) :
    wr (clN (d + 3) id__law_row [.ref n, .int p, .int f, .int (size : Int), .int h] st) (fun v st' => st <+: st' ∧ ∃ r, v = .ref r ∧ Row st' r) noX := by
  show wr (runB (clN (d + 2)) 10 b__law_row [.ref n, .int p, .int f, .int (size : Int), .int h] st) _ noX
  unfold b__law_row
  rw [w_run]
  refine w_cut (fun ρ s => st <+: s ∧ ∃ m, Drawn s m (rowLims size h) ∧ ρ = rowF n m size p f h none none none none) ?_ ?_
  · rw [w_set]
    refine wr_imp (drawn (d := d) (a := .var 0) (b := .var 1) (p := p) (n := n) rfl rfl hs hp (rowLims_ok rfl rfl hz) ?_ (by rw [rowLims_len]; omega)) ?_
    · rw [List.all_eq_true]
      intro l hl
      unfold rowLims at hl
      rcases List.mem_append.mp hl with hl | hl
      · simp only [List.mem_cons, List.not_mem_nil, or_false] at hl
        refine decide_eq_true ?_
        rcases hl with rfl | rfl | rfl
        · decide
        · omega
        · exact hh
      · obtain ⟨L, hL, hl⟩ := List.mem_flatten.mp hl
        rw [(List.mem_replicate.mp hL).2] at hl
        simp only [List.mem_cons, List.not_mem_nil, or_false] at hl
        refine decide_eq_true ?_
        rcases hl with rfl | rfl
        · decide
        · exact hh
    · rintro _ s ⟨pre, m, rfl, hm⟩
      exact ⟨pre, m, hm, rfl⟩
  rintro _ s0 ⟨pre0, m, ⟨ds, hds, hlen, hb⟩, rfl⟩
  rw [rowLims_len] at hlen
  have hlen0 : 5 ≤ ds.length := by omega
  obtain ⟨x0, h0⟩ := at_ex (ds := ds) (i := 0) (by omega)
  obtain ⟨x1, h1⟩ := at_ex (ds := ds) (i := 1) (by omega)
  obtain ⟨x2, h2⟩ := at_ex (ds := ds) (i := 2) (by omega)
  have i0 : atI (ds.map Val.int) 0 = some (.int x0) := ix_at (k := 0) h0
  have i1 : atI (ds.map Val.int) 1 = some (.int x1) := ix_at (k := 1) h1
  have i2 : atI (ds.map Val.int) 2 = some (.int x2) := ix_at (k := 2) h2
  have l0 : lineOk 0 = true := by decide
  have l1 : lineOk 1 = true := by decide
  have l2 : lineOk 2 = true := by decide
  refine w_cut (fun ρ s => s0 <+: s ∧ ∃ r, RowP s r ∧ ρ = rowF n m size p f h (some (.ref r)) none none none) ?_ ?_
  · rw [w_set]
    refine wr_imp (row_lc hds hlen hz) ?_
    rintro _ s ⟨pre, r, rfl, hr⟩
    exact ⟨pre, r, hr, rfl⟩
  rintro _ s1 ⟨pre1, r, ⟨ps, hr, hl⟩, rfl⟩
  have hm1 := pre_lst pre1 hds
  refine w_cut (fun ρ s => s1 <+: s ∧ ∃ r, Row s r ∧ ρ = rowF n m size p f h (some (.ref r)) none none none) ?_ ?_
  · have hr2 : lstAt (s1 ++ [Ob.lst []]) r = some (ps.map pairV) := pre_lst (pre_app pre_rfl _) (mut_lst hr)
    have hnew : lstAt (s1 ++ [Ob.lst []]) s1.length = some [] := mut_lst mut_new
    have hm2 := pre_lst (pre_app pre_rfl [Ob.lst []]) hm1
    simp only [w_varM, w_con, w_bin, w_neg, w_not, w_and, w_or, w_cmp, w_chain, w_ife, w_call, w_callp, w_star, w_blt, w_mth, w_idx, w_slc, w_lst, w_tup, w_tab, w_tin, w_dnew, w_rev, w_lc, w_lsc, w_dc, w_disp, w_get, w_fld, w_mk, w_meth, w_prop, w_nil, w_cons, w_onone, w_osome, w_tnone, w_tsome, w_tnot, w_tand, w_tor, w_tval, w_iex, w_irng1, w_irng2, w_irng3, w_izip, w_run, w_snil, w_scons, w_set, w_unp, w_seti, w_setf, w_exp, w_ret, w_retn, w_pass, w_ifs, w_loop, w_rais, w_try, wr_ok, wr_some, wr_none, wr_stuck, wr_bind, wr_quiet, wr_lift_ite, wr_ite, wo_ite, wo_next, wo_ret, wo_brk, wo_cnt, o_add, o_sub, o_mul, o_fdiv, o_mod, o_pow, o_neg, o_lt, o_le, o_gt, o_ge, o_eq, o_ne, o_eqs, o_nes, o_isB, o_notB, o_tbl, o_int, o_lst, decide_eq_true_eq, Bool.not_eq_true', decide_eq_false_iff_not, beq_iff_eq, List.map_cons, List.map_nil, List.length_cons, List.length_nil, List.replicate_succ, List.replicate_zero, List.cons_append, List.nil_append, List.getElem?_cons_zero, List.getElem?_cons_succ, List.set_cons_zero, List.set_cons_succ, Nat.reduceSub, Nat.reduceAdd, Nat.zero_add, Option.map_some, Option.map_none, c_na10, o_rng1, len_rng, len_lst, len_tup, Int.toNat_natCast, Int.reduceToNat, Int.reduceLE, Int.reduceLT, Nat.reducePow, Nat.reduceLT, and_self, if_true, if_false, ite_true, ite_false, true_and, and_true, reduceIte, l0, row_nil hr2 hnew (by omega)]
    cases ps with
    | nil =>
      simp only [w_varM, w_con, w_bin, w_neg, w_not, w_and, w_or, w_cmp, w_chain, w_ife, w_call, w_callp, w_star, w_blt, w_mth, w_idx, w_slc, w_lst, w_tup, w_tab, w_tin, w_dnew, w_rev, w_lc, w_lsc, w_dc, w_disp, w_get, w_fld, w_mk, w_meth, w_prop, w_nil, w_cons, w_onone, w_osome, w_tnone, w_tsome, w_tnot, w_tand, w_tor, w_tval, w_iex, w_irng1, w_irng2, w_irng3, w_izip, w_run, w_snil, w_scons, w_set, w_unp, w_seti, w_setf, w_exp, w_ret, w_retn, w_pass, w_ifs, w_loop, w_rais, w_try, wr_ok, wr_some, wr_none, wr_stuck, wr_bind, wr_quiet, wr_lift_ite, wr_ite, wo_ite, wo_next, wo_ret, wo_brk, wo_cnt, o_add, o_sub, o_mul, o_fdiv, o_mod, o_pow, o_neg, o_lt, o_le, o_gt, o_ge, o_eq, o_ne, o_eqs, o_nes, o_isB, o_notB, o_tbl, o_int, o_lst, decide_eq_true_eq, Bool.not_eq_true', decide_eq_false_iff_not, beq_iff_eq, List.map_cons, List.map_nil, List.length_cons, List.length_nil, List.replicate_succ, List.replicate_zero, List.cons_append, List.nil_append, List.getElem?_cons_zero, List.getElem?_cons_succ, List.set_cons_zero, List.set_cons_succ, Nat.reduceSub, Nat.reduceAdd, Nat.zero_add, Option.map_some, Option.map_none, c_na10, o_rng1, len_rng, len_lst, len_tup, Int.toNat_natCast, Int.reduceToNat, Int.reduceLE, Int.reduceLT, Nat.reducePow, Nat.reduceLT, and_self, if_true, if_false, ite_true, ite_false, true_and, and_true, reduceIte, List.isEmpty_nil, o_idx hm2, i1, i2, l1, l2]
      exact ⟨pre_app (pre_app pre_rfl _) _, _, ⟨[(_, _)], mut_new, (by show 1 ≤ 100; decide), (by show 0 < 1; decide)⟩, rfl⟩
    | cons q ps =>
      simp only [w_varM, w_con, w_bin, w_neg, w_not, w_and, w_or, w_cmp, w_chain, w_ife, w_call, w_callp, w_star, w_blt, w_mth, w_idx, w_slc, w_lst, w_tup, w_tab, w_tin, w_dnew, w_rev, w_lc, w_lsc, w_dc, w_disp, w_get, w_fld, w_mk, w_meth, w_prop, w_nil, w_cons, w_onone, w_osome, w_tnone, w_tsome, w_tnot, w_tand, w_tor, w_tval, w_iex, w_irng1, w_irng2, w_irng3, w_izip, w_run, w_snil, w_scons, w_set, w_unp, w_seti, w_setf, w_exp, w_ret, w_retn, w_pass, w_ifs, w_loop, w_rais, w_try, wr_ok, wr_some, wr_none, wr_stuck, wr_bind, wr_quiet, wr_lift_ite, wr_ite, wo_ite, wo_next, wo_ret, wo_brk, wo_cnt, o_add, o_sub, o_mul, o_fdiv, o_mod, o_pow, o_neg, o_lt, o_le, o_gt, o_ge, o_eq, o_ne, o_eqs, o_nes, o_isB, o_notB, o_tbl, o_int, o_lst, decide_eq_true_eq, Bool.not_eq_true', decide_eq_false_iff_not, beq_iff_eq, List.map_cons, List.map_nil, List.length_cons, List.length_nil, List.replicate_succ, List.replicate_zero, List.cons_append, List.nil_append, List.getElem?_cons_zero, List.getElem?_cons_succ, List.set_cons_zero, List.set_cons_succ, Nat.reduceSub, Nat.reduceAdd, Nat.zero_add, Option.map_some, Option.map_none, c_na10, o_rng1, len_rng, len_lst, len_tup, Int.toNat_natCast, Int.reduceToNat, Int.reduceLE, Int.reduceLT, Nat.reducePow, Nat.reduceLT, and_self, if_true, if_false, ite_true, ite_false, true_and, and_true, reduceIte, List.isEmpty_cons, Bool.false_eq_true]
      exact ⟨pre_app pre_rfl _, _, ⟨q :: ps, mut_pre (pre_app pre_rfl _) hr, hl, by rw [List.length_cons]; omega⟩, rfl⟩
  clear hr hl ps
  rintro _ s2 ⟨pre2, r, ⟨ps, hr, hl, hp0⟩, rfl⟩
  have hm2 := pre_lst pre2 hm1
  refine w_cut (fun ρ s => s2 <+: s ∧ ∃ r, Row s r ∧ ρ = rowF n m size p f h (some (.ref r)) none none none) ?_ ?_
  · rw [w_ifT (t_idx_eq (k := 0) rfl hm2 i0)]
    split
    · rw [w_one]
      simp only [w_varM, w_con, w_bin, w_neg, w_not, w_and, w_or, w_cmp, w_chain, w_ife, w_call, w_callp, w_star, w_blt, w_mth, w_idx, w_slc, w_lst, w_tup, w_tab, w_tin, w_dnew, w_rev, w_lc, w_lsc, w_dc, w_disp, w_get, w_fld, w_mk, w_meth, w_prop, w_nil, w_cons, w_onone, w_osome, w_tnone, w_tsome, w_tnot, w_tand, w_tor, w_tval, w_iex, w_irng1, w_irng2, w_irng3, w_izip, w_run, w_snil, w_scons, w_set, w_unp, w_seti, w_setf, w_exp, w_ret, w_retn, w_pass, w_ifs, w_loop, w_rais, w_try, wr_ok, wr_some, wr_none, wr_stuck, wr_bind, wr_quiet, wr_lift_ite, wr_ite, wo_ite, wo_next, wo_ret, wo_brk, wo_cnt, o_add, o_sub, o_mul, o_fdiv, o_mod, o_pow, o_neg, o_lt, o_le, o_gt, o_ge, o_eq, o_ne, o_eqs, o_nes, o_isB, o_notB, o_tbl, o_int, o_lst, decide_eq_true_eq, Bool.not_eq_true', decide_eq_false_iff_not, beq_iff_eq, List.map_cons, List.map_nil, List.length_cons, List.length_nil, List.replicate_succ, List.replicate_zero, List.cons_append, List.nil_append, List.getElem?_cons_zero, List.getElem?_cons_succ, List.set_cons_zero, List.set_cons_succ, Nat.reduceSub, Nat.reduceAdd, Nat.zero_add, Option.map_some, Option.map_none, c_na10, o_rng1, len_rng, len_lst, len_tup, Int.toNat_natCast, Int.reduceToNat, Int.reduceLE, Int.reduceLT, Nat.reducePow, Nat.reduceLT, and_self, if_true, if_false, ite_true, ite_false, true_and, and_true, reduceIte, o_revM hr]
      exact ⟨pre_app pre_rfl _, _, ⟨ps.reverse, by rw [List.map_reverse]; exact mut_new, by rw [List.length_reverse]; exact hl, by rw [List.length_reverse]; exact hp0⟩, rfl⟩
    · rw [w_snil]
      exact ⟨pre_rfl, _, ⟨ps, hr, hl, hp0⟩, rfl⟩
  clear hr hl hp0 ps
  rintro _ s3 ⟨pre3, r, ⟨ps, hr, hl, hp0⟩, rfl⟩
  have hm3 := pre_lst pre3 hm2
  refine w_cut (fun ρ s => s3 <+: s ∧ ∃ r, Row s r ∧ ρ = rowF n m size p f h (some (.ref r)) none none none) ?_ ?_
  · rw [w_ifT (t_idx_eq (k := 0) rfl hm3 i0)]
    split
    · rw [w_one, w_set, w_bin, w_slc, w_var (v := .ref r) rfl, wr_ok, w_osome, w_con, wr_ok, w_onone, o_slcM hr, wr_some, w_slc, w_var (v := .ref r) rfl, wr_ok, w_onone, w_osome, w_con, wr_ok,
        o_slcM (mut_pre (pre_app pre_rfl _) hr), wr_some, cut_pairs, cut_pairs, o_cat (xs := (EV.cut ps (some 1) none).map pairV) (ys := (EV.cut ps none (some 1)).map pairV) (mut_pre (pre_app pre_rfl _) mut_new) mut_new ?_, wr_some]
      · have hcat : (EV.cut ps (some 1) none).length + (EV.cut ps none (some 1)).length = ps.length := by
          unfold EV.cut
          rw [show (1 : Int) = ((1 : Nat) : Int) from rfl, HT.sIx_nat, HT.sIx_none, HT.sIx_none, HT.sIx_nat, List.length_take, List.length_take, List.length_drop, List.length_drop]
          omega
        refine ⟨pre_app (pre_app (pre_app pre_rfl _) _) _, _, ⟨EV.cut ps (some 1) none ++ EV.cut ps none (some 1), by rw [List.map_append]; exact mut_new, ?_, ?_⟩, rfl⟩
        · rw [List.length_append, hcat]; exact hl
        · rw [List.length_append, hcat]; exact hp0
      · have hcat : (EV.cut ps (some 1) none).length + (EV.cut ps none (some 1)).length = ps.length := by
          unfold EV.cut
          rw [show (1 : Int) = ((1 : Nat) : Int) from rfl, HT.sIx_nat, HT.sIx_none, HT.sIx_none, HT.sIx_nat, List.length_take, List.length_take, List.length_drop, List.length_drop]
          omega
        rw [List.length_map, List.length_map, hcat]
        exact decide_eq_true (by omega)
    · rw [w_snil]
      exact ⟨pre_rfl, _, ⟨ps, hr, hl, hp0⟩, rfl⟩
  clear hr hl hp0 ps
  rintro _ s4 ⟨pre4, r, ⟨ps, hr, hl, hp0⟩, rfl⟩
  have hm4 := pre_lst pre4 hm3
  refine w_cut (fun ρ s => s4 <+: s ∧ ∃ r a, Row s r ∧ ρ = rowF n m size p f h (some (.ref r)) a none none) ?_ ?_
  · rw [w_ifT (t_idx_eq (k := 0) rfl hm4 i0)]
    split
    · refine w_cut (fun ρ s => s4 <+: s ∧ ∃ (u : Nat) (xs : List Int), mutAt s u = some (xs.map .int) ∧ xs.length = ps.length ∧ ρ = rowF n m size p f h (some (.ref r)) (some (.ref u)) none none) ?_ ?_
      · rw [w_set]
        refine wr_imp (row_vals hr hl) ?_
        rintro _ s ⟨pre, u, xs, rfl, hu, hx⟩
        exact ⟨pre, u, xs, hu, hx, rfl⟩
      rintro _ s5 ⟨pre5, u, xs, hu, hx, rfl⟩
      rw [w_one, w_set]
      refine wr_imp (row_new (mut_pre pre5 hr) hu hx hl) ?_
      rintro _ s ⟨pre, r', qs, rfl, hq, hql⟩
      exact ⟨pre5.trans pre, r', _, ⟨qs, hq, by omega, by omega⟩, rfl⟩
    · rw [w_snil]
      exact ⟨pre_rfl, _, _, ⟨ps, hr, hl, hp0⟩, rfl⟩
  rintro _ s5 ⟨pre5, r, a, hrow, rfl⟩
  rw [w_one, w_ret, w_var (v := .ref r) rfl, wr_ok]
  exact ⟨pre0.trans (pre1.trans (pre2.trans (pre3.trans (pre4.trans pre5)))), r, rfl, hrow⟩
end EVL

/-! ## P16 -/
set_option maxRecDepth 10000
set_option maxHeartbeats 800000
namespace EVL
open PySem L2 EV
/-- a dict of names -/
def Keyed (kvs : List (Key × Val)) : Prop := ∀ kv ∈ kvs, ∃ x, kv.1 = .inr x ∧ IsName x
def DctN (s : Store) (a : Nat) : Prop := ∃ kvs, s[a]? = some (.dct kvs) ∧ kvs.length ≤ 10 ∧ Keyed kvs
theorem DctN.mono {s s' : Store} {a : Nat} (p : s <+: s') : DctN s a → DctN s' a := fun ⟨kvs, h1, h2⟩ => ⟨kvs, pre_at p h1, h2⟩
theorem put_len (kvs : List (Key × Val)) (k : Key) (v : Val) : (putKV kvs k v).length ≤ kvs.length + 1 := by
  unfold putKV
  split
  · rw [List.length_map]; omega
  · rw [List.length_append]; show kvs.length + 1 ≤ _; omega
theorem put_mem {kvs : List (Key × Val)} {k : Key} {v : Val} {kv : Key × Val} (h : kv ∈ putKV kvs k v) : kv ∈ kvs ∨ kv = (k, v) := by
  unfold putKV at h
  split at h
  · obtain ⟨q, hq, e⟩ := List.mem_map.mp h
    split at e
    · rename_i z
      exact .inr (by rw [← e, z])
    · exact .inl (by rw [← e]; exact hq)
  · rcases List.mem_append.mp h with h | h
    · exact .inl h
    · exact .inr (List.mem_singleton.mp h)
theorem Keyed.put {kvs : List (Key × Val)} {x : Str} {v : Val} (h : Keyed kvs) (hx : IsName x) : Keyed (putKV kvs (.inr x) v) := fun kv hk => by
  rcases put_mem hk with hk | rfl
  · exact h kv hk
  · exact ⟨x, rfl, hx⟩
theorem seti_dct {s : Store} {a : Nat} {kvs : List (Key × Val)} {x : Str} {v : Val} (h : s[a]? = some (.dct kvs)) (hl : kvs.length < 16777216) : setiV (.ref a) (.str x) v s = some (s.set a (.dct (putKV kvs (.inr x) v))) := by
  show (match s[a]? with
    | some (.lst vs) => match (Val.str x) with
      | .int j => match ixN vs.length j with
        | some k => some (s.set a (.lst (vs.set k v)))
        | none => none
      | _ => none
    | some (.dct kvs) => if decide (kvs.length < 16777216) then match (Val.str x) with
        | .int j => some (s.set a (.dct (putKV kvs (.inl j) v)))
        | .str z => some (s.set a (.dct (putKV kvs (.inr z) v)))
        | _ => none
      else none
    | _ => none) = _
  rw [h]
  exact if_pos (decide_eq_true hl)
theorem at_lt {s : Store} {a : Nat} {o : Ob} (h : s[a]? = some o) : a < s.length := (List.getElem?_eq_some_iff.mp h).1
abbrev partsF (n m q : Nat) (p : Int) (a b c d e f g h i : Option Val) : Fr := [some (.ref n), some (.int p), some (.ref m), some (.ref q), a, b, c, d, e, f, g, h, i]
/-- between the turns: the dict at A has names for its keys -/
def FillI (st : Store) (A : Nat) (G : Option Val → Option Val → Option Val → Option Val → Option Val → Option Val → Option Val → Option Val → Option Val → Fr) (k : Nat) (ρ : Fr) (s : Store) : Prop :=
  ∃ kvs, st <+: s ∧ s[A]? = some (.dct kvs) ∧ kvs.length ≤ k ∧ Keyed kvs
section
variable {cl : Cl} {st s : Store} {n m q A : Nat} {p : Int} {ds : List Int} {xs : List Str} {b c d e f g h i : Option Val} {D : En}
theorem strs_at {k : Nat} (hk : k < xs.length) : atI (xs.map Val.str) (k : Int) = some (.str xs[k]) := atI_nat (by rw [List.getElem?_map, List.getElem?_eq_getElem hk]; rfl)
theorem ints_at {k : Nat} (hk : k < ds.length) : atI (ds.map Val.int) (k : Int) = some (.int ds[k]) := ix_at (List.getElem?_eq_getElem hk)
/-- the places' turn -/
theorem parts0 {w : Nat} (hq : lstAt st q = some (xs.map .str)) (hx : ∀ x ∈ xs, IsName x) (hxl : xs.length = 8) (hm : lstAt st m = some (ds.map .int)) (hdl : ds.length = 10) (hA : st.length ≤ A) (hw : w ≤ 3) {kvs : List (Key × Val)} (pre : st <+: s) (h0 : s[A]? = some (.dct [])) 
    (hD : ∀ b s', st <+: s' → (∃ kvs, s'[A]? = some (.dct kvs) ∧ kvs.length ≤ 3 ∧ Keyed kvs) → D.nx (partsF n m q p (some (.ref A)) b c d e f g h i) s') :
    wo (forTurns (Tg.nm 5).give (EV.exs cl l__law_parts_0) (.rng 0 w) w 0 (partsF n m q p (some (.ref A)) b c d e f g h i) s) D := by
  refine for_rng (fun k ρ s' => st <+: s' ∧ ∃ b, ρ = partsF n m q p (some (.ref A)) b c d e f g h i ∧ ∃ kvs, s'[A]? = some (.dct kvs) ∧ kvs.length ≤ k ∧ Keyed kvs) ⟨pre, b, rfl, [], h0, Nat.le_refl _, fun _ z => by cases z⟩ ?_ ?_
  · rintro k _ s1 hk ⟨pre1, b, rfl, kvs, h1, hl, hK⟩
    refine ⟨_, give_nm, ?_⟩
    have ez : (0 : Int) + (k : Int) = k := by omega
    have a3 := strs_at (xs := xs) (k := k) (by omega)
    have a2 : atI (ds.map Val.int) (5 + (k : Int)) = some (.int (ds[5 + k]'(by omega))) := by
      rw [show (5 + (k : Int)) = ((5 + k : Nat) : Int) by omega]
      exact ints_at (by omega)
    unfold l__law_parts_0
    simp only [w_varM, w_con, w_bin, w_neg, w_not, w_and, w_or, w_cmp, w_chain, w_ife, w_call, w_callp, w_star, w_blt, w_mth, w_idx, w_slc, w_lst, w_tup, w_tab, w_tin, w_dnew, w_rev, w_lc, w_lsc, w_dc, w_disp, w_get, w_fld, w_mk, w_meth, w_prop, w_nil, w_cons, w_onone, w_osome, w_tnone, w_tsome, w_tnot, w_tand, w_tor, w_tval, w_iex, w_irng1, w_irng2, w_irng3, w_izip, w_run, w_snil, w_scons, w_set, w_unp, w_seti, w_setf, w_exp, w_ret, w_retn, w_pass, w_ifs, w_loop, w_rais, w_try, wr_ok, wr_some, wr_none, wr_stuck, wr_bind, wr_quiet, wr_lift_ite, wr_ite, wo_ite, wo_next, wo_ret, wo_brk, wo_cnt, o_add, o_sub, o_mul, o_fdiv, o_mod, o_pow, o_neg, o_lt, o_le, o_gt, o_ge, o_eq, o_ne, o_eqs, o_nes, o_isB, o_notB, o_tbl, o_int, o_lst, decide_eq_true_eq, Bool.not_eq_true', decide_eq_false_iff_not, beq_iff_eq, List.map_cons, List.map_nil, List.length_cons, List.length_nil, List.replicate_succ, List.replicate_zero, List.cons_append, List.nil_append, List.getElem?_cons_zero, List.getElem?_cons_succ, List.set_cons_zero, List.set_cons_succ, Nat.reduceSub, Nat.reduceAdd, Nat.zero_add, Option.map_some, Option.map_none, c_na10, o_rng1, len_rng, len_lst, len_tup, Int.toNat_natCast, Int.reduceToNat, Int.reduceLE, Int.reduceLT, Nat.reducePow, Nat.reduceLT, and_self, if_true, if_false, ite_true, ite_false, true_and, and_true, reduceIte, ez, o_idx (pre_lst pre1 hm), a2, o_idx (pre_lst pre1 hq), a3, seti_dct h1 (show kvs.length < 16777216 by omega)]
    refine ⟨pre_set pre1 hA, _, rfl, _, at_set (at_lt h1), ?_, hK.put (hx _ (List.getElem_mem _))⟩
    have := put_len kvs (.inr xs[k]) (.int (ds[5 + k]'(by omega) - 4))
    omega
  · rintro _ s1 ⟨pre1, b, rfl, kvs, h1, hl, hK⟩
    exact hD b s1 pre1 ⟨kvs, h1, by omega, hK⟩
/-- the values' turn -/
theorem parts1 {w : Nat} {a : Option Val} (hq : lstAt st q = some (xs.map .str)) (hx : ∀ x ∈ xs, IsName x) (hxl : xs.length = 8) (hm : lstAt st m = some (ds.map .int)) (hdl : ds.length = 10) (hA : st.length ≤ A) (hw : w ≤ 2) (pre : st <+: s) (h0 : s[A]? = some (.dct [])) 
    (hD : ∀ b s', st <+: s' → (∃ kvs, s'[A]? = some (.dct kvs) ∧ kvs.length ≤ 2 ∧ Keyed kvs) → D.nx (partsF n m q p a b (some (.ref A)) d e f g h i) s') :
    wo (forTurns (Tg.nm 5).give (EV.exs cl l__law_parts_1) (.rng 0 w) w 0 (partsF n m q p a b (some (.ref A)) d e f g h i) s) D := by
  refine for_rng (fun k ρ s' => st <+: s' ∧ ∃ b, ρ = partsF n m q p a b (some (.ref A)) d e f g h i ∧ ∃ kvs, s'[A]? = some (.dct kvs) ∧ kvs.length ≤ k ∧ Keyed kvs) ⟨pre, b, rfl, [], h0, Nat.le_refl _, fun _ z => by cases z⟩ ?_ ?_
  · rintro k _ s1 hk ⟨pre1, b, rfl, kvs, h1, hl, hK⟩
    refine ⟨_, give_nm, ?_⟩
    have ez : (0 : Int) + (k : Int) = k := by omega
    have a3 : atI (xs.map Val.str) (3 + (k : Int)) = some (.str (xs[3 + k]'(by omega))) := by
      rw [show (3 + (k : Int)) = ((3 + k : Nat) : Int) by omega]
      exact strs_at (by omega)
    have a2 : atI (ds.map Val.int) (8 + (k : Int)) = some (.int (ds[8 + k]'(by omega))) := by
      rw [show (8 + (k : Int)) = ((8 + k : Nat) : Int) by omega]
      exact ints_at (by omega)
    unfold l__law_parts_1
    simp only [w_varM, w_con, w_bin, w_neg, w_not, w_and, w_or, w_cmp, w_chain, w_ife, w_call, w_callp, w_star, w_blt, w_mth, w_idx, w_slc, w_lst, w_tup, w_tab, w_tin, w_dnew, w_rev, w_lc, w_lsc, w_dc, w_disp, w_get, w_fld, w_mk, w_meth, w_prop, w_nil, w_cons, w_onone, w_osome, w_tnone, w_tsome, w_tnot, w_tand, w_tor, w_tval, w_iex, w_irng1, w_irng2, w_irng3, w_izip, w_run, w_snil, w_scons, w_set, w_unp, w_seti, w_setf, w_exp, w_ret, w_retn, w_pass, w_ifs, w_loop, w_rais, w_try, wr_ok, wr_some, wr_none, wr_stuck, wr_bind, wr_quiet, wr_lift_ite, wr_ite, wo_ite, wo_next, wo_ret, wo_brk, wo_cnt, o_add, o_sub, o_mul, o_fdiv, o_mod, o_pow, o_neg, o_lt, o_le, o_gt, o_ge, o_eq, o_ne, o_eqs, o_nes, o_isB, o_notB, o_tbl, o_int, o_lst, decide_eq_true_eq, Bool.not_eq_true', decide_eq_false_iff_not, beq_iff_eq, List.map_cons, List.map_nil, List.length_cons, List.length_nil, List.replicate_succ, List.replicate_zero, List.cons_append, List.nil_append, List.getElem?_cons_zero, List.getElem?_cons_succ, List.set_cons_zero, List.set_cons_succ, Nat.reduceSub, Nat.reduceAdd, Nat.zero_add, Option.map_some, Option.map_none, c_na10, o_rng1, len_rng, len_lst, len_tup, Int.toNat_natCast, Int.reduceToNat, Int.reduceLE, Int.reduceLT, Nat.reducePow, Nat.reduceLT, and_self, if_true, if_false, ite_true, ite_false, true_and, and_true, reduceIte, ez, o_idx (pre_lst pre1 hm), a2, o_idx (pre_lst pre1 hq), a3, seti_dct h1 (show kvs.length < 16777216 by omega)]
    refine ⟨pre_set pre1 hA, _, rfl, _, at_set (at_lt h1), ?_, hK.put (hx _ (List.getElem_mem _))⟩
    have := put_len kvs (.inr (xs[3 + k]'(by omega))) (.int (ds[8 + k]'(by omega) - 2))
    omega
  · rintro _ s1 ⟨pre1, b, rfl, kvs, h1, hl, hK⟩
    exact hD b s1 pre1 ⟨kvs, h1, by omega, hK⟩
end
end EVL

/-! ## P17 -/
set_option maxRecDepth 10000
set_option maxHeartbeats 800000
namespace EVL
open PySem L2 EV
theorem Row.mono {s s' : Store} {r : Nat} (p : s <+: s') : Row s r → Row s' r := fun ⟨ps, h1, h2⟩ => ⟨ps, mut_pre p h1, h2⟩
theorem mut_setD {s : Store} {A r : Nat} {kvs : List (Key × Val)} {o : Ob} {vs : List Val} (h : s[A]? = some (.dct kvs)) (k : mutAt s r = some vs) : mutAt (s.set A o) r = some vs := by
  have ne : A ≠ r := by
    rintro rfl
    rw [mut_at k] at h
    cases h
  unfold mutAt
  rw [List.getElem?_set_ne ne, mut_at k]
theorem Row.setD {s : Store} {A r : Nat} {kvs : List (Key × Val)} {o : Ob} (h : s[A]? = some (.dct kvs)) : Row s r → Row (s.set A o) r := fun ⟨ps, h1, h2⟩ => ⟨ps, mut_setD h h1, h2⟩
theorem put_has {kvs : List (Key × Val)} {k : Key} {v : Val} : ∃ kv ∈ putKV kvs k v, kv.1 = k := by
  unfold putKV
  split
  · rename_i h
    obtain ⟨q, hq, e⟩ := List.any_eq_true.mp h
    have e := of_decide_eq_true e
    exact ⟨_, List.mem_map_of_mem hq, by rw [if_pos e]; exact e⟩
  · exact ⟨(k, v), List.mem_append_right _ (List.mem_singleton.mpr rfl), rfl⟩
theorem put_keep {kvs : List (Key × Val)} {k k' : Key} {v : Val} (h : ∃ kv ∈ kvs, kv.1 = k') : ∃ kv ∈ putKV kvs k v, kv.1 = k' := by
  obtain ⟨q, hq, e⟩ := h
  unfold putKV
  split
  · refine ⟨_, List.mem_map_of_mem hq, ?_⟩
    split <;> exact e
  · exact ⟨q, List.mem_append_left _ hq, e⟩
theorem o_didx {s : Store} {A : Nat} {kvs : List (Key × Val)} {x : Str} {P : Val → Prop} (h : s[A]? = some (.dct kvs)) (hk : ∃ kv ∈ kvs, kv.1 = .inr x) (hP : ∀ kv ∈ kvs, P kv.2) : ∃ v, idxV s (.ref A) (.str x) = some v ∧ P v := by
  have e : idxV s (.ref A) (.str x) = (match s[A]? with
      | some (.dct kvs) => (kvs.find? fun kv => decide (kv.1 = .inr x)).map (·.2)
      | some (.frd kvs) => (kvs.find? fun kv => decide (kv.1 = .inr x)).map (·.2)
      | _ => none) := rfl
  rw [e, h]
  cases q : kvs.find? fun kv => decide (kv.1 = .inr x) with
  | none =>
    obtain ⟨kv, h1, h2⟩ := hk
    have z := List.find?_eq_none.mp q kv h1
    exact absurd (decide_eq_true h2) z
  | some kv =>
    refine ⟨kv.2, by show (kvs.find? fun kv => decide (kv.1 = .inr x)).map (·.2) = _; rw [q]; rfl, hP kv (List.mem_of_find?_eq_some q)⟩
def ArrD (xs : List Str) (s : Store) (A k : Nat) : Prop := ∃ kvs, s[A]? = some (.dct kvs) ∧ kvs.length ≤ k ∧ Keyed kvs ∧ (∀ kv ∈ kvs, ∃ r, kv.2 = .ref r ∧ Row s r) ∧ ∀ j, j < k → ∀ x, xs[5 + j]? = some x → ∃ kv ∈ kvs, kv.1 = .inr x
theorem ArrD.mono {xs : List Str} {s s' : Store} {A k : Nat} (p : s <+: s') : ArrD xs s A k → ArrD xs s' A k := fun ⟨kvs, h1, h2, h3, h4, h5⟩ => ⟨kvs, pre_at p h1, h2, h3, fun kv hk => let ⟨r, e, hr⟩ := h4 kv hk; ⟨r, e, hr.mono p⟩, h5⟩
section
variable {st s : Store} {n m q A d' : Nat} {p : Int} {ns ds : List Int} {xs : List Str} {a b c d e f g h i : Option Val} {D : En}
theorem parts2 {w : Nat} (hs : lstAt st n = some (ns.map .int)) (hp : 0 ≤ p) (hq : lstAt st q = some (xs.map .str)) (hx : ∀ x ∈ xs, IsName x) (hxl : xs.length = 8) (hm : lstAt st m = some (ds.map .int)) (hdl : ds.length = 10) {x3 : Int} (h3 : ds[3]? = some x3) (hx3 : 0 ≤ x3 ∧ x3 < 2) (hA : st.length ≤ A) (hw : w ≤ 3) (pre : st <+: s) (h0 : s[A]? = some (.dct [])) 
    (hD : ∀ b s', st <+: s' → ArrD xs s' A w → D.nx (partsF n m q p a b c (some (.ref A)) e f g h i) s') :
    wo (forTurns (Tg.nm 5).give (EV.exs (clN (d' + 3)) l__law_parts_2) (.rng 0 w) w 0 (partsF n m q p a b c (some (.ref A)) e f g h i) s) D := by
  refine for_rng (fun k ρ s' => st <+: s' ∧ ∃ b, ρ = partsF n m q p a b c (some (.ref A)) e f g h i ∧ ArrD xs s' A k) ⟨pre, b, rfl, [], h0, Nat.le_refl _, fun _ z => absurd z List.not_mem_nil, fun _ z => absurd z List.not_mem_nil, fun j z => absurd z (Nat.not_lt_zero j)⟩ ?_ ?_
  · rintro k _ s1 hk ⟨pre1, b, rfl, kvs, h1, hl, hK, hR, hH⟩
    refine ⟨_, give_nm, ?_⟩
    have ez : (0 : Int) + (k : Int) = k := by omega
    have a3 : atI (xs.map Val.str) (5 + (k : Int)) = some (.str (xs[5 + k]'(by omega))) := by
      rw [show (5 + (k : Int)) = ((5 + k : Nat) : Int) by omega]
      exact strs_at (by omega)
    have a2 : atI (ds.map Val.int) 3 = some (.int x3) := ix_at (k := 3) h3
    unfold l__law_parts_2
    simp only [w_varM, w_con, w_bin, w_neg, w_not, w_and, w_or, w_cmp, w_chain, w_ife, w_call, w_callp, w_star, w_blt, w_mth, w_idx, w_slc, w_lst, w_tup, w_tab, w_tin, w_dnew, w_rev, w_lc, w_lsc, w_dc, w_disp, w_get, w_fld, w_mk, w_meth, w_prop, w_nil, w_cons, w_onone, w_osome, w_tnone, w_tsome, w_tnot, w_tand, w_tor, w_tval, w_iex, w_irng1, w_irng2, w_irng3, w_izip, w_run, w_snil, w_scons, w_set, w_unp, w_seti, w_setf, w_exp, w_ret, w_retn, w_pass, w_ifs, w_loop, w_rais, w_try, wr_ok, wr_some, wr_none, wr_stuck, wr_bind, wr_quiet, wr_lift_ite, wr_ite, wo_ite, wo_next, wo_ret, wo_brk, wo_cnt, o_add, o_sub, o_mul, o_fdiv, o_mod, o_pow, o_neg, o_lt, o_le, o_gt, o_ge, o_eq, o_ne, o_eqs, o_nes, o_isB, o_notB, o_tbl, o_int, o_lst, decide_eq_true_eq, Bool.not_eq_true', decide_eq_false_iff_not, beq_iff_eq, List.map_cons, List.map_nil, List.length_cons, List.length_nil, List.replicate_succ, List.replicate_zero, List.cons_append, List.nil_append, List.getElem?_cons_zero, List.getElem?_cons_succ, List.set_cons_zero, List.set_cons_succ, Nat.reduceSub, Nat.reduceAdd, Nat.zero_add, Option.map_some, Option.map_none, c_na10, o_rng1, len_rng, len_lst, len_tup, Int.toNat_natCast, Int.reduceToNat, Int.reduceLE, Int.reduceLT, Nat.reducePow, Nat.reduceLT, and_self, if_true, if_false, ite_true, ite_false, true_and, and_true, reduceIte, ez, o_idx (pre_lst pre1 hm), a2]
    refine wr_imp (row_ok (size := 15) (d := d') (pre_lst pre1 hs) (show 0 ≤ p + 2 + (k : Int) by omega) (by decide) (by decide) ⟨by omega, by omega⟩) ?_
    rintro _ s2 ⟨pre2, r, rfl, hr⟩
    have h2 := pre_at pre2 h1
    simp only [w_varM, w_con, w_bin, w_neg, w_not, w_and, w_or, w_cmp, w_chain, w_ife, w_call, w_callp, w_star, w_blt, w_mth, w_idx, w_slc, w_lst, w_tup, w_tab, w_tin, w_dnew, w_rev, w_lc, w_lsc, w_dc, w_disp, w_get, w_fld, w_mk, w_meth, w_prop, w_nil, w_cons, w_onone, w_osome, w_tnone, w_tsome, w_tnot, w_tand, w_tor, w_tval, w_iex, w_irng1, w_irng2, w_irng3, w_izip, w_run, w_snil, w_scons, w_set, w_unp, w_seti, w_setf, w_exp, w_ret, w_retn, w_pass, w_ifs, w_loop, w_rais, w_try, wr_ok, wr_some, wr_none, wr_stuck, wr_bind, wr_quiet, wr_lift_ite, wr_ite, wo_ite, wo_next, wo_ret, wo_brk, wo_cnt, o_add, o_sub, o_mul, o_fdiv, o_mod, o_pow, o_neg, o_lt, o_le, o_gt, o_ge, o_eq, o_ne, o_eqs, o_nes, o_isB, o_notB, o_tbl, o_int, o_lst, decide_eq_true_eq, Bool.not_eq_true', decide_eq_false_iff_not, beq_iff_eq, List.map_cons, List.map_nil, List.length_cons, List.length_nil, List.replicate_succ, List.replicate_zero, List.cons_append, List.nil_append, List.getElem?_cons_zero, List.getElem?_cons_succ, List.set_cons_zero, List.set_cons_succ, Nat.reduceSub, Nat.reduceAdd, Nat.zero_add, Option.map_some, Option.map_none, c_na10, o_rng1, len_rng, len_lst, len_tup, Int.toNat_natCast, Int.reduceToNat, Int.reduceLE, Int.reduceLT, Nat.reducePow, Nat.reduceLT, and_self, if_true, if_false, ite_true, ite_false, true_and, and_true, reduceIte, o_idx (pre_lst (pre1.trans pre2) hq), a3, seti_dct h2 (show kvs.length < 16777216 by omega)]
    refine ⟨pre_set (pre1.trans pre2) hA, _, rfl, _, at_set (at_lt h2), ?_, hK.put (hx _ (List.getElem_mem _)), ?_, ?_⟩
    · have := put_len kvs (.inr (xs[5 + k]'(by omega))) (.ref r)
      omega
    · intro kv hkv
      rcases put_mem hkv with hkv | rfl
      · obtain ⟨r', e1, hr'⟩ := hR kv hkv
        exact ⟨r', e1, (hr'.mono pre2).setD h2⟩
      · exact ⟨r, rfl, hr.setD h2⟩
    · intro j hj x hxj
      by_cases hjk : j < k
      · exact put_keep (hH j hjk x hxj)
      · have ej : j = k := by omega
        subst ej
        have e5 : xs[5 + j] = x := by
          rw [List.getElem?_eq_getElem (by omega)] at hxj
          exact Option.some.inj hxj
        rw [← e5]
        exact put_has
  · rintro _ s1 ⟨pre1, b, rfl, h⟩
    exact hD b s1 pre1 h
end
end EVL

/-! ## P18 -/
set_option maxRecDepth 10000
set_option maxHeartbeats 800000
namespace EVL
open PySem L2 EV
theorem flat_ints : ∀ acc : List Int, (acc.map Val.int).all flat = true
  | [] => rfl
  | x :: r => by
    show (flat (.int x) && (r.map Val.int).all flat) = true
    rw [flat_ints r]
    rfl
theorem o_notin {s : Store} {q : Nat} {acc : List Int} {x : Int} (h : mutAt s q = some (acc.map .int)) : ∃ b, cmpV .notin (.int x) (.ref q) s = some b := by
  have e : cmpV .notin (.int x) (.ref q) s = (match s[q]? with
    | some (.dct kvs) => some (kvs.any fun (kv : Key × Val) => decide (kv.1 = (Sum.inl x : Key)))
    | some (.lst vs) => if flat (.int x) && vs.all flat then some (vs.any fun w => eqF w (.int x)) else none
    | some (.fro vs) => if flat (.int x) && vs.all flat then some (vs.any fun w => eqF w (.int x)) else none
    | _ => none).map (!·) := rfl
  refine ⟨!((acc.map Val.int).any fun w => eqF w (.int x)), ?_⟩
  rw [e, mut_at h]
  show (if flat (.int x) && (acc.map Val.int).all flat then _ else _ : Option Bool).map (!·) = _
  rw [flat_ints]
  rfl
theorem seti_lst {s : Store} {n j : Nat} {vs : List Val} {i : Int} {v : Val} (h : mutAt s n = some vs) (hi : ixN vs.length i = some j) : setiV (.ref n) (.int i) v s = some (s.set n (.lst (vs.set j v))) := by
  have e : setiV (.ref n) (.int i) v s = (match s[n]? with
    | some (.lst vs) => match ixN vs.length i with
        | some k => some (s.set n (.lst (vs.set k v)))
        | none => none
    | some (.dct kvs) => if decide (kvs.length < 16777216) then some (s.set n (.dct (putKV kvs (Sum.inl i : Key) v))) else none
    | _ => none) := rfl
  rw [e, mut_at h]
  show (match ixN vs.length i with
        | some k => some (s.set n (.lst (vs.set k v)))
        | none => none) = _
  rw [hi]
theorem ixN_nat {n : Nat} {i : Int} (h : 0 ≤ i ∧ i < n) : ixN n i = some i.toNat := by
  unfold ixN
  rw [if_pos h.1, if_pos h.2]
theorem set_pair (ps : List (Int × Int)) (j : Nat) (p : Int × Int) : (ps.map pairV).set j (pairV p) = (ps.set j p).map pairV := by rw [List.map_set]
section
variable {st s : Store} {n m q A : Nat} {p : Int} {ds : List Int} {xs : List Str} {a b c e f g h i : Option Val} {cl : Cl} {r : Nat} {ps : List (Int × Int)}
abbrev x3E : Ex := .lc x__law_parts_3 (.tp [11, 12]) (.ex (.idx (.var 7) (.idx (.var 3) (.con (.int 5))))) .none [11, 12]
abbrev x4E : Ex := .lc x__law_parts_4 (.nm 10) (.ex (.var 8)) .none [10]
abbrev x5E : Ex := .lc x__law_parts_5 (.nm 5) (.rng1 (.blt .len (.cons (.var 8) .nil))) (.some (.val (.cmp .notin (.idx (.idx (.var 8) (.var 5)) (.con (.int 0))) (.slc (.var 9) .none (.some (.var 5)))))) [5]
theorem tail3 {v5 : Val} {x4 : Int} (hq : lstAt s q = some (xs.map .str)) (hxl : xs.length = 8) (hm : lstAt s m = some (ds.map .int)) (h4 : ds[4]? = some x4) (hA : ArrD xs s A 2 ∨ ArrD xs s A 3) :
    wr (ev cl x3E (partsF n m q p a b c (some (.ref A)) e f g h i) s) (fun v s' => s <+: s' ∧ ∃ r, v = .ref r ∧ s.length ≤ r ∧ Row s' r) noX := by
  have hA : ∃ k, 2 ≤ k ∧ ArrD xs s A k := by rcases hA with hA | hA <;> exact ⟨_, by decide, hA⟩
  obtain ⟨k, hk2, kvs, h1, hl, hK, hR, hH⟩ := hA
  have a5 : atI (xs.map Val.str) 5 = some (.str (xs[5]'(by omega))) := strs_at (k := 5) (by omega)
  have a2 : atI (ds.map Val.int) 4 = some (.int x4) := ix_at (k := 4) h4
  obtain ⟨v, hv, r, rfl, ps, hr, hl1, hl2⟩ := o_didx (x := xs[5]'(by omega)) (P := fun v => ∃ r, v = .ref r ∧ Row s r) h1 (hH 0 (by omega) _ (List.getElem?_eq_getElem (by omega))) hR
  show wr (ev cl (.lc x__law_parts_3 (.tp [11, 12]) (.ex (.idx (.var 7) (.idx (.var 3) (.con (.int 5))))) .none [11, 12]) _ s) _ noX
  rw [w_lc, w_iex]
  simp only [w_varM, w_con, w_bin, w_neg, w_not, w_and, w_or, w_cmp, w_chain, w_ife, w_call, w_callp, w_star, w_blt, w_mth, w_idx, w_slc, w_lst, w_tup, w_tab, w_tin, w_dnew, w_rev, w_lc, w_lsc, w_dc, w_disp, w_get, w_fld, w_mk, w_meth, w_prop, w_nil, w_cons, w_onone, w_osome, w_tnone, w_tsome, w_tnot, w_tand, w_tor, w_tval, w_iex, w_irng1, w_irng2, w_irng3, w_izip, w_run, w_snil, w_scons, w_set, w_unp, w_seti, w_setf, w_exp, w_ret, w_retn, w_pass, w_ifs, w_loop, w_rais, w_try, wr_ok, wr_some, wr_none, wr_stuck, wr_bind, wr_quiet, wr_lift_ite, wr_ite, wo_ite, wo_next, wo_ret, wo_brk, wo_cnt, o_add, o_sub, o_mul, o_fdiv, o_mod, o_pow, o_neg, o_lt, o_le, o_gt, o_ge, o_eq, o_ne, o_eqs, o_nes, o_isB, o_notB, o_tbl, o_int, o_lst, decide_eq_true_eq, Bool.not_eq_true', decide_eq_false_iff_not, beq_iff_eq, List.map_cons, List.map_nil, List.length_cons, List.length_nil, List.replicate_succ, List.replicate_zero, List.cons_append, List.nil_append, List.getElem?_cons_zero, List.getElem?_cons_succ, List.set_cons_zero, List.set_cons_succ, Nat.reduceSub, Nat.reduceAdd, Nat.zero_add, Option.map_some, Option.map_none, c_na10, o_rng1, len_rng, len_lst, len_tup, Int.toNat_natCast, Int.reduceToNat, Int.reduceLE, Int.reduceLT, Nat.reducePow, Nat.reduceLT, and_self, if_true, if_false, ite_true, ite_false, true_and, and_true, reduceIte, o_idx hq, a5, hv, o_wk (mut_lst hr)]
  rw [List.length_map]
  refine wr_imp (lc_rel (w := .lst r ps.length) (n := ps.length) (fun i y => ∃ q : Int × Int, y = pairV q) rfl (by omega) ?_ fun s' pre => fits_lst (List.length_map _) (pre_lst pre (mut_lst hr))) ?_
  · intro i s' hi pre
    have hv : (ps.map pairV)[i]? = some (pairV ps[i]) := by rw [List.getElem?_map, List.getElem?_eq_getElem hi]; rfl
    refine ⟨pairV ps[i], _, item_lst (List.length_map _) (pre_lst pre (mut_lst hr)) hv, rfl, ?_⟩
    have l2 : lineOk 2 = true := by decide
    unfold x__law_parts_3
    simp only [w_varM, w_con, w_bin, w_neg, w_not, w_and, w_or, w_cmp, w_chain, w_ife, w_call, w_callp, w_star, w_blt, w_mth, w_idx, w_slc, w_lst, w_tup, w_tab, w_tin, w_dnew, w_rev, w_lc, w_lsc, w_dc, w_disp, w_get, w_fld, w_mk, w_meth, w_prop, w_nil, w_cons, w_onone, w_osome, w_tnone, w_tsome, w_tnot, w_tand, w_tor, w_tval, w_iex, w_irng1, w_irng2, w_irng3, w_izip, w_run, w_snil, w_scons, w_set, w_unp, w_seti, w_setf, w_exp, w_ret, w_retn, w_pass, w_ifs, w_loop, w_rais, w_try, wr_ok, wr_some, wr_none, wr_stuck, wr_bind, wr_quiet, wr_lift_ite, wr_ite, wo_ite, wo_next, wo_ret, wo_brk, wo_cnt, o_add, o_sub, o_mul, o_fdiv, o_mod, o_pow, o_neg, o_lt, o_le, o_gt, o_ge, o_eq, o_ne, o_eqs, o_nes, o_isB, o_notB, o_tbl, o_int, o_lst, decide_eq_true_eq, Bool.not_eq_true', decide_eq_false_iff_not, beq_iff_eq, List.map_cons, List.map_nil, List.length_cons, List.length_nil, List.replicate_succ, List.replicate_zero, List.cons_append, List.nil_append, List.getElem?_cons_zero, List.getElem?_cons_succ, List.set_cons_zero, List.set_cons_succ, Nat.reduceSub, Nat.reduceAdd, Nat.zero_add, Option.map_some, Option.map_none, c_na10, o_rng1, len_rng, len_lst, len_tup, Int.toNat_natCast, Int.reduceToNat, Int.reduceLE, Int.reduceLT, Nat.reducePow, Nat.reduceLT, and_self, if_true, if_false, ite_true, ite_false, true_and, and_true, reduceIte, wipeF, o_idx (pre_lst pre hm), a2, l2]
    exact ⟨⟨(ps[i].1, ps[i].2 + x4), rfl⟩, pre_rfl⟩
  · rintro _ s' ⟨pre, rfl, ys, hys, hlen, hR⟩
    obtain ⟨qs, rfl⟩ := of_pic (f := pairV) (ys := ys) fun y hy => by
      obtain ⟨i, hi⟩ := List.getElem?_of_mem hy
      exact hR i y hi
    rw [List.length_map] at hlen
    exact ⟨pre, _, rfl, Nat.le_refl _, qs, hys, by omega, by omega⟩
theorem tail4 (hr : mutAt s r = some (ps.map pairV)) (hl : ps.length ≤ 100) :
    wr (ev cl x4E (partsF n m q p a b c (some (.ref A)) (some (.ref r)) f g h i) s) (fun v s' => s <+: s' ∧ ∃ (u : Nat) (zs : List Int), v = .ref u ∧ mutAt s' u = some (zs.map .int)) noX := by
  show wr (ev cl (.lc x__law_parts_4 (.nm 10) (.ex (.var 8)) .none [10]) _ s) _ noX
  rw [w_lc, w_iex]
  simp only [w_varM, w_con, w_bin, w_neg, w_not, w_and, w_or, w_cmp, w_chain, w_ife, w_call, w_callp, w_star, w_blt, w_mth, w_idx, w_slc, w_lst, w_tup, w_tab, w_tin, w_dnew, w_rev, w_lc, w_lsc, w_dc, w_disp, w_get, w_fld, w_mk, w_meth, w_prop, w_nil, w_cons, w_onone, w_osome, w_tnone, w_tsome, w_tnot, w_tand, w_tor, w_tval, w_iex, w_irng1, w_irng2, w_irng3, w_izip, w_run, w_snil, w_scons, w_set, w_unp, w_seti, w_setf, w_exp, w_ret, w_retn, w_pass, w_ifs, w_loop, w_rais, w_try, wr_ok, wr_some, wr_none, wr_stuck, wr_bind, wr_quiet, wr_lift_ite, wr_ite, wo_ite, wo_next, wo_ret, wo_brk, wo_cnt, o_add, o_sub, o_mul, o_fdiv, o_mod, o_pow, o_neg, o_lt, o_le, o_gt, o_ge, o_eq, o_ne, o_eqs, o_nes, o_isB, o_notB, o_tbl, o_int, o_lst, decide_eq_true_eq, Bool.not_eq_true', decide_eq_false_iff_not, beq_iff_eq, List.map_cons, List.map_nil, List.length_cons, List.length_nil, List.replicate_succ, List.replicate_zero, List.cons_append, List.nil_append, List.getElem?_cons_zero, List.getElem?_cons_succ, List.set_cons_zero, List.set_cons_succ, Nat.reduceSub, Nat.reduceAdd, Nat.zero_add, Option.map_some, Option.map_none, c_na10, o_rng1, len_rng, len_lst, len_tup, Int.toNat_natCast, Int.reduceToNat, Int.reduceLE, Int.reduceLT, Nat.reducePow, Nat.reduceLT, and_self, if_true, if_false, ite_true, ite_false, true_and, and_true, reduceIte, o_wk (mut_lst hr)]
  rw [List.length_map]
  refine wr_imp (lc_rel (w := .lst r ps.length) (n := ps.length) (fun i y => ∃ q : Int, y = .int q) rfl (by omega) ?_ fun s' pre => fits_lst (List.length_map _) (pre_lst pre (mut_lst hr))) ?_
  · intro i s' hi pre
    have hv : (ps.map pairV)[i]? = some (pairV ps[i]) := by rw [List.getElem?_map, List.getElem?_eq_getElem hi]; rfl
    refine ⟨pairV ps[i], _, item_lst (List.length_map _) (pre_lst pre (mut_lst hr)) hv, rfl, ?_⟩
    have i0 : ∀ s, idxV s (pairV ps[i]) (.int 0) = some (.int ps[i].1) := fun _ => rfl
    unfold x__law_parts_4
    simp only [w_varM, w_con, w_bin, w_neg, w_not, w_and, w_or, w_cmp, w_chain, w_ife, w_call, w_callp, w_star, w_blt, w_mth, w_idx, w_slc, w_lst, w_tup, w_tab, w_tin, w_dnew, w_rev, w_lc, w_lsc, w_dc, w_disp, w_get, w_fld, w_mk, w_meth, w_prop, w_nil, w_cons, w_onone, w_osome, w_tnone, w_tsome, w_tnot, w_tand, w_tor, w_tval, w_iex, w_irng1, w_irng2, w_irng3, w_izip, w_run, w_snil, w_scons, w_set, w_unp, w_seti, w_setf, w_exp, w_ret, w_retn, w_pass, w_ifs, w_loop, w_rais, w_try, wr_ok, wr_some, wr_none, wr_stuck, wr_bind, wr_quiet, wr_lift_ite, wr_ite, wo_ite, wo_next, wo_ret, wo_brk, wo_cnt, o_add, o_sub, o_mul, o_fdiv, o_mod, o_pow, o_neg, o_lt, o_le, o_gt, o_ge, o_eq, o_ne, o_eqs, o_nes, o_isB, o_notB, o_tbl, o_int, o_lst, decide_eq_true_eq, Bool.not_eq_true', decide_eq_false_iff_not, beq_iff_eq, List.map_cons, List.map_nil, List.length_cons, List.length_nil, List.replicate_succ, List.replicate_zero, List.cons_append, List.nil_append, List.getElem?_cons_zero, List.getElem?_cons_succ, List.set_cons_zero, List.set_cons_succ, Nat.reduceSub, Nat.reduceAdd, Nat.zero_add, Option.map_some, Option.map_none, c_na10, o_rng1, len_rng, len_lst, len_tup, Int.toNat_natCast, Int.reduceToNat, Int.reduceLE, Int.reduceLT, Nat.reducePow, Nat.reduceLT, and_self, if_true, if_false, ite_true, ite_false, true_and, and_true, reduceIte, wipeF, i0]
    exact ⟨⟨_, rfl⟩, pre_rfl⟩
  · rintro _ s' ⟨pre, rfl, ys, hys, hlen, hR⟩
    obtain ⟨qs, rfl⟩ := of_pic (f := Val.int) (ys := ys) fun y hy => by
      obtain ⟨i, hi⟩ := List.getElem?_of_mem hy
      exact hR i y hi
    exact ⟨pre, _, qs, rfl, hys⟩
theorem tail5 {u : Nat} {zs : List Int} (hr : mutAt s r = some (ps.map pairV)) (hu : mutAt s u = some (zs.map .int)) (hl : ps.length ≤ 100) :
    wr (ev cl x5E (partsF n m q p a b c (some (.ref A)) (some (.ref r)) (some (.ref u)) g h i) s) (fun v s' => s <+: s' ∧ ∃ u, v = .ref u ∧ RowP s' u) noX := by
  show wr (ev cl (.lc x__law_parts_5 (.nm 5) (.rng1 (.blt .len (.cons (.var 8) .nil))) (.some (.val (.cmp .notin (.idx (.idx (.var 8) (.var 5)) (.con (.int 0))) (.slc (.var 9) .none (.some (.var 5)))))) [5]) _ s) _ noX
  have hg : rngOk (ps.length : Int) = true := rng_ok ⟨by omega, by omega⟩
  rw [w_lc, w_irng1]
  simp only [w_varM, w_con, w_bin, w_neg, w_not, w_and, w_or, w_cmp, w_chain, w_ife, w_call, w_callp, w_star, w_blt, w_mth, w_idx, w_slc, w_lst, w_tup, w_tab, w_tin, w_dnew, w_rev, w_lc, w_lsc, w_dc, w_disp, w_get, w_fld, w_mk, w_meth, w_prop, w_nil, w_cons, w_onone, w_osome, w_tnone, w_tsome, w_tnot, w_tand, w_tor, w_tval, w_iex, w_irng1, w_irng2, w_irng3, w_izip, w_run, w_snil, w_scons, w_set, w_unp, w_seti, w_setf, w_exp, w_ret, w_retn, w_pass, w_ifs, w_loop, w_rais, w_try, wr_ok, wr_some, wr_none, wr_stuck, wr_bind, wr_quiet, wr_lift_ite, wr_ite, wo_ite, wo_next, wo_ret, wo_brk, wo_cnt, o_add, o_sub, o_mul, o_fdiv, o_mod, o_pow, o_neg, o_lt, o_le, o_gt, o_ge, o_eq, o_ne, o_eqs, o_nes, o_isB, o_notB, o_tbl, o_int, o_lst, decide_eq_true_eq, Bool.not_eq_true', decide_eq_false_iff_not, beq_iff_eq, List.map_cons, List.map_nil, List.length_cons, List.length_nil, List.replicate_succ, List.replicate_zero, List.cons_append, List.nil_append, List.getElem?_cons_zero, List.getElem?_cons_succ, List.set_cons_zero, List.set_cons_succ, Nat.reduceSub, Nat.reduceAdd, Nat.zero_add, Option.map_some, Option.map_none, c_na10, o_rng1, len_rng, len_lst, len_tup, Int.toNat_natCast, Int.reduceToNat, Int.reduceLE, Int.reduceLT, Nat.reducePow, Nat.reduceLT, and_self, if_true, if_false, ite_true, ite_false, true_and, and_true, reduceIte, mut_len hr, List.length_map, o_rng1 (cl := cl) (ρ := []), hg]
  refine wr_imp (lc_sub (w := .rng 0 ps.length) (n := ps.length) (fun y => ∃ q : Int × Int, y = pairV q) rfl (by omega) ?_ fun s' pre => rfl) ?_
  · intro i s' hi pre
    refine ⟨.int (0 + (i : Int)), _, rfl, give_nm, ?_⟩
    have ez : (0 : Int) + (i : Int) = i := by omega
    have hv : (ps.map pairV)[i]? = some (pairV ps[i]) := by rw [List.getElem?_map, List.getElem?_eq_getElem hi]; rfl
    have h1 : atI (ps.map pairV) (i : Int) = some (pairV ps[i]) := atI_nat hv
    have i0 : ∀ s, idxV s (pairV ps[i]) (.int 0) = some (.int ps[i].1) := fun _ => rfl
    have hc : ∀ lo hi, slcV (.ref u) lo hi s' = some (.ref s'.length, s' ++ [.lst ((EV.cut zs lo hi).map .int)]) := fun lo hi => by rw [o_slcM (mut_pre pre hu), cut_ints]
    obtain ⟨bb, hb⟩ := o_notin (s := s' ++ [Ob.lst ((EV.cut zs none (some (i : Int))).map .int)]) (x := ps[i].1) mut_new
    simp only [w_varM, w_con, w_bin, w_neg, w_not, w_and, w_or, w_cmp, w_chain, w_ife, w_call, w_callp, w_star, w_blt, w_mth, w_idx, w_slc, w_lst, w_tup, w_tab, w_tin, w_dnew, w_rev, w_lc, w_lsc, w_dc, w_disp, w_get, w_fld, w_mk, w_meth, w_prop, w_nil, w_cons, w_onone, w_osome, w_tnone, w_tsome, w_tnot, w_tand, w_tor, w_tval, w_iex, w_irng1, w_irng2, w_irng3, w_izip, w_run, w_snil, w_scons, w_set, w_unp, w_seti, w_setf, w_exp, w_ret, w_retn, w_pass, w_ifs, w_loop, w_rais, w_try, wr_ok, wr_some, wr_none, wr_stuck, wr_bind, wr_quiet, wr_lift_ite, wr_ite, wo_ite, wo_next, wo_ret, wo_brk, wo_cnt, o_add, o_sub, o_mul, o_fdiv, o_mod, o_pow, o_neg, o_lt, o_le, o_gt, o_ge, o_eq, o_ne, o_eqs, o_nes, o_isB, o_notB, o_tbl, o_int, o_lst, decide_eq_true_eq, Bool.not_eq_true', decide_eq_false_iff_not, beq_iff_eq, List.map_cons, List.map_nil, List.length_cons, List.length_nil, List.replicate_succ, List.replicate_zero, List.cons_append, List.nil_append, List.getElem?_cons_zero, List.getElem?_cons_succ, List.set_cons_zero, List.set_cons_succ, Nat.reduceSub, Nat.reduceAdd, Nat.zero_add, Option.map_some, Option.map_none, c_na10, o_rng1, len_rng, len_lst, len_tup, Int.toNat_natCast, Int.reduceToNat, Int.reduceLE, Int.reduceLT, Nat.reducePow, Nat.reduceLT, and_self, if_true, if_false, ite_true, ite_false, true_and, and_true, reduceIte, wipeF, ez, o_idx (pre_lst pre (mut_lst hr)), h1, i0, hc, hb]
    refine ⟨pre_app pre_rfl _, fun _ => ?_⟩
    unfold x__law_parts_5
    simp only [w_varM, w_con, w_bin, w_neg, w_not, w_and, w_or, w_cmp, w_chain, w_ife, w_call, w_callp, w_star, w_blt, w_mth, w_idx, w_slc, w_lst, w_tup, w_tab, w_tin, w_dnew, w_rev, w_lc, w_lsc, w_dc, w_disp, w_get, w_fld, w_mk, w_meth, w_prop, w_nil, w_cons, w_onone, w_osome, w_tnone, w_tsome, w_tnot, w_tand, w_tor, w_tval, w_iex, w_irng1, w_irng2, w_irng3, w_izip, w_run, w_snil, w_scons, w_set, w_unp, w_seti, w_setf, w_exp, w_ret, w_retn, w_pass, w_ifs, w_loop, w_rais, w_try, wr_ok, wr_some, wr_none, wr_stuck, wr_bind, wr_quiet, wr_lift_ite, wr_ite, wo_ite, wo_next, wo_ret, wo_brk, wo_cnt, o_add, o_sub, o_mul, o_fdiv, o_mod, o_pow, o_neg, o_lt, o_le, o_gt, o_ge, o_eq, o_ne, o_eqs, o_nes, o_isB, o_notB, o_tbl, o_int, o_lst, decide_eq_true_eq, Bool.not_eq_true', decide_eq_false_iff_not, beq_iff_eq, List.map_cons, List.map_nil, List.length_cons, List.length_nil, List.replicate_succ, List.replicate_zero, List.cons_append, List.nil_append, List.getElem?_cons_zero, List.getElem?_cons_succ, List.set_cons_zero, List.set_cons_succ, Nat.reduceSub, Nat.reduceAdd, Nat.zero_add, Option.map_some, Option.map_none, c_na10, o_rng1, len_rng, len_lst, len_tup, Int.toNat_natCast, Int.reduceToNat, Int.reduceLE, Int.reduceLT, Nat.reducePow, Nat.reduceLT, and_self, if_true, if_false, ite_true, ite_false, true_and, and_true, reduceIte, o_idx (pre_lst (pre_app pre _) (mut_lst hr)), h1]
    exact ⟨⟨_, rfl⟩, pre_rfl⟩
  · rintro _ s' ⟨pre, rfl, ys, hys, hlen, hR⟩
    obtain ⟨qs, rfl⟩ := of_pic hR
    rw [List.length_map] at hlen
    exact ⟨pre, _, rfl, qs, hys, by omega⟩
end
end EVL

/-! ## P19 -/
set_option maxRecDepth 10000
set_option maxHeartbeats 800000
namespace EVL
open PySem L2 EV
/-- a dict of names whose values are lists -/
def DctL (s : Store) (A : Nat) : Prop := ∃ kvs, s[A]? = some (.dct kvs) ∧ kvs.length ≤ 5 ∧ Keyed kvs ∧ ∀ kv ∈ kvs, ∃ (r : Nat) (vs : List Val), kv.2 = .ref r ∧ mutAt s r = some vs
theorem DctL.mono {s s' : Store} {A : Nat} (p : s <+: s') : DctL s A → DctL s' A := fun ⟨kvs, h1, h2, h3, h4⟩ => ⟨kvs, pre_at p h1, h2, h3, fun kv hk => let ⟨r, vs, e, h⟩ := h4 kv hk; ⟨r, vs, e, mut_pre p h⟩⟩
theorem DctL.n {s : Store} {A : Nat} : DctL s A → DctN s A := fun ⟨kvs, h1, h2, h3, _⟩ => ⟨kvs, h1, Nat.le_trans h2 (by decide), h3⟩
theorem ArrD.l {xs : List Str} {s : Store} {A k : Nat} (hk : k ≤ 5) : ArrD xs s A k → DctL s A := fun ⟨kvs, h1, h2, h3, h4, _⟩ => ⟨kvs, h1, by omega, h3, fun kv hkv => let ⟨r, e, ps, h, _⟩ := h4 kv hkv; ⟨r, _, e, h⟩⟩
def partLims : List Int := [4, 3, 4, 2, 3, 11, 11, 11, 9, 9]
section
variable {st s : Store} {n m q A : Nat} {p : Int} {ds : List Int} {xs : List Str} {a b c e f g h i : Option Val} {cl : Cl}
theorem parts_tail {D : En} {w : Nat} (hw : 2 ≤ w ∧ w ≤ 3) (hq : lstAt st q = some (xs.map .str)) (hx : ∀ x ∈ xs, IsName x) (hxl : xs.length = 8) (hm : lstAt st m = some (ds.map .int)) (hdl : ds.length = 10) (hA : st.length ≤ A) (pre : st <+: s) (h0 : ArrD xs s A w)
    (hD : ∀ e f s', st <+: s' → DctL s' A → D.nx (partsF n m q p a b c (some (.ref A)) e f g h i) s') :
    wo (EV.exs cl [.set 8 x3E, .seti (.var 8) (.bin .mod (.blt .int (.cons (.idx (.var 2) (.con (.int 5))) .nil)) (.blt .len (.cons (.var 8) .nil))) (.idx (.idx (.var 7) (.idx (.var 3) (.con (.int 6)))) (.con (.int 0))), .set 9 x4E, .seti (.var 7) (.idx (.var 3) (.con (.int 6))) x5E] (partsF n m q p a b c (some (.ref A)) e f g h i) s) D := by
  have hq0 := pre_lst pre hq
  have hm0 := pre_lst pre hm
  have hlt : ∀ j, j < 10 → j < ds.length := fun j hj => by omega
  refine w_cut (fun ρ s' => s <+: s' ∧ ∃ r, s.length ≤ r ∧ Row s' r ∧ ρ = partsF n m q p a b c (some (.ref A)) (some (.ref r)) f g h i) ?_ ?_
  · rw [w_set]
    have hA' : ArrD xs s A 2 ∨ ArrD xs s A 3 := by
      have hc : w = 2 ∨ w = 3 := by omega
      rcases hc with rfl | rfl
      · exact .inl h0
      · exact .inr h0
    refine wr_imp (tail3 (v5 := .non) hq0 hxl hm0 (List.getElem?_eq_getElem (hlt 4 (by decide))) hA') ?_
    rintro _ s' ⟨p', r, rfl, hr, hrow⟩
    exact ⟨p', r, hr, hrow, rfl⟩
  rintro _ s1 ⟨pre1, r, hrl, ⟨ps, hr, hl1, hl2⟩, rfl⟩
  have hq1 := pre_lst pre1 hq0
  have hm1 := pre_lst pre1 hm0
  obtain ⟨kvs, h1, hl, hK, hR, hH⟩ := h0.mono pre1
  have hAr : A < s.length := by
    obtain ⟨kvs, h1, _⟩ := h0
    exact at_lt h1
  have a5 : atI (ds.map Val.int) 5 = some (.int (ds[5]'(hlt 5 (by decide)))) := ix_at (k := 5) (List.getElem?_eq_getElem _)
  have a6 : atI (xs.map Val.str) 6 = some (.str (xs[6]'(by omega))) := strs_at (k := 6) (by omega)
  obtain ⟨v6, hv6, r6, rfl, ps6, hr6, hl61, hl62⟩ := o_didx (x := xs[6]'(by omega)) (P := fun v => ∃ r, v = .ref r ∧ Row s1 r) h1 (hH 1 (by omega) _ (List.getElem?_eq_getElem (by omega))) hR
  have hv0 : atI (ps6.map pairV) 0 = some (pairV (ps6[0]'hl62)) := atI_nat (j := 0) (by rw [List.getElem?_map, List.getElem?_eq_getElem hl62]; rfl)
  have hmod : 0 ≤ (ds[5]'(hlt 5 (by decide))) % (ps.length : Int) ∧ (ds[5]'(hlt 5 (by decide))) % (ps.length : Int) < ps.length := ⟨Int.emod_nonneg _ (by omega), Int.emod_lt_of_pos _ (by omega)⟩
  have hix : ixN (ps.map pairV).length ((ds[5]'(hlt 5 (by decide))) % (ps.length : Int)) = some ((ds[5]'(hlt 5 (by decide))) % (ps.length : Int)).toNat := by
    rw [List.length_map]
    exact ixN_nat hmod
  have hps0 : (0 : Int) < (ps.length : Int) := by omega
  refine w_cut (fun ρ s' => s <+: s' ∧ s'[A]? = some (.dct kvs) ∧ (∃ qs : List (Int × Int), mutAt s' r = some (qs.map pairV) ∧ qs.length ≤ 100) ∧ ρ = partsF n m q p a b c (some (.ref A)) (some (.ref r)) f g h i) ?_ ?_
  · simp only [w_varM, w_con, w_bin, w_neg, w_not, w_and, w_or, w_cmp, w_chain, w_ife, w_call, w_callp, w_star, w_blt, w_mth, w_idx, w_slc, w_lst, w_tup, w_tab, w_tin, w_dnew, w_rev, w_lc, w_lsc, w_dc, w_disp, w_get, w_fld, w_mk, w_meth, w_prop, w_nil, w_cons, w_onone, w_osome, w_tnone, w_tsome, w_tnot, w_tand, w_tor, w_tval, w_iex, w_irng1, w_irng2, w_irng3, w_izip, w_run, w_snil, w_scons, w_set, w_unp, w_seti, w_setf, w_exp, w_ret, w_retn, w_pass, w_ifs, w_loop, w_rais, w_try, wr_ok, wr_some, wr_none, wr_stuck, wr_bind, wr_quiet, wr_lift_ite, wr_ite, wo_ite, wo_next, wo_ret, wo_brk, wo_cnt, o_add, o_sub, o_mul, o_fdiv, o_mod, o_pow, o_neg, o_lt, o_le, o_gt, o_ge, o_eq, o_ne, o_eqs, o_nes, o_isB, o_notB, o_tbl, o_int, o_lst, decide_eq_true_eq, Bool.not_eq_true', decide_eq_false_iff_not, beq_iff_eq, List.map_cons, List.map_nil, List.length_cons, List.length_nil, List.replicate_succ, List.replicate_zero, List.cons_append, List.nil_append, List.getElem?_cons_zero, List.getElem?_cons_succ, List.set_cons_zero, List.set_cons_succ, Nat.reduceSub, Nat.reduceAdd, Nat.zero_add, Option.map_some, Option.map_none, c_na10, o_rng1, len_rng, len_lst, len_tup, Int.toNat_natCast, Int.reduceToNat, Int.reduceLE, Int.reduceLT, Nat.reducePow, Nat.reduceLT, and_self, if_true, if_false, ite_true, ite_false, true_and, and_true, reduceIte, o_idx hq1, a6, hv6, o_idx (mut_lst hr6), hv0, o_idx hm1, a5, mut_len hr, List.length_map, hps0, seti_lst hr hix]
    refine ⟨pre_set pre1 hrl, ?_, ⟨ps.set ((ds[5]'(hlt 5 (by decide))) % (ps.length : Int)).toNat (ps6[0]'hl62), ?_, by rw [List.length_set]; exact hl1⟩⟩
    · rw [List.getElem?_set_ne (by omega)]
      exact h1
    · rw [set_pair]
      exact mut_set hr
  rintro _ s2 ⟨pre2, h2, ⟨qs, hqs, hql⟩, rfl⟩
  have hq2 := pre_lst pre2 hq0
  refine w_cut (fun ρ s' => s2 <+: s' ∧ ∃ (u : Nat) (zs : List Int), mutAt s' u = some (zs.map .int) ∧ ρ = partsF n m q p a b c (some (.ref A)) (some (.ref r)) (some (.ref u)) g h i) ?_ ?_
  · rw [w_set]
    refine wr_imp (tail4 hqs hql) ?_
    rintro _ s' ⟨p', u, zs, rfl, hu⟩
    exact ⟨p', u, zs, hu, rfl⟩
  rintro _ s3 ⟨pre3, u, zs, hu, rfl⟩
  rw [w_one, w_seti]
  refine wr_imp (tail5 (mut_pre pre3 hqs) hu hql) ?_
  rintro _ s4 ⟨pre4, u4, rfl, hrow⟩
  have h4 := pre_at (pre3.trans pre4) h2
  simp only [w_varM, w_con, w_bin, w_neg, w_not, w_and, w_or, w_cmp, w_chain, w_ife, w_call, w_callp, w_star, w_blt, w_mth, w_idx, w_slc, w_lst, w_tup, w_tab, w_tin, w_dnew, w_rev, w_lc, w_lsc, w_dc, w_disp, w_get, w_fld, w_mk, w_meth, w_prop, w_nil, w_cons, w_onone, w_osome, w_tnone, w_tsome, w_tnot, w_tand, w_tor, w_tval, w_iex, w_irng1, w_irng2, w_irng3, w_izip, w_run, w_snil, w_scons, w_set, w_unp, w_seti, w_setf, w_exp, w_ret, w_retn, w_pass, w_ifs, w_loop, w_rais, w_try, wr_ok, wr_some, wr_none, wr_stuck, wr_bind, wr_quiet, wr_lift_ite, wr_ite, wo_ite, wo_next, wo_ret, wo_brk, wo_cnt, o_add, o_sub, o_mul, o_fdiv, o_mod, o_pow, o_neg, o_lt, o_le, o_gt, o_ge, o_eq, o_ne, o_eqs, o_nes, o_isB, o_notB, o_tbl, o_int, o_lst, decide_eq_true_eq, Bool.not_eq_true', decide_eq_false_iff_not, beq_iff_eq, List.map_cons, List.map_nil, List.length_cons, List.length_nil, List.replicate_succ, List.replicate_zero, List.cons_append, List.nil_append, List.getElem?_cons_zero, List.getElem?_cons_succ, List.set_cons_zero, List.set_cons_succ, Nat.reduceSub, Nat.reduceAdd, Nat.zero_add, Option.map_some, Option.map_none, c_na10, o_rng1, len_rng, len_lst, len_tup, Int.toNat_natCast, Int.reduceToNat, Int.reduceLE, Int.reduceLT, Nat.reducePow, Nat.reduceLT, and_self, if_true, if_false, ite_true, ite_false, true_and, and_true, reduceIte, o_idx (pre_lst (pre3.trans pre4) hq2), a6, seti_dct h4 (show kvs.length < 16777216 by omega)]
  obtain ⟨kvs', g1, _, _, g4, _⟩ := h0.mono (pre2.trans (pre3.trans pre4))
  rw [h4] at g1
  cases g1
  refine hD _ _ _ (pre_set ((pre.trans pre2).trans (pre3.trans pre4)) hA) ⟨_, at_set (at_lt h4), ?_, hK.put (hx _ (List.getElem_mem _)), fun kv hkv => ?_⟩
  · have := put_len kvs (.inr (xs[6]'(by omega))) (.ref u4)
    omega
  · rcases put_mem hkv with hkv | rfl
    · obtain ⟨r', e1, hr'⟩ := g4 kv hkv
      obtain ⟨ps', hps, _⟩ := hr'.setD (o := .dct (putKV kvs (.inr (xs[6]'(by omega))) (.ref u4))) h4
      exact ⟨r', _, e1, hps⟩
    · obtain ⟨ps', hps, _⟩ := hrow
      exact ⟨u4, _, rfl, mut_setD h4 hps⟩
end
/-- the three dicts -/
def Parts (s : Store) (v : Val) : Prop := ∃ a b c, v = .tup [.ref a, .ref b, .ref c] ∧ DctN s a ∧ DctN s b ∧ DctN s c
def PartsD (s : Store) (v : Val) : Prop := ∃ a b c, v = .tup [.ref a, .ref b, .ref c] ∧ DctN s a ∧ DctN s b ∧ DctL s c
theorem PartsD.p {s : Store} {v : Val} : PartsD s v → Parts s v := fun ⟨a, b, c, e, h1, h2, h3⟩ => ⟨a, b, c, e, h1, h2, h3.n⟩
theorem parts_okL {d n : Nat} {st : Store} {ns : List Int} {p : Int} (hs : lstAt st n = some (ns.map .int)) (hp : 0 ≤ p) :
    wr (clN (d + 4) id__law_parts [.ref n, .int p] st) (fun v st' => st <+: st' ∧ PartsD st' v) noX := by
  show wr (runB (clN (d + 3)) 13 b__law_parts [.ref n, .int p] st) _ noX
  unfold b__law_parts
  rw [w_run]
  refine w_cut (fun ρ s => st <+: s ∧ ∃ m, Drawn s m partLims ∧ ρ = [some (.ref n), some (.int p), some (.ref m), none, none, none, none, none, none, none, none, none, none]) ?_ ?_
  · rw [w_set]
    refine wr_imp (drawn (d := d + 1) (a := .var 0) (b := .var 1) (p := p) (n := n) (ls := partLims) rfl rfl hs hp (by rfl) (by decide) (by decide)) ?_
    rintro _ s ⟨pre, m, rfl, hm⟩
    exact ⟨pre, m, hm, rfl⟩
  rintro _ s1 ⟨pre1, m, ⟨ds, hds, hlen, hb⟩, rfl⟩
  have hlen : ds.length = 10 := hlen
  have hlt : ∀ j, j < 10 → j < ds.length := fun j hj => by omega
  have g : ∀ (j : Nat) (hj : j < 10), ds[j]? = some (ds[j]'(hlt j hj)) := fun j hj => List.getElem?_eq_getElem _
  have b0 := hb 0 _ 4 (g 0 (by decide)) rfl
  have b1 := hb 1 _ 3 (g 1 (by decide)) rfl
  have b2 := hb 2 _ 4 (g 2 (by decide)) rfl
  have b3 := hb 3 _ 2 (g 3 (by decide)) rfl
  have a0 : atI (ds.map Val.int) 0 = some (.int _) := ix_at (k := 0) (g 0 (by decide))
  have a1 : atI (ds.map Val.int) 1 = some (.int _) := ix_at (k := 1) (g 1 (by decide))
  have a2 : atI (ds.map Val.int) 2 = some (.int _) := ix_at (k := 2) (g 2 (by decide))
  have a3 : atI (ds.map Val.int) 3 = some (.int _) := ix_at (k := 3) (g 3 (by decide))
  generalize ds[0]'(hlt 0 (by decide)) = d0 at b0 a0
  generalize ds[1]'(hlt 1 (by decide)) = d1 at b1 a1
  generalize ds[2]'(hlt 2 (by decide)) = d2 at b2 a2
  have g3 := g 3 (by decide)
  generalize ds[3]'(hlt 3 (by decide)) = d3 at b3 a3 g3
  obtain ⟨w0, rfl⟩ : ∃ w : Nat, d0 = w := ⟨d0.toNat, by omega⟩
  obtain ⟨w1, rfl⟩ : ∃ w : Nat, d1 = w := ⟨d1.toNat, by omega⟩
  obtain ⟨w2, rfl⟩ : ∃ w : Nat, d2 = w := ⟨d2.toNat, by omega⟩
  have r0 : rngOk (w0 : Int) = true := rng_ok ⟨by omega, by omega⟩
  have r1 : rngOk (w1 : Int) = true := rng_ok ⟨by omega, by omega⟩
  have r2 : rngOk (w2 : Int) = true := rng_ok ⟨by omega, by omega⟩
  refine w_cut (fun ρ s => s1 <+: s ∧ ∃ q, Names s q 8 ∧ ρ = partsF n m q p none none none none none none none none none) ?_ ?_
  · simp only [w_varM, w_con, w_bin, w_neg, w_not, w_and, w_or, w_cmp, w_chain, w_ife, w_call, w_callp, w_star, w_blt, w_mth, w_idx, w_slc, w_lst, w_tup, w_tab, w_tin, w_dnew, w_rev, w_lc, w_lsc, w_dc, w_disp, w_get, w_fld, w_mk, w_meth, w_prop, w_nil, w_cons, w_onone, w_osome, w_tnone, w_tsome, w_tnot, w_tand, w_tor, w_tval, w_iex, w_irng1, w_irng2, w_irng3, w_izip, w_run, w_snil, w_scons, w_set, w_unp, w_seti, w_setf, w_exp, w_ret, w_retn, w_pass, w_ifs, w_loop, w_rais, w_try, wr_ok, wr_some, wr_none, wr_stuck, wr_bind, wr_quiet, wr_lift_ite, wr_ite, wo_ite, wo_next, wo_ret, wo_brk, wo_cnt, o_add, o_sub, o_mul, o_fdiv, o_mod, o_pow, o_neg, o_lt, o_le, o_gt, o_ge, o_eq, o_ne, o_eqs, o_nes, o_isB, o_notB, o_tbl, o_int, o_lst, decide_eq_true_eq, Bool.not_eq_true', decide_eq_false_iff_not, beq_iff_eq, List.map_cons, List.map_nil, List.length_cons, List.length_nil, List.replicate_succ, List.replicate_zero, List.cons_append, List.nil_append, List.getElem?_cons_zero, List.getElem?_cons_succ, List.set_cons_zero, List.set_cons_succ, Nat.reduceSub, Nat.reduceAdd, Nat.zero_add, Option.map_some, Option.map_none, c_na10, o_rng1, len_rng, len_lst, len_tup, Int.toNat_natCast, Int.reduceToNat, Int.reduceLE, Int.reduceLT, Nat.reducePow, Nat.reduceLT, and_self, if_true, if_false, ite_true, ite_false, true_and, and_true, reduceIte]
    refine wr_imp (names_ok (d := d) (many := 8) (pre_lst pre1 hs) (show 0 ≤ p + 1 by omega) (by decide)) ?_
    rintro _ s ⟨pre, q, rfl, hq⟩
    exact ⟨pre, q, hq, rfl⟩
  rintro _ s2 ⟨pre2, q, ⟨xs, hxs, hxl, hx⟩, rfl⟩
  have hm2 := pre_lst pre2 hds
  refine w_cut (fun ρ s => s = s2 ++ [.dct []] ∧ ρ = partsF n m q p (some (.ref s2.length)) none none none none none none none none) (by simp only [w_varM, w_con, w_bin, w_neg, w_not, w_and, w_or, w_cmp, w_chain, w_ife, w_call, w_callp, w_star, w_blt, w_mth, w_idx, w_slc, w_lst, w_tup, w_tab, w_tin, w_dnew, w_rev, w_lc, w_lsc, w_dc, w_disp, w_get, w_fld, w_mk, w_meth, w_prop, w_nil, w_cons, w_onone, w_osome, w_tnone, w_tsome, w_tnot, w_tand, w_tor, w_tval, w_iex, w_irng1, w_irng2, w_irng3, w_izip, w_run, w_snil, w_scons, w_set, w_unp, w_seti, w_setf, w_exp, w_ret, w_retn, w_pass, w_ifs, w_loop, w_rais, w_try, wr_ok, wr_some, wr_none, wr_stuck, wr_bind, wr_quiet, wr_lift_ite, wr_ite, wo_ite, wo_next, wo_ret, wo_brk, wo_cnt, o_add, o_sub, o_mul, o_fdiv, o_mod, o_pow, o_neg, o_lt, o_le, o_gt, o_ge, o_eq, o_ne, o_eqs, o_nes, o_isB, o_notB, o_tbl, o_int, o_lst, decide_eq_true_eq, Bool.not_eq_true', decide_eq_false_iff_not, beq_iff_eq, List.map_cons, List.map_nil, List.length_cons, List.length_nil, List.replicate_succ, List.replicate_zero, List.cons_append, List.nil_append, List.getElem?_cons_zero, List.getElem?_cons_succ, List.set_cons_zero, List.set_cons_succ, Nat.reduceSub, Nat.reduceAdd, Nat.zero_add, Option.map_some, Option.map_none, c_na10, o_rng1, len_rng, len_lst, len_tup, Int.toNat_natCast, Int.reduceToNat, Int.reduceLE, Int.reduceLT, Nat.reducePow, Nat.reduceLT, and_self, if_true, if_false, ite_true, ite_false, true_and, and_true, reduceIte]) ?_
  rintro _ _ ⟨rfl, rfl⟩
  refine w_cut (fun ρ s => s2 <+: s ∧ DctN s s2.length ∧ ∃ b, ρ = partsF n m q p (some (.ref s2.length)) b none none none none none none none) ?_ ?_
  · simp only [w_varM, w_con, w_bin, w_neg, w_not, w_and, w_or, w_cmp, w_chain, w_ife, w_call, w_callp, w_star, w_blt, w_mth, w_idx, w_slc, w_lst, w_tup, w_tab, w_tin, w_dnew, w_rev, w_lc, w_lsc, w_dc, w_disp, w_get, w_fld, w_mk, w_meth, w_prop, w_nil, w_cons, w_onone, w_osome, w_tnone, w_tsome, w_tnot, w_tand, w_tor, w_tval, w_iex, w_irng1, w_irng2, w_irng3, w_izip, w_run, w_snil, w_scons, w_set, w_unp, w_seti, w_setf, w_exp, w_ret, w_retn, w_pass, w_ifs, w_loop, w_rais, w_try, wr_ok, wr_some, wr_none, wr_stuck, wr_bind, wr_quiet, wr_lift_ite, wr_ite, wo_ite, wo_next, wo_ret, wo_brk, wo_cnt, o_add, o_sub, o_mul, o_fdiv, o_mod, o_pow, o_neg, o_lt, o_le, o_gt, o_ge, o_eq, o_ne, o_eqs, o_nes, o_isB, o_notB, o_tbl, o_int, o_lst, decide_eq_true_eq, Bool.not_eq_true', decide_eq_false_iff_not, beq_iff_eq, List.map_cons, List.map_nil, List.length_cons, List.length_nil, List.replicate_succ, List.replicate_zero, List.cons_append, List.nil_append, List.getElem?_cons_zero, List.getElem?_cons_succ, List.set_cons_zero, List.set_cons_succ, Nat.reduceSub, Nat.reduceAdd, Nat.zero_add, Option.map_some, Option.map_none, c_na10, o_rng1, len_rng, len_lst, len_tup, Int.toNat_natCast, Int.reduceToNat, Int.reduceLE, Int.reduceLT, Nat.reducePow, Nat.reduceLT, and_self, if_true, if_false, ite_true, ite_false, true_and, and_true, reduceIte, o_idx (pre_lst (pre_app pre_rfl [Ob.dct []]) hm2), a0, r0]
    refine parts0 (kvs := []) hxs hx hxl hm2 hlen (Nat.le_refl _) (by omega) (pre_app pre_rfl _) at_new ?_
    rintro b s' p' ⟨kvs, h1, h2, h3⟩
    exact ⟨p', ⟨kvs, h1, by omega, h3⟩, b, rfl⟩
  rintro _ s3 ⟨pre3, hP, b, rfl⟩
  have hm3 := pre_lst pre3 hm2
  have hq3 := pre_lst pre3 hxs
  refine w_cut (fun ρ s => s = s3 ++ [.dct []] ∧ ρ = partsF n m q p (some (.ref s2.length)) b (some (.ref s3.length)) none none none none none none) (by simp only [w_varM, w_con, w_bin, w_neg, w_not, w_and, w_or, w_cmp, w_chain, w_ife, w_call, w_callp, w_star, w_blt, w_mth, w_idx, w_slc, w_lst, w_tup, w_tab, w_tin, w_dnew, w_rev, w_lc, w_lsc, w_dc, w_disp, w_get, w_fld, w_mk, w_meth, w_prop, w_nil, w_cons, w_onone, w_osome, w_tnone, w_tsome, w_tnot, w_tand, w_tor, w_tval, w_iex, w_irng1, w_irng2, w_irng3, w_izip, w_run, w_snil, w_scons, w_set, w_unp, w_seti, w_setf, w_exp, w_ret, w_retn, w_pass, w_ifs, w_loop, w_rais, w_try, wr_ok, wr_some, wr_none, wr_stuck, wr_bind, wr_quiet, wr_lift_ite, wr_ite, wo_ite, wo_next, wo_ret, wo_brk, wo_cnt, o_add, o_sub, o_mul, o_fdiv, o_mod, o_pow, o_neg, o_lt, o_le, o_gt, o_ge, o_eq, o_ne, o_eqs, o_nes, o_isB, o_notB, o_tbl, o_int, o_lst, decide_eq_true_eq, Bool.not_eq_true', decide_eq_false_iff_not, beq_iff_eq, List.map_cons, List.map_nil, List.length_cons, List.length_nil, List.replicate_succ, List.replicate_zero, List.cons_append, List.nil_append, List.getElem?_cons_zero, List.getElem?_cons_succ, List.set_cons_zero, List.set_cons_succ, Nat.reduceSub, Nat.reduceAdd, Nat.zero_add, Option.map_some, Option.map_none, c_na10, o_rng1, len_rng, len_lst, len_tup, Int.toNat_natCast, Int.reduceToNat, Int.reduceLE, Int.reduceLT, Nat.reducePow, Nat.reduceLT, and_self, if_true, if_false, ite_true, ite_false, true_and, and_true, reduceIte]) ?_
  rintro _ _ ⟨rfl, rfl⟩
  refine w_cut (fun ρ s => s3 <+: s ∧ DctN s s3.length ∧ ∃ b, ρ = partsF n m q p (some (.ref s2.length)) b (some (.ref s3.length)) none none none none none none) ?_ ?_
  · simp only [w_varM, w_con, w_bin, w_neg, w_not, w_and, w_or, w_cmp, w_chain, w_ife, w_call, w_callp, w_star, w_blt, w_mth, w_idx, w_slc, w_lst, w_tup, w_tab, w_tin, w_dnew, w_rev, w_lc, w_lsc, w_dc, w_disp, w_get, w_fld, w_mk, w_meth, w_prop, w_nil, w_cons, w_onone, w_osome, w_tnone, w_tsome, w_tnot, w_tand, w_tor, w_tval, w_iex, w_irng1, w_irng2, w_irng3, w_izip, w_run, w_snil, w_scons, w_set, w_unp, w_seti, w_setf, w_exp, w_ret, w_retn, w_pass, w_ifs, w_loop, w_rais, w_try, wr_ok, wr_some, wr_none, wr_stuck, wr_bind, wr_quiet, wr_lift_ite, wr_ite, wo_ite, wo_next, wo_ret, wo_brk, wo_cnt, o_add, o_sub, o_mul, o_fdiv, o_mod, o_pow, o_neg, o_lt, o_le, o_gt, o_ge, o_eq, o_ne, o_eqs, o_nes, o_isB, o_notB, o_tbl, o_int, o_lst, decide_eq_true_eq, Bool.not_eq_true', decide_eq_false_iff_not, beq_iff_eq, List.map_cons, List.map_nil, List.length_cons, List.length_nil, List.replicate_succ, List.replicate_zero, List.cons_append, List.nil_append, List.getElem?_cons_zero, List.getElem?_cons_succ, List.set_cons_zero, List.set_cons_succ, Nat.reduceSub, Nat.reduceAdd, Nat.zero_add, Option.map_some, Option.map_none, c_na10, o_rng1, len_rng, len_lst, len_tup, Int.toNat_natCast, Int.reduceToNat, Int.reduceLE, Int.reduceLT, Nat.reducePow, Nat.reduceLT, and_self, if_true, if_false, ite_true, ite_false, true_and, and_true, reduceIte, o_idx (pre_lst (pre_app pre_rfl [Ob.dct []]) hm3), a1, r1]
    refine parts1 hq3 hx hxl hm3 hlen (Nat.le_refl _) (by omega) (pre_app pre_rfl _) at_new ?_
    rintro b s' p' ⟨kvs, h1, h2, h3⟩
    exact ⟨p', ⟨kvs, h1, by omega, h3⟩, b, rfl⟩
  rintro _ s4 ⟨pre4, hQ, b, rfl⟩
  have hm4 := pre_lst pre4 hm3
  have hq4 := pre_lst pre4 hq3
  have hs4 := pre_lst (pre1.trans (pre2.trans (pre3.trans pre4))) hs
  refine w_cut (fun ρ s => s = s4 ++ [.dct []] ∧ ρ = partsF n m q p (some (.ref s2.length)) b (some (.ref s3.length)) (some (.ref s4.length)) none none none none none) (by simp only [w_varM, w_con, w_bin, w_neg, w_not, w_and, w_or, w_cmp, w_chain, w_ife, w_call, w_callp, w_star, w_blt, w_mth, w_idx, w_slc, w_lst, w_tup, w_tab, w_tin, w_dnew, w_rev, w_lc, w_lsc, w_dc, w_disp, w_get, w_fld, w_mk, w_meth, w_prop, w_nil, w_cons, w_onone, w_osome, w_tnone, w_tsome, w_tnot, w_tand, w_tor, w_tval, w_iex, w_irng1, w_irng2, w_irng3, w_izip, w_run, w_snil, w_scons, w_set, w_unp, w_seti, w_setf, w_exp, w_ret, w_retn, w_pass, w_ifs, w_loop, w_rais, w_try, wr_ok, wr_some, wr_none, wr_stuck, wr_bind, wr_quiet, wr_lift_ite, wr_ite, wo_ite, wo_next, wo_ret, wo_brk, wo_cnt, o_add, o_sub, o_mul, o_fdiv, o_mod, o_pow, o_neg, o_lt, o_le, o_gt, o_ge, o_eq, o_ne, o_eqs, o_nes, o_isB, o_notB, o_tbl, o_int, o_lst, decide_eq_true_eq, Bool.not_eq_true', decide_eq_false_iff_not, beq_iff_eq, List.map_cons, List.map_nil, List.length_cons, List.length_nil, List.replicate_succ, List.replicate_zero, List.cons_append, List.nil_append, List.getElem?_cons_zero, List.getElem?_cons_succ, List.set_cons_zero, List.set_cons_succ, Nat.reduceSub, Nat.reduceAdd, Nat.zero_add, Option.map_some, Option.map_none, c_na10, o_rng1, len_rng, len_lst, len_tup, Int.toNat_natCast, Int.reduceToNat, Int.reduceLE, Int.reduceLT, Nat.reducePow, Nat.reduceLT, and_self, if_true, if_false, ite_true, ite_false, true_and, and_true, reduceIte]) ?_
  rintro _ _ ⟨rfl, rfl⟩
  refine w_cut (fun ρ s => s4 <+: s ∧ ArrD xs s s4.length w2 ∧ ∃ b, ρ = partsF n m q p (some (.ref s2.length)) b (some (.ref s3.length)) (some (.ref s4.length)) none none none none none) ?_ ?_
  · simp only [w_varM, w_con, w_bin, w_neg, w_not, w_and, w_or, w_cmp, w_chain, w_ife, w_call, w_callp, w_star, w_blt, w_mth, w_idx, w_slc, w_lst, w_tup, w_tab, w_tin, w_dnew, w_rev, w_lc, w_lsc, w_dc, w_disp, w_get, w_fld, w_mk, w_meth, w_prop, w_nil, w_cons, w_onone, w_osome, w_tnone, w_tsome, w_tnot, w_tand, w_tor, w_tval, w_iex, w_irng1, w_irng2, w_irng3, w_izip, w_run, w_snil, w_scons, w_set, w_unp, w_seti, w_setf, w_exp, w_ret, w_retn, w_pass, w_ifs, w_loop, w_rais, w_try, wr_ok, wr_some, wr_none, wr_stuck, wr_bind, wr_quiet, wr_lift_ite, wr_ite, wo_ite, wo_next, wo_ret, wo_brk, wo_cnt, o_add, o_sub, o_mul, o_fdiv, o_mod, o_pow, o_neg, o_lt, o_le, o_gt, o_ge, o_eq, o_ne, o_eqs, o_nes, o_isB, o_notB, o_tbl, o_int, o_lst, decide_eq_true_eq, Bool.not_eq_true', decide_eq_false_iff_not, beq_iff_eq, List.map_cons, List.map_nil, List.length_cons, List.length_nil, List.replicate_succ, List.replicate_zero, List.cons_append, List.nil_append, List.getElem?_cons_zero, List.getElem?_cons_succ, List.set_cons_zero, List.set_cons_succ, Nat.reduceSub, Nat.reduceAdd, Nat.zero_add, Option.map_some, Option.map_none, c_na10, o_rng1, len_rng, len_lst, len_tup, Int.toNat_natCast, Int.reduceToNat, Int.reduceLE, Int.reduceLT, Nat.reducePow, Nat.reduceLT, and_self, if_true, if_false, ite_true, ite_false, true_and, and_true, reduceIte, o_idx (pre_lst (pre_app pre_rfl [Ob.dct []]) hm4), a2, r2]
    refine parts2 (d' := d) (x3 := d3) hs4 hp hq4 hx hxl hm4 hlen g3 b3 (Nat.le_refl _) (by omega) (pre_app pre_rfl _) at_new ?_
    rintro b s' p' h1
    exact ⟨p', h1, b, rfl⟩
  rintro _ s5 ⟨pre5, hR, b, rfl⟩
  have hm5 := pre_lst pre5 hm4
  refine w_cut (fun ρ s => s4 <+: s ∧ DctL s s4.length ∧ ∃ e f, ρ = partsF n m q p (some (.ref s2.length)) b (some (.ref s3.length)) (some (.ref s4.length)) e f none none none) ?_ ?_
  · have ht := parts_tail (xs := xs) (ds := ds) (st := s4) (s := s5) (m := m) (q := q) (A := s4.length) (n := n) (p := p) (a := some (.ref s2.length)) (b := b) (c := some (.ref s3.length)) (e := none) (f := none) (g := none) (h := none) (i := none) (cl := clN (d + 3)) (w := w2) (D := { nx := fun ρ s => s4 <+: s ∧ DctL s s4.length ∧ ∃ e f, ρ = partsF n m q p (some (.ref s2.length)) b (some (.ref s3.length)) (some (.ref s4.length)) e f none none none, rt := fun v st_1 => st <+: st_1 ∧ PartsD st_1 v, bk := fun _ _ => False, ct := fun _ _ => False, ec := fun c v _ st => noX c v st })
    have hnil : s4 <+: s5 ∧ DctL s5 s4.length ∧ ∃ e f, partsF n m q p (some (.ref s2.length)) b (some (.ref s3.length)) (some (.ref s4.length)) none none none none none = partsF n m q p (some (.ref s2.length)) b (some (.ref s3.length)) (some (.ref s4.length)) e f none none none := by
      exact ⟨pre5, hR.l (by omega), _, _, rfl⟩
    rw [w_ifs, w_tand, w_tval, w_cmp, w_idx, w_var (v := .ref m) rfl, wr_ok, w_con, o_idx hm5, a2, Option.map_some, wr_some, w_con, o_gt, Option.map_some, wr_some, o_tbl, wr_ok]
    split
    · rename_i hgt
      have hgt := of_decide_eq_true hgt
      rw [w_tval, w_cmp, w_idx, w_var (v := .ref m) rfl, wr_ok, w_con, o_idx hm5, a3, Option.map_some, wr_some, w_con, o_eq, Option.map_some, wr_some, o_tbl, wr_ok]
      split
      · exact ht ⟨by omega, by omega⟩ hq4 hx hxl hm4 hlen (Nat.le_refl _) pre5 hR fun e f s' p' hd => ⟨p', hd, e, f, rfl⟩
      · rw [w_snil]
        exact hnil
    · rw [if_neg (by decide), w_snil]
      exact hnil
  rintro _ s6 ⟨pre6, hA, e, f, rfl⟩
  have l3 : lineOk 3 = true := by decide
  simp only [w_varM, w_con, w_bin, w_neg, w_not, w_and, w_or, w_cmp, w_chain, w_ife, w_call, w_callp, w_star, w_blt, w_mth, w_idx, w_slc, w_lst, w_tup, w_tab, w_tin, w_dnew, w_rev, w_lc, w_lsc, w_dc, w_disp, w_get, w_fld, w_mk, w_meth, w_prop, w_nil, w_cons, w_onone, w_osome, w_tnone, w_tsome, w_tnot, w_tand, w_tor, w_tval, w_iex, w_irng1, w_irng2, w_irng3, w_izip, w_run, w_snil, w_scons, w_set, w_unp, w_seti, w_setf, w_exp, w_ret, w_retn, w_pass, w_ifs, w_loop, w_rais, w_try, wr_ok, wr_some, wr_none, wr_stuck, wr_bind, wr_quiet, wr_lift_ite, wr_ite, wo_ite, wo_next, wo_ret, wo_brk, wo_cnt, o_add, o_sub, o_mul, o_fdiv, o_mod, o_pow, o_neg, o_lt, o_le, o_gt, o_ge, o_eq, o_ne, o_eqs, o_nes, o_isB, o_notB, o_tbl, o_int, o_lst, decide_eq_true_eq, Bool.not_eq_true', decide_eq_false_iff_not, beq_iff_eq, List.map_cons, List.map_nil, List.length_cons, List.length_nil, List.replicate_succ, List.replicate_zero, List.cons_append, List.nil_append, List.getElem?_cons_zero, List.getElem?_cons_succ, List.set_cons_zero, List.set_cons_succ, Nat.reduceSub, Nat.reduceAdd, Nat.zero_add, Option.map_some, Option.map_none, c_na10, o_rng1, len_rng, len_lst, len_tup, Int.toNat_natCast, Int.reduceToNat, Int.reduceLE, Int.reduceLT, Nat.reducePow, Nat.reduceLT, and_self, if_true, if_false, ite_true, ite_false, true_and, and_true, reduceIte, l3]
  exact ⟨pre1.trans (pre2.trans (pre3.trans (pre4.trans pre6))), _, _, _, rfl, hP.mono (pre4.trans pre6), hQ.mono pre6, hA⟩
theorem parts_ok {d n : Nat} {st : Store} {ns : List Int} {p : Int} (hs : lstAt st n = some (ns.map .int)) (hp : 0 ≤ p) :
    wr (clN (d + 4) id__law_parts [.ref n, .int p] st) (fun v st' => st <+: st' ∧ Parts st' v) noX := by
  refine wr_imp (parts_okL (d := d) hs hp) ?_
  rintro v s ⟨pre, h⟩
  exact ⟨pre, h.p⟩
end EVL

/-! ## P20 -/
set_option maxRecDepth 10000
set_option maxHeartbeats 800000
namespace EVL
open PySem L2 EV
theorem sm_draw {x : Int} (h : 0 ≤ x ∧ x < 100) : Sm 10 (x - 4) := by
  show (x - 4).natAbs < 2 ^ 10
  omega
/-- a list of texts -/
def StrL (s : Store) (q : Nat) (xs : List Str) : Prop := mutAt s q = some (xs.map .str)
theorem StrL.mono {s s' : Store} {q : Nat} {xs : List Str} (p : s <+: s') (h : StrL s q xs) : StrL s' q xs := mut_pre p h
def Pool (xs : List Str) : Prop := (∀ x ∈ xs, x = "" ∨ IsName x) ∧ 0 < xs.length ∧ xs.length ≤ 20
theorem pool_of {xs : List Str} (h : ∀ x ∈ xs, IsName x) (hl : xs.length ≤ 10) : Pool (("" : Str) :: xs) := by
  refine ⟨fun x hx => ?_, by rw [List.length_cons]; omega, by rw [List.length_cons]; omega⟩
  rcases List.mem_cons.mp hx with rfl | hx
  · exact .inl rfl
  · exact .inr (h x hx)
/-- xs[k % len(xs)] -/
theorem pick {xs : List Str} (h : 0 < xs.length) (k : Int) : ∃ x, x ∈ xs ∧ atI (xs.map Val.str) (k % (xs.length : Int)) = some (.str x) := by
  have h1 : 0 ≤ k % (xs.length : Int) := Int.emod_nonneg _ (by omega)
  have h2 : k % (xs.length : Int) < xs.length := Int.emod_lt_of_pos _ (by omega)
  obtain ⟨j, hj⟩ : ∃ j : Nat, k % (xs.length : Int) = j := ⟨(k % (xs.length : Int)).toNat, by omega⟩
  have hjl : j < xs.length := by omega
  rw [hj]
  exact ⟨xs[j], List.getElem_mem hjl, strs_at hjl⟩
theorem StrL.idx {s : Store} {q : Nat} {xs : List Str} (h : StrL s q xs) (i : Int) : idxV s (.ref q) (.int i) = atI (xs.map Val.str) i := o_idx (mut_lst h)
theorem StrL.len {s : Store} {q : Nat} {xs : List Str} (h : StrL s q xs) : bltV .len [.ref q] s = some (.int (xs.length : Int), s) := by
  have e := mut_len h
  rw [List.length_map] at e
  exact e
theorem setAll5 {A B : List (Option Val)} {a b c d e : Option Val} {v w x y z : Val} {ρ : Fr} : (Tg.tp [8, 9, 10, 11, 12]).give (.tup [v, w, x, y, z]) ρ [] = some (((((ρ.set 8 (some v)).set 9 (some w)).set 10 (some x)).set 11 (some y)).set 12 (some z)) := rfl
abbrev sumsF (dr po nu ar su : Nat) (a b c d e f g h : Option Val) : Fr := [some (.ref dr), some (.ref po), some (.ref nu), some (.ref ar), some (.ref su), a, b, c, d, e, f, g, h]
section
variable {cl : Cl} {st s : Store} {dr po nu ar su : Nat} {ds : List Int} {ps ns as : List Str} {D : En}
theorem sums_step {k : Nat} {acc : List Val} {b c d e f g h : Option Val} (hk : k < 2) (hd : lstAt s dr = some (ds.map .int)) (hdl : ds.length = 10) (hdb : ∀ x ∈ ds, 0 ≤ x ∧ x < 100) (hp : StrL s po ps) (hP : Pool ps) (hn : StrL s nu ns) (hN : ∀ x ∈ ns, IsName x) (hnl : ns.length ≤ 10) (ha : StrL s ar as) (hA : ∀ x ∈ as, IsName x) (hal : as.length ≤ 10)
    (hsu : mutAt s su = some acc) (hacc : acc.length ≤ 2)
    (hD : ∀ b c d e f g h s' v, VTerm 10 v → s <+: s' → D.nx (sumsF dr po nu ar su (some (.int (k : Int))) b c d e f g h) (s'.set su (.lst (acc ++ [v])))) :
    wo (EV.exs cl l__law_sums_0 (sumsF dr po nu ar su (some (.int (k : Int))) b c d e f g h) s) D := by
  unfold l__law_sums_0
  have l1 : lineOk 1 = true := by decide
  refine w_cut (fun ρ s' => s <+: s' ∧ ∃ u os, Pool os ∧ StrL s' u os ∧ ρ = sumsF dr po nu ar su (some (.int (k : Int))) (some (.ref u)) c d e f g h) ?_ ?_
  · simp only [w_varM, w_con, w_bin, w_neg, w_not, w_and, w_or, w_cmp, w_chain, w_ife, w_call, w_callp, w_star, w_blt, w_mth, w_idx, w_slc, w_lst, w_tup, w_tab, w_tin, w_dnew, w_rev, w_lc, w_lsc, w_dc, w_disp, w_get, w_fld, w_mk, w_meth, w_prop, w_nil, w_cons, w_onone, w_osome, w_tnone, w_tsome, w_tnot, w_tand, w_tor, w_tval, w_iex, w_irng1, w_irng2, w_irng3, w_izip, w_run, w_snil, w_scons, w_set, w_unp, w_seti, w_setf, w_exp, w_ret, w_retn, w_pass, w_ifs, w_loop, w_rais, w_try, wr_ok, wr_some, wr_none, wr_stuck, wr_bind, wr_quiet, wr_lift_ite, wr_ite, wo_ite, wo_next, wo_ret, wo_brk, wo_cnt, o_add, o_sub, o_mul, o_fdiv, o_mod, o_pow, o_neg, o_lt, o_le, o_gt, o_ge, o_eq, o_ne, o_eqs, o_nes, o_isB, o_notB, o_tbl, o_int, o_lst, decide_eq_true_eq, Bool.not_eq_true', decide_eq_false_iff_not, beq_iff_eq, List.map_cons, List.map_nil, List.length_cons, List.length_nil, List.replicate_succ, List.replicate_zero, List.cons_append, List.nil_append, List.getElem?_cons_zero, List.getElem?_cons_succ, List.set_cons_zero, List.set_cons_succ, Nat.reduceSub, Nat.reduceAdd, Nat.zero_add, Option.map_some, Option.map_none, c_na10, o_rng1, len_rng, len_lst, len_tup, Int.toNat_natCast, Int.reduceToNat, Int.reduceLE, Int.reduceLT, Nat.reducePow, Nat.reduceLT, and_self, if_true, if_false, ite_true, ite_false, true_and, and_true, reduceIte, l1]
    have hc := o_cat (st := s ++ [Ob.lst [.str ""]]) (xs := [.str ""]) (ys := ns.map Val.str) (n := s.length) (m := nu) mut_new (mut_pre (pre_app pre_rfl _) hn) (by rw [List.length_map]; exact decide_eq_true (by show 1 + ns.length ≤ _; omega))
    simp only [w_varM, w_con, w_bin, w_neg, w_not, w_and, w_or, w_cmp, w_chain, w_ife, w_call, w_callp, w_star, w_blt, w_mth, w_idx, w_slc, w_lst, w_tup, w_tab, w_tin, w_dnew, w_rev, w_lc, w_lsc, w_dc, w_disp, w_get, w_fld, w_mk, w_meth, w_prop, w_nil, w_cons, w_onone, w_osome, w_tnone, w_tsome, w_tnot, w_tand, w_tor, w_tval, w_iex, w_irng1, w_irng2, w_irng3, w_izip, w_run, w_snil, w_scons, w_set, w_unp, w_seti, w_setf, w_exp, w_ret, w_retn, w_pass, w_ifs, w_loop, w_rais, w_try, wr_ok, wr_some, wr_none, wr_stuck, wr_bind, wr_quiet, wr_lift_ite, wr_ite, wo_ite, wo_next, wo_ret, wo_brk, wo_cnt, o_add, o_sub, o_mul, o_fdiv, o_mod, o_pow, o_neg, o_lt, o_le, o_gt, o_ge, o_eq, o_ne, o_eqs, o_nes, o_isB, o_notB, o_tbl, o_int, o_lst, decide_eq_true_eq, Bool.not_eq_true', decide_eq_false_iff_not, beq_iff_eq, List.map_cons, List.map_nil, List.length_cons, List.length_nil, List.replicate_succ, List.replicate_zero, List.cons_append, List.nil_append, List.getElem?_cons_zero, List.getElem?_cons_succ, List.set_cons_zero, List.set_cons_succ, Nat.reduceSub, Nat.reduceAdd, Nat.zero_add, Option.map_some, Option.map_none, c_na10, o_rng1, len_rng, len_lst, len_tup, Int.toNat_natCast, Int.reduceToNat, Int.reduceLE, Int.reduceLT, Nat.reducePow, Nat.reduceLT, and_self, if_true, if_false, ite_true, ite_false, true_and, and_true, reduceIte, hc]
    exact ⟨pre_app (pre_app pre_rfl _) _, _, ("" : Str) :: ns, pool_of hN hnl, mut_new, rfl⟩
  rintro _ s1 ⟨pre1, u, os, hpu, hu, rfl⟩
  have hd1 := pre_lst pre1 hd
  obtain ⟨x0, x1, x2, x3, x4, hcut, hx2, hx4⟩ : ∃ x0 x1 x2 x3 x4, EV.cut ds (some (5 * (k : Int))) (some (5 * (k : Int) + 5)) = [x0, x1, x2, x3, x4] ∧ Sm 10 (x2 - 4) ∧ Sm 10 (x4 - 4) := by
    rw [show 5 * (k : Int) = ((5 * k : Nat) : Int) by omega, show (((5 * k : Nat) : Int) + 5) = ((5 * k + 5 : Nat) : Int) by omega, cut_nat (by omega) (by omega)]
    have hl : ((ds.drop (5 * k)).take (5 * k + 5 - 5 * k)).length = 5 := by rw [List.length_take, List.length_drop]; omega
    have hmz : ∀ x ∈ (ds.drop (5 * k)).take (5 * k + 5 - 5 * k), 0 ≤ x ∧ x < 100 := fun x hx => hdb x (List.mem_of_mem_drop (List.mem_of_mem_take hx))
    revert hl hmz
    generalize (ds.drop (5 * k)).take (5 * k + 5 - 5 * k) = zs
    intro hl hmz
    match zs, hl with
    | [x0, x1, x2, x3, x4], _ => exact ⟨x0, x1, x2, x3, x4, rfl, sm_draw (hmz x2 (by simp)), sm_draw (hmz x4 (by simp))⟩
  have m5 : mulOk 5 (k : Int) = true := mulOk_l ⟨by decide, by decide⟩
  have hsl : slcV (.ref dr) (some (5 * (k : Int))) (some (5 * (k : Int) + 5)) s1 = some (.ref s1.length, s1 ++ [.lst [.int x0, .int x1, .int x2, .int x3, .int x4]]) := by
    rw [o_slcL hd1, cut_ints, hcut]
    rfl
  have hgv : (Tg.tp [8, 9, 10, 11, 12]).give (.ref s1.length) (sumsF dr po nu ar su (some (.int (k : Int))) (some (.ref u)) c d e f g h) (s1 ++ [.lst [.int x0, .int x1, .int x2, .int x3, .int x4]]) = some (sumsF dr po nu ar su (some (.int (k : Int))) (some (.ref u)) c (some (.int x0)) (some (.int x1)) (some (.int x2)) (some (.int x3)) (some (.int x4))) := by
    show (match lstAt (s1 ++ [Ob.lst [.int x0, .int x1, .int x2, .int x3, .int x4]]) s1.length with
      | some vs => setAll [8, 9, 10, 11, 12] vs _
      | none => none) = _
    rw [mut_lst mut_new]
    rfl
  refine w_cut (fun ρ s' => s1 <+: s' ∧ ρ = sumsF dr po nu ar su (some (.int (k : Int))) (some (.ref u)) c (some (.int x0)) (some (.int x1)) (some (.int x2)) (some (.int x3)) (some (.int x4))) ?_ ?_
  · simp only [w_varM, w_con, w_bin, w_neg, w_not, w_and, w_or, w_cmp, w_chain, w_ife, w_call, w_callp, w_star, w_blt, w_mth, w_idx, w_slc, w_lst, w_tup, w_tab, w_tin, w_dnew, w_rev, w_lc, w_lsc, w_dc, w_disp, w_get, w_fld, w_mk, w_meth, w_prop, w_nil, w_cons, w_onone, w_osome, w_tnone, w_tsome, w_tnot, w_tand, w_tor, w_tval, w_iex, w_irng1, w_irng2, w_irng3, w_izip, w_run, w_snil, w_scons, w_set, w_unp, w_seti, w_setf, w_exp, w_ret, w_retn, w_pass, w_ifs, w_loop, w_rais, w_try, wr_ok, wr_some, wr_none, wr_stuck, wr_bind, wr_quiet, wr_lift_ite, wr_ite, wo_ite, wo_next, wo_ret, wo_brk, wo_cnt, o_add, o_sub, o_mul, o_fdiv, o_mod, o_pow, o_neg, o_lt, o_le, o_gt, o_ge, o_eq, o_ne, o_eqs, o_nes, o_isB, o_notB, o_tbl, o_int, o_lst, decide_eq_true_eq, Bool.not_eq_true', decide_eq_false_iff_not, beq_iff_eq, List.map_cons, List.map_nil, List.length_cons, List.length_nil, List.replicate_succ, List.replicate_zero, List.cons_append, List.nil_append, List.getElem?_cons_zero, List.getElem?_cons_succ, List.set_cons_zero, List.set_cons_succ, Nat.reduceSub, Nat.reduceAdd, Nat.zero_add, Option.map_some, Option.map_none, c_na10, o_rng1, len_rng, len_lst, len_tup, Int.toNat_natCast, Int.reduceToNat, Int.reduceLE, Int.reduceLT, Nat.reducePow, Nat.reduceLT, and_self, if_true, if_false, ite_true, ite_false, true_and, and_true, reduceIte, m5, hsl, hgv]
    exact pre_app pre_rfl _
  rintro _ s2 ⟨pre2, rfl⟩
  have hu2 := hu.mono pre2
  obtain ⟨y, hy, iy⟩ := pick hpu.2.1 x1
  have lu : (0 : Int) < (os.length : Int) := by have := hpu.2.1; omega
  have l2 : lineOk 2 = true := by decide
  have l3 : lineOk 3 = true := by decide
  refine w_cut (fun ρ s' => s2 = s' ∧ ∃ v, VTerm 10 v ∧ ρ = sumsF dr po nu ar su (some (.int (k : Int))) (some (.ref u)) (some v) (some (.int x0)) (some (.int x1)) (some (.int x2)) (some (.int x3)) (some (.int x4))) ?_ ?_
  · simp only [w_varM, w_con, w_bin, w_neg, w_not, w_and, w_or, w_cmp, w_chain, w_ife, w_call, w_callp, w_star, w_blt, w_mth, w_idx, w_slc, w_lst, w_tup, w_tab, w_tin, w_dnew, w_rev, w_lc, w_lsc, w_dc, w_disp, w_get, w_fld, w_mk, w_meth, w_prop, w_nil, w_cons, w_onone, w_osome, w_tnone, w_tsome, w_tnot, w_tand, w_tor, w_tval, w_iex, w_irng1, w_irng2, w_irng3, w_izip, w_run, w_snil, w_scons, w_set, w_unp, w_seti, w_setf, w_exp, w_ret, w_retn, w_pass, w_ifs, w_loop, w_rais, w_try, wr_ok, wr_some, wr_none, wr_stuck, wr_bind, wr_quiet, wr_lift_ite, wr_ite, wo_ite, wo_next, wo_ret, wo_brk, wo_cnt, o_add, o_sub, o_mul, o_fdiv, o_mod, o_pow, o_neg, o_lt, o_le, o_gt, o_ge, o_eq, o_ne, o_eqs, o_nes, o_isB, o_notB, o_tbl, o_int, o_lst, decide_eq_true_eq, Bool.not_eq_true', decide_eq_false_iff_not, beq_iff_eq, List.map_cons, List.map_nil, List.length_cons, List.length_nil, List.replicate_succ, List.replicate_zero, List.cons_append, List.nil_append, List.getElem?_cons_zero, List.getElem?_cons_succ, List.set_cons_zero, List.set_cons_succ, Nat.reduceSub, Nat.reduceAdd, Nat.zero_add, Option.map_some, Option.map_none, c_na10, o_rng1, len_rng, len_lst, len_tup, Int.toNat_natCast, Int.reduceToNat, Int.reduceLE, Int.reduceLT, Nat.reducePow, Nat.reduceLT, and_self, if_true, if_false, ite_true, ite_false, true_and, and_true, reduceIte]
    rw [hu2.len, wr_some]
    simp only [w_varM, w_con, w_bin, w_neg, w_not, w_and, w_or, w_cmp, w_chain, w_ife, w_call, w_callp, w_star, w_blt, w_mth, w_idx, w_slc, w_lst, w_tup, w_tab, w_tin, w_dnew, w_rev, w_lc, w_lsc, w_dc, w_disp, w_get, w_fld, w_mk, w_meth, w_prop, w_nil, w_cons, w_onone, w_osome, w_tnone, w_tsome, w_tnot, w_tand, w_tor, w_tval, w_iex, w_irng1, w_irng2, w_irng3, w_izip, w_run, w_snil, w_scons, w_set, w_unp, w_seti, w_setf, w_exp, w_ret, w_retn, w_pass, w_ifs, w_loop, w_rais, w_try, wr_ok, wr_some, wr_none, wr_stuck, wr_bind, wr_quiet, wr_lift_ite, wr_ite, wo_ite, wo_next, wo_ret, wo_brk, wo_cnt, o_add, o_sub, o_mul, o_fdiv, o_mod, o_pow, o_neg, o_lt, o_le, o_gt, o_ge, o_eq, o_ne, o_eqs, o_nes, o_isB, o_notB, o_tbl, o_int, o_lst, decide_eq_true_eq, Bool.not_eq_true', decide_eq_false_iff_not, beq_iff_eq, List.map_cons, List.map_nil, List.length_cons, List.length_nil, List.replicate_succ, List.replicate_zero, List.cons_append, List.nil_append, List.getElem?_cons_zero, List.getElem?_cons_succ, List.set_cons_zero, List.set_cons_succ, Nat.reduceSub, Nat.reduceAdd, Nat.zero_add, Option.map_some, Option.map_none, c_na10, o_rng1, len_rng, len_lst, len_tup, Int.toNat_natCast, Int.reduceToNat, Int.reduceLE, Int.reduceLT, Nat.reducePow, Nat.reduceLT, and_self, if_true, if_false, ite_true, ite_false, true_and, and_true, reduceIte, lu, hu2.idx, iy, l2]
    exact ⟨_, .inl ⟨y, _, rfl, hpu.1 y hy, hx2⟩, rfl⟩
  rintro _ _ ⟨rfl, v, hv, rfl⟩
  have pre := pre1.trans pre2
  have hp2 := hp.mono pre
  have ha2 := ha.mono pre
  refine w_cut (fun ρ s' => s2 = s' ∧ ∃ v, VTerm 10 v ∧ ρ = sumsF dr po nu ar su (some (.int (k : Int))) (some (.ref u)) (some v) (some (.int x0)) (some (.int x1)) (some (.int x2)) (some (.int x3)) (some (.int x4))) ?_ ?_
  · simp only [w_varM, w_con, w_bin, w_neg, w_not, w_and, w_or, w_cmp, w_chain, w_ife, w_call, w_callp, w_star, w_blt, w_mth, w_idx, w_slc, w_lst, w_tup, w_tab, w_tin, w_dnew, w_rev, w_lc, w_lsc, w_dc, w_disp, w_get, w_fld, w_mk, w_meth, w_prop, w_nil, w_cons, w_onone, w_osome, w_tnone, w_tsome, w_tnot, w_tand, w_tor, w_tval, w_iex, w_irng1, w_irng2, w_irng3, w_izip, w_run, w_snil, w_scons, w_set, w_unp, w_seti, w_setf, w_exp, w_ret, w_retn, w_pass, w_ifs, w_loop, w_rais, w_try, wr_ok, wr_some, wr_none, wr_stuck, wr_bind, wr_quiet, wr_lift_ite, wr_ite, wo_ite, wo_next, wo_ret, wo_brk, wo_cnt, o_add, o_sub, o_mul, o_fdiv, o_mod, o_pow, o_neg, o_lt, o_le, o_gt, o_ge, o_eq, o_ne, o_eqs, o_nes, o_isB, o_notB, o_tbl, o_int, o_lst, decide_eq_true_eq, Bool.not_eq_true', decide_eq_false_iff_not, beq_iff_eq, List.map_cons, List.map_nil, List.length_cons, List.length_nil, List.replicate_succ, List.replicate_zero, List.cons_append, List.nil_append, List.getElem?_cons_zero, List.getElem?_cons_succ, List.set_cons_zero, List.set_cons_succ, Nat.reduceSub, Nat.reduceAdd, Nat.zero_add, Option.map_some, Option.map_none, c_na10, o_rng1, len_rng, len_lst, len_tup, Int.toNat_natCast, Int.reduceToNat, Int.reduceLE, Int.reduceLT, Nat.reducePow, Nat.reduceLT, and_self, if_true, if_false, ite_true, ite_false, true_and, and_true, reduceIte, ha2.len, Bool.false_eq_true]
    by_cases hc : x0 = 1
    · rw [if_pos hc]
      by_cases hz : (0 : Int) < (as.length : Int)
      · obtain ⟨y1, hy1, iy1⟩ := pick (xs := as) (by omega) x1
        obtain ⟨y2, hy2, iy2⟩ := pick hP.2.1 x3
        have lp : (0 : Int) < (ps.length : Int) := by have := hP.2.1; omega
        rw [if_pos hz]
        simp only [w_varM, w_con, w_bin, w_neg, w_not, w_and, w_or, w_cmp, w_chain, w_ife, w_call, w_callp, w_star, w_blt, w_mth, w_idx, w_slc, w_lst, w_tup, w_tab, w_tin, w_dnew, w_rev, w_lc, w_lsc, w_dc, w_disp, w_get, w_fld, w_mk, w_meth, w_prop, w_nil, w_cons, w_onone, w_osome, w_tnone, w_tsome, w_tnot, w_tand, w_tor, w_tval, w_iex, w_irng1, w_irng2, w_irng3, w_izip, w_run, w_snil, w_scons, w_set, w_unp, w_seti, w_setf, w_exp, w_ret, w_retn, w_pass, w_ifs, w_loop, w_rais, w_try, wr_ok, wr_some, wr_none, wr_stuck, wr_bind, wr_quiet, wr_lift_ite, wr_ite, wo_ite, wo_next, wo_ret, wo_brk, wo_cnt, o_add, o_sub, o_mul, o_fdiv, o_mod, o_pow, o_neg, o_lt, o_le, o_gt, o_ge, o_eq, o_ne, o_eqs, o_nes, o_isB, o_notB, o_tbl, o_int, o_lst, decide_eq_true_eq, Bool.not_eq_true', decide_eq_false_iff_not, beq_iff_eq, List.map_cons, List.map_nil, List.length_cons, List.length_nil, List.replicate_succ, List.replicate_zero, List.cons_append, List.nil_append, List.getElem?_cons_zero, List.getElem?_cons_succ, List.set_cons_zero, List.set_cons_succ, Nat.reduceSub, Nat.reduceAdd, Nat.zero_add, Option.map_some, Option.map_none, c_na10, o_rng1, len_rng, len_lst, len_tup, Int.toNat_natCast, Int.reduceToNat, Int.reduceLE, Int.reduceLT, Nat.reducePow, Nat.reduceLT, and_self, if_true, if_false, ite_true, ite_false, true_and, and_true, reduceIte, hz, ha2.idx, iy1, hp2.len, lp, hp2.idx, iy2, l2, l3]
        exact ⟨_, .inr ⟨y1, _, _, rfl, hA y1 hy1, ⟨y2, _, rfl, hP.1 y2 hy2, hx4⟩, hx2⟩, rfl⟩
      · rw [if_neg hz]
        exact ⟨_, hv, rfl⟩
    · rw [if_neg hc]
      exact ⟨_, hv, rfl⟩
  clear hv v
  rintro _ _ ⟨rfl, v, hv, rfl⟩
  have hs2 := mut_pre pre hsu
  simp only [w_varM, w_con, w_bin, w_neg, w_not, w_and, w_or, w_cmp, w_chain, w_ife, w_call, w_callp, w_star, w_blt, w_mth, w_idx, w_slc, w_lst, w_tup, w_tab, w_tin, w_dnew, w_rev, w_lc, w_lsc, w_dc, w_disp, w_get, w_fld, w_mk, w_meth, w_prop, w_nil, w_cons, w_onone, w_osome, w_tnone, w_tsome, w_tnot, w_tand, w_tor, w_tval, w_iex, w_irng1, w_irng2, w_irng3, w_izip, w_run, w_snil, w_scons, w_set, w_unp, w_seti, w_setf, w_exp, w_ret, w_retn, w_pass, w_ifs, w_loop, w_rais, w_try, wr_ok, wr_some, wr_none, wr_stuck, wr_bind, wr_quiet, wr_lift_ite, wr_ite, wo_ite, wo_next, wo_ret, wo_brk, wo_cnt, o_add, o_sub, o_mul, o_fdiv, o_mod, o_pow, o_neg, o_lt, o_le, o_gt, o_ge, o_eq, o_ne, o_eqs, o_nes, o_isB, o_notB, o_tbl, o_int, o_lst, decide_eq_true_eq, Bool.not_eq_true', decide_eq_false_iff_not, beq_iff_eq, List.map_cons, List.map_nil, List.length_cons, List.length_nil, List.replicate_succ, List.replicate_zero, List.cons_append, List.nil_append, List.getElem?_cons_zero, List.getElem?_cons_succ, List.set_cons_zero, List.set_cons_succ, Nat.reduceSub, Nat.reduceAdd, Nat.zero_add, Option.map_some, Option.map_none, c_na10, o_rng1, len_rng, len_lst, len_tup, Int.toNat_natCast, Int.reduceToNat, Int.reduceLE, Int.reduceLT, Nat.reducePow, Nat.reduceLT, and_self, if_true, if_false, ite_true, ite_false, true_and, and_true, reduceIte, o_rapp hs2, o_app hs2, show acc.length < 16777216 by omega]
  exact hD _ _ _ _ _ _ _ _ _ hv pre
end
end EVL

/-! ## P21 -/
set_option maxRecDepth 10000
set_option maxHeartbeats 800000
namespace EVL
open PySem L2 EV
theorem sums_ok {d dr po nu ar : Nat} {s : Store} {ds : List Int} {ps ns as : List Str} (hd : lstAt s dr = some (ds.map .int)) (hdl : ds.length = 10) (hdb : ∀ x ∈ ds, 0 ≤ x ∧ x < 100) (hp : StrL s po ps) (hP : Pool ps) (hn : StrL s nu ns) (hN : ∀ x ∈ ns, IsName x) (hnl : ns.length ≤ 10) (ha : StrL s ar as) (hA : ∀ x ∈ as, IsName x) (hal : as.length ≤ 10) :
    wr (clN (d + 1) id__law_sums [.ref dr, .ref po, .ref nu, .ref ar] s) (fun v s' => s <+: s' ∧ ∃ q u0 u1, v = .ref q ∧ lstAt s' q = some [u0, u1] ∧ VTerm 10 u0 ∧ VTerm 10 u1) noX := by
  show wr (runB (clN d) 13 b__law_sums [.ref dr, .ref po, .ref nu, .ref ar] s) _ noX
  unfold b__law_sums
  have l0 : lineOk 0 = true := by decide
  have r2 : rngOk 2 = true := by decide
  simp only [w_varM, w_con, w_bin, w_neg, w_not, w_and, w_or, w_cmp, w_chain, w_ife, w_call, w_callp, w_star, w_blt, w_mth, w_idx, w_slc, w_lst, w_tup, w_tab, w_tin, w_dnew, w_rev, w_lc, w_lsc, w_dc, w_disp, w_get, w_fld, w_mk, w_meth, w_prop, w_nil, w_cons, w_onone, w_osome, w_tnone, w_tsome, w_tnot, w_tand, w_tor, w_tval, w_iex, w_irng1, w_irng2, w_irng3, w_izip, w_run, w_snil, w_scons, w_set, w_unp, w_seti, w_setf, w_exp, w_ret, w_retn, w_pass, w_ifs, w_loop, w_rais, w_try, wr_ok, wr_some, wr_none, wr_stuck, wr_bind, wr_quiet, wr_lift_ite, wr_ite, wo_ite, wo_next, wo_ret, wo_brk, wo_cnt, o_add, o_sub, o_mul, o_fdiv, o_mod, o_pow, o_neg, o_lt, o_le, o_gt, o_ge, o_eq, o_ne, o_eqs, o_nes, o_isB, o_notB, o_tbl, o_int, o_lst, decide_eq_true_eq, Bool.not_eq_true', decide_eq_false_iff_not, beq_iff_eq, List.map_cons, List.map_nil, List.length_cons, List.length_nil, List.replicate_succ, List.replicate_zero, List.cons_append, List.nil_append, List.getElem?_cons_zero, List.getElem?_cons_succ, List.set_cons_zero, List.set_cons_succ, Nat.reduceSub, Nat.reduceAdd, Nat.zero_add, Option.map_some, Option.map_none, c_na10, o_rng1, len_rng, len_lst, len_tup, Int.toNat_natCast, Int.reduceToNat, Int.reduceLE, Int.reduceLT, Nat.reducePow, Nat.reduceLT, and_self, if_true, if_false, ite_true, ite_false, true_and, and_true, reduceIte, l0, r2]
  refine for_rng (fun k ρ s' => s <+: s' ∧ ∃ acc, mutAt s' s.length = some acc ∧ acc.length = k ∧ (∀ v ∈ acc, VTerm 10 v) ∧ ∃ a b c d e f g h, ρ = sumsF dr po nu ar s.length a b c d e f g h) ⟨pre_app pre_rfl _, [], mut_new, rfl, fun v h => absurd h List.not_mem_nil, _, _, _, _, _, _, _, _, rfl⟩ ?_ ?_
  · rintro k _ s1 hk ⟨pre, acc, hacc, hal', hV, a, b, c, d', e, f, g, h, rfl⟩
    refine ⟨_, give_nm, ?_⟩
    have ez : (0 : Int) + (k : Int) = k := by omega
    simp only [List.set_cons_succ, List.set_cons_zero, ez]
    refine sums_step hk (pre_lst pre hd) hdl hdb (hp.mono pre) hP (hn.mono pre) hN hnl (ha.mono pre) hA hal hacc (by omega) ?_
    intro b c d' e f g h s' v hv p'
    refine ⟨pre_set (pre.trans p') (Nat.le_refl _), _, mut_set (mut_pre p' hacc), by rw [List.length_append, hal']; rfl, fun w hw => ?_, _, _, _, _, _, _, _, _, rfl⟩
    rcases List.mem_append.mp hw with hw | hw
    · exact hV w hw
    · rw [List.mem_singleton] at hw
      subst hw
      exact hv
  · rintro _ s1 ⟨pre, acc, hacc, hal', hV, a, b, c, d', e, f, g, h, rfl⟩
    simp only [w_varM, w_con, w_bin, w_neg, w_not, w_and, w_or, w_cmp, w_chain, w_ife, w_call, w_callp, w_star, w_blt, w_mth, w_idx, w_slc, w_lst, w_tup, w_tab, w_tin, w_dnew, w_rev, w_lc, w_lsc, w_dc, w_disp, w_get, w_fld, w_mk, w_meth, w_prop, w_nil, w_cons, w_onone, w_osome, w_tnone, w_tsome, w_tnot, w_tand, w_tor, w_tval, w_iex, w_irng1, w_irng2, w_irng3, w_izip, w_run, w_snil, w_scons, w_set, w_unp, w_seti, w_setf, w_exp, w_ret, w_retn, w_pass, w_ifs, w_loop, w_rais, w_try, wr_ok, wr_some, wr_none, wr_stuck, wr_bind, wr_quiet, wr_lift_ite, wr_ite, wo_ite, wo_next, wo_ret, wo_brk, wo_cnt, o_add, o_sub, o_mul, o_fdiv, o_mod, o_pow, o_neg, o_lt, o_le, o_gt, o_ge, o_eq, o_ne, o_eqs, o_nes, o_isB, o_notB, o_tbl, o_int, o_lst, decide_eq_true_eq, Bool.not_eq_true', decide_eq_false_iff_not, beq_iff_eq, List.map_cons, List.map_nil, List.length_cons, List.length_nil, List.replicate_succ, List.replicate_zero, List.cons_append, List.nil_append, List.getElem?_cons_zero, List.getElem?_cons_succ, List.set_cons_zero, List.set_cons_succ, Nat.reduceSub, Nat.reduceAdd, Nat.zero_add, Option.map_some, Option.map_none, c_na10, o_rng1, len_rng, len_lst, len_tup, Int.toNat_natCast, Int.reduceToNat, Int.reduceLE, Int.reduceLT, Nat.reducePow, Nat.reduceLT, and_self, if_true, if_false, ite_true, ite_false, true_and, and_true, reduceIte]
    match acc, hal' with
    | [u0, u1], _ => exact ⟨pre, _, u0, u1, rfl, mut_lst hacc, hV u0 (by simp), hV u1 (by simp)⟩
theorem keys_map : ∀ {kvs : List (Key × Val)}, Keyed kvs → ∃ xs : List Str, (kvs.map fun kv => keyV kv.1) = xs.map .str ∧ (∀ x ∈ xs, IsName x) ∧ xs.length = kvs.length
  | [], _ => ⟨[], rfl, fun x h => absurd h List.not_mem_nil, rfl⟩
  | kv :: kvs, h => by
    obtain ⟨x, e, hx⟩ := h kv List.mem_cons_self
    obtain ⟨xs, e2, hxs, hl⟩ := keys_map (kvs := kvs) fun q hq => h q (List.mem_cons_of_mem _ hq)
    refine ⟨x :: xs, by rw [List.map_cons, List.map_cons, e2, e]; rfl, fun y hy => ?_, by rw [List.length_cons, List.length_cons, hl]⟩
    rcases List.mem_cons.mp hy with rfl | hy
    · exact hx
    · exact hxs y hy
theorem o_listD {s : Store} {a : Nat} {kvs : List (Key × Val)} (h : s[a]? = some (.dct kvs)) : bltV .list [.ref a] s = some (.ref s.length, s ++ [.lst (kvs.map fun kv => keyV kv.1)]) := by
  have e : bltV .list [.ref a] s = (match s[a]? with
    | some (.lst ws) => alloc s (.lst ws)
    | some (.fro ws) => alloc s (.lst ws)
    | some (.dct kvs) => alloc s (.lst (kvs.map fun (kv : Key × Val) => keyV kv.1))
    | _ => none) := rfl
  rw [e, h]
  rfl
/-- names of a role -/
def Role (s : Store) (v : Val) (D : Nat) : Prop := ∃ (u : Nat) (xs : List Str), v = .ref u ∧ u ≠ D ∧ StrL s u xs ∧ (∀ x ∈ xs, IsName x) ∧ xs.length ≤ 10
theorem Role.mono {s s' : Store} {v : Val} {D : Nat} (p : s <+: s') : Role s v D → Role s' v D := fun ⟨u, xs, h1, h2, h3, h4⟩ => ⟨u, xs, h1, h2, h3.mono p, h4⟩
theorem Role.set {s : Store} {v : Val} {D : Nat} {o : Ob} : Role s v D → Role (s.set D o) v D := fun ⟨u, xs, h1, h2, h3, h4⟩ => ⟨u, xs, h1, h2, by
  unfold StrL mutAt
  rw [List.getElem?_set_ne (Ne.symm h2)]
  exact h3, h4⟩
theorem roles_ok {cl : Cl} {ρ : Fr} {s : Store} {v : Val} (hv : ρ[2]? = some (some v)) (h15 : ρ.length = 17) (h : Parts s v) :
    wr (ev cl (.lc x__law_saying_0 (.nm 15) (.ex (.var 2)) .none [15]) ρ s) (fun w s' => s <+: s' ∧ ∃ D r0 r1 r2, w = .ref D ∧ lstAt s' D = some [r0, r1, r2] ∧ Role s' r0 D ∧ Role s' r1 D ∧ Role s' r2 D) noX := by
  obtain ⟨a, b, c, rfl, ha, hb, hc⟩ := h
  rw [w_lc, w_iex, w_var hv, wr_ok, show wkOf s (.tup [Val.ref a, .ref b, .ref c]) = some (.tup [Val.ref a, .ref b, .ref c]) from rfl, wr_ok]
  show wr (lcTurns (Tg.nm 15).give (evTs cl .none) (ev cl x__law_saying_0) (.tup [.ref a, .ref b, .ref c]) (wipeF ρ [15]) s.length 3 0 (s ++ [.lst []])) _ noX
  refine lc_of (w := .tup [.ref a, .ref b, .ref c]) (n := 3) rfl (fun i s' acc => s <+: s' ∧ mutAt s' s.length = some acc ∧ acc.length = i ∧ ∀ v ∈ acc, Role s' v s.length) ?_ ?_ 3 0 _ [] (Nat.zero_add _) ⟨pre_app pre_rfl _, mut_new, rfl, fun v h => absurd h List.not_mem_nil⟩
  · rintro i s' acc hi ⟨pre, hm, hl, hV⟩
    obtain ⟨x, hx, kvs, h1, h2, h3⟩ : ∃ x, [Val.ref a, .ref b, .ref c][i]? = some (.ref x) ∧ DctN s x := by
      match i, hi with
      | 0, _ => exact ⟨a, rfl, ha⟩
      | 1, _ => exact ⟨b, rfl, hb⟩
      | 2, _ => exact ⟨c, rfl, hc⟩
    refine ⟨.ref x, _, hx, give_nm, ?_⟩
    have e15 : ((wipeF ρ [15]).set 15 (some (Val.ref x)))[15]? = some (some (.ref x)) := set_at (by show 15 < (ρ.set 15 none).length; rw [List.length_set, h15]; decide)
    obtain ⟨xs, e1, hxs, hxl⟩ := keys_map h3
    unfold x__law_saying_0
    simp only [w_varM, w_con, w_bin, w_neg, w_not, w_and, w_or, w_cmp, w_chain, w_ife, w_call, w_callp, w_star, w_blt, w_mth, w_idx, w_slc, w_lst, w_tup, w_tab, w_tin, w_dnew, w_rev, w_lc, w_lsc, w_dc, w_disp, w_get, w_fld, w_mk, w_meth, w_prop, w_nil, w_cons, w_onone, w_osome, w_tnone, w_tsome, w_tnot, w_tand, w_tor, w_tval, w_iex, w_irng1, w_irng2, w_irng3, w_izip, w_run, w_snil, w_scons, w_set, w_unp, w_seti, w_setf, w_exp, w_ret, w_retn, w_pass, w_ifs, w_loop, w_rais, w_try, wr_ok, wr_some, wr_none, wr_stuck, wr_bind, wr_quiet, wr_lift_ite, wr_ite, wo_ite, wo_next, wo_ret, wo_brk, wo_cnt, o_add, o_sub, o_mul, o_fdiv, o_mod, o_pow, o_neg, o_lt, o_le, o_gt, o_ge, o_eq, o_ne, o_eqs, o_nes, o_isB, o_notB, o_tbl, o_int, o_lst, decide_eq_true_eq, Bool.not_eq_true', decide_eq_false_iff_not, beq_iff_eq, List.map_cons, List.map_nil, List.length_cons, List.length_nil, List.replicate_succ, List.replicate_zero, List.cons_append, List.nil_append, List.getElem?_cons_zero, List.getElem?_cons_succ, List.set_cons_zero, List.set_cons_succ, Nat.reduceSub, Nat.reduceAdd, Nat.zero_add, Option.map_some, Option.map_none, c_na10, o_rng1, len_rng, len_lst, len_tup, Int.toNat_natCast, Int.reduceToNat, Int.reduceLE, Int.reduceLT, Nat.reducePow, Nat.reduceLT, and_self, if_true, if_false, ite_true, ite_false, true_and, and_true, reduceIte, e15, o_listD (pre_at pre h1), e1]
    have hm2 := mut_pre (pre_app pre_rfl [Ob.lst (xs.map Val.str)]) hm
    have hne : s'.length ≠ s.length := by have := mut_lt hm; omega
    refine ⟨hm2, by omega, pre_set (pre_app pre _) (Nat.le_refl _), mut_set hm2, by rw [List.length_append, hl]; rfl, fun w hw => ?_⟩
    rcases List.mem_append.mp hw with hw | hw
    · exact ((hV w hw).mono (pre_app pre_rfl _)).set
    · rw [List.mem_singleton] at hw
      subst hw
      exact Role.set ⟨s'.length, xs, rfl, hne, mut_new, hxs, by omega⟩
  · rintro s' acc ⟨pre, hm, hl, hV⟩
    refine ⟨rfl, pre, ?_⟩
    match acc, hl with
    | [r0, r1, r2], _ => exact ⟨_, r0, r1, r2, rfl, mut_lst hm, hV r0 (by simp), hV r1 (by simp), hV r2 (by simp)⟩
end EVL

/-! ## P22 -/
set_option maxRecDepth 10000
set_option maxHeartbeats 800000
namespace EVL
open PySem L2 EV
def sayLims : List Int := [7, 12, 9, 5, 12, 9, 5, 12, 9, 5, 12, 9, 5, 2, 12, 9, 12, 9, 2, 12, 9, 12, 9, 6, 6, 9]
abbrev sayF (n m po pl nu ar : Nat) (p : Int) (v a b c d e f g h i : Option Val) : Fr := [some (.ref n), some (.int p), v, some (.ref m), some (.ref po), a, b, c, d, e, f, g, some (.ref pl), some (.ref nu), some (.ref ar), h, i]
theorem at4 {P : Val → Prop} {t0 t1 t2 t3 : Val} (h0 : P t0) (h1 : P t1) (h2 : P t2) (h3 : P t3) : ∀ i : Nat, i < 4 → ∃ t, atI [t0, t1, t2, t3] (i : Int) = some t ∧ P t
  | 0, _ => ⟨t0, rfl, h0⟩
  | 1, _ => ⟨t1, rfl, h1⟩
  | 2, _ => ⟨t2, rfl, h2⟩
  | 3, _ => ⟨t3, rfl, h3⟩
section
variable {cl : Cl} {s : Store} {n m po pl nu ar : Nat} {p : Int} {ds : List Int} {ps : List Str} {v a b c d e f g h i : Option Val}
theorem terms_ok (hm : lstAt s m = some (ds.map .int)) (hdl : ds.length = 26) (hdb : ∀ x ∈ ds, 0 ≤ x ∧ x < 100) (hp : StrL s po ps) (hP : Pool ps) :
    wr (ev cl (.lc x__law_saying_1 (.nm 16) (.rng1 (.con (.int 4))) .none [16]) (sayF n m po pl nu ar p v a b c d e f g h i) s) (fun w s' => s <+: s' ∧ ∃ q t0 t1 t2 t3, w = .ref q ∧ lstAt s' q = some [t0, t1, t2, t3] ∧ Plain 10 t0 ∧ Plain 10 t1 ∧ Plain 10 t2 ∧ Plain 10 t3) noX := by
  rw [w_lc, w_irng1]
  simp only [w_varM, w_con, w_bin, w_neg, w_not, w_and, w_or, w_cmp, w_chain, w_ife, w_call, w_callp, w_star, w_blt, w_mth, w_idx, w_slc, w_lst, w_tup, w_tab, w_tin, w_dnew, w_rev, w_lc, w_lsc, w_dc, w_disp, w_get, w_fld, w_mk, w_meth, w_prop, w_nil, w_cons, w_onone, w_osome, w_tnone, w_tsome, w_tnot, w_tand, w_tor, w_tval, w_iex, w_irng1, w_irng2, w_irng3, w_izip, w_run, w_snil, w_scons, w_set, w_unp, w_seti, w_setf, w_exp, w_ret, w_retn, w_pass, w_ifs, w_loop, w_rais, w_try, wr_ok, wr_some, wr_none, wr_stuck, wr_bind, wr_quiet, wr_lift_ite, wr_ite, wo_ite, wo_next, wo_ret, wo_brk, wo_cnt, o_add, o_sub, o_mul, o_fdiv, o_mod, o_pow, o_neg, o_lt, o_le, o_gt, o_ge, o_eq, o_ne, o_eqs, o_nes, o_isB, o_notB, o_tbl, o_int, o_lst, decide_eq_true_eq, Bool.not_eq_true', decide_eq_false_iff_not, beq_iff_eq, List.map_cons, List.map_nil, List.length_cons, List.length_nil, List.replicate_succ, List.replicate_zero, List.cons_append, List.nil_append, List.getElem?_cons_zero, List.getElem?_cons_succ, List.set_cons_zero, List.set_cons_succ, Nat.reduceSub, Nat.reduceAdd, Nat.zero_add, Option.map_some, Option.map_none, c_na10, o_rng1, len_rng, len_lst, len_tup, Int.toNat_natCast, Int.reduceToNat, Int.reduceLE, Int.reduceLT, Nat.reducePow, Nat.reduceLT, and_self, if_true, if_false, ite_true, ite_false, true_and, and_true, reduceIte, o_rng1 (cl := cl) (ρ := []), show rngOk 4 = true by decide]
  refine wr_imp (lc_rel (w := .rng 0 4) (n := 4) (fun i y => Plain 10 y) rfl (by decide) ?_ fun s' pre => rfl) ?_
  · intro i s' hi pre
    refine ⟨.int (0 + (i : Int)), _, rfl, give_nm, ?_⟩
    have ez : (0 : Int) + (i : Int) = i := by omega
    have m3 : mulOk 3 (i : Int) = true := mulOk_l ⟨by decide, by decide⟩
    have i1 : atI (ds.map Val.int) (1 + 3 * (i : Int)) = some (.int (ds[1 + 3 * i]'(by omega))) := by
      rw [show (1 + 3 * (i : Int)) = ((1 + 3 * i : Nat) : Int) by omega]
      exact ints_at (by omega)
    have i2 : atI (ds.map Val.int) (2 + 3 * (i : Int)) = some (.int (ds[2 + 3 * i]'(by omega))) := by
      rw [show (2 + 3 * (i : Int)) = ((2 + 3 * i : Nat) : Int) by omega]
      exact ints_at (by omega)
    obtain ⟨y, hy, iy⟩ := pick hP.2.1 (ds[1 + 3 * i]'(by omega))
    have hp' := hp.mono pre
    have lp : (0 : Int) < (ps.length : Int) := by have := hP.2.1; omega
    have l2 : lineOk 2 = true := by decide
    unfold x__law_saying_1
    simp only [w_varM, w_con, w_bin, w_neg, w_not, w_and, w_or, w_cmp, w_chain, w_ife, w_call, w_callp, w_star, w_blt, w_mth, w_idx, w_slc, w_lst, w_tup, w_tab, w_tin, w_dnew, w_rev, w_lc, w_lsc, w_dc, w_disp, w_get, w_fld, w_mk, w_meth, w_prop, w_nil, w_cons, w_onone, w_osome, w_tnone, w_tsome, w_tnot, w_tand, w_tor, w_tval, w_iex, w_irng1, w_irng2, w_irng3, w_izip, w_run, w_snil, w_scons, w_set, w_unp, w_seti, w_setf, w_exp, w_ret, w_retn, w_pass, w_ifs, w_loop, w_rais, w_try, wr_ok, wr_some, wr_none, wr_stuck, wr_bind, wr_quiet, wr_lift_ite, wr_ite, wo_ite, wo_next, wo_ret, wo_brk, wo_cnt, o_add, o_sub, o_mul, o_fdiv, o_mod, o_pow, o_neg, o_lt, o_le, o_gt, o_ge, o_eq, o_ne, o_eqs, o_nes, o_isB, o_notB, o_tbl, o_int, o_lst, decide_eq_true_eq, Bool.not_eq_true', decide_eq_false_iff_not, beq_iff_eq, List.map_cons, List.map_nil, List.length_cons, List.length_nil, List.replicate_succ, List.replicate_zero, List.cons_append, List.nil_append, List.getElem?_cons_zero, List.getElem?_cons_succ, List.set_cons_zero, List.set_cons_succ, Nat.reduceSub, Nat.reduceAdd, Nat.zero_add, Option.map_some, Option.map_none, c_na10, o_rng1, len_rng, len_lst, len_tup, Int.toNat_natCast, Int.reduceToNat, Int.reduceLE, Int.reduceLT, Nat.reducePow, Nat.reduceLT, and_self, if_true, if_false, ite_true, ite_false, true_and, and_true, reduceIte, wipeF, ez, m3, o_idx (pre_lst pre hm), i1, i2, hp'.len, lp, hp'.idx, iy, l2]
    exact ⟨⟨y, _, rfl, hP.1 y hy, sm_draw (hdb _ (List.getElem_mem _))⟩, pre_rfl⟩
  · rintro _ s' ⟨pre, rfl, ys, hys, hlen, hR⟩
    match ys, hlen with
    | [t0, t1, t2, t3], _ => exact ⟨pre, _, t0, t1, t2, t3, rfl, mut_lst hys, hR 0 _ rfl, hR 1 _ rfl, hR 2 _ rfl, hR 3 _ rfl⟩
theorem ends_ok {q : Nat} {t0 t1 t2 t3 : Val} (hm : lstAt s m = some (ds.map .int)) (hdl : ds.length = 26) (hq : lstAt s q = some [t0, t1, t2, t3]) (h0 : Plain 10 t0) (h1 : Plain 10 t1) (h2 : Plain 10 t2) (h3 : Plain 10 t3) :
    wr (ev cl (.lc x__law_saying_2 (.nm 16) (.rng1 (.con (.int 4))) .none [16]) (sayF n m po pl nu ar p v (some (.ref q)) b c d e f g h i) s) (fun w s' => s <+: s' ∧ ∃ q e0 e1 e2 e3, w = .ref q ∧ lstAt s' q = some [e0, e1, e2, e3] ∧ Endy 10 e0 ∧ Endy 10 e1 ∧ Endy 10 e2 ∧ Endy 10 e3) noX := by
  rw [w_lc, w_irng1]
  simp only [w_varM, w_con, w_bin, w_neg, w_not, w_and, w_or, w_cmp, w_chain, w_ife, w_call, w_callp, w_star, w_blt, w_mth, w_idx, w_slc, w_lst, w_tup, w_tab, w_tin, w_dnew, w_rev, w_lc, w_lsc, w_dc, w_disp, w_get, w_fld, w_mk, w_meth, w_prop, w_nil, w_cons, w_onone, w_osome, w_tnone, w_tsome, w_tnot, w_tand, w_tor, w_tval, w_iex, w_irng1, w_irng2, w_irng3, w_izip, w_run, w_snil, w_scons, w_set, w_unp, w_seti, w_setf, w_exp, w_ret, w_retn, w_pass, w_ifs, w_loop, w_rais, w_try, wr_ok, wr_some, wr_none, wr_stuck, wr_bind, wr_quiet, wr_lift_ite, wr_ite, wo_ite, wo_next, wo_ret, wo_brk, wo_cnt, o_add, o_sub, o_mul, o_fdiv, o_mod, o_pow, o_neg, o_lt, o_le, o_gt, o_ge, o_eq, o_ne, o_eqs, o_nes, o_isB, o_notB, o_tbl, o_int, o_lst, decide_eq_true_eq, Bool.not_eq_true', decide_eq_false_iff_not, beq_iff_eq, List.map_cons, List.map_nil, List.length_cons, List.length_nil, List.replicate_succ, List.replicate_zero, List.cons_append, List.nil_append, List.getElem?_cons_zero, List.getElem?_cons_succ, List.set_cons_zero, List.set_cons_succ, Nat.reduceSub, Nat.reduceAdd, Nat.zero_add, Option.map_some, Option.map_none, c_na10, o_rng1, len_rng, len_lst, len_tup, Int.toNat_natCast, Int.reduceToNat, Int.reduceLE, Int.reduceLT, Nat.reducePow, Nat.reduceLT, and_self, if_true, if_false, ite_true, ite_false, true_and, and_true, reduceIte, o_rng1 (cl := cl) (ρ := []), show rngOk 4 = true by decide]
  refine wr_imp (lc_rel (w := .rng 0 4) (n := 4) (fun i y => Endy 10 y) rfl (by decide) ?_ fun s' pre => rfl) ?_
  · intro i s' hi pre
    refine ⟨.int (0 + (i : Int)), _, rfl, give_nm, ?_⟩
    have ez : (0 : Int) + (i : Int) = i := by omega
    have m3 : mulOk 3 (i : Int) = true := mulOk_l ⟨by decide, by decide⟩
    have i1 : atI (ds.map Val.int) (3 + 3 * (i : Int)) = some (.int (ds[3 + 3 * i]'(by omega))) := by
      rw [show (3 + 3 * (i : Int)) = ((3 + 3 * i : Nat) : Int) by omega]
      exact ints_at (by omega)
    obtain ⟨t, ht, hP⟩ := at4 h0 h1 h2 h3 i hi
    unfold x__law_saying_2
    simp only [w_varM, w_con, w_bin, w_neg, w_not, w_and, w_or, w_cmp, w_chain, w_ife, w_call, w_callp, w_star, w_blt, w_mth, w_idx, w_slc, w_lst, w_tup, w_tab, w_tin, w_dnew, w_rev, w_lc, w_lsc, w_dc, w_disp, w_get, w_fld, w_mk, w_meth, w_prop, w_nil, w_cons, w_onone, w_osome, w_tnone, w_tsome, w_tnot, w_tand, w_tor, w_tval, w_iex, w_irng1, w_irng2, w_irng3, w_izip, w_run, w_snil, w_scons, w_set, w_unp, w_seti, w_setf, w_exp, w_ret, w_retn, w_pass, w_ifs, w_loop, w_rais, w_try, wr_ok, wr_some, wr_none, wr_stuck, wr_bind, wr_quiet, wr_lift_ite, wr_ite, wo_ite, wo_next, wo_ret, wo_brk, wo_cnt, o_add, o_sub, o_mul, o_fdiv, o_mod, o_pow, o_neg, o_lt, o_le, o_gt, o_ge, o_eq, o_ne, o_eqs, o_nes, o_isB, o_notB, o_tbl, o_int, o_lst, decide_eq_true_eq, Bool.not_eq_true', decide_eq_false_iff_not, beq_iff_eq, List.map_cons, List.map_nil, List.length_cons, List.length_nil, List.replicate_succ, List.replicate_zero, List.cons_append, List.nil_append, List.getElem?_cons_zero, List.getElem?_cons_succ, List.set_cons_zero, List.set_cons_succ, Nat.reduceSub, Nat.reduceAdd, Nat.zero_add, Option.map_some, Option.map_none, c_na10, o_rng1, len_rng, len_lst, len_tup, Int.toNat_natCast, Int.reduceToNat, Int.reduceLE, Int.reduceLT, Nat.reducePow, Nat.reduceLT, and_self, if_true, if_false, ite_true, ite_false, true_and, and_true, reduceIte, wipeF, ez, m3, o_idx (pre_lst pre hm), i1]
    split
    · refine And.intro ?_ ?_
      · exact endy_non
      · exact pre_rfl
    · simp only [w_varM, w_con, w_bin, w_neg, w_not, w_and, w_or, w_cmp, w_chain, w_ife, w_call, w_callp, w_star, w_blt, w_mth, w_idx, w_slc, w_lst, w_tup, w_tab, w_tin, w_dnew, w_rev, w_lc, w_lsc, w_dc, w_disp, w_get, w_fld, w_mk, w_meth, w_prop, w_nil, w_cons, w_onone, w_osome, w_tnone, w_tsome, w_tnot, w_tand, w_tor, w_tval, w_iex, w_irng1, w_irng2, w_irng3, w_izip, w_run, w_snil, w_scons, w_set, w_unp, w_seti, w_setf, w_exp, w_ret, w_retn, w_pass, w_ifs, w_loop, w_rais, w_try, wr_ok, wr_some, wr_none, wr_stuck, wr_bind, wr_quiet, wr_lift_ite, wr_ite, wo_ite, wo_next, wo_ret, wo_brk, wo_cnt, o_add, o_sub, o_mul, o_fdiv, o_mod, o_pow, o_neg, o_lt, o_le, o_gt, o_ge, o_eq, o_ne, o_eqs, o_nes, o_isB, o_notB, o_tbl, o_int, o_lst, decide_eq_true_eq, Bool.not_eq_true', decide_eq_false_iff_not, beq_iff_eq, List.map_cons, List.map_nil, List.length_cons, List.length_nil, List.replicate_succ, List.replicate_zero, List.cons_append, List.nil_append, List.getElem?_cons_zero, List.getElem?_cons_succ, List.set_cons_zero, List.set_cons_succ, Nat.reduceSub, Nat.reduceAdd, Nat.zero_add, Option.map_some, Option.map_none, c_na10, o_rng1, len_rng, len_lst, len_tup, Int.toNat_natCast, Int.reduceToNat, Int.reduceLE, Int.reduceLT, Nat.reducePow, Nat.reduceLT, and_self, if_true, if_false, ite_true, ite_false, true_and, and_true, reduceIte, o_idx (pre_lst pre hq), ht]
      exact ⟨.inr hP, pre_rfl⟩
  · rintro _ s' ⟨pre, rfl, ys, hys, hlen, hR⟩
    match ys, hlen with
    | [t0, t1, t2, t3], _ => exact ⟨pre, _, t0, t1, t2, t3, rfl, mut_lst hys, hR 0 _ rfl, hR 1 _ rfl, hR 2 _ rfl, hR 3 _ rfl⟩
end
end EVL

/-! ## P23 -/
set_option maxRecDepth 10000
set_option maxHeartbeats 800000
namespace EVL
open PySem L2 EV
theorem drawn_small {ds : List Int} (hdl : ds.length = 26) (hb : ∀ (i : Nat) (x l : Int), ds[i]? = some x → sayLims[i]? = some l → 0 ≤ x ∧ x < l) (x : Int) (hx : x ∈ ds) : 0 ≤ x ∧ x < 100 := by
  obtain ⟨i, hi⟩ := List.getElem?_of_mem hx
  have hlt := (List.getElem?_eq_some_iff.mp hi).1
  have hs : i < sayLims.length := by rw [hdl] at hlt; exact hlt
  have q := hb i x _ hi (List.getElem?_eq_getElem hs)
  have z : ∀ l ∈ sayLims, l ≤ 100 := by decide
  have := z _ (List.getElem_mem hs)
  omega
theorem mut_cat {s : Store} {n : Nat} {xs ys : List Val} (h : mutAt s n = some xs) (hl : lineOk (xs.length + ys.length) = true) : binV .add (.ref n) (.ref s.length) (s ++ [.lst ys]) = some (.ref (s ++ [Ob.lst ys]).length, (s ++ [.lst ys]) ++ [.lst (xs ++ ys)]) := o_cat (mut_pre (pre_app pre_rfl _) h) mut_new hl
/-- var f := var g + [display], a new list -/
theorem grow {cl : Cl} {ρ : Fr} {s : Store} {f g q : Nat} {es : Exs} {xs ys : List Val} {D : En} (hg : ρ[g]? = some (some (.ref q))) (hq : mutAt s q = some xs) (he : evs cl es ρ s = .ok ys s) (h1 : lineOk ys.length = true) (h2 : lineOk (xs.length + ys.length) = true)
    (hD : ∀ r s', s <+: s' → mutAt s' r = some (xs ++ ys) → D.nx (ρ.set f (some (.ref r))) s') : wo (EV.ex cl (.set f (.bin .add (.var g) (.lst es))) ρ s) D := by
  rw [w_set, w_bin, w_var hg, wr_ok, w_lst, he, wr_ok, o_lst, if_pos h1, wr_some, mut_cat hq h2, wr_some]
  exact hD _ _ (pre_app (pre_app pre_rfl _) _) mut_new
theorem evs_cons {cl : Cl} {ρ : Fr} {s : Store} {e : Ex} {es : Exs} {v : Val} {vs : List Val} (h : ev cl e ρ s = .ok v s) (t : evs cl es ρ s = .ok vs s) : evs cl (.cons e es) ρ s = .ok (v :: vs) s := by
  show (ev cl e ρ s).bind (fun v st1 => (evs cl es ρ st1).bind fun vs st2 => .ok (v :: vs) st2) = _
  rw [h]
  show (evs cl es ρ s).bind (fun vs st2 => .ok (v :: vs) st2) = _
  rw [t]
  rfl
theorem ev_tup {cl : Cl} {ρ : Fr} {s : Store} {es : Exs} {vs : List Val} (t : evs cl es ρ s = .ok vs s) (hl : lineOk vs.length = true) : ev cl (.tup es) ρ s = .ok (.tup vs) s := by
  show (evs cl es ρ s).bind (fun vs st1 => if lineOk vs.length then .ok (Val.tup vs) st1 else .stuck) = _
  rw [t]
  exact if_pos hl
theorem ev_at {cl : Cl} {ρ : Fr} {s : Store} {i q : Nat} {k : Int} {vs : List Val} {v : Val} (h : ρ[i]? = some (some (.ref q))) (hq : lstAt s q = some vs) (hv : atI vs k = some v) : ev cl (.idx (.var i) (.con (.int k))) ρ s = .ok v s := by
  show (match ρ[i]? with | some (some v) => Res.ok v s | _ => .stuck).bind (fun v st1 => (Res.ok (Val.int k) st1).bind fun u st2 => liftO ((idxV st2 v u).map fun w => (w, st2))) = _
  rw [h]
  show liftO ((idxV s (.ref q) (.int k)).map fun w => (w, s)) = _
  rw [o_idx hq, hv]
  rfl
theorem ev_atsub {cl : Cl} {ρ : Fr} {s : Store} {i q : Nat} {k c : Int} {vs : List Val} {x : Int} (h : ρ[i]? = some (some (.ref q))) (hq : lstAt s q = some vs) (hv : atI vs k = some (.int x)) : ev cl (.bin .sub (.idx (.var i) (.con (.int k))) (.con (.int c))) ρ s = .ok (.int (x - c)) s := by
  show (ev cl (.idx (.var i) (.con (.int k))) ρ s).bind (fun v st1 => (Res.ok (Val.int c) st1).bind fun u st2 => liftO (binV .sub v u st2)) = _
  rw [ev_at h hq hv]
  rfl
theorem lk {n : Nat} (k : Nat) (h : n = k) (hk : k ≤ 100) : lineOk n = true := decide_eq_true (by omega)
theorem say_sums {d n m po pl nu ar : Nat} {s : Store} {ds : List Int} {ps ns as : List Str} {p : Int} {v a b c d' e f g h i : Option Val} (hm : lstAt s m = some (ds.map .int)) (hdl : ds.length = 26) (hdb : ∀ x ∈ ds, 0 ≤ x ∧ x < 100) (hp : StrL s po ps) (hP : Pool ps) (hn : StrL s nu ns) (hN : ∀ x ∈ ns, IsName x) (hnl : ns.length ≤ 10) (ha : StrL s ar as) (hA : ∀ x ∈ as, IsName x) (hal : as.length ≤ 10) :
    wr (ev (clN (d + 2)) (.call id__law_sums (.cons (.slc (.var 3) (.some (.con (.int 13))) (.some (.con (.int 23)))) (.cons (.var 4) (.cons (.var 13) (.cons (.var 14) .nil))))) (sayF n m po pl nu ar p v a b c d' e f g h i) s) (fun w s' => s <+: s' ∧ ∃ q u0 u1, w = .ref q ∧ lstAt s' q = some [u0, u1] ∧ VTerm 10 u0 ∧ VTerm 10 u1) noX := by
  obtain ⟨xs, hcut, hxl, hxb⟩ : ∃ xs, EV.cut ds (some 13) (some 23) = xs ∧ xs.length = 10 ∧ ∀ x ∈ xs, 0 ≤ x ∧ x < 100 := ⟨_, cut_nat (a := 13) (b := 23) (by omega) (by omega), by rw [List.length_take, List.length_drop]; omega, fun x hx => hdb x (List.mem_of_mem_drop (List.mem_of_mem_take hx))⟩
  have hsl : slcV (.ref m) (some 13) (some 23) s = some (.ref s.length, s ++ [.lst (xs.map .int)]) := by rw [o_slcL hm, cut_ints, hcut]
  have q := sums_ok (d := d + 1) (dr := s.length) (s := s ++ [.lst (xs.map .int)]) (mut_lst mut_new) hxl hxb (hp.mono (pre_app pre_rfl _)) hP (hn.mono (pre_app pre_rfl _)) hN hnl (ha.mono (pre_app pre_rfl _)) hA hal
  rw [w_call, w_cons, w_slc, w_var (v := .ref m) rfl, wr_ok, w_osome, w_con, wr_ok, w_osome, w_con, wr_ok, hsl, wr_some, w_cons, w_var (v := .ref po) rfl, wr_ok, w_cons, w_var (v := .ref nu) rfl, wr_ok, w_cons, w_var (v := .ref ar) rfl, wr_ok, w_nil]
  refine wr_imp q ?_
  rintro _ s' ⟨pre, h⟩
  exact ⟨(pre_app pre_rfl _).trans pre, h⟩
theorem saying_ok {d n : Nat} {s : Store} {ns : List Int} {p : Int} {v : Val} (hs : lstAt s n = some (ns.map .int)) (hp : 0 ≤ p) (hv : Parts s v) :
    wr (clN (d + 3) id__law_saying [.ref n, .int p, v] s) (fun w s' => s <+: s' ∧ Say 10 w) noX := by
  show wr (runB (clN (d + 2)) 17 b__law_saying [.ref n, .int p, v] s) _ noX
  unfold b__law_saying
  rw [w_run]
  refine w_cut (fun ρ s' => s <+: s' ∧ ∃ D r0 r1 r2, Role s' r0 D ∧ Role s' r1 D ∧ Role s' r2 D ∧ ρ = [some (.ref n), some (.int p), some v, none, none, none, none, none, none, none, none, none, some r0, some r1, some r2, none, none]) ?_ ?_
  · rw [w_unp]
    refine wr_imp (roles_ok rfl rfl hv) ?_
    rintro _ s1 ⟨pre, D, r0, r1, r2, rfl, hD, h0, h1, h2⟩
    have hg : ∀ ρ : Fr, (Tg.tp [12, 13, 14]).give (.ref D) ρ s1 = some (((ρ.set 12 (some r0)).set 13 (some r1)).set 14 (some r2)) := fun ρ => by
      show (match lstAt s1 D with
        | some vs => setAll [12, 13, 14] vs ρ
        | none => none) = _
      rw [hD]
      rfl
    rw [hg, wo_next]
    exact ⟨pre, D, r0, r1, r2, h0, h1, h2, rfl⟩
  rintro _ s1 ⟨pre1, D, _, _, _, ⟨pl, xp, rfl, _, hpl, hXp, hlp⟩, ⟨nu, xn, rfl, _, hnu, hXn, hln⟩, ⟨ar, xa, rfl, _, har, hXa, hla⟩, rfl⟩
  refine w_cut (fun ρ s' => s1 <+: s' ∧ ∃ m, Drawn s' m sayLims ∧ ρ = [some (.ref n), some (.int p), some v, some (.ref m), none, none, none, none, none, none, none, none, some (.ref pl), some (.ref nu), some (.ref ar), none, none]) ?_ ?_
  · rw [w_set]
    refine wr_imp (drawn (d := d) (a := .var 0) (b := .var 1) (p := p) (n := n) (ls := sayLims) rfl rfl (pre_lst pre1 hs) hp (by rfl) (by decide) (by decide)) ?_
    rintro _ s' ⟨pre, m, rfl, hm⟩
    exact ⟨pre, m, hm, rfl⟩
  rintro _ s2 ⟨pre2, m, ⟨ds, hds, hdl, hb⟩, rfl⟩
  have hdl : ds.length = 26 := hdl
  have hdb : ∀ x ∈ ds, 0 ≤ x ∧ x < 100 := fun x hx => drawn_small hdl hb x hx
  have hpl2 := hpl.mono pre2
  have hnu2 := hnu.mono pre2
  have har2 := har.mono pre2
  have l1 : lineOk 1 = true := by decide
  refine w_cut (fun ρ s' => s2 <+: s' ∧ ∃ po ps, StrL s' po ps ∧ Pool ps ∧ ρ = sayF n m po pl nu ar p (some v) none none none none none none none none none) ?_ ?_
  · have hc := o_cat (st := s2 ++ [Ob.lst [.str ""]]) (xs := [.str ""]) (ys := xp.map Val.str) (n := s2.length) (m := pl) mut_new (mut_pre (pre_app pre_rfl _) hpl2) (by rw [List.length_map]; exact decide_eq_true (by show 1 + xp.length ≤ _; omega))
    simp only [w_varM, w_con, w_bin, w_neg, w_not, w_and, w_or, w_cmp, w_chain, w_ife, w_call, w_callp, w_star, w_blt, w_mth, w_idx, w_slc, w_lst, w_tup, w_tab, w_tin, w_dnew, w_rev, w_lc, w_lsc, w_dc, w_disp, w_get, w_fld, w_mk, w_meth, w_prop, w_nil, w_cons, w_onone, w_osome, w_tnone, w_tsome, w_tnot, w_tand, w_tor, w_tval, w_iex, w_irng1, w_irng2, w_irng3, w_izip, w_run, w_snil, w_scons, w_set, w_unp, w_seti, w_setf, w_exp, w_ret, w_retn, w_pass, w_ifs, w_loop, w_rais, w_try, wr_ok, wr_some, wr_none, wr_stuck, wr_bind, wr_quiet, wr_lift_ite, wr_ite, wo_ite, wo_next, wo_ret, wo_brk, wo_cnt, o_add, o_sub, o_mul, o_fdiv, o_mod, o_pow, o_neg, o_lt, o_le, o_gt, o_ge, o_eq, o_ne, o_eqs, o_nes, o_isB, o_notB, o_tbl, o_int, o_lst, decide_eq_true_eq, Bool.not_eq_true', decide_eq_false_iff_not, beq_iff_eq, List.map_cons, List.map_nil, List.length_cons, List.length_nil, List.replicate_succ, List.replicate_zero, List.cons_append, List.nil_append, List.getElem?_cons_zero, List.getElem?_cons_succ, List.set_cons_zero, List.set_cons_succ, Nat.reduceSub, Nat.reduceAdd, Nat.zero_add, Option.map_some, Option.map_none, c_na10, o_rng1, len_rng, len_lst, len_tup, Int.toNat_natCast, Int.reduceToNat, Int.reduceLE, Int.reduceLT, Nat.reducePow, Nat.reduceLT, and_self, if_true, if_false, ite_true, ite_false, true_and, and_true, reduceIte, l1, hc]
    exact ⟨pre_app (pre_app pre_rfl _) _, _, ("" : Str) :: xp, mut_new, pool_of hXp hlp, rfl⟩
  rintro _ s3 ⟨pre3, po, ps, hpo, hPool, rfl⟩
  have hm3 := pre_lst pre3 hds
  refine w_cut (fun ρ s' => s3 <+: s' ∧ ∃ q t0 t1 t2 t3, lstAt s' q = some [t0, t1, t2, t3] ∧ (Plain 10 t0 ∧ Plain 10 t1 ∧ Plain 10 t2 ∧ Plain 10 t3) ∧ ρ = sayF n m po pl nu ar p (some v) (some (.ref q)) none none none none none none none none) ?_ ?_
  · rw [w_set]
    refine wr_imp (terms_ok hm3 hdl hdb hpo hPool) ?_
    rintro _ s' ⟨pre, q, t0, t1, t2, t3, rfl, hq, h⟩
    exact ⟨pre, q, t0, t1, t2, t3, hq, h, rfl⟩
  rintro _ s4 ⟨pre4, q5, t0, t1, t2, t3, hq5, ⟨ht0, ht1, ht2, ht3⟩, rfl⟩
  have hm4 := pre_lst pre4 hm3
  refine w_cut (fun ρ s' => s4 <+: s' ∧ ∃ q e0 e1 e2 e3, lstAt s' q = some [e0, e1, e2, e3] ∧ (Endy 10 e0 ∧ Endy 10 e1 ∧ Endy 10 e2 ∧ Endy 10 e3) ∧ ρ = sayF n m po pl nu ar p (some v) (some (.ref q5)) (some (.ref q)) none none none none none none none) ?_ ?_
  · rw [w_set]
    refine wr_imp (ends_ok hm4 hdl hq5 ht0 ht1 ht2 ht3) ?_
    rintro _ s' ⟨pre, q, e0, e1, e2, e3, rfl, hq, h⟩
    exact ⟨pre, q, e0, e1, e2, e3, hq, h, rfl⟩
  rintro _ s5 ⟨pre5, q6, e0, e1, e2, e3, hq6, ⟨he0, he1, he2, he3⟩, rfl⟩
  have hm5 := pre_lst pre5 hm4
  have hpo5 := hpo.mono (pre4.trans pre5)
  have p35 := pre3.trans (pre4.trans pre5)
  have hnu5 := hnu2.mono p35
  have har5 := har2.mono p35
  refine w_cut (fun ρ s' => s5 <+: s' ∧ ∃ q u0 u1, lstAt s' q = some [u0, u1] ∧ (VTerm 10 u0 ∧ VTerm 10 u1) ∧ ρ = sayF n m po pl nu ar p (some v) (some (.ref q5)) (some (.ref q6)) (some (.ref q)) none none none none none none) ?_ ?_
  · rw [w_set]
    refine wr_imp (say_sums (d := d) hm5 hdl hdb hpo5 hPool hnu5 hXn hln har5 hXa hla) ?_
    rintro _ s' ⟨pre, q, u0, u1, rfl, hq, hu⟩
    exact ⟨pre, q, u0, u1, hq, hu, rfl⟩
  rintro _ s6 ⟨pre6, q7, u0, u1, hq7, ⟨hu0, hu1⟩, rfl⟩
  have hm6 := pre_lst pre6 hm5
  have hT6 := pre_lst (pre5.trans pre6) hq5
  have hE6 := pre_lst pre6 hq6
  have har6 := har5.mono pre6
  have l2 : lineOk 2 = true := by decide
  have l3 : lineOk 3 = true := by decide
  have iT0 : atI [t0, t1, t2, t3] 0 = some t0 := rfl
  have iT1 : atI [t0, t1, t2, t3] 1 = some t1 := rfl
  have iU0 : atI [u0, u1] 0 = some u0 := rfl
  have iU1 : atI [u0, u1] 1 = some u1 := rfl
  refine w_cut (fun ρ s' => s6 <+: s' ∧ ∃ q, mutAt s' q = some [.tup [.str "place", t0, t1], .tup [.str "value", u0, u1]] ∧ ρ = sayF n m po pl nu ar p (some v) (some (.ref q5)) (some (.ref q6)) (some (.ref q7)) (some (.ref q)) none none none none none) ?_ ?_
  · simp only [w_varM, w_con, w_bin, w_neg, w_not, w_and, w_or, w_cmp, w_chain, w_ife, w_call, w_callp, w_star, w_blt, w_mth, w_idx, w_slc, w_lst, w_tup, w_tab, w_tin, w_dnew, w_rev, w_lc, w_lsc, w_dc, w_disp, w_get, w_fld, w_mk, w_meth, w_prop, w_nil, w_cons, w_onone, w_osome, w_tnone, w_tsome, w_tnot, w_tand, w_tor, w_tval, w_iex, w_irng1, w_irng2, w_irng3, w_izip, w_run, w_snil, w_scons, w_set, w_unp, w_seti, w_setf, w_exp, w_ret, w_retn, w_pass, w_ifs, w_loop, w_rais, w_try, wr_ok, wr_some, wr_none, wr_stuck, wr_bind, wr_quiet, wr_lift_ite, wr_ite, wo_ite, wo_next, wo_ret, wo_brk, wo_cnt, o_add, o_sub, o_mul, o_fdiv, o_mod, o_pow, o_neg, o_lt, o_le, o_gt, o_ge, o_eq, o_ne, o_eqs, o_nes, o_isB, o_notB, o_tbl, o_int, o_lst, decide_eq_true_eq, Bool.not_eq_true', decide_eq_false_iff_not, beq_iff_eq, List.map_cons, List.map_nil, List.length_cons, List.length_nil, List.replicate_succ, List.replicate_zero, List.cons_append, List.nil_append, List.getElem?_cons_zero, List.getElem?_cons_succ, List.set_cons_zero, List.set_cons_succ, Nat.reduceSub, Nat.reduceAdd, Nat.zero_add, Option.map_some, Option.map_none, c_na10, o_rng1, len_rng, len_lst, len_tup, Int.toNat_natCast, Int.reduceToNat, Int.reduceLE, Int.reduceLT, Nat.reducePow, Nat.reduceLT, and_self, if_true, if_false, ite_true, ite_false, true_and, and_true, reduceIte, o_idx hT6, iT0, iT1, o_idx hq7, iU0, iU1, l2, l3]
    exact ⟨pre_app pre_rfl _, _, mut_new, rfl⟩
  rintro _ s7 ⟨pre7, q8, hq8, rfl⟩
  have hm7 := pre_lst pre7 hm6
  have hE7 := pre_lst pre7 hE6
  have hU7 := pre_lst pre7 hq7
  have har7 := har6.mono pre7
  have g : ∀ (j : Nat) (hj : j < 26), ds[j]? = some (ds[j]'(by omega)) := fun j hj => List.getElem?_eq_getElem _
  have b0 := hb 0 _ 7 (g 0 (by decide)) rfl
  have i0 : atI (ds.map Val.int) 0 = some (.int _) := ix_at (k := 0) (g 0 (by decide))
  have i23 : atI (ds.map Val.int) 23 = some (.int _) := ix_at (k := 23) (g 23 (by decide))
  have i24 : atI (ds.map Val.int) 24 = some (.int _) := ix_at (k := 24) (g 24 (by decide))
  have i25 : atI (ds.map Val.int) 25 = some (.int _) := ix_at (k := 25) (g 25 (by decide))
  generalize ds[0]'(by omega) = x0 at b0 i0
  generalize ds[23]'(by omega) = x23 at i23
  generalize ds[24]'(by omega) = x24 at i24
  have b25 : Sm 10 (ds[25]'(by omega) - 4) := sm_draw (hdb _ (List.getElem_mem _))
  generalize ds[25]'(by omega) = x25 at i25 b25
  have hall := pre1.trans (pre2.trans (pre3.trans (pre4.trans (pre5.trans (pre6.trans pre7)))))
  refine w_cut (fun ρ s' => s7 = s' ∧ 0 < xa.length ∧ ρ = sayF n m po pl nu ar p (some v) (some (.ref q5)) (some (.ref q6)) (some (.ref q7)) (some (.ref q8)) none none none none none) ?_ ?_
  · simp only [w_varM, w_con, w_bin, w_neg, w_not, w_and, w_or, w_cmp, w_chain, w_ife, w_call, w_callp, w_star, w_blt, w_mth, w_idx, w_slc, w_lst, w_tup, w_tab, w_tin, w_dnew, w_rev, w_lc, w_lsc, w_dc, w_disp, w_get, w_fld, w_mk, w_meth, w_prop, w_nil, w_cons, w_onone, w_osome, w_tnone, w_tsome, w_tnot, w_tand, w_tor, w_tval, w_iex, w_irng1, w_irng2, w_irng3, w_izip, w_run, w_snil, w_scons, w_set, w_unp, w_seti, w_setf, w_exp, w_ret, w_retn, w_pass, w_ifs, w_loop, w_rais, w_try, wr_ok, wr_some, wr_none, wr_stuck, wr_bind, wr_quiet, wr_lift_ite, wr_ite, wo_ite, wo_next, wo_ret, wo_brk, wo_cnt, o_add, o_sub, o_mul, o_fdiv, o_mod, o_pow, o_neg, o_lt, o_le, o_gt, o_ge, o_eq, o_ne, o_eqs, o_nes, o_isB, o_notB, o_tbl, o_int, o_lst, decide_eq_true_eq, Bool.not_eq_true', decide_eq_false_iff_not, beq_iff_eq, List.map_cons, List.map_nil, List.length_cons, List.length_nil, List.replicate_succ, List.replicate_zero, List.cons_append, List.nil_append, List.getElem?_cons_zero, List.getElem?_cons_succ, List.set_cons_zero, List.set_cons_succ, Nat.reduceSub, Nat.reduceAdd, Nat.zero_add, Option.map_some, Option.map_none, c_na10, o_rng1, len_rng, len_lst, len_tup, Int.toNat_natCast, Int.reduceToNat, Int.reduceLE, Int.reduceLT, Nat.reducePow, Nat.reduceLT, and_self, if_true, if_false, ite_true, ite_false, true_and, and_true, reduceIte, har7.len]
    by_cases hz : (xa.length : Int) = 0
    · rw [if_pos hz]
      have d2 : (0 : Int) < 2 := by decide
      have hm2 : x0 % 2 = 0 ∨ x0 % 2 = 1 := by omega
      rcases hm2 with e | e
      · simp only [w_varM, w_con, w_bin, w_neg, w_not, w_and, w_or, w_cmp, w_chain, w_ife, w_call, w_callp, w_star, w_blt, w_mth, w_idx, w_slc, w_lst, w_tup, w_tab, w_tin, w_dnew, w_rev, w_lc, w_lsc, w_dc, w_disp, w_get, w_fld, w_mk, w_meth, w_prop, w_nil, w_cons, w_onone, w_osome, w_tnone, w_tsome, w_tnot, w_tand, w_tor, w_tval, w_iex, w_irng1, w_irng2, w_irng3, w_izip, w_run, w_snil, w_scons, w_set, w_unp, w_seti, w_setf, w_exp, w_ret, w_retn, w_pass, w_ifs, w_loop, w_rais, w_try, wr_ok, wr_some, wr_none, wr_stuck, wr_bind, wr_quiet, wr_lift_ite, wr_ite, wo_ite, wo_next, wo_ret, wo_brk, wo_cnt, o_add, o_sub, o_mul, o_fdiv, o_mod, o_pow, o_neg, o_lt, o_le, o_gt, o_ge, o_eq, o_ne, o_eqs, o_nes, o_isB, o_notB, o_tbl, o_int, o_lst, decide_eq_true_eq, Bool.not_eq_true', decide_eq_false_iff_not, beq_iff_eq, List.map_cons, List.map_nil, List.length_cons, List.length_nil, List.replicate_succ, List.replicate_zero, List.cons_append, List.nil_append, List.getElem?_cons_zero, List.getElem?_cons_succ, List.set_cons_zero, List.set_cons_succ, Nat.reduceSub, Nat.reduceAdd, Nat.zero_add, Option.map_some, Option.map_none, c_na10, o_rng1, len_rng, len_lst, len_tup, Int.toNat_natCast, Int.reduceToNat, Int.reduceLE, Int.reduceLT, Nat.reducePow, Nat.reduceLT, and_self, if_true, if_false, ite_true, ite_false, true_and, and_true, reduceIte, o_idx hm7, i0, d2, e, o_idx (mut_lst hq8), show atI [Val.tup [.str "place", t0, t1], .tup [.str "value", u0, u1]] 0 = some (.tup [.str "place", t0, t1]) from rfl]
        exact ⟨hall, say_place ht0 ht1⟩
      · simp only [w_varM, w_con, w_bin, w_neg, w_not, w_and, w_or, w_cmp, w_chain, w_ife, w_call, w_callp, w_star, w_blt, w_mth, w_idx, w_slc, w_lst, w_tup, w_tab, w_tin, w_dnew, w_rev, w_lc, w_lsc, w_dc, w_disp, w_get, w_fld, w_mk, w_meth, w_prop, w_nil, w_cons, w_onone, w_osome, w_tnone, w_tsome, w_tnot, w_tand, w_tor, w_tval, w_iex, w_irng1, w_irng2, w_irng3, w_izip, w_run, w_snil, w_scons, w_set, w_unp, w_seti, w_setf, w_exp, w_ret, w_retn, w_pass, w_ifs, w_loop, w_rais, w_try, wr_ok, wr_some, wr_none, wr_stuck, wr_bind, wr_quiet, wr_lift_ite, wr_ite, wo_ite, wo_next, wo_ret, wo_brk, wo_cnt, o_add, o_sub, o_mul, o_fdiv, o_mod, o_pow, o_neg, o_lt, o_le, o_gt, o_ge, o_eq, o_ne, o_eqs, o_nes, o_isB, o_notB, o_tbl, o_int, o_lst, decide_eq_true_eq, Bool.not_eq_true', decide_eq_false_iff_not, beq_iff_eq, List.map_cons, List.map_nil, List.length_cons, List.length_nil, List.replicate_succ, List.replicate_zero, List.cons_append, List.nil_append, List.getElem?_cons_zero, List.getElem?_cons_succ, List.set_cons_zero, List.set_cons_succ, Nat.reduceSub, Nat.reduceAdd, Nat.zero_add, Option.map_some, Option.map_none, c_na10, o_rng1, len_rng, len_lst, len_tup, Int.toNat_natCast, Int.reduceToNat, Int.reduceLE, Int.reduceLT, Nat.reducePow, Nat.reduceLT, and_self, if_true, if_false, ite_true, ite_false, true_and, and_true, reduceIte, o_idx hm7, i0, d2, e, o_idx (mut_lst hq8), show atI [Val.tup [.str "place", t0, t1], .tup [.str "value", u0, u1]] 1 = some (.tup [.str "value", u0, u1]) from rfl]
        exact ⟨hall, say_value hu0 hu1⟩
    · rw [if_neg hz]
      omega
  rintro _ _ ⟨rfl, hz, rfl⟩
  have lz : (0 : Int) < (xa.length : Int) := by omega
  obtain ⟨y1, hy1, iy1⟩ := pick hz x23
  obtain ⟨y2, hy2, iy2⟩ := pick hz x24
  refine w_cut (fun ρ s' => s7 = s' ∧ ρ = sayF n m po pl nu ar p (some v) (some (.ref q5)) (some (.ref q6)) (some (.ref q7)) (some (.ref q8)) (some (.str y1)) none none none none) ?_ ?_
  · simp only [w_varM, w_con, w_bin, w_neg, w_not, w_and, w_or, w_cmp, w_chain, w_ife, w_call, w_callp, w_star, w_blt, w_mth, w_idx, w_slc, w_lst, w_tup, w_tab, w_tin, w_dnew, w_rev, w_lc, w_lsc, w_dc, w_disp, w_get, w_fld, w_mk, w_meth, w_prop, w_nil, w_cons, w_onone, w_osome, w_tnone, w_tsome, w_tnot, w_tand, w_tor, w_tval, w_iex, w_irng1, w_irng2, w_irng3, w_izip, w_run, w_snil, w_scons, w_set, w_unp, w_seti, w_setf, w_exp, w_ret, w_retn, w_pass, w_ifs, w_loop, w_rais, w_try, wr_ok, wr_some, wr_none, wr_stuck, wr_bind, wr_quiet, wr_lift_ite, wr_ite, wo_ite, wo_next, wo_ret, wo_brk, wo_cnt, o_add, o_sub, o_mul, o_fdiv, o_mod, o_pow, o_neg, o_lt, o_le, o_gt, o_ge, o_eq, o_ne, o_eqs, o_nes, o_isB, o_notB, o_tbl, o_int, o_lst, decide_eq_true_eq, Bool.not_eq_true', decide_eq_false_iff_not, beq_iff_eq, List.map_cons, List.map_nil, List.length_cons, List.length_nil, List.replicate_succ, List.replicate_zero, List.cons_append, List.nil_append, List.getElem?_cons_zero, List.getElem?_cons_succ, List.set_cons_zero, List.set_cons_succ, Nat.reduceSub, Nat.reduceAdd, Nat.zero_add, Option.map_some, Option.map_none, c_na10, o_rng1, len_rng, len_lst, len_tup, Int.toNat_natCast, Int.reduceToNat, Int.reduceLE, Int.reduceLT, Nat.reducePow, Nat.reduceLT, and_self, if_true, if_false, ite_true, ite_false, true_and, and_true, reduceIte, o_idx hm7, i23, har7.len, lz, har7.idx, iy1]
  rintro _ _ ⟨rfl, rfl⟩
  refine w_cut (fun ρ s' => s7 = s' ∧ ρ = sayF n m po pl nu ar p (some v) (some (.ref q5)) (some (.ref q6)) (some (.ref q7)) (some (.ref q8)) (some (.str y1)) (some (.str y2)) none none none) ?_ ?_
  · simp only [w_varM, w_con, w_bin, w_neg, w_not, w_and, w_or, w_cmp, w_chain, w_ife, w_call, w_callp, w_star, w_blt, w_mth, w_idx, w_slc, w_lst, w_tup, w_tab, w_tin, w_dnew, w_rev, w_lc, w_lsc, w_dc, w_disp, w_get, w_fld, w_mk, w_meth, w_prop, w_nil, w_cons, w_onone, w_osome, w_tnone, w_tsome, w_tnot, w_tand, w_tor, w_tval, w_iex, w_irng1, w_irng2, w_irng3, w_izip, w_run, w_snil, w_scons, w_set, w_unp, w_seti, w_setf, w_exp, w_ret, w_retn, w_pass, w_ifs, w_loop, w_rais, w_try, wr_ok, wr_some, wr_none, wr_stuck, wr_bind, wr_quiet, wr_lift_ite, wr_ite, wo_ite, wo_next, wo_ret, wo_brk, wo_cnt, o_add, o_sub, o_mul, o_fdiv, o_mod, o_pow, o_neg, o_lt, o_le, o_gt, o_ge, o_eq, o_ne, o_eqs, o_nes, o_isB, o_notB, o_tbl, o_int, o_lst, decide_eq_true_eq, Bool.not_eq_true', decide_eq_false_iff_not, beq_iff_eq, List.map_cons, List.map_nil, List.length_cons, List.length_nil, List.replicate_succ, List.replicate_zero, List.cons_append, List.nil_append, List.getElem?_cons_zero, List.getElem?_cons_succ, List.set_cons_zero, List.set_cons_succ, Nat.reduceSub, Nat.reduceAdd, Nat.zero_add, Option.map_some, Option.map_none, c_na10, o_rng1, len_rng, len_lst, len_tup, Int.toNat_natCast, Int.reduceToNat, Int.reduceLE, Int.reduceLT, Nat.reducePow, Nat.reduceLT, and_self, if_true, if_false, ite_true, ite_false, true_and, and_true, reduceIte, o_idx hm7, i24, har7.len, lz, har7.idx, iy2]
  rintro _ _ ⟨rfl, rfl⟩
  have iE0 : atI [e0, e1, e2, e3] 0 = some e0 := rfl
  have iE1 : atI [e0, e1, e2, e3] 1 = some e1 := rfl
  have iE2 : atI [e0, e1, e2, e3] 2 = some e2 := rfl
  have iE3 : atI [e0, e1, e2, e3] 3 = some e3 := rfl
  refine w_cut (fun ρ s' => s7 <+: s' ∧ ∃ q, mutAt s' q = some ([.tup [.str "place", t0, t1], .tup [.str "value", u0, u1]] ++ [.tup [.str "rising", .str y1, e0, e1]]) ∧ ρ = sayF n m po pl nu ar p (some v) (some (.ref q5)) (some (.ref q6)) (some (.ref q7)) (some (.ref q8)) (some (.str y1)) (some (.str y2)) (some (.ref q)) none none) ?_ ?_
  · refine grow rfl hq8 (evs_cons (ev_tup (evs_cons rfl (evs_cons rfl (evs_cons (ev_at rfl hE7 iE0) (evs_cons (ev_at rfl hE7 iE1) rfl)))) (lk 4 rfl (by decide))) rfl) (lk 1 rfl (by decide)) (lk 3 rfl (by decide)) fun r s' p' h => ⟨p', r, h, rfl⟩
  rintro _ s8 ⟨pre8, q9, hq9, rfl⟩
  have hm8 := pre_lst pre8 hm7
  have hE8 := pre_lst pre8 hE7
  have hU8 := pre_lst pre8 hU7
  refine w_cut (fun ρ s' => s8 <+: s' ∧ ∃ q, mutAt s' q = some (([.tup [.str "place", t0, t1], .tup [.str "value", u0, u1]] ++ [.tup [.str "rising", .str y1, e0, e1]]) ++ [.tup [.str "low", .str y1, e0, e1, u0], .tup [.str "high", .str y1, e0, e1, u0]]) ∧ ρ = sayF n m po pl nu ar p (some v) (some (.ref q5)) (some (.ref q6)) (some (.ref q7)) (some (.ref q8)) (some (.str y1)) (some (.str y2)) (some (.ref q)) none none) ?_ ?_
  · refine grow rfl hq9 (evs_cons (ev_tup (evs_cons rfl (evs_cons rfl (evs_cons (ev_at rfl hE8 iE0) (evs_cons (ev_at rfl hE8 iE1) (evs_cons (ev_at rfl hU8 iU0) rfl))))) (lk 5 rfl (by decide))) (evs_cons (ev_tup (evs_cons rfl (evs_cons rfl (evs_cons (ev_at rfl hE8 iE0) (evs_cons (ev_at rfl hE8 iE1) (evs_cons (ev_at rfl hU8 iU0) rfl))))) (lk 5 rfl (by decide))) rfl)) (lk 2 rfl (by decide)) (lk 5 rfl (by decide)) fun r s' p' h => ⟨p', r, h, rfl⟩
  rintro _ s9 ⟨pre9, q10, hq10, rfl⟩
  have hm9 := pre_lst pre9 hm8
  have hE9 := pre_lst pre9 hE8
  refine w_cut (fun ρ s' => s9 <+: s' ∧ ∃ q, mutAt s' q = some ((([.tup [.str "place", t0, t1], .tup [.str "value", u0, u1]] ++ [.tup [.str "rising", .str y1, e0, e1]]) ++ [.tup [.str "low", .str y1, e0, e1, u0], .tup [.str "high", .str y1, e0, e1, u0]]) ++ [.tup [.str "below", .str y1, e0, e1, .str y2, e2, e3, .int (x25 - 4)]]) ∧ ρ = sayF n m po pl nu ar p (some v) (some (.ref q5)) (some (.ref q6)) (some (.ref q7)) (some (.ref q8)) (some (.str y1)) (some (.str y2)) (some (.ref q)) none none) ?_ ?_
  · refine grow rfl hq10 (evs_cons (ev_tup (evs_cons rfl (evs_cons rfl (evs_cons (ev_at rfl hE9 iE0) (evs_cons (ev_at rfl hE9 iE1) (evs_cons rfl (evs_cons (ev_at rfl hE9 iE2) (evs_cons (ev_at rfl hE9 iE3) (evs_cons (ev_atsub rfl hm9 i25) rfl)))))))) (lk 8 rfl (by decide))) rfl) (lk 1 rfl (by decide)) (lk 6 rfl (by decide)) fun r s' p' h => ⟨p', r, h, rfl⟩
  rintro _ s10 ⟨pre10, q11, hq11, rfl⟩
  have hm10 := pre_lst pre10 hm9
  have hE10 := pre_lst pre10 hE9
  refine w_cut (fun ρ s' => s10 <+: s' ∧ ∃ q, mutAt s' q = some (((([.tup [.str "place", t0, t1], .tup [.str "value", u0, u1]] ++ [.tup [.str "rising", .str y1, e0, e1]]) ++ [.tup [.str "low", .str y1, e0, e1, u0], .tup [.str "high", .str y1, e0, e1, u0]]) ++ [.tup [.str "below", .str y1, e0, e1, .str y2, e2, e3, .int (x25 - 4)]]) ++ [.tup [.str "same", .str y1, .str y2, e0, e1, .int (x25 - 4)]]) ∧ ρ = sayF n m po pl nu ar p (some v) (some (.ref q5)) (some (.ref q6)) (some (.ref q7)) (some (.ref q8)) (some (.str y1)) (some (.str y2)) (some (.ref q)) none none) ?_ ?_
  · refine grow rfl hq11 (evs_cons (ev_tup (evs_cons rfl (evs_cons rfl (evs_cons rfl (evs_cons (ev_at rfl hE10 iE0) (evs_cons (ev_at rfl hE10 iE1) (evs_cons (ev_atsub rfl hm10 i25) rfl)))))) (lk 6 rfl (by decide))) rfl) (lk 1 rfl (by decide)) (lk 7 rfl (by decide)) fun r s' p' h => ⟨p', r, h, rfl⟩
  rintro _ s11 ⟨pre11, q12, hq12, rfl⟩
  have hm11 := pre_lst pre11 hm10
  have hfin := hall.trans (pre8.trans (pre9.trans (pre10.trans pre11)))
  have hy1 := hXa y1 hy1
  have hy2 := hXa y2 hy2
  obtain ⟨w, hw, hSay⟩ : ∃ w, atI (((([.tup [.str "place", t0, t1], .tup [.str "value", u0, u1]] ++ [.tup [.str "rising", .str y1, e0, e1]]) ++ [.tup [.str "low", .str y1, e0, e1, u0], .tup [.str "high", .str y1, e0, e1, u0]]) ++ [.tup [.str "below", .str y1, e0, e1, .str y2, e2, e3, .int (x25 - 4)]]) ++ [.tup [.str "same", .str y1, .str y2, e0, e1, .int (x25 - 4)]]) x0 = some w ∧ Say 10 w := by
    have hx : x0 = 0 ∨ x0 = 1 ∨ x0 = 2 ∨ x0 = 3 ∨ x0 = 4 ∨ x0 = 5 ∨ x0 = 6 := by omega
    clear b0 i0
    rcases hx with rfl | rfl | rfl | rfl | rfl | rfl | rfl
    · exact ⟨_, rfl, say_place ht0 ht1⟩
    · exact ⟨_, rfl, say_value hu0 hu1⟩
    · exact ⟨_, rfl, say_rising hy1 he0 he1⟩
    · exact ⟨_, rfl, say_low hy1 he0 he1 hu0⟩
    · exact ⟨_, rfl, say_high hy1 he0 he1 hu0⟩
    · exact ⟨_, rfl, say_below hy1 hy2 he0 he1 he2 he3 b25⟩
    · exact ⟨_, rfl, say_same hy1 hy2 he0 he1 b25⟩
  rw [w_one, w_ret, w_idx, w_var (v := .ref q12) rfl, wr_ok, w_idx, w_var (v := .ref m) rfl, wr_ok, w_con, o_idx hm11, i0, Option.map_some, wr_some, o_idx (mut_lst hq12), hw, Option.map_some, wr_some]
  exact ⟨hfin, hSay⟩
end EVL

/-! ## P24 -/
set_option maxRecDepth 10000
set_option maxHeartbeats 800000
namespace EVL
open PySem L2 EV
theorem scaled_v {d : Nat} {s : Store} {sc v : Val} {r : Int} (hs : Scale sc) (hr : r = 0 ∨ r = 1) (h : VTerm 10 v) : wr (clN (d + 2) id__law_scaled_term [v, sc, .int r] s) (fun u s' => VTerm 200 u ∧ s <+: s') noX := by
  rcases h with h | ⟨a, p, k, rfl, ha, hp, hk⟩
  · refine wr_imp (scaled_plain (d := d + 1) hs hr h) ?_
    rintro u s' ⟨hu, pre⟩
    exact ⟨.inl hu, pre⟩
  · exact scaled_cell (d := d) hs ha hp hk
theorem scaled_e {d : Nat} {s : Store} {sc v : Val} (hs : Scale sc) (h : Endy 10 v) : wr (clN (d + 2) id__law_scaled_term [v, sc, .int 0] s) (fun u s' => Endy 200 u ∧ s <+: s') noX := by
  rcases h with rfl | h
  · refine wr_imp (scaled_non (d := d + 1)) ?_
    rintro u s' ⟨rfl, pre⟩
    exact ⟨.inl rfl, pre⟩
  · refine wr_imp (scaled_plain (d := d + 1) hs (.inl rfl) h) ?_
    rintro u s' ⟨hu, pre⟩
    exact ⟨.inr hu, pre⟩
theorem sc_at2 {sc : Val} (hs : Scale sc) : ∃ c : Int, (∀ s : Store, idxV s sc (.int 2) = some (.int c)) ∧ (∀ k : Int, mulOk k c = true) ∧ ∀ k : Int, Sm 10 k → Sm 200 (k * c) := by
  obtain ⟨a, b, c, e, rfl, ha, hc, _, _⟩ := hs
  exact ⟨c, fun _ => rfl, fun k => mulOk_r hc, fun k hk => (sm_mul hk hc).mono (by decide)⟩
theorem isi_plain {s : Store} {v : Val} (h : Plain 10 v) : isiV .int s v = some false ∧ isiV .str s v = some false := by
  obtain ⟨x, k, rfl, _⟩ := h
  exact ⟨rfl, rfl⟩
theorem isi_v {s : Store} {v : Val} (h : VTerm 10 v) : isiV .int s v = some false ∧ isiV .str s v = some false := by
  rcases h with h | ⟨a, p, k, rfl, _, _, _⟩
  · exact isi_plain h
  · exact ⟨rfl, rfl⟩
theorem isi_e {s : Store} {v : Val} (h : Endy 10 v) : isiV .int s v = some false ∧ isiV .str s v = some false := by
  rcases h with rfl | h
  · exact ⟨rfl, rfl⟩
  · exact isi_plain h
abbrev scF (x sc : Val) (q : Nat) (y : Option Val) : Fr := [some x, some sc, some (.ref q), y]
/-- a turn of the scaling loop -/
theorem scale_turn {d q : Nat} {s : Store} {x sc v : Val} {acc : List Val} {D : En} {k : Str} (hs : Scale sc) (hq : mutAt s q = some acc) (hl : acc.length < 100) (h : Part 10 k v)
    (hD : ∀ u s', Part 200 k u → s <+: s' → D.nx (scF x sc q (some v)) (s'.set q (.lst (acc ++ [u])))) :
    wo (EV.exs (clN (d + 2)) l__law_scaled_saying_0 (scF x sc q (some v)) s) D := by
  have hlen : acc.length < 16777216 := by omega
  have other : isiV .int s v = some false → isiV .str s v = some false → wr (clN (d + 2) id__law_scaled_term [v, sc, .int 0] s) (fun u s' => Part 200 k u ∧ s <+: s') noX →
      wo (EV.exs (clN (d + 2)) l__law_scaled_saying_0 (scF x sc q (some v)) s) D := by
    intro h1 h2 h3
    unfold l__law_scaled_saying_0
    simp only [w_varM, w_con, w_bin, w_neg, w_not, w_and, w_or, w_cmp, w_chain, w_ife, w_call, w_callp, w_star, w_blt, w_mth, w_idx, w_slc, w_lst, w_tup, w_tab, w_tin, w_dnew, w_rev, w_lc, w_lsc, w_dc, w_disp, w_get, w_fld, w_mk, w_meth, w_prop, w_nil, w_cons, w_onone, w_osome, w_tnone, w_tsome, w_tnot, w_tand, w_tor, w_tval, w_iex, w_irng1, w_irng2, w_irng3, w_izip, w_run, w_snil, w_scons, w_set, w_unp, w_seti, w_setf, w_exp, w_ret, w_retn, w_pass, w_ifs, w_loop, w_rais, w_try, wr_ok, wr_some, wr_none, wr_stuck, wr_bind, wr_quiet, wr_lift_ite, wr_ite, wo_ite, wo_next, wo_ret, wo_brk, wo_cnt, o_add, o_sub, o_mul, o_fdiv, o_mod, o_pow, o_neg, o_lt, o_le, o_gt, o_ge, o_eq, o_ne, o_eqs, o_nes, o_isB, o_notB, o_tbl, o_int, o_lst, decide_eq_true_eq, Bool.not_eq_true', decide_eq_false_iff_not, beq_iff_eq, List.map_cons, List.map_nil, List.length_cons, List.length_nil, List.replicate_succ, List.replicate_zero, List.cons_append, List.nil_append, List.getElem?_cons_zero, List.getElem?_cons_succ, List.set_cons_zero, List.set_cons_succ, Nat.reduceSub, Nat.reduceAdd, Nat.zero_add, Option.map_some, Option.map_none, c_na10, o_rng1, len_rng, len_lst, len_tup, Int.toNat_natCast, Int.reduceToNat, Int.reduceLE, Int.reduceLT, Nat.reducePow, Nat.reduceLT, and_self, if_true, if_false, ite_true, ite_false, true_and, and_true, reduceIte, o_isi h1, o_isi h2, Bool.false_eq_true, o_rapp hq]
    refine wr_imp h3 ?_
    rintro u s' ⟨hu, pre⟩
    simp only [w_varM, w_con, w_bin, w_neg, w_not, w_and, w_or, w_cmp, w_chain, w_ife, w_call, w_callp, w_star, w_blt, w_mth, w_idx, w_slc, w_lst, w_tup, w_tab, w_tin, w_dnew, w_rev, w_lc, w_lsc, w_dc, w_disp, w_get, w_fld, w_mk, w_meth, w_prop, w_nil, w_cons, w_onone, w_osome, w_tnone, w_tsome, w_tnot, w_tand, w_tor, w_tval, w_iex, w_irng1, w_irng2, w_irng3, w_izip, w_run, w_snil, w_scons, w_set, w_unp, w_seti, w_setf, w_exp, w_ret, w_retn, w_pass, w_ifs, w_loop, w_rais, w_try, wr_ok, wr_some, wr_none, wr_stuck, wr_bind, wr_quiet, wr_lift_ite, wr_ite, wo_ite, wo_next, wo_ret, wo_brk, wo_cnt, o_add, o_sub, o_mul, o_fdiv, o_mod, o_pow, o_neg, o_lt, o_le, o_gt, o_ge, o_eq, o_ne, o_eqs, o_nes, o_isB, o_notB, o_tbl, o_int, o_lst, decide_eq_true_eq, Bool.not_eq_true', decide_eq_false_iff_not, beq_iff_eq, List.map_cons, List.map_nil, List.length_cons, List.length_nil, List.replicate_succ, List.replicate_zero, List.cons_append, List.nil_append, List.getElem?_cons_zero, List.getElem?_cons_succ, List.set_cons_zero, List.set_cons_succ, Nat.reduceSub, Nat.reduceAdd, Nat.zero_add, Option.map_some, Option.map_none, c_na10, o_rng1, len_rng, len_lst, len_tup, Int.toNat_natCast, Int.reduceToNat, Int.reduceLE, Int.reduceLT, Nat.reducePow, Nat.reduceLT, and_self, if_true, if_false, ite_true, ite_false, true_and, and_true, reduceIte, o_app (mut_pre pre hq), hlen]
    exact hD u s' hu pre
  rcases h with ⟨rfl, y, rfl, hy⟩ | ⟨rfl, hv⟩ | ⟨rfl, hv⟩ | ⟨rfl, hv⟩ | ⟨rfl, i, rfl, hi⟩
  · unfold l__law_scaled_saying_0
    have e1 : bltV (.isi .int) [.str y] s = some (.bl false, s) := rfl
    have e2 : bltV (.isi .str) [.str y] s = some (.bl true, s) := rfl
    simp only [w_varM, w_con, w_bin, w_neg, w_not, w_and, w_or, w_cmp, w_chain, w_ife, w_call, w_callp, w_star, w_blt, w_mth, w_idx, w_slc, w_lst, w_tup, w_tab, w_tin, w_dnew, w_rev, w_lc, w_lsc, w_dc, w_disp, w_get, w_fld, w_mk, w_meth, w_prop, w_nil, w_cons, w_onone, w_osome, w_tnone, w_tsome, w_tnot, w_tand, w_tor, w_tval, w_iex, w_irng1, w_irng2, w_irng3, w_izip, w_run, w_snil, w_scons, w_set, w_unp, w_seti, w_setf, w_exp, w_ret, w_retn, w_pass, w_ifs, w_loop, w_rais, w_try, wr_ok, wr_some, wr_none, wr_stuck, wr_bind, wr_quiet, wr_lift_ite, wr_ite, wo_ite, wo_next, wo_ret, wo_brk, wo_cnt, o_add, o_sub, o_mul, o_fdiv, o_mod, o_pow, o_neg, o_lt, o_le, o_gt, o_ge, o_eq, o_ne, o_eqs, o_nes, o_isB, o_notB, o_tbl, o_int, o_lst, decide_eq_true_eq, Bool.not_eq_true', decide_eq_false_iff_not, beq_iff_eq, List.map_cons, List.map_nil, List.length_cons, List.length_nil, List.replicate_succ, List.replicate_zero, List.cons_append, List.nil_append, List.getElem?_cons_zero, List.getElem?_cons_succ, List.set_cons_zero, List.set_cons_succ, Nat.reduceSub, Nat.reduceAdd, Nat.zero_add, Option.map_some, Option.map_none, c_na10, o_rng1, len_rng, len_lst, len_tup, Int.toNat_natCast, Int.reduceToNat, Int.reduceLE, Int.reduceLT, Nat.reducePow, Nat.reduceLT, and_self, if_true, if_false, ite_true, ite_false, true_and, and_true, reduceIte, e1, e2, Bool.false_eq_true, o_rapp hq, o_app hq, hlen]
    exact hD _ s (pa hy) pre_rfl
  · refine other (isi_v hv).1 (isi_v hv).2 (wr_imp (scaled_v (d := d) hs (.inl rfl) hv) ?_)
    rintro u s' ⟨hu, pre⟩
    exact ⟨pv hu, pre⟩
  · refine other (isi_plain hv).1 (isi_plain hv).2 (wr_imp (scaled_plain (d := d + 1) hs (.inl rfl) hv) ?_)
    rintro u s' ⟨hu, pre⟩
    exact ⟨pp hu, pre⟩
  · refine other (isi_e hv).1 (isi_e hv).2 (wr_imp (scaled_e (d := d) hs hv) ?_)
    rintro u s' ⟨hu, pre⟩
    exact ⟨pe hu, pre⟩
  · unfold l__law_scaled_saying_0
    obtain ⟨c, hc, hm, hsm⟩ := sc_at2 hs
    have e1 : bltV (.isi .int) [.int i] s = some (.bl true, s) := rfl
    simp only [w_varM, w_con, w_bin, w_neg, w_not, w_and, w_or, w_cmp, w_chain, w_ife, w_call, w_callp, w_star, w_blt, w_mth, w_idx, w_slc, w_lst, w_tup, w_tab, w_tin, w_dnew, w_rev, w_lc, w_lsc, w_dc, w_disp, w_get, w_fld, w_mk, w_meth, w_prop, w_nil, w_cons, w_onone, w_osome, w_tnone, w_tsome, w_tnot, w_tand, w_tor, w_tval, w_iex, w_irng1, w_irng2, w_irng3, w_izip, w_run, w_snil, w_scons, w_set, w_unp, w_seti, w_setf, w_exp, w_ret, w_retn, w_pass, w_ifs, w_loop, w_rais, w_try, wr_ok, wr_some, wr_none, wr_stuck, wr_bind, wr_quiet, wr_lift_ite, wr_ite, wo_ite, wo_next, wo_ret, wo_brk, wo_cnt, o_add, o_sub, o_mul, o_fdiv, o_mod, o_pow, o_neg, o_lt, o_le, o_gt, o_ge, o_eq, o_ne, o_eqs, o_nes, o_isB, o_notB, o_tbl, o_int, o_lst, decide_eq_true_eq, Bool.not_eq_true', decide_eq_false_iff_not, beq_iff_eq, List.map_cons, List.map_nil, List.length_cons, List.length_nil, List.replicate_succ, List.replicate_zero, List.cons_append, List.nil_append, List.getElem?_cons_zero, List.getElem?_cons_succ, List.set_cons_zero, List.set_cons_succ, Nat.reduceSub, Nat.reduceAdd, Nat.zero_add, Option.map_some, Option.map_none, c_na10, o_rng1, len_rng, len_lst, len_tup, Int.toNat_natCast, Int.reduceToNat, Int.reduceLE, Int.reduceLT, Nat.reducePow, Nat.reduceLT, and_self, if_true, if_false, ite_true, ite_false, true_and, and_true, reduceIte, e1, o_rapp hq, hc, hm, o_app hq, hlen]
    exact hD _ s (pn (hsm i hi)) pre_rfl
/-- what the loop has gathered -/
def Gath (z : Str) (ks : List Str) (acc : List Val) : Prop := ∀ (j : Nat) (u : Val), acc[j]? = some u → (j = 0 → u = .str z) ∧ ∀ (i : Nat) (k : Str), j = i + 1 → ks[i]? = some k → Part 200 k u
theorem Gath.snoc {z : Str} {ks : List Str} {acc : List Val} {u : Val} (h : Gath z ks acc) (h0 : acc.length = 0 → u = .str z) (h1 : ∀ (i : Nat) (k : Str), acc.length = i + 1 → ks[i]? = some k → Part 200 k u) : Gath z ks (acc ++ [u]) := fun j w hj => by
  by_cases hlt : j < acc.length
  · rw [List.getElem?_append_left hlt] at hj
    exact h j w hj
  · have q := (List.getElem?_eq_some_iff.mp hj).1
    rw [List.length_append] at q
    have q : j < acc.length + 1 := q
    have ej : j = acc.length := by omega
    subst ej
    rw [List.getElem?_append_right (Nat.le_refl _), Nat.sub_self] at hj
    have hj : u = w := by simpa using hj
    subst hj
    exact ⟨h0, h1⟩
theorem Gath.end_ {z : Str} {ks : List Str} {acc : List Val} (h : Gath z ks acc) (hl : acc.length = ks.length + 1) : ∃ qs, acc = .str z :: qs ∧ PartsL 200 ks qs := by
  match acc, hl with
  | a :: qs, hl =>
    have e := (h 0 a rfl).1 rfl
    subst e
    refine ⟨qs, rfl, partsL_of ks qs (by simpa using hl) fun i p k h1 h2 => (h (i + 1) p h1).2 i k rfl h2⟩
theorem scale_loop {d : Nat} {s : Store} {sc : Val} {z : Str} {ks : List Str} {ps : List Val} {y : Option Val} {D : En} (hs : Scale sc) (hP : PartsL 10 ks ps) (hk : ks.length < 10) {q : Nat} {s0 : Store} (hq : mutAt s q = some []) (pre0 : s0 <+: s) (h0 : s0.length ≤ q)
    (hD : ∀ s' y qs, s0 <+: s' → mutAt s' q = some (.str z :: qs) → PartsL 200 ks qs → D.nx (scF (.tup (.str z :: ps)) sc q y) s') :
    wo (forTurns (Tg.nm 3).give (EV.exs (clN (d + 2)) l__law_scaled_saying_0) (.tup (.str z :: ps)) (.str z :: ps).length 0 (scF (.tup (.str z :: ps)) sc q y) s) D := by
  refine for_tup (fun i ρ s' => s0 <+: s' ∧ ∃ acc y, ρ = scF (.tup (.str z :: ps)) sc q y ∧ mutAt s' q = some acc ∧ acc.length = i ∧ Gath z ks acc) ⟨pre0, [], y, rfl, hq, rfl, fun j u h => by cases h⟩ ?_ ?_
  · rintro i v _ s1 hv ⟨pre, acc, y, rfl, hacc, hal, hG⟩
    refine ⟨_, give_nm, ?_⟩
    have hil := (List.getElem?_eq_some_iff.mp hv).1
    have hil : i < ps.length + 1 := hil
    rw [hP.len] at hil
    show wo (EV.exs (clN (d + 2)) l__law_scaled_saying_0 (scF (.tup (.str z :: ps)) sc q (some v)) s1) _
    cases i with
    | zero =>
      have ev : v = .str z := by simpa using hv.symm
      subst ev
      unfold l__law_scaled_saying_0
      have e1 : bltV (.isi .int) [.str z] s1 = some (.bl false, s1) := rfl
      have e2 : bltV (.isi .str) [.str z] s1 = some (.bl true, s1) := rfl
      simp only [w_varM, w_con, w_bin, w_neg, w_not, w_and, w_or, w_cmp, w_chain, w_ife, w_call, w_callp, w_star, w_blt, w_mth, w_idx, w_slc, w_lst, w_tup, w_tab, w_tin, w_dnew, w_rev, w_lc, w_lsc, w_dc, w_disp, w_get, w_fld, w_mk, w_meth, w_prop, w_nil, w_cons, w_onone, w_osome, w_tnone, w_tsome, w_tnot, w_tand, w_tor, w_tval, w_iex, w_irng1, w_irng2, w_irng3, w_izip, w_run, w_snil, w_scons, w_set, w_unp, w_seti, w_setf, w_exp, w_ret, w_retn, w_pass, w_ifs, w_loop, w_rais, w_try, wr_ok, wr_some, wr_none, wr_stuck, wr_bind, wr_quiet, wr_lift_ite, wr_ite, wo_ite, wo_next, wo_ret, wo_brk, wo_cnt, o_add, o_sub, o_mul, o_fdiv, o_mod, o_pow, o_neg, o_lt, o_le, o_gt, o_ge, o_eq, o_ne, o_eqs, o_nes, o_isB, o_notB, o_tbl, o_int, o_lst, decide_eq_true_eq, Bool.not_eq_true', decide_eq_false_iff_not, beq_iff_eq, List.map_cons, List.map_nil, List.length_cons, List.length_nil, List.replicate_succ, List.replicate_zero, List.cons_append, List.nil_append, List.getElem?_cons_zero, List.getElem?_cons_succ, List.set_cons_zero, List.set_cons_succ, Nat.reduceSub, Nat.reduceAdd, Nat.zero_add, Option.map_some, Option.map_none, c_na10, o_rng1, len_rng, len_lst, len_tup, Int.toNat_natCast, Int.reduceToNat, Int.reduceLE, Int.reduceLT, Nat.reducePow, Nat.reduceLT, and_self, if_true, if_false, ite_true, ite_false, true_and, and_true, reduceIte, e1, e2, Bool.false_eq_true, o_rapp hacc, o_app hacc, show acc.length < 16777216 by omega]
      refine ⟨pre_set pre h0, _, _, rfl, mut_set hacc, by rw [List.length_append, hal]; rfl, hG.snoc (fun _ => rfl) fun i k h => by omega⟩
    | succ i =>
      have hv : ps[i]? = some v := hv
      have hik : i < ks.length := by omega
      have hkk : ks[i]? = some ks[i] := List.getElem?_eq_getElem hik
      refine scale_turn hs hacc (by omega) (hP.at_ i v _ hv hkk) ?_
      intro u s' hu p'
      refine ⟨pre_set (pre.trans p') h0, _, _, rfl, mut_set (mut_pre p' hacc), by rw [List.length_append, hal]; rfl, hG.snoc (fun h => by omega) fun j k h1 h2 => ?_⟩
      have ej : j = i := by omega
      subst ej
      rw [hkk] at h2
      cases h2
      exact hu
  · rintro _ s1 ⟨pre, acc, y, rfl, hacc, hal, hG⟩
    have hal : acc.length = ps.length + 1 := hal
    obtain ⟨qs, rfl, hQ⟩ := hG.end_ (by rw [hal, hP.len])
    exact hD s1 y qs pre hacc hQ
end EVL

/-! ## P25 -/
set_option maxRecDepth 10000
set_option maxHeartbeats 800000
namespace EVL
open PySem L2 EV
theorem idx0 {s : Store} {v : Val} {vs : List Val} : idxV s (.tup (v :: vs)) (.int 0) = some v := atI_nat (j := 0) rfl
theorem in_two {s : Store} {x a b : Str} : cmpV .inn (.str x) (.tup [.str a, .str b]) s = some ((a == x) || ((b == x) || false)) := rfl
theorem set4 {z : Str} {a b c e u : Val} {s : Store} {q : Nat} (h : mutAt s q = some [.str z, a, b, c, e]) : setiV (.ref q) (.int 4) u s = some (s.set q (.lst [.str z, a, b, c, u])) := seti_lst h (ixN_nat (n := 5) ⟨by decide, by decide⟩)
theorem low_high {B : Nat} {z : Str} {ks : List Str} {qs : List Val} (hz : z = "low" ∨ z = "high") (ht : tab_SHAPES.lookup z = some (.tup (ks.map .str))) (h : PartsL B ks qs) : ∃ x p q u, qs = [.str x, p, q, u] ∧ IsName x ∧ Endy B p ∧ Endy B q ∧ VTerm B u := by
  have e : ks = (["array", "end", "end", "value"] : List Str) := by
    rcases hz with rfl | rfl
    · exact ks_of ht tab_low
    · exact ks_of ht tab_high
  subst e
  cases h with
  | cons h1 t =>
    cases t with
    | cons h2 t =>
      cases t with
      | cons h3 t =>
        cases t with
        | cons h4 t =>
          cases t
          have aa : ∀ {v : Val}, Part B "array" v → ∃ x, v = Val.str x ∧ IsName x := fun {v} h => by
            rcases h with ⟨_, h⟩ | ⟨e, _⟩ | ⟨e, _⟩ | ⟨e, _⟩ | ⟨e, _⟩
            · exact h
            · exact absurd e (by decide +kernel)
            · exact absurd e (by decide +kernel)
            · exact absurd e (by decide +kernel)
            · exact absurd e (by decide +kernel)
          have ee : ∀ {v : Val}, Part B "end" v → Endy B v := fun {v} h => by
            rcases h with ⟨e, _⟩ | ⟨e, _⟩ | ⟨e, _⟩ | ⟨_, h⟩ | ⟨e, _⟩
            · exact absurd e (by decide +kernel)
            · exact absurd e (by decide +kernel)
            · exact absurd e (by decide +kernel)
            · exact h
            · exact absurd e (by decide +kernel)
          obtain ⟨x, rfl, hx⟩ := aa h1
          exact ⟨x, _, _, _, rfl, hx, ee h2, ee h3, part_value h4⟩
theorem scaled_ok {d : Nat} {s : Store} {sc v : Val} (hs : Scale sc) (h : Say 10 v) : wr (clN (d + 3) id__law_scaled_saying [v, sc] s) (fun u s' => Say 200 u ∧ s <+: s') noX := by
  show wr (runB (clN (d + 2)) 4 b__law_scaled_saying [v, sc] s) _ noX
  unfold b__law_scaled_saying
  have l3 : lineOk 3 = true := by decide
  rcases say_cases h with ⟨p, q, rfl, hp, hq⟩ | ⟨p, q, rfl, hp, hq⟩ | ⟨z, ks, ps, rfl, ht, hP, hk, n1, n2⟩
  · have i1 : ∀ s, idxV s (.tup [.str "place", p, q]) (.int 1) = some p := fun _ => rfl
    have i2 : ∀ s, idxV s (.tup [.str "place", p, q]) (.int 2) = some q := fun _ => rfl
    simp only [w_varM, w_con, w_bin, w_neg, w_not, w_and, w_or, w_cmp, w_chain, w_ife, w_call, w_callp, w_star, w_blt, w_mth, w_idx, w_slc, w_lst, w_tup, w_tab, w_tin, w_dnew, w_rev, w_lc, w_lsc, w_dc, w_disp, w_get, w_fld, w_mk, w_meth, w_prop, w_nil, w_cons, w_onone, w_osome, w_tnone, w_tsome, w_tnot, w_tand, w_tor, w_tval, w_iex, w_irng1, w_irng2, w_irng3, w_izip, w_run, w_snil, w_scons, w_set, w_unp, w_seti, w_setf, w_exp, w_ret, w_retn, w_pass, w_ifs, w_loop, w_rais, w_try, wr_ok, wr_some, wr_none, wr_stuck, wr_bind, wr_quiet, wr_lift_ite, wr_ite, wo_ite, wo_next, wo_ret, wo_brk, wo_cnt, o_add, o_sub, o_mul, o_fdiv, o_mod, o_pow, o_neg, o_lt, o_le, o_gt, o_ge, o_eq, o_ne, o_eqs, o_nes, o_isB, o_notB, o_tbl, o_int, o_lst, decide_eq_true_eq, Bool.not_eq_true', decide_eq_false_iff_not, beq_iff_eq, List.map_cons, List.map_nil, List.length_cons, List.length_nil, List.replicate_succ, List.replicate_zero, List.cons_append, List.nil_append, List.getElem?_cons_zero, List.getElem?_cons_succ, List.set_cons_zero, List.set_cons_succ, Nat.reduceSub, Nat.reduceAdd, Nat.zero_add, Option.map_some, Option.map_none, c_na10, o_rng1, len_rng, len_lst, len_tup, Int.toNat_natCast, Int.reduceToNat, Int.reduceLE, Int.reduceLT, Nat.reducePow, Nat.reduceLT, and_self, if_true, if_false, ite_true, ite_false, true_and, and_true, reduceIte, idx0, i1, kpp]
    refine wr_imp (scaled_plain (d := d + 1) hs (.inl rfl) hp) ?_
    rintro u s1 ⟨hu, pre1⟩
    simp only [w_varM, w_con, w_bin, w_neg, w_not, w_and, w_or, w_cmp, w_chain, w_ife, w_call, w_callp, w_star, w_blt, w_mth, w_idx, w_slc, w_lst, w_tup, w_tab, w_tin, w_dnew, w_rev, w_lc, w_lsc, w_dc, w_disp, w_get, w_fld, w_mk, w_meth, w_prop, w_nil, w_cons, w_onone, w_osome, w_tnone, w_tsome, w_tnot, w_tand, w_tor, w_tval, w_iex, w_irng1, w_irng2, w_irng3, w_izip, w_run, w_snil, w_scons, w_set, w_unp, w_seti, w_setf, w_exp, w_ret, w_retn, w_pass, w_ifs, w_loop, w_rais, w_try, wr_ok, wr_some, wr_none, wr_stuck, wr_bind, wr_quiet, wr_lift_ite, wr_ite, wo_ite, wo_next, wo_ret, wo_brk, wo_cnt, o_add, o_sub, o_mul, o_fdiv, o_mod, o_pow, o_neg, o_lt, o_le, o_gt, o_ge, o_eq, o_ne, o_eqs, o_nes, o_isB, o_notB, o_tbl, o_int, o_lst, decide_eq_true_eq, Bool.not_eq_true', decide_eq_false_iff_not, beq_iff_eq, List.map_cons, List.map_nil, List.length_cons, List.length_nil, List.replicate_succ, List.replicate_zero, List.cons_append, List.nil_append, List.getElem?_cons_zero, List.getElem?_cons_succ, List.set_cons_zero, List.set_cons_succ, Nat.reduceSub, Nat.reduceAdd, Nat.zero_add, Option.map_some, Option.map_none, c_na10, o_rng1, len_rng, len_lst, len_tup, Int.toNat_natCast, Int.reduceToNat, Int.reduceLE, Int.reduceLT, Nat.reducePow, Nat.reduceLT, and_self, if_true, if_false, ite_true, ite_false, true_and, and_true, reduceIte, i2]
    refine wr_imp (scaled_plain (d := d + 1) hs (.inl rfl) hq) ?_
    rintro w s2 ⟨hw, pre2⟩
    simp only [w_varM, w_con, w_bin, w_neg, w_not, w_and, w_or, w_cmp, w_chain, w_ife, w_call, w_callp, w_star, w_blt, w_mth, w_idx, w_slc, w_lst, w_tup, w_tab, w_tin, w_dnew, w_rev, w_lc, w_lsc, w_dc, w_disp, w_get, w_fld, w_mk, w_meth, w_prop, w_nil, w_cons, w_onone, w_osome, w_tnone, w_tsome, w_tnot, w_tand, w_tor, w_tval, w_iex, w_irng1, w_irng2, w_irng3, w_izip, w_run, w_snil, w_scons, w_set, w_unp, w_seti, w_setf, w_exp, w_ret, w_retn, w_pass, w_ifs, w_loop, w_rais, w_try, wr_ok, wr_some, wr_none, wr_stuck, wr_bind, wr_quiet, wr_lift_ite, wr_ite, wo_ite, wo_next, wo_ret, wo_brk, wo_cnt, o_add, o_sub, o_mul, o_fdiv, o_mod, o_pow, o_neg, o_lt, o_le, o_gt, o_ge, o_eq, o_ne, o_eqs, o_nes, o_isB, o_notB, o_tbl, o_int, o_lst, decide_eq_true_eq, Bool.not_eq_true', decide_eq_false_iff_not, beq_iff_eq, List.map_cons, List.map_nil, List.length_cons, List.length_nil, List.replicate_succ, List.replicate_zero, List.cons_append, List.nil_append, List.getElem?_cons_zero, List.getElem?_cons_succ, List.set_cons_zero, List.set_cons_succ, Nat.reduceSub, Nat.reduceAdd, Nat.zero_add, Option.map_some, Option.map_none, c_na10, o_rng1, len_rng, len_lst, len_tup, Int.toNat_natCast, Int.reduceToNat, Int.reduceLE, Int.reduceLT, Nat.reducePow, Nat.reduceLT, and_self, if_true, if_false, ite_true, ite_false, true_and, and_true, reduceIte, l3]
    exact ⟨say_place hu hw, pre1.trans pre2⟩
  · have i1 : ∀ s, idxV s (.tup [.str "value", p, q]) (.int 1) = some p := fun _ => rfl
    have i2 : ∀ s, idxV s (.tup [.str "value", p, q]) (.int 2) = some q := fun _ => rfl
    have kvp : (("value" : Str) == "place") = false := by decide +kernel
    have kvp' : (("value" : Str) = "place") = False := eq_false (by decide +kernel)
    simp only [w_varM, w_con, w_bin, w_neg, w_not, w_and, w_or, w_cmp, w_chain, w_ife, w_call, w_callp, w_star, w_blt, w_mth, w_idx, w_slc, w_lst, w_tup, w_tab, w_tin, w_dnew, w_rev, w_lc, w_lsc, w_dc, w_disp, w_get, w_fld, w_mk, w_meth, w_prop, w_nil, w_cons, w_onone, w_osome, w_tnone, w_tsome, w_tnot, w_tand, w_tor, w_tval, w_iex, w_irng1, w_irng2, w_irng3, w_izip, w_run, w_snil, w_scons, w_set, w_unp, w_seti, w_setf, w_exp, w_ret, w_retn, w_pass, w_ifs, w_loop, w_rais, w_try, wr_ok, wr_some, wr_none, wr_stuck, wr_bind, wr_quiet, wr_lift_ite, wr_ite, wo_ite, wo_next, wo_ret, wo_brk, wo_cnt, o_add, o_sub, o_mul, o_fdiv, o_mod, o_pow, o_neg, o_lt, o_le, o_gt, o_ge, o_eq, o_ne, o_eqs, o_nes, o_isB, o_notB, o_tbl, o_int, o_lst, decide_eq_true_eq, Bool.not_eq_true', decide_eq_false_iff_not, beq_iff_eq, List.map_cons, List.map_nil, List.length_cons, List.length_nil, List.replicate_succ, List.replicate_zero, List.cons_append, List.nil_append, List.getElem?_cons_zero, List.getElem?_cons_succ, List.set_cons_zero, List.set_cons_succ, Nat.reduceSub, Nat.reduceAdd, Nat.zero_add, Option.map_some, Option.map_none, c_na10, o_rng1, len_rng, len_lst, len_tup, Int.toNat_natCast, Int.reduceToNat, Int.reduceLE, Int.reduceLT, Nat.reducePow, Nat.reduceLT, and_self, if_true, if_false, ite_true, ite_false, true_and, and_true, reduceIte, idx0, i1, kvp, kvp', kvv]
    refine wr_imp (scaled_v (d := d) hs (.inr rfl) hp) ?_
    rintro u s1 ⟨hu, pre1⟩
    simp only [w_varM, w_con, w_bin, w_neg, w_not, w_and, w_or, w_cmp, w_chain, w_ife, w_call, w_callp, w_star, w_blt, w_mth, w_idx, w_slc, w_lst, w_tup, w_tab, w_tin, w_dnew, w_rev, w_lc, w_lsc, w_dc, w_disp, w_get, w_fld, w_mk, w_meth, w_prop, w_nil, w_cons, w_onone, w_osome, w_tnone, w_tsome, w_tnot, w_tand, w_tor, w_tval, w_iex, w_irng1, w_irng2, w_irng3, w_izip, w_run, w_snil, w_scons, w_set, w_unp, w_seti, w_setf, w_exp, w_ret, w_retn, w_pass, w_ifs, w_loop, w_rais, w_try, wr_ok, wr_some, wr_none, wr_stuck, wr_bind, wr_quiet, wr_lift_ite, wr_ite, wo_ite, wo_next, wo_ret, wo_brk, wo_cnt, o_add, o_sub, o_mul, o_fdiv, o_mod, o_pow, o_neg, o_lt, o_le, o_gt, o_ge, o_eq, o_ne, o_eqs, o_nes, o_isB, o_notB, o_tbl, o_int, o_lst, decide_eq_true_eq, Bool.not_eq_true', decide_eq_false_iff_not, beq_iff_eq, List.map_cons, List.map_nil, List.length_cons, List.length_nil, List.replicate_succ, List.replicate_zero, List.cons_append, List.nil_append, List.getElem?_cons_zero, List.getElem?_cons_succ, List.set_cons_zero, List.set_cons_succ, Nat.reduceSub, Nat.reduceAdd, Nat.zero_add, Option.map_some, Option.map_none, c_na10, o_rng1, len_rng, len_lst, len_tup, Int.toNat_natCast, Int.reduceToNat, Int.reduceLE, Int.reduceLT, Nat.reducePow, Nat.reduceLT, and_self, if_true, if_false, ite_true, ite_false, true_and, and_true, reduceIte, i2]
    refine wr_imp (scaled_v (d := d) hs (.inr rfl) hq) ?_
    rintro w s2 ⟨hw, pre2⟩
    simp only [w_varM, w_con, w_bin, w_neg, w_not, w_and, w_or, w_cmp, w_chain, w_ife, w_call, w_callp, w_star, w_blt, w_mth, w_idx, w_slc, w_lst, w_tup, w_tab, w_tin, w_dnew, w_rev, w_lc, w_lsc, w_dc, w_disp, w_get, w_fld, w_mk, w_meth, w_prop, w_nil, w_cons, w_onone, w_osome, w_tnone, w_tsome, w_tnot, w_tand, w_tor, w_tval, w_iex, w_irng1, w_irng2, w_irng3, w_izip, w_run, w_snil, w_scons, w_set, w_unp, w_seti, w_setf, w_exp, w_ret, w_retn, w_pass, w_ifs, w_loop, w_rais, w_try, wr_ok, wr_some, wr_none, wr_stuck, wr_bind, wr_quiet, wr_lift_ite, wr_ite, wo_ite, wo_next, wo_ret, wo_brk, wo_cnt, o_add, o_sub, o_mul, o_fdiv, o_mod, o_pow, o_neg, o_lt, o_le, o_gt, o_ge, o_eq, o_ne, o_eqs, o_nes, o_isB, o_notB, o_tbl, o_int, o_lst, decide_eq_true_eq, Bool.not_eq_true', decide_eq_false_iff_not, beq_iff_eq, List.map_cons, List.map_nil, List.length_cons, List.length_nil, List.replicate_succ, List.replicate_zero, List.cons_append, List.nil_append, List.getElem?_cons_zero, List.getElem?_cons_succ, List.set_cons_zero, List.set_cons_succ, Nat.reduceSub, Nat.reduceAdd, Nat.zero_add, Option.map_some, Option.map_none, c_na10, o_rng1, len_rng, len_lst, len_tup, Int.toNat_natCast, Int.reduceToNat, Int.reduceLE, Int.reduceLT, Nat.reducePow, Nat.reduceLT, and_self, if_true, if_false, ite_true, ite_false, true_and, and_true, reduceIte, l3]
    exact ⟨say_value hu hw, pre1.trans pre2⟩
  · have l0 : lineOk 0 = true := by decide
    have l2 : lineOk 2 = true := by decide
    rw [w_run]
    refine w_cut (fun ρ s' => s = s' ∧ ρ = [some (.tup (.str z :: ps)), some sc, none, none]) ?_ ?_
    · simp only [w_varM, w_con, w_bin, w_neg, w_not, w_and, w_or, w_cmp, w_chain, w_ife, w_call, w_callp, w_star, w_blt, w_mth, w_idx, w_slc, w_lst, w_tup, w_tab, w_tin, w_dnew, w_rev, w_lc, w_lsc, w_dc, w_disp, w_get, w_fld, w_mk, w_meth, w_prop, w_nil, w_cons, w_onone, w_osome, w_tnone, w_tsome, w_tnot, w_tand, w_tor, w_tval, w_iex, w_irng1, w_irng2, w_irng3, w_izip, w_run, w_snil, w_scons, w_set, w_unp, w_seti, w_setf, w_exp, w_ret, w_retn, w_pass, w_ifs, w_loop, w_rais, w_try, wr_ok, wr_some, wr_none, wr_stuck, wr_bind, wr_quiet, wr_lift_ite, wr_ite, wo_ite, wo_next, wo_ret, wo_brk, wo_cnt, o_add, o_sub, o_mul, o_fdiv, o_mod, o_pow, o_neg, o_lt, o_le, o_gt, o_ge, o_eq, o_ne, o_eqs, o_nes, o_isB, o_notB, o_tbl, o_int, o_lst, decide_eq_true_eq, Bool.not_eq_true', decide_eq_false_iff_not, beq_iff_eq, List.map_cons, List.map_nil, List.length_cons, List.length_nil, List.replicate_succ, List.replicate_zero, List.cons_append, List.nil_append, List.getElem?_cons_zero, List.getElem?_cons_succ, List.set_cons_zero, List.set_cons_succ, Nat.reduceSub, Nat.reduceAdd, Nat.zero_add, Option.map_some, Option.map_none, c_na10, o_rng1, len_rng, len_lst, len_tup, Int.toNat_natCast, Int.reduceToNat, Int.reduceLE, Int.reduceLT, Nat.reducePow, Nat.reduceLT, and_self, if_true, if_false, ite_true, ite_false, true_and, and_true, reduceIte, idx0, n1]
    rintro _ _ ⟨rfl, rfl⟩
    refine w_cut (fun ρ s' => s = s' ∧ ρ = [some (.tup (.str z :: ps)), some sc, none, none]) ?_ ?_
    · simp only [w_varM, w_con, w_bin, w_neg, w_not, w_and, w_or, w_cmp, w_chain, w_ife, w_call, w_callp, w_star, w_blt, w_mth, w_idx, w_slc, w_lst, w_tup, w_tab, w_tin, w_dnew, w_rev, w_lc, w_lsc, w_dc, w_disp, w_get, w_fld, w_mk, w_meth, w_prop, w_nil, w_cons, w_onone, w_osome, w_tnone, w_tsome, w_tnot, w_tand, w_tor, w_tval, w_iex, w_irng1, w_irng2, w_irng3, w_izip, w_run, w_snil, w_scons, w_set, w_unp, w_seti, w_setf, w_exp, w_ret, w_retn, w_pass, w_ifs, w_loop, w_rais, w_try, wr_ok, wr_some, wr_none, wr_stuck, wr_bind, wr_quiet, wr_lift_ite, wr_ite, wo_ite, wo_next, wo_ret, wo_brk, wo_cnt, o_add, o_sub, o_mul, o_fdiv, o_mod, o_pow, o_neg, o_lt, o_le, o_gt, o_ge, o_eq, o_ne, o_eqs, o_nes, o_isB, o_notB, o_tbl, o_int, o_lst, decide_eq_true_eq, Bool.not_eq_true', decide_eq_false_iff_not, beq_iff_eq, List.map_cons, List.map_nil, List.length_cons, List.length_nil, List.replicate_succ, List.replicate_zero, List.cons_append, List.nil_append, List.getElem?_cons_zero, List.getElem?_cons_succ, List.set_cons_zero, List.set_cons_succ, Nat.reduceSub, Nat.reduceAdd, Nat.zero_add, Option.map_some, Option.map_none, c_na10, o_rng1, len_rng, len_lst, len_tup, Int.toNat_natCast, Int.reduceToNat, Int.reduceLE, Int.reduceLT, Nat.reducePow, Nat.reduceLT, and_self, if_true, if_false, ite_true, ite_false, true_and, and_true, reduceIte, idx0, n2]
    rintro _ _ ⟨rfl, rfl⟩
    refine w_cut (fun ρ s' => s' = s ++ [.lst []] ∧ ρ = scF (.tup (.str z :: ps)) sc s.length none) ?_ ?_
    · simp only [w_varM, w_con, w_bin, w_neg, w_not, w_and, w_or, w_cmp, w_chain, w_ife, w_call, w_callp, w_star, w_blt, w_mth, w_idx, w_slc, w_lst, w_tup, w_tab, w_tin, w_dnew, w_rev, w_lc, w_lsc, w_dc, w_disp, w_get, w_fld, w_mk, w_meth, w_prop, w_nil, w_cons, w_onone, w_osome, w_tnone, w_tsome, w_tnot, w_tand, w_tor, w_tval, w_iex, w_irng1, w_irng2, w_irng3, w_izip, w_run, w_snil, w_scons, w_set, w_unp, w_seti, w_setf, w_exp, w_ret, w_retn, w_pass, w_ifs, w_loop, w_rais, w_try, wr_ok, wr_some, wr_none, wr_stuck, wr_bind, wr_quiet, wr_lift_ite, wr_ite, wo_ite, wo_next, wo_ret, wo_brk, wo_cnt, o_add, o_sub, o_mul, o_fdiv, o_mod, o_pow, o_neg, o_lt, o_le, o_gt, o_ge, o_eq, o_ne, o_eqs, o_nes, o_isB, o_notB, o_tbl, o_int, o_lst, decide_eq_true_eq, Bool.not_eq_true', decide_eq_false_iff_not, beq_iff_eq, List.map_cons, List.map_nil, List.length_cons, List.length_nil, List.replicate_succ, List.replicate_zero, List.cons_append, List.nil_append, List.getElem?_cons_zero, List.getElem?_cons_succ, List.set_cons_zero, List.set_cons_succ, Nat.reduceSub, Nat.reduceAdd, Nat.zero_add, Option.map_some, Option.map_none, c_na10, o_rng1, len_rng, len_lst, len_tup, Int.toNat_natCast, Int.reduceToNat, Int.reduceLE, Int.reduceLT, Nat.reducePow, Nat.reduceLT, and_self, if_true, if_false, ite_true, ite_false, true_and, and_true, reduceIte, l0]
    rintro _ _ ⟨rfl, rfl⟩
    refine w_cut (fun ρ s' => s <+: s' ∧ ∃ y qs, ρ = scF (.tup (.str z :: ps)) sc s.length y ∧ mutAt s' s.length = some (.str z :: qs) ∧ PartsL 200 ks qs) ?_ ?_
    · rw [w_loop, w_iex, w_var (v := .tup (.str z :: ps)) rfl, wr_ok, show wkOf (s ++ [Ob.lst []]) (.tup (.str z :: ps)) = some (.tup (.str z :: ps)) from rfl, wr_ok]
      refine scale_loop hs hP hk mut_new (pre_app pre_rfl _) (Nat.le_refl _) ?_
      intro s' y qs pre hm hQ
      exact ⟨pre, y, qs, rfl, hm, hQ⟩
    rintro _ s1 ⟨pre1, y, qs, rfl, hm, hQ⟩
    refine w_cut (fun ρ s' => s <+: s' ∧ ∃ y qs, ρ = scF (.tup (.str z :: ps)) sc s.length y ∧ mutAt s' s.length = some (.str z :: qs) ∧ PartsL 200 ks qs) ?_ ?_
    · simp only [w_varM, w_con, w_bin, w_neg, w_not, w_and, w_or, w_cmp, w_chain, w_ife, w_call, w_callp, w_star, w_blt, w_mth, w_idx, w_slc, w_lst, w_tup, w_tab, w_tin, w_dnew, w_rev, w_lc, w_lsc, w_dc, w_disp, w_get, w_fld, w_mk, w_meth, w_prop, w_nil, w_cons, w_onone, w_osome, w_tnone, w_tsome, w_tnot, w_tand, w_tor, w_tval, w_iex, w_irng1, w_irng2, w_irng3, w_izip, w_run, w_snil, w_scons, w_set, w_unp, w_seti, w_setf, w_exp, w_ret, w_retn, w_pass, w_ifs, w_loop, w_rais, w_try, wr_ok, wr_some, wr_none, wr_stuck, wr_bind, wr_quiet, wr_lift_ite, wr_ite, wo_ite, wo_next, wo_ret, wo_brk, wo_cnt, o_add, o_sub, o_mul, o_fdiv, o_mod, o_pow, o_neg, o_lt, o_le, o_gt, o_ge, o_eq, o_ne, o_eqs, o_nes, o_isB, o_notB, o_tbl, o_int, o_lst, decide_eq_true_eq, Bool.not_eq_true', decide_eq_false_iff_not, beq_iff_eq, List.map_cons, List.map_nil, List.length_cons, List.length_nil, List.replicate_succ, List.replicate_zero, List.cons_append, List.nil_append, List.getElem?_cons_zero, List.getElem?_cons_succ, List.set_cons_zero, List.set_cons_succ, Nat.reduceSub, Nat.reduceAdd, Nat.zero_add, Option.map_some, Option.map_none, c_na10, o_rng1, len_rng, len_lst, len_tup, Int.toNat_natCast, Int.reduceToNat, Int.reduceLE, Int.reduceLT, Nat.reducePow, Nat.reduceLT, and_self, if_true, if_false, ite_true, ite_false, true_and, and_true, reduceIte, idx0, l2, in_two, Bool.or_false, Bool.or_eq_true]
      by_cases hz : "low" = z ∨ "high" = z
      · rw [if_pos hz]
        have hz' : z = "low" ∨ z = "high" := hz.imp Eq.symm Eq.symm
        obtain ⟨x, p, q, u, rfl, hx, he, hf, hu⟩ := low_high hz' ht hP
        obtain ⟨x', p', q', u', rfl, hx', he', hf', hu'⟩ := low_high hz' ht hQ
        have i4 : ∀ s, idxV s (.tup [.str z, .str x, p, q, u]) (.int 4) = some u := fun _ => rfl
        simp only [w_varM, w_con, w_bin, w_neg, w_not, w_and, w_or, w_cmp, w_chain, w_ife, w_call, w_callp, w_star, w_blt, w_mth, w_idx, w_slc, w_lst, w_tup, w_tab, w_tin, w_dnew, w_rev, w_lc, w_lsc, w_dc, w_disp, w_get, w_fld, w_mk, w_meth, w_prop, w_nil, w_cons, w_onone, w_osome, w_tnone, w_tsome, w_tnot, w_tand, w_tor, w_tval, w_iex, w_irng1, w_irng2, w_irng3, w_izip, w_run, w_snil, w_scons, w_set, w_unp, w_seti, w_setf, w_exp, w_ret, w_retn, w_pass, w_ifs, w_loop, w_rais, w_try, wr_ok, wr_some, wr_none, wr_stuck, wr_bind, wr_quiet, wr_lift_ite, wr_ite, wo_ite, wo_next, wo_ret, wo_brk, wo_cnt, o_add, o_sub, o_mul, o_fdiv, o_mod, o_pow, o_neg, o_lt, o_le, o_gt, o_ge, o_eq, o_ne, o_eqs, o_nes, o_isB, o_notB, o_tbl, o_int, o_lst, decide_eq_true_eq, Bool.not_eq_true', decide_eq_false_iff_not, beq_iff_eq, List.map_cons, List.map_nil, List.length_cons, List.length_nil, List.replicate_succ, List.replicate_zero, List.cons_append, List.nil_append, List.getElem?_cons_zero, List.getElem?_cons_succ, List.set_cons_zero, List.set_cons_succ, Nat.reduceSub, Nat.reduceAdd, Nat.zero_add, Option.map_some, Option.map_none, c_na10, o_rng1, len_rng, len_lst, len_tup, Int.toNat_natCast, Int.reduceToNat, Int.reduceLE, Int.reduceLT, Nat.reducePow, Nat.reduceLT, and_self, if_true, if_false, ite_true, ite_false, true_and, and_true, reduceIte, i4]
        refine wr_imp (scaled_v (d := d) hs (.inr rfl) hu) ?_
        rintro w s2 ⟨hw, pre2⟩
        rw [set4 (mut_pre pre2 hm), wo_next]
        have e : ks = (["array", "end", "end", "value"] : List Str) := by
          rcases hz' with rfl | rfl
          · exact ks_of ht tab_low
          · exact ks_of ht tab_high
        subst e
        exact ⟨pre_set (pre1.trans pre2) (Nat.le_refl _), _, _, rfl, mut_set (mut_pre pre2 hm), .cons (pa hx') (.cons (pe he') (.cons (pe hf') (.cons (pv hw) .nil)))⟩
      · rw [if_neg hz]
        exact ⟨pre1, _, _, rfl, hm, hQ⟩
    clear hm hQ qs pre1 y
    rintro _ s2 ⟨pre2, y, qs, rfl, hm, hQ⟩
    simp only [w_varM, w_con, w_bin, w_neg, w_not, w_and, w_or, w_cmp, w_chain, w_ife, w_call, w_callp, w_star, w_blt, w_mth, w_idx, w_slc, w_lst, w_tup, w_tab, w_tin, w_dnew, w_rev, w_lc, w_lsc, w_dc, w_disp, w_get, w_fld, w_mk, w_meth, w_prop, w_nil, w_cons, w_onone, w_osome, w_tnone, w_tsome, w_tnot, w_tand, w_tor, w_tval, w_iex, w_irng1, w_irng2, w_irng3, w_izip, w_run, w_snil, w_scons, w_set, w_unp, w_seti, w_setf, w_exp, w_ret, w_retn, w_pass, w_ifs, w_loop, w_rais, w_try, wr_ok, wr_some, wr_none, wr_stuck, wr_bind, wr_quiet, wr_lift_ite, wr_ite, wo_ite, wo_next, wo_ret, wo_brk, wo_cnt, o_add, o_sub, o_mul, o_fdiv, o_mod, o_pow, o_neg, o_lt, o_le, o_gt, o_ge, o_eq, o_ne, o_eqs, o_nes, o_isB, o_notB, o_tbl, o_int, o_lst, decide_eq_true_eq, Bool.not_eq_true', decide_eq_false_iff_not, beq_iff_eq, List.map_cons, List.map_nil, List.length_cons, List.length_nil, List.replicate_succ, List.replicate_zero, List.cons_append, List.nil_append, List.getElem?_cons_zero, List.getElem?_cons_succ, List.set_cons_zero, List.set_cons_succ, Nat.reduceSub, Nat.reduceAdd, Nat.zero_add, Option.map_some, Option.map_none, c_na10, o_rng1, len_rng, len_lst, len_tup, Int.toNat_natCast, Int.reduceToNat, Int.reduceLE, Int.reduceLT, Nat.reducePow, Nat.reduceLT, and_self, if_true, if_false, ite_true, ite_false, true_and, and_true, reduceIte, o_tuple (mut_lst hm)]
    exact ⟨sayL ht hk hQ, pre2⟩
theorem cut_last (x : Val) (ps : List Val) : EV.cut (x :: ps) none (some (-1)) = (x :: ps).dropLast := by
  unfold EV.cut
  have e : HT.sIx (x :: ps).length (x :: ps).length (some (-1)) = ps.length := by
    show (if (-1 : Int) < 0 then ((-1 : Int) + ((ps.length + 1 : Nat) : Int)).toNat else min (-1 : Int).toNat (ps.length + 1)) = _
    rw [if_pos (by decide)]
    omega
  rw [e, HT.sIx_none, List.drop_zero, Nat.sub_zero, List.dropLast_eq_take]
  rfl
end EVL

/-! ## P26 -/
set_option maxRecDepth 10000
set_option maxHeartbeats 800000
namespace EVL
open PySem L2 EV
theorem o_ix {m : Nat} {vs : List Val} {s : Store} (h : mutAt s m = some vs) (i : Int) : idxV s (.ref m) (.int i) = atI vs i := o_idx (mut_lst h)
theorem isi_lst {s : Store} {n : Nat} {vs : List Val} (h : mutAt s n = some vs) : isiV .bool s (.ref n) = some false ∧ isiV .int s (.ref n) = some false ∧ isiV .str s (.ref n) = some false ∧ isiV .dict s (.ref n) = some false ∧ isiV .list s (.ref n) = some true ∧ isiV .tuple s (.ref n) = some false := by
  have e : tyOf s (.ref n) = some .list := by
    show (match s[n]? with
      | some (.lst _) => some Ty.list
      | some (.dct _) => some .dict
      | _ => none) = _
    rw [mut_at h]
  have k : ∀ T, isiV T s (.ref n) = (tyOf s (.ref n)).map fun t => decide (t = T) || (decide (t = .bool) && decide (T = .int)) := fun T => rfl
  rw [k, k, k, k, k, k, e]
  exact ⟨rfl, rfl, rfl, rfl, rfl, rfl⟩
theorem same_lst {d n a b : Nat} {s : Store} {vs ws : List Val} (ha : mutAt s a = some vs) (hb : mutAt s b = some ws) (hl : vs.length = n) (hm : ws.length = n) (hn : n < 1000)
    (hi : ∀ (i : Nat) (v w : Val) (s' : Store), vs[i]? = some v → ws[i]? = some w → s <+: s' → wr (clN (d + 1) id__law_same [v, w] s') (Tru s') noX) :
    wr (clN (d + 2) id__law_same [.ref a, .ref b] s) (Tru s) noX := by
  show wr (runB (clN (d + 1)) 4 b__law_same [.ref a, .ref b] s) _ noX
  unfold b__law_same
  obtain ⟨a1, a2, a3, a4, a5, a6⟩ := isi_lst ha
  obtain ⟨b1, b2, b3, b4, b5, b6⟩ := isi_lst hb
  have e0 : ∀ n, cmpV .isN (.ref n) .non s = some false := fun _ => rfl
  have e7 : cmpV .ne (.bl false) (.bl false) s = some false := rfl
  have e8 : cmpV .ne (.bl true) (.bl true) s = some false := rfl
  have ea : rngOk (n : Int) = true := rng_ok ⟨by omega, by omega⟩
  have la := mut_len ha
  have lb := mut_len hb
  rw [hl] at la
  rw [hm] at lb
  simp only [w_varM, w_con, w_bin, w_neg, w_not, w_and, w_or, w_cmp, w_chain, w_ife, w_call, w_callp, w_star, w_blt, w_mth, w_idx, w_slc, w_lst, w_tup, w_tab, w_tin, w_dnew, w_rev, w_lc, w_lsc, w_dc, w_disp, w_get, w_fld, w_mk, w_meth, w_prop, w_nil, w_cons, w_onone, w_osome, w_tnone, w_tsome, w_tnot, w_tand, w_tor, w_tval, w_iex, w_irng1, w_irng2, w_irng3, w_izip, w_run, w_snil, w_scons, w_set, w_unp, w_seti, w_setf, w_exp, w_ret, w_retn, w_pass, w_ifs, w_loop, w_rais, w_try, wr_ok, wr_some, wr_none, wr_stuck, wr_bind, wr_quiet, wr_lift_ite, wr_ite, wo_ite, wo_next, wo_ret, wo_brk, wo_cnt, o_add, o_sub, o_mul, o_fdiv, o_mod, o_pow, o_neg, o_lt, o_le, o_gt, o_ge, o_eq, o_ne, o_eqs, o_nes, o_isB, o_notB, o_tbl, o_int, o_lst, decide_eq_true_eq, Bool.not_eq_true', decide_eq_false_iff_not, beq_iff_eq, List.map_cons, List.map_nil, List.length_cons, List.length_nil, List.replicate_succ, List.replicate_zero, List.cons_append, List.nil_append, List.getElem?_cons_zero, List.getElem?_cons_succ, List.set_cons_zero, List.set_cons_succ, Nat.reduceSub, Nat.reduceAdd, Nat.zero_add, Option.map_some, Option.map_none, c_na10, o_rng1, len_rng, len_lst, len_tup, Int.toNat_natCast, Int.reduceToNat, Int.reduceLE, Int.reduceLT, Nat.reducePow, Nat.reduceLT, and_self, if_true, if_false, ite_true, ite_false, true_and, and_true, reduceIte, e0, o_isi a1, o_isi a2, o_isi a3, o_isi a4, o_isi a5, o_isi a6, o_isi b1, o_isi b2, o_isi b3, o_isi b4, o_isi b5, o_isi b6, e7, e8, la, lb, ea, Bool.false_eq_true, beq_self_eq_true, Bool.not_true]
  refine lc_of (n := n) rfl (fun i s' acc => acc = (List.replicate i true).map .bl ∧ s <+: s' ∧ mutAt s' s.length = some acc) ?_ ?_ n 0 _ [] (Nat.zero_add _) ⟨rfl, pre_app pre_rfl _, mut_new⟩
  · rintro i s' _ hi2 ⟨rfl, pre, hmm⟩
    have hv : vs[i]? = some (vs[i]'(by omega)) := List.getElem?_eq_getElem _
    have hw : ws[i]? = some (ws[i]'(by omega)) := List.getElem?_eq_getElem _
    refine ⟨.int (0 + (i : Int)), _, rfl, give_nm, ?_⟩
    have ez : (0 : Int) + (i : Int) = i := by omega
    unfold x__law_same_1
    have c1 : atI vs (i : Int) = some _ := atI_nat hv
    have c2 : atI ws (i : Int) = some _ := atI_nat hw
    simp only [w_varM, w_con, w_bin, w_neg, w_not, w_and, w_or, w_cmp, w_chain, w_ife, w_call, w_callp, w_star, w_blt, w_mth, w_idx, w_slc, w_lst, w_tup, w_tab, w_tin, w_dnew, w_rev, w_lc, w_lsc, w_dc, w_disp, w_get, w_fld, w_mk, w_meth, w_prop, w_nil, w_cons, w_onone, w_osome, w_tnone, w_tsome, w_tnot, w_tand, w_tor, w_tval, w_iex, w_irng1, w_irng2, w_irng3, w_izip, w_run, w_snil, w_scons, w_set, w_unp, w_seti, w_setf, w_exp, w_ret, w_retn, w_pass, w_ifs, w_loop, w_rais, w_try, wr_ok, wr_some, wr_none, wr_stuck, wr_bind, wr_quiet, wr_lift_ite, wr_ite, wo_ite, wo_next, wo_ret, wo_brk, wo_cnt, o_add, o_sub, o_mul, o_fdiv, o_mod, o_pow, o_neg, o_lt, o_le, o_gt, o_ge, o_eq, o_ne, o_eqs, o_nes, o_isB, o_notB, o_tbl, o_int, o_lst, decide_eq_true_eq, Bool.not_eq_true', decide_eq_false_iff_not, beq_iff_eq, List.map_cons, List.map_nil, List.length_cons, List.length_nil, List.replicate_succ, List.replicate_zero, List.cons_append, List.nil_append, List.getElem?_cons_zero, List.getElem?_cons_succ, List.set_cons_zero, List.set_cons_succ, Nat.reduceSub, Nat.reduceAdd, Nat.zero_add, Option.map_some, Option.map_none, c_na10, o_rng1, len_rng, len_lst, len_tup, Int.toNat_natCast, Int.reduceToNat, Int.reduceLE, Int.reduceLT, Nat.reducePow, Nat.reduceLT, and_self, if_true, if_false, ite_true, ite_false, true_and, and_true, reduceIte, wipeF, ez, o_ix (mut_pre pre ha), o_ix (mut_pre pre hb), c1, c2]
    refine wr_imp (hi i _ _ s' hv hw pre) ?_
    rintro _ s2 ⟨rfl, pre2⟩
    have hm2 := mut_pre pre2 hmm
    refine ⟨hm2, by rw [List.length_map, List.length_replicate]; omega, ?_, pre_set (pre.trans pre2) (Nat.le_refl _), mut_set hm2⟩
    rw [List.map_replicate]
    exact (List.replicate_succ' (n := i) (a := Val.bl true)).symm
  · rintro s' _ ⟨rfl, pre, hmm⟩
    refine ⟨rfl, ?_⟩
    rw [o_all (mut_lst hmm), wr_some, all_rep]
    exact ⟨rfl, pre⟩
theorem same_row {d a b : Nat} {s : Store} {row : List Val} (ha : mutAt s a = some row) (hb : mutAt s b = some row) (hl : row.length ≤ 100) (hp : ∀ u ∈ row, Pur 3 u) : wr (clN (d + 5) id__law_same [.ref a, .ref b] s) (Tru s) noX := by
  refine same_lst (d := d + 3) (n := row.length) ha hb rfl rfl (by omega) fun i v w s' h1 h2 pre => ?_
  rw [h1] at h2
  cases h2
  exact same_ok 3 d s' v (hp v (List.mem_of_getElem? h1))
end EVL

/-! ## P27 -/
set_option maxRecDepth 10000
set_option maxHeartbeats 800000
namespace EVL
open PySem L2 EV
/-! texts -/
theorem app_nil (x : Str) : x ++ ("" : Str) = x := by
  cases x with | mk c => show (⟨c ++ ("" : Str).cps⟩ : Str) = _; rw [show ("" : Str).cps = #[] by decide +kernel, Array.append_empty]
theorem nil_app (x : Str) : ("" : Str) ++ x = x := by
  cases x with | mk c => show (⟨("" : Str).cps ++ c⟩ : Str) = _; rw [show ("" : Str).cps = #[] by decide +kernel, Array.empty_append]
theorem app_assoc (x y z : Str) : (x ++ y) ++ z = x ++ (y ++ z) := by
  show (⟨(x.cps ++ y.cps) ++ z.cps⟩ : Str) = ⟨x.cps ++ (y.cps ++ z.cps)⟩
  rw [Array.append_assoc]
theorem len_app (x y : Str) : (x ++ y).length = x.length + y.length := by
  show (x.cps ++ y.cps).size = _
  rw [Array.size_append]
  rfl
/-- str(k) -/
def strI (k : Int) : Str := Str.ofString (toString k)
theorem int_len {k : Int} (h : Sm 200 k) : (strI k).length ≤ 100 := by
  have e : (strI k).length = (toString k).length := PyProof.Rows.ofString_len _
  rw [e]
  have q : ∀ n : Nat, n < 2 ^ 200 → n.repr.length ≤ 62 := fun n hn => (Nat.length_repr_le_iff (by decide)).mpr (by omega)
  cases k with
  | ofNat n =>
    have := q n h
    show n.repr.length ≤ 100
    omega
  | negSucc n =>
    have := q (n + 1) h
    show ("-" ++ (n + 1).repr).length ≤ 100
    rw [String.length_append]
    have : ("-" : String).length = 1 := by decide
    omega
theorem o_str {k : Int} {s : Store} (h : Sm 200 k) : bltV .str [.int k] s = some (.str (strI k), s) := if_pos (decide_eq_true h.log)
theorem o_strs {x : Str} {s : Store} : bltV .str [.str x] s = some (.str x, s) := rfl
def tailT (k : Int) : Str := if 0 < k then ("+" : Str) ++ strI k else if k < 0 then strI k else ""
def plainT (x : Str) (k : Int) : Str := if x = "" then strI k else x ++ tailT k
def sumT (x : Str) (k : Int) : Str := if x = "" ∨ k < 0 then x ++ strI k else if 0 < k then (x ++ ("+" : Str)) ++ strI k else x
theorem sumT_plain (x : Str) (k : Int) : sumT x k = plainT x k := by
  unfold sumT plainT tailT
  by_cases hx : x = ""
  · subst hx
    rw [if_pos (.inl rfl), if_pos rfl, nil_app]
  · rw [if_neg hx]
    by_cases h1 : k < 0
    · rw [if_pos (.inr h1), if_neg (by omega), if_pos h1]
    · rw [if_neg (by rintro (h | h); exact hx h; exact h1 h)]
      by_cases h2 : 0 < k
      · rw [if_pos h2, if_pos h2, app_assoc]
      · rw [if_neg h2, if_neg h2, if_neg h1, app_nil]
theorem sumT_cell {x : Str} (hx : x ≠ "") (k : Int) : sumT x k = x ++ tailT k := by
  rw [sumT_plain]
  unfold plainT
  rw [if_neg hx]
theorem plus_len : ("+" : Str).length = 1 := by decide +kernel
theorem emp_len : ("" : Str).length = 0 := by decide +kernel
theorem sp_len : (" " : Str).length = 1 := by decide +kernel
theorem lb_len : ("[" : Str).length = 1 := by decide +kernel
theorem rb_len : ("]" : Str).length = 1 := by decide +kernel
theorem dd_len : (".." : Str).length = 2 := by decide +kernel
theorem name_len {x : Str} (h : x = "" ∨ IsName x) : x.length ≤ 6 := by
  rcases h with rfl | h
  · rw [emp_len]; decide
  · exact h.hi
theorem tail_len {k : Int} (h : Sm 200 k) : (tailT k).length ≤ 101 := by
  have := int_len h
  unfold tailT
  split
  · rw [len_app, plus_len]; omega
  · split
    · omega
    · rw [emp_len]; omega
theorem plain_len {x : Str} {k : Int} (hx : x = "" ∨ IsName x) (h : Sm 200 k) : (plainT x k).length ≤ 110 := by
  have h1 := int_len h
  have h2 := tail_len h
  have h3 := name_len hx
  unfold plainT
  split
  · omega
  · rw [len_app]; omega
theorem ln {n : Nat} (h : n ≤ 100000) : lineOk n = true := decide_eq_true (by omega)
theorem b_add {x y : Str} {s : Store} (h : x.length + y.length ≤ 100000) : binV .add (.str x) (.str y) s = some (.str (x ++ y), s) := o_adds (ln h)
def cellT (a : Str) (x : Str) (j k : Int) : Str := (((a ++ ("[" : Str)) ++ plainT x j) ++ ("]" : Str)) ++ tailT k
def partT : Val → Str
  | .non => ".."
  | .str x => x
  | .int i => strI i
  | .tup [.str x, .int k] => plainT x k
  | .tup [.str a, .tup [.str x, .int j], .int k] => cellT a x j k
  | _ => ""
theorem str_eqb {a b : Str} {s : Store} : cmpV .eq (.str a) (.str b) s = some (a == b) := rfl
theorem tail_ok {d : Nat} {s : Store} {k : Int} (h : Sm 200 k) : wr (clN (d + 1) id__law_tail_text [.int k] s) (fun u s' => u = .str (tailT k) ∧ s = s') noX := by
  show wr (runB (clN d) 1 b__law_tail_text [.int k] s) _ noX
  unfold b__law_tail_text
  have hl := int_len h
  have e1 : binV .add (.str "+") (.str (strI k)) s = some (.str (("+" : Str) ++ strI k), s) := b_add (by rw [plus_len]; omega)
  have c1 : cmpV .gt (.int k) (.int 0) s = some (decide (0 < k)) := rfl
  have c2 : cmpV .lt (.int k) (.int 0) s = some (decide (k < 0)) := rfl
  unfold tailT
  by_cases h1 : 0 < k
  · simp only [w_varM, w_con, w_bin, w_neg, w_not, w_and, w_or, w_cmp, w_chain, w_ife, w_call, w_callp, w_star, w_blt, w_mth, w_idx, w_slc, w_lst, w_tup, w_tab, w_tin, w_dnew, w_rev, w_lc, w_lsc, w_dc, w_disp, w_get, w_fld, w_mk, w_meth, w_prop, w_nil, w_cons, w_onone, w_osome, w_tnone, w_tsome, w_tnot, w_tand, w_tor, w_tval, w_iex, w_irng1, w_irng2, w_irng3, w_izip, w_run, w_snil, w_scons, w_set, w_unp, w_seti, w_setf, w_exp, w_ret, w_retn, w_pass, w_ifs, w_loop, w_rais, w_try, wr_ok, wr_some, wr_none, wr_stuck, wr_bind, wr_quiet, wr_lift_ite, wr_ite, wo_ite, wo_next, wo_ret, wo_brk, wo_cnt, o_add, o_sub, o_mul, o_fdiv, o_mod, o_pow, o_neg, o_lt, o_le, o_gt, o_ge, o_eq, o_ne, o_eqs, o_nes, o_isB, o_notB, o_tbl, o_int, o_lst, decide_eq_true_eq, Bool.not_eq_true', decide_eq_false_iff_not, beq_iff_eq, List.map_cons, List.map_nil, List.length_cons, List.length_nil, List.replicate_succ, List.replicate_zero, List.cons_append, List.nil_append, List.getElem?_cons_zero, List.getElem?_cons_succ, List.set_cons_zero, List.set_cons_succ, Nat.reduceSub, Nat.reduceAdd, Nat.zero_add, Option.map_some, Option.map_none, c_na10, o_rng1, len_rng, len_lst, len_tup, Int.toNat_natCast, Int.reduceToNat, Int.reduceLE, Int.reduceLT, Nat.reducePow, Nat.reduceLT, and_self, if_true, if_false, ite_true, ite_false, true_and, and_true, reduceIte, c1, h1, o_str h, e1]
  · by_cases h2 : k < 0
    · simp only [w_varM, w_con, w_bin, w_neg, w_not, w_and, w_or, w_cmp, w_chain, w_ife, w_call, w_callp, w_star, w_blt, w_mth, w_idx, w_slc, w_lst, w_tup, w_tab, w_tin, w_dnew, w_rev, w_lc, w_lsc, w_dc, w_disp, w_get, w_fld, w_mk, w_meth, w_prop, w_nil, w_cons, w_onone, w_osome, w_tnone, w_tsome, w_tnot, w_tand, w_tor, w_tval, w_iex, w_irng1, w_irng2, w_irng3, w_izip, w_run, w_snil, w_scons, w_set, w_unp, w_seti, w_setf, w_exp, w_ret, w_retn, w_pass, w_ifs, w_loop, w_rais, w_try, wr_ok, wr_some, wr_none, wr_stuck, wr_bind, wr_quiet, wr_lift_ite, wr_ite, wo_ite, wo_next, wo_ret, wo_brk, wo_cnt, o_add, o_sub, o_mul, o_fdiv, o_mod, o_pow, o_neg, o_lt, o_le, o_gt, o_ge, o_eq, o_ne, o_eqs, o_nes, o_isB, o_notB, o_tbl, o_int, o_lst, decide_eq_true_eq, Bool.not_eq_true', decide_eq_false_iff_not, beq_iff_eq, List.map_cons, List.map_nil, List.length_cons, List.length_nil, List.replicate_succ, List.replicate_zero, List.cons_append, List.nil_append, List.getElem?_cons_zero, List.getElem?_cons_succ, List.set_cons_zero, List.set_cons_succ, Nat.reduceSub, Nat.reduceAdd, Nat.zero_add, Option.map_some, Option.map_none, c_na10, o_rng1, len_rng, len_lst, len_tup, Int.toNat_natCast, Int.reduceToNat, Int.reduceLE, Int.reduceLT, Nat.reducePow, Nat.reduceLT, and_self, if_true, if_false, ite_true, ite_false, true_and, and_true, reduceIte, c1, c2, h1, h2, o_str h]
    · simp only [w_varM, w_con, w_bin, w_neg, w_not, w_and, w_or, w_cmp, w_chain, w_ife, w_call, w_callp, w_star, w_blt, w_mth, w_idx, w_slc, w_lst, w_tup, w_tab, w_tin, w_dnew, w_rev, w_lc, w_lsc, w_dc, w_disp, w_get, w_fld, w_mk, w_meth, w_prop, w_nil, w_cons, w_onone, w_osome, w_tnone, w_tsome, w_tnot, w_tand, w_tor, w_tval, w_iex, w_irng1, w_irng2, w_irng3, w_izip, w_run, w_snil, w_scons, w_set, w_unp, w_seti, w_setf, w_exp, w_ret, w_retn, w_pass, w_ifs, w_loop, w_rais, w_try, wr_ok, wr_some, wr_none, wr_stuck, wr_bind, wr_quiet, wr_lift_ite, wr_ite, wo_ite, wo_next, wo_ret, wo_brk, wo_cnt, o_add, o_sub, o_mul, o_fdiv, o_mod, o_pow, o_neg, o_lt, o_le, o_gt, o_ge, o_eq, o_ne, o_eqs, o_nes, o_isB, o_notB, o_tbl, o_int, o_lst, decide_eq_true_eq, Bool.not_eq_true', decide_eq_false_iff_not, beq_iff_eq, List.map_cons, List.map_nil, List.length_cons, List.length_nil, List.replicate_succ, List.replicate_zero, List.cons_append, List.nil_append, List.getElem?_cons_zero, List.getElem?_cons_succ, List.set_cons_zero, List.set_cons_succ, Nat.reduceSub, Nat.reduceAdd, Nat.zero_add, Option.map_some, Option.map_none, c_na10, o_rng1, len_rng, len_lst, len_tup, Int.toNat_natCast, Int.reduceToNat, Int.reduceLE, Int.reduceLT, Nat.reducePow, Nat.reduceLT, and_self, if_true, if_false, ite_true, ite_false, true_and, and_true, reduceIte, c1, c2, h1, h2]
end EVL

/-! ## P28 -/
set_option maxRecDepth 10000
set_option maxHeartbeats 800000
namespace EVL
open PySem L2 EV
theorem term_plain {d : Nat} {s : Store} {x : Str} {k : Int} (hx : x = "" ∨ IsName x) (h : Sm 200 k) : wr (clN (d + 2) id__law_term_text [.tup [.str x, .int k]] s) (fun u s' => u = .str (plainT x k) ∧ s = s') noX := by
  show wr (runB (clN (d + 1)) 1 b__law_term_text [.tup [.str x, .int k]] s) _ noX
  unfold b__law_term_text
  have e2 : bltV .len [.tup [.str x, .int k]] s = some (.int 2, s) := rfl
  have e3 : cmpV .eq (.int 2) (.int 3) s = some false := rfl
  have i0 : idxV s (.tup [.str x, .int k]) (.int 0) = some (.str x) := rfl
  have i1 : idxV s (.tup [.str x, .int k]) (.int 1) = some (.int k) := rfl
  have hl := tail_len h
  have hn := name_len hx
  unfold plainT
  by_cases h0 : x = ""
  · subst h0
    simp only [w_varM, w_con, w_bin, w_neg, w_not, w_and, w_or, w_cmp, w_chain, w_ife, w_call, w_callp, w_star, w_blt, w_mth, w_idx, w_slc, w_lst, w_tup, w_tab, w_tin, w_dnew, w_rev, w_lc, w_lsc, w_dc, w_disp, w_get, w_fld, w_mk, w_meth, w_prop, w_nil, w_cons, w_onone, w_osome, w_tnone, w_tsome, w_tnot, w_tand, w_tor, w_tval, w_iex, w_irng1, w_irng2, w_irng3, w_izip, w_run, w_snil, w_scons, w_set, w_unp, w_seti, w_setf, w_exp, w_ret, w_retn, w_pass, w_ifs, w_loop, w_rais, w_try, wr_ok, wr_some, wr_none, wr_stuck, wr_bind, wr_quiet, wr_lift_ite, wr_ite, wo_ite, wo_next, wo_ret, wo_brk, wo_cnt, o_add, o_sub, o_mul, o_fdiv, o_mod, o_pow, o_neg, o_lt, o_le, o_gt, o_ge, o_eq, o_ne, o_eqs, o_nes, o_isB, o_notB, o_tbl, o_int, o_lst, decide_eq_true_eq, Bool.not_eq_true', decide_eq_false_iff_not, beq_iff_eq, List.map_cons, List.map_nil, List.length_cons, List.length_nil, List.replicate_succ, List.replicate_zero, List.cons_append, List.nil_append, List.getElem?_cons_zero, List.getElem?_cons_succ, List.set_cons_zero, List.set_cons_succ, Nat.reduceSub, Nat.reduceAdd, Nat.zero_add, Option.map_some, Option.map_none, c_na10, o_rng1, len_rng, len_lst, len_tup, Int.toNat_natCast, Int.reduceToNat, Int.reduceLE, Int.reduceLT, Nat.reducePow, Nat.reduceLT, and_self, if_true, if_false, ite_true, ite_false, true_and, and_true, reduceIte, e2, e3, i0, i1, o_str h, Bool.false_eq_true, beq_self_eq_true]
  · simp only [w_varM, w_con, w_bin, w_neg, w_not, w_and, w_or, w_cmp, w_chain, w_ife, w_call, w_callp, w_star, w_blt, w_mth, w_idx, w_slc, w_lst, w_tup, w_tab, w_tin, w_dnew, w_rev, w_lc, w_lsc, w_dc, w_disp, w_get, w_fld, w_mk, w_meth, w_prop, w_nil, w_cons, w_onone, w_osome, w_tnone, w_tsome, w_tnot, w_tand, w_tor, w_tval, w_iex, w_irng1, w_irng2, w_irng3, w_izip, w_run, w_snil, w_scons, w_set, w_unp, w_seti, w_setf, w_exp, w_ret, w_retn, w_pass, w_ifs, w_loop, w_rais, w_try, wr_ok, wr_some, wr_none, wr_stuck, wr_bind, wr_quiet, wr_lift_ite, wr_ite, wo_ite, wo_next, wo_ret, wo_brk, wo_cnt, o_add, o_sub, o_mul, o_fdiv, o_mod, o_pow, o_neg, o_lt, o_le, o_gt, o_ge, o_eq, o_ne, o_eqs, o_nes, o_isB, o_notB, o_tbl, o_int, o_lst, decide_eq_true_eq, Bool.not_eq_true', decide_eq_false_iff_not, beq_iff_eq, List.map_cons, List.map_nil, List.length_cons, List.length_nil, List.replicate_succ, List.replicate_zero, List.cons_append, List.nil_append, List.getElem?_cons_zero, List.getElem?_cons_succ, List.set_cons_zero, List.set_cons_succ, Nat.reduceSub, Nat.reduceAdd, Nat.zero_add, Option.map_some, Option.map_none, c_na10, o_rng1, len_rng, len_lst, len_tup, Int.toNat_natCast, Int.reduceToNat, Int.reduceLE, Int.reduceLT, Nat.reducePow, Nat.reduceLT, and_self, if_true, if_false, ite_true, ite_false, true_and, and_true, reduceIte, e2, e3, i0, i1, h0, Bool.false_eq_true]
    refine wr_imp (tail_ok (d := d) h) ?_
    rintro _ _ ⟨rfl, rfl⟩
    rw [b_add (by omega), wr_some]
    exact ⟨rfl, rfl⟩
theorem term_cell {d : Nat} {s : Store} {a x : Str} {j k : Int} (ha : IsName a) (hx : x = "" ∨ IsName x) (hj : Sm 200 j) (h : Sm 200 k) : wr (clN (d + 3) id__law_term_text [.tup [.str a, .tup [.str x, .int j], .int k]] s) (fun u s' => u = .str (cellT a x j k) ∧ s = s') noX := by
  show wr (runB (clN (d + 2)) 1 b__law_term_text [.tup [.str a, .tup [.str x, .int j], .int k]] s) _ noX
  unfold b__law_term_text
  have e2 : bltV .len [.tup [.str a, .tup [.str x, .int j], .int k]] s = some (.int 3, s) := rfl
  have e3 : cmpV .eq (.int 3) (.int 3) s = some true := rfl
  have i0 : idxV s (.tup [.str a, .tup [.str x, .int j], .int k]) (.int 0) = some (.str a) := rfl
  have i1 : idxV s (.tup [.str a, .tup [.str x, .int j], .int k]) (.int 1) = some (.tup [.str x, .int j]) := rfl
  have i2 : idxV s (.tup [.str a, .tup [.str x, .int j], .int k]) (.int 2) = some (.int k) := rfl
  have hl := tail_len h
  have hp := plain_len hx hj
  have hn := ha.hi
  have hn : a.length ≤ 6 := hn
  have b1 : binV .add (.str a) (.str "[") s = some (.str (a ++ ("[" : Str)), s) := b_add (by rw [lb_len]; omega)
  have b2 : binV .add (.str (a ++ ("[" : Str))) (.str (plainT x j)) s = some (.str ((a ++ ("[" : Str)) ++ plainT x j), s) := b_add (by rw [len_app, lb_len]; omega)
  have b3 : binV .add (.str ((a ++ ("[" : Str)) ++ plainT x j)) (.str "]") s = some (.str (((a ++ ("[" : Str)) ++ plainT x j) ++ ("]" : Str)), s) := b_add (by rw [len_app, len_app, lb_len, rb_len]; omega)
  have b4 : binV .add (.str (((a ++ ("[" : Str)) ++ plainT x j) ++ ("]" : Str))) (.str (tailT k)) s = some (.str (cellT a x j k), s) := b_add (by rw [len_app, len_app, len_app, lb_len, rb_len]; omega)
  simp only [w_varM, w_con, w_bin, w_neg, w_not, w_and, w_or, w_cmp, w_chain, w_ife, w_call, w_callp, w_star, w_blt, w_mth, w_idx, w_slc, w_lst, w_tup, w_tab, w_tin, w_dnew, w_rev, w_lc, w_lsc, w_dc, w_disp, w_get, w_fld, w_mk, w_meth, w_prop, w_nil, w_cons, w_onone, w_osome, w_tnone, w_tsome, w_tnot, w_tand, w_tor, w_tval, w_iex, w_irng1, w_irng2, w_irng3, w_izip, w_run, w_snil, w_scons, w_set, w_unp, w_seti, w_setf, w_exp, w_ret, w_retn, w_pass, w_ifs, w_loop, w_rais, w_try, wr_ok, wr_some, wr_none, wr_stuck, wr_bind, wr_quiet, wr_lift_ite, wr_ite, wo_ite, wo_next, wo_ret, wo_brk, wo_cnt, o_add, o_sub, o_mul, o_fdiv, o_mod, o_pow, o_neg, o_lt, o_le, o_gt, o_ge, o_eq, o_ne, o_eqs, o_nes, o_isB, o_notB, o_tbl, o_int, o_lst, decide_eq_true_eq, Bool.not_eq_true', decide_eq_false_iff_not, beq_iff_eq, List.map_cons, List.map_nil, List.length_cons, List.length_nil, List.replicate_succ, List.replicate_zero, List.cons_append, List.nil_append, List.getElem?_cons_zero, List.getElem?_cons_succ, List.set_cons_zero, List.set_cons_succ, Nat.reduceSub, Nat.reduceAdd, Nat.zero_add, Option.map_some, Option.map_none, c_na10, o_rng1, len_rng, len_lst, len_tup, Int.toNat_natCast, Int.reduceToNat, Int.reduceLE, Int.reduceLT, Nat.reducePow, Nat.reduceLT, and_self, if_true, if_false, ite_true, ite_false, true_and, and_true, reduceIte, e2, e3, i0, i1, i2, b1]
  refine wr_imp (term_plain (d := d) hx hj) ?_
  rintro _ _ ⟨rfl, rfl⟩
  simp only [w_varM, w_con, w_bin, w_neg, w_not, w_and, w_or, w_cmp, w_chain, w_ife, w_call, w_callp, w_star, w_blt, w_mth, w_idx, w_slc, w_lst, w_tup, w_tab, w_tin, w_dnew, w_rev, w_lc, w_lsc, w_dc, w_disp, w_get, w_fld, w_mk, w_meth, w_prop, w_nil, w_cons, w_onone, w_osome, w_tnone, w_tsome, w_tnot, w_tand, w_tor, w_tval, w_iex, w_irng1, w_irng2, w_irng3, w_izip, w_run, w_snil, w_scons, w_set, w_unp, w_seti, w_setf, w_exp, w_ret, w_retn, w_pass, w_ifs, w_loop, w_rais, w_try, wr_ok, wr_some, wr_none, wr_stuck, wr_bind, wr_quiet, wr_lift_ite, wr_ite, wo_ite, wo_next, wo_ret, wo_brk, wo_cnt, o_add, o_sub, o_mul, o_fdiv, o_mod, o_pow, o_neg, o_lt, o_le, o_gt, o_ge, o_eq, o_ne, o_eqs, o_nes, o_isB, o_notB, o_tbl, o_int, o_lst, decide_eq_true_eq, Bool.not_eq_true', decide_eq_false_iff_not, beq_iff_eq, List.map_cons, List.map_nil, List.length_cons, List.length_nil, List.replicate_succ, List.replicate_zero, List.cons_append, List.nil_append, List.getElem?_cons_zero, List.getElem?_cons_succ, List.set_cons_zero, List.set_cons_succ, Nat.reduceSub, Nat.reduceAdd, Nat.zero_add, Option.map_some, Option.map_none, c_na10, o_rng1, len_rng, len_lst, len_tup, Int.toNat_natCast, Int.reduceToNat, Int.reduceLE, Int.reduceLT, Nat.reducePow, Nat.reduceLT, and_self, if_true, if_false, ite_true, ite_false, true_and, and_true, reduceIte, b2, b3, i2]
  refine wr_imp (tail_ok (d := d + 1) h) ?_
  rintro _ _ ⟨rfl, rfl⟩
  simp only [w_varM, w_con, w_bin, w_neg, w_not, w_and, w_or, w_cmp, w_chain, w_ife, w_call, w_callp, w_star, w_blt, w_mth, w_idx, w_slc, w_lst, w_tup, w_tab, w_tin, w_dnew, w_rev, w_lc, w_lsc, w_dc, w_disp, w_get, w_fld, w_mk, w_meth, w_prop, w_nil, w_cons, w_onone, w_osome, w_tnone, w_tsome, w_tnot, w_tand, w_tor, w_tval, w_iex, w_irng1, w_irng2, w_irng3, w_izip, w_run, w_snil, w_scons, w_set, w_unp, w_seti, w_setf, w_exp, w_ret, w_retn, w_pass, w_ifs, w_loop, w_rais, w_try, wr_ok, wr_some, wr_none, wr_stuck, wr_bind, wr_quiet, wr_lift_ite, wr_ite, wo_ite, wo_next, wo_ret, wo_brk, wo_cnt, o_add, o_sub, o_mul, o_fdiv, o_mod, o_pow, o_neg, o_lt, o_le, o_gt, o_ge, o_eq, o_ne, o_eqs, o_nes, o_isB, o_notB, o_tbl, o_int, o_lst, decide_eq_true_eq, Bool.not_eq_true', decide_eq_false_iff_not, beq_iff_eq, List.map_cons, List.map_nil, List.length_cons, List.length_nil, List.replicate_succ, List.replicate_zero, List.cons_append, List.nil_append, List.getElem?_cons_zero, List.getElem?_cons_succ, List.set_cons_zero, List.set_cons_succ, Nat.reduceSub, Nat.reduceAdd, Nat.zero_add, Option.map_some, Option.map_none, c_na10, o_rng1, len_rng, len_lst, len_tup, Int.toNat_natCast, Int.reduceToNat, Int.reduceLE, Int.reduceLT, Nat.reducePow, Nat.reduceLT, and_self, if_true, if_false, ite_true, ite_false, true_and, and_true, reduceIte, b4]
theorem sum_ok {d : Nat} {s : Store} {x : Str} {k : Int} (hx : x.length ≤ 1000) (h : Sm 200 k) : wr (clN (d + 1) id_show_sum [.str x, .int k] s) (fun u s' => u = .str (sumT x k) ∧ s = s') noX := by
  show wr (runB (clN d) 2 b_show_sum [.str x, .int k] s) _ noX
  unfold b_show_sum
  have hl := int_len h
  have c1 : cmpV .gt (.int k) (.int 0) s = some (decide (0 < k)) := rfl
  have c2 : cmpV .lt (.int k) (.int 0) s = some (decide (k < 0)) := rfl
  have b1 : binV .add (.str x) (.str (strI k)) s = some (.str (x ++ strI k), s) := b_add (by omega)
  have b2 : binV .add (.str x) (.str "+") s = some (.str (x ++ ("+" : Str)), s) := b_add (by rw [plus_len]; omega)
  have b3 : binV .add (.str (x ++ ("+" : Str))) (.str (strI k)) s = some (.str ((x ++ ("+" : Str)) ++ strI k), s) := b_add (by rw [len_app, plus_len]; omega)
  unfold sumT
  by_cases h0 : x = ""
  · subst h0
    simp only [w_varM, w_con, w_bin, w_neg, w_not, w_and, w_or, w_cmp, w_chain, w_ife, w_call, w_callp, w_star, w_blt, w_mth, w_idx, w_slc, w_lst, w_tup, w_tab, w_tin, w_dnew, w_rev, w_lc, w_lsc, w_dc, w_disp, w_get, w_fld, w_mk, w_meth, w_prop, w_nil, w_cons, w_onone, w_osome, w_tnone, w_tsome, w_tnot, w_tand, w_tor, w_tval, w_iex, w_irng1, w_irng2, w_irng3, w_izip, w_run, w_snil, w_scons, w_set, w_unp, w_seti, w_setf, w_exp, w_ret, w_retn, w_pass, w_ifs, w_loop, w_rais, w_try, wr_ok, wr_some, wr_none, wr_stuck, wr_bind, wr_quiet, wr_lift_ite, wr_ite, wo_ite, wo_next, wo_ret, wo_brk, wo_cnt, o_add, o_sub, o_mul, o_fdiv, o_mod, o_pow, o_neg, o_lt, o_le, o_gt, o_ge, o_eq, o_ne, o_eqs, o_nes, o_isB, o_notB, o_tbl, o_int, o_lst, decide_eq_true_eq, Bool.not_eq_true', decide_eq_false_iff_not, beq_iff_eq, List.map_cons, List.map_nil, List.length_cons, List.length_nil, List.replicate_succ, List.replicate_zero, List.cons_append, List.nil_append, List.getElem?_cons_zero, List.getElem?_cons_succ, List.set_cons_zero, List.set_cons_succ, Nat.reduceSub, Nat.reduceAdd, Nat.zero_add, Option.map_some, Option.map_none, c_na10, o_rng1, len_rng, len_lst, len_tup, Int.toNat_natCast, Int.reduceToNat, Int.reduceLE, Int.reduceLT, Nat.reducePow, Nat.reduceLT, and_self, if_true, if_false, ite_true, ite_false, true_and, and_true, reduceIte, c1, c2, o_str h, b1, beq_self_eq_true, true_or]
  · by_cases h1 : k < 0
    · simp only [w_varM, w_con, w_bin, w_neg, w_not, w_and, w_or, w_cmp, w_chain, w_ife, w_call, w_callp, w_star, w_blt, w_mth, w_idx, w_slc, w_lst, w_tup, w_tab, w_tin, w_dnew, w_rev, w_lc, w_lsc, w_dc, w_disp, w_get, w_fld, w_mk, w_meth, w_prop, w_nil, w_cons, w_onone, w_osome, w_tnone, w_tsome, w_tnot, w_tand, w_tor, w_tval, w_iex, w_irng1, w_irng2, w_irng3, w_izip, w_run, w_snil, w_scons, w_set, w_unp, w_seti, w_setf, w_exp, w_ret, w_retn, w_pass, w_ifs, w_loop, w_rais, w_try, wr_ok, wr_some, wr_none, wr_stuck, wr_bind, wr_quiet, wr_lift_ite, wr_ite, wo_ite, wo_next, wo_ret, wo_brk, wo_cnt, o_add, o_sub, o_mul, o_fdiv, o_mod, o_pow, o_neg, o_lt, o_le, o_gt, o_ge, o_eq, o_ne, o_eqs, o_nes, o_isB, o_notB, o_tbl, o_int, o_lst, decide_eq_true_eq, Bool.not_eq_true', decide_eq_false_iff_not, beq_iff_eq, List.map_cons, List.map_nil, List.length_cons, List.length_nil, List.replicate_succ, List.replicate_zero, List.cons_append, List.nil_append, List.getElem?_cons_zero, List.getElem?_cons_succ, List.set_cons_zero, List.set_cons_succ, Nat.reduceSub, Nat.reduceAdd, Nat.zero_add, Option.map_some, Option.map_none, c_na10, o_rng1, len_rng, len_lst, len_tup, Int.toNat_natCast, Int.reduceToNat, Int.reduceLE, Int.reduceLT, Nat.reducePow, Nat.reduceLT, and_self, if_true, if_false, ite_true, ite_false, true_and, and_true, reduceIte, c1, c2, h0, h1, o_str h, b1, or_true, if_true]
    · by_cases h2 : 0 < k
      · simp only [w_varM, w_con, w_bin, w_neg, w_not, w_and, w_or, w_cmp, w_chain, w_ife, w_call, w_callp, w_star, w_blt, w_mth, w_idx, w_slc, w_lst, w_tup, w_tab, w_tin, w_dnew, w_rev, w_lc, w_lsc, w_dc, w_disp, w_get, w_fld, w_mk, w_meth, w_prop, w_nil, w_cons, w_onone, w_osome, w_tnone, w_tsome, w_tnot, w_tand, w_tor, w_tval, w_iex, w_irng1, w_irng2, w_irng3, w_izip, w_run, w_snil, w_scons, w_set, w_unp, w_seti, w_setf, w_exp, w_ret, w_retn, w_pass, w_ifs, w_loop, w_rais, w_try, wr_ok, wr_some, wr_none, wr_stuck, wr_bind, wr_quiet, wr_lift_ite, wr_ite, wo_ite, wo_next, wo_ret, wo_brk, wo_cnt, o_add, o_sub, o_mul, o_fdiv, o_mod, o_pow, o_neg, o_lt, o_le, o_gt, o_ge, o_eq, o_ne, o_eqs, o_nes, o_isB, o_notB, o_tbl, o_int, o_lst, decide_eq_true_eq, Bool.not_eq_true', decide_eq_false_iff_not, beq_iff_eq, List.map_cons, List.map_nil, List.length_cons, List.length_nil, List.replicate_succ, List.replicate_zero, List.cons_append, List.nil_append, List.getElem?_cons_zero, List.getElem?_cons_succ, List.set_cons_zero, List.set_cons_succ, Nat.reduceSub, Nat.reduceAdd, Nat.zero_add, Option.map_some, Option.map_none, c_na10, o_rng1, len_rng, len_lst, len_tup, Int.toNat_natCast, Int.reduceToNat, Int.reduceLE, Int.reduceLT, Nat.reducePow, Nat.reduceLT, and_self, if_true, if_false, ite_true, ite_false, true_and, and_true, reduceIte, c1, c2, h0, h1, h2, o_str h, b2, b3, or_false, if_false]
      · simp only [w_varM, w_con, w_bin, w_neg, w_not, w_and, w_or, w_cmp, w_chain, w_ife, w_call, w_callp, w_star, w_blt, w_mth, w_idx, w_slc, w_lst, w_tup, w_tab, w_tin, w_dnew, w_rev, w_lc, w_lsc, w_dc, w_disp, w_get, w_fld, w_mk, w_meth, w_prop, w_nil, w_cons, w_onone, w_osome, w_tnone, w_tsome, w_tnot, w_tand, w_tor, w_tval, w_iex, w_irng1, w_irng2, w_irng3, w_izip, w_run, w_snil, w_scons, w_set, w_unp, w_seti, w_setf, w_exp, w_ret, w_retn, w_pass, w_ifs, w_loop, w_rais, w_try, wr_ok, wr_some, wr_none, wr_stuck, wr_bind, wr_quiet, wr_lift_ite, wr_ite, wo_ite, wo_next, wo_ret, wo_brk, wo_cnt, o_add, o_sub, o_mul, o_fdiv, o_mod, o_pow, o_neg, o_lt, o_le, o_gt, o_ge, o_eq, o_ne, o_eqs, o_nes, o_isB, o_notB, o_tbl, o_int, o_lst, decide_eq_true_eq, Bool.not_eq_true', decide_eq_false_iff_not, beq_iff_eq, List.map_cons, List.map_nil, List.length_cons, List.length_nil, List.replicate_succ, List.replicate_zero, List.cons_append, List.nil_append, List.getElem?_cons_zero, List.getElem?_cons_succ, List.set_cons_zero, List.set_cons_succ, Nat.reduceSub, Nat.reduceAdd, Nat.zero_add, Option.map_some, Option.map_none, c_na10, o_rng1, len_rng, len_lst, len_tup, Int.toNat_natCast, Int.reduceToNat, Int.reduceLE, Int.reduceLT, Nat.reducePow, Nat.reduceLT, and_self, if_true, if_false, ite_true, ite_false, true_and, and_true, reduceIte, c1, c2, h0, h1, h2, or_false, if_false]
theorem show_plain {d : Nat} {s : Store} {x : Str} {k : Int} (hx : x = "" ∨ IsName x) (h : Sm 200 k) : wr (clN (d + 2) id_show_term [.tup [.str x, .int k]] s) (fun u s' => u = .str (plainT x k) ∧ s = s') noX := by
  show wr (runB (clN (d + 1)) 4 b_show_term [.tup [.str x, .int k]] s) _ noX
  unfold b_show_term
  have e2 : bltV .len [.tup [.str x, .int k]] s = some (.int 2, s) := rfl
  have e3 : cmpV .eq (.int 2) (.int 2) s = some true := rfl
  have i0 : idxV s (.tup [.str x, .int k]) (.int 0) = some (.str x) := rfl
  have i1 : idxV s (.tup [.str x, .int k]) (.int 1) = some (.int k) := rfl
  have hn := name_len hx
  simp only [w_varM, w_con, w_bin, w_neg, w_not, w_and, w_or, w_cmp, w_chain, w_ife, w_call, w_callp, w_star, w_blt, w_mth, w_idx, w_slc, w_lst, w_tup, w_tab, w_tin, w_dnew, w_rev, w_lc, w_lsc, w_dc, w_disp, w_get, w_fld, w_mk, w_meth, w_prop, w_nil, w_cons, w_onone, w_osome, w_tnone, w_tsome, w_tnot, w_tand, w_tor, w_tval, w_iex, w_irng1, w_irng2, w_irng3, w_izip, w_run, w_snil, w_scons, w_set, w_unp, w_seti, w_setf, w_exp, w_ret, w_retn, w_pass, w_ifs, w_loop, w_rais, w_try, wr_ok, wr_some, wr_none, wr_stuck, wr_bind, wr_quiet, wr_lift_ite, wr_ite, wo_ite, wo_next, wo_ret, wo_brk, wo_cnt, o_add, o_sub, o_mul, o_fdiv, o_mod, o_pow, o_neg, o_lt, o_le, o_gt, o_ge, o_eq, o_ne, o_eqs, o_nes, o_isB, o_notB, o_tbl, o_int, o_lst, decide_eq_true_eq, Bool.not_eq_true', decide_eq_false_iff_not, beq_iff_eq, List.map_cons, List.map_nil, List.length_cons, List.length_nil, List.replicate_succ, List.replicate_zero, List.cons_append, List.nil_append, List.getElem?_cons_zero, List.getElem?_cons_succ, List.set_cons_zero, List.set_cons_succ, Nat.reduceSub, Nat.reduceAdd, Nat.zero_add, Option.map_some, Option.map_none, c_na10, o_rng1, len_rng, len_lst, len_tup, Int.toNat_natCast, Int.reduceToNat, Int.reduceLE, Int.reduceLT, Nat.reducePow, Nat.reduceLT, and_self, if_true, if_false, ite_true, ite_false, true_and, and_true, reduceIte, e2, e3, i0, i1]
  refine wr_imp (sum_ok (d := d) (by omega) h) ?_
  rintro _ _ ⟨rfl, rfl⟩
  rw [sumT_plain]
  exact ⟨rfl, rfl⟩
theorem cell_ne {a z : Str} (ha : IsName a) : a ++ z ≠ ("" : Str) := by
  intro e
  have h := congrArg Str.length e
  rw [len_app, emp_len] at h
  have h1 := ha.lo
  have h1 : 1 ≤ a.length := h1
  omega
theorem show_cell {d : Nat} {s : Store} {a x : Str} {j k : Int} (ha : IsName a) (hx : x = "" ∨ IsName x) (hj : Sm 200 j) (h : Sm 200 k) : wr (clN (d + 3) id_show_term [.tup [.str a, .tup [.str x, .int j], .int k]] s) (fun u s' => u = .str (cellT a x j k) ∧ s = s') noX := by
  show wr (runB (clN (d + 2)) 4 b_show_term [.tup [.str a, .tup [.str x, .int j], .int k]] s) _ noX
  unfold b_show_term
  have e2 : bltV .len [.tup [.str a, .tup [.str x, .int j], .int k]] s = some (.int 3, s) := rfl
  have e3 : cmpV .eq (.int 3) (.int 2) s = some false := rfl
  have hp := plain_len hx hj
  have hn := ha.hi
  have hn : a.length ≤ 6 := hn
  have hg : ∀ ρ : Fr, (Tg.tp [1, 2, 3]).give (.tup [.str a, .tup [.str x, .int j], .int k]) ρ s = some (((ρ.set 1 (some (.str a))).set 2 (some (.tup [.str x, .int j]))).set 3 (some (.int k))) := fun ρ => rfl
  have b1 : binV .add (.str a) (.str "[") s = some (.str (a ++ ("[" : Str)), s) := b_add (by rw [lb_len]; omega)
  have b2 : binV .add (.str (a ++ ("[" : Str))) (.str (plainT x j)) s = some (.str ((a ++ ("[" : Str)) ++ plainT x j), s) := b_add (by rw [len_app, lb_len]; omega)
  have b3 : binV .add (.str ((a ++ ("[" : Str)) ++ plainT x j)) (.str "]") s = some (.str (((a ++ ("[" : Str)) ++ plainT x j) ++ ("]" : Str)), s) := b_add (by rw [len_app, len_app, lb_len, rb_len]; omega)
  simp only [w_varM, w_con, w_bin, w_neg, w_not, w_and, w_or, w_cmp, w_chain, w_ife, w_call, w_callp, w_star, w_blt, w_mth, w_idx, w_slc, w_lst, w_tup, w_tab, w_tin, w_dnew, w_rev, w_lc, w_lsc, w_dc, w_disp, w_get, w_fld, w_mk, w_meth, w_prop, w_nil, w_cons, w_onone, w_osome, w_tnone, w_tsome, w_tnot, w_tand, w_tor, w_tval, w_iex, w_irng1, w_irng2, w_irng3, w_izip, w_run, w_snil, w_scons, w_set, w_unp, w_seti, w_setf, w_exp, w_ret, w_retn, w_pass, w_ifs, w_loop, w_rais, w_try, wr_ok, wr_some, wr_none, wr_stuck, wr_bind, wr_quiet, wr_lift_ite, wr_ite, wo_ite, wo_next, wo_ret, wo_brk, wo_cnt, o_add, o_sub, o_mul, o_fdiv, o_mod, o_pow, o_neg, o_lt, o_le, o_gt, o_ge, o_eq, o_ne, o_eqs, o_nes, o_isB, o_notB, o_tbl, o_int, o_lst, decide_eq_true_eq, Bool.not_eq_true', decide_eq_false_iff_not, beq_iff_eq, List.map_cons, List.map_nil, List.length_cons, List.length_nil, List.replicate_succ, List.replicate_zero, List.cons_append, List.nil_append, List.getElem?_cons_zero, List.getElem?_cons_succ, List.set_cons_zero, List.set_cons_succ, Nat.reduceSub, Nat.reduceAdd, Nat.zero_add, Option.map_some, Option.map_none, c_na10, o_rng1, len_rng, len_lst, len_tup, Int.toNat_natCast, Int.reduceToNat, Int.reduceLE, Int.reduceLT, Nat.reducePow, Nat.reduceLT, and_self, if_true, if_false, ite_true, ite_false, true_and, and_true, reduceIte, e2, e3, hg, b1, Bool.false_eq_true]
  refine wr_imp (show_plain (d := d) hx hj) ?_
  rintro _ _ ⟨rfl, rfl⟩
  simp only [w_varM, w_con, w_bin, w_neg, w_not, w_and, w_or, w_cmp, w_chain, w_ife, w_call, w_callp, w_star, w_blt, w_mth, w_idx, w_slc, w_lst, w_tup, w_tab, w_tin, w_dnew, w_rev, w_lc, w_lsc, w_dc, w_disp, w_get, w_fld, w_mk, w_meth, w_prop, w_nil, w_cons, w_onone, w_osome, w_tnone, w_tsome, w_tnot, w_tand, w_tor, w_tval, w_iex, w_irng1, w_irng2, w_irng3, w_izip, w_run, w_snil, w_scons, w_set, w_unp, w_seti, w_setf, w_exp, w_ret, w_retn, w_pass, w_ifs, w_loop, w_rais, w_try, wr_ok, wr_some, wr_none, wr_stuck, wr_bind, wr_quiet, wr_lift_ite, wr_ite, wo_ite, wo_next, wo_ret, wo_brk, wo_cnt, o_add, o_sub, o_mul, o_fdiv, o_mod, o_pow, o_neg, o_lt, o_le, o_gt, o_ge, o_eq, o_ne, o_eqs, o_nes, o_isB, o_notB, o_tbl, o_int, o_lst, decide_eq_true_eq, Bool.not_eq_true', decide_eq_false_iff_not, beq_iff_eq, List.map_cons, List.map_nil, List.length_cons, List.length_nil, List.replicate_succ, List.replicate_zero, List.cons_append, List.nil_append, List.getElem?_cons_zero, List.getElem?_cons_succ, List.set_cons_zero, List.set_cons_succ, Nat.reduceSub, Nat.reduceAdd, Nat.zero_add, Option.map_some, Option.map_none, c_na10, o_rng1, len_rng, len_lst, len_tup, Int.toNat_natCast, Int.reduceToNat, Int.reduceLE, Int.reduceLT, Nat.reducePow, Nat.reduceLT, and_self, if_true, if_false, ite_true, ite_false, true_and, and_true, reduceIte, b2, b3]
  refine wr_imp (sum_ok (d := d + 1) (by rw [len_app, len_app, len_app, lb_len, rb_len]; omega) h) ?_
  rintro _ _ ⟨rfl, rfl⟩
  rw [sumT_cell (by rw [app_assoc, app_assoc]; exact cell_ne ha)]
  exact ⟨rfl, rfl⟩
/-- both of a term -/
theorem term_v {d : Nat} {s : Store} {v : Val} (h : VTerm 200 v) : wr (clN (d + 3) id__law_term_text [v] s) (fun u s' => u = .str (partT v) ∧ s = s') noX := by
  rcases h with ⟨x, k, rfl, hx, hk⟩ | ⟨a, _, k, rfl, ha, ⟨x, j, rfl, hx, hj⟩, hk⟩
  · exact term_plain (d := d + 1) hx hk
  · exact term_cell (d := d) ha hx hj hk
theorem show_v {d : Nat} {s : Store} {v : Val} (h : VTerm 200 v) : wr (clN (d + 3) id_show_term [v] s) (fun u s' => u = .str (partT v) ∧ s = s') noX := by
  rcases h with ⟨x, k, rfl, hx, hk⟩ | ⟨a, _, k, rfl, ha, ⟨x, j, rfl, hx, hj⟩, hk⟩
  · exact show_plain (d := d + 1) hx hk
  · exact show_cell (d := d) ha hx hj hk
theorem v_len {v : Val} (h : VTerm 200 v) : (partT v).length ≤ 300 := by
  rcases h with ⟨x, k, rfl, hx, hk⟩ | ⟨a, _, k, rfl, ha, ⟨x, j, rfl, hx, hj⟩, hk⟩
  · have := plain_len hx hk
    show (plainT x k).length ≤ 300
    omega
  · have h1 := plain_len hx hj
    have h2 := tail_len hk
    have h3 : a.length ≤ 6 := ha.hi
    show (cellT a x j k).length ≤ 300
    unfold cellT
    rw [len_app, len_app, len_app, len_app, lb_len, rb_len]
    omega
/-- what stands in a statement -/
inductive Piece : Val → Prop
  | non : Piece .non
  | str {x : Str} (h : x.length ≤ 10) : Piece (.str x)
  | int {k : Int} (h : Sm 200 k) : Piece (.int k)
  | trm {v : Val} (h : VTerm 200 v) : Piece v
theorem piece_of {k : Str} {v : Val} (h : Part 200 k v) : Piece v := by
  rcases h with ⟨_, x, rfl, hx⟩ | ⟨_, h⟩ | ⟨_, h⟩ | ⟨_, rfl | h⟩ | ⟨_, i, rfl, h⟩
  · exact .str (Nat.le_trans hx.hi (by decide))
  · exact .trm h
  · exact .trm (.inl h)
  · exact .non
  · exact .trm (.inl h)
  · exact .int h
theorem piece_len {v : Val} (h : Piece v) : (partT v).length ≤ 300 := by
  cases h with
  | non => show (".." : Str).length ≤ 300; rw [dd_len]; decide
  | str h => exact Nat.le_trans h (by decide)
  | int h => exact Nat.le_trans (int_len h) (by decide)
  | trm h => exact v_len h
theorem v_isi {v : Val} (h : VTerm 200 v) (s : Store) : isiV .tuple s v = some true ∧ isiV .str s v = some false ∧ isiV .int s v = some false ∧ cmpV .isN v .non s = some false := by
  rcases h with ⟨x, k, rfl, hx, hk⟩ | ⟨a, _, k, rfl, ha, ⟨x, j, rfl, hx, hj⟩, hk⟩ <;> exact ⟨rfl, rfl, rfl, rfl⟩
theorem part_ok {d : Nat} {s : Store} {v : Val} (h : Piece v) : wr (clN (d + 4) id_show_part [v] s) (fun u s' => u = .str (partT v) ∧ s = s') noX := by
  show wr (runB (clN (d + 3)) 1 b_show_part [v] s) _ noX
  unfold b_show_part
  cases h with
  | non =>
    simp only [w_varM, w_con, w_bin, w_neg, w_not, w_and, w_or, w_cmp, w_chain, w_ife, w_call, w_callp, w_star, w_blt, w_mth, w_idx, w_slc, w_lst, w_tup, w_tab, w_tin, w_dnew, w_rev, w_lc, w_lsc, w_dc, w_disp, w_get, w_fld, w_mk, w_meth, w_prop, w_nil, w_cons, w_onone, w_osome, w_tnone, w_tsome, w_tnot, w_tand, w_tor, w_tval, w_iex, w_irng1, w_irng2, w_irng3, w_izip, w_run, w_snil, w_scons, w_set, w_unp, w_seti, w_setf, w_exp, w_ret, w_retn, w_pass, w_ifs, w_loop, w_rais, w_try, wr_ok, wr_some, wr_none, wr_stuck, wr_bind, wr_quiet, wr_lift_ite, wr_ite, wo_ite, wo_next, wo_ret, wo_brk, wo_cnt, o_add, o_sub, o_mul, o_fdiv, o_mod, o_pow, o_neg, o_lt, o_le, o_gt, o_ge, o_eq, o_ne, o_eqs, o_nes, o_isB, o_notB, o_tbl, o_int, o_lst, decide_eq_true_eq, Bool.not_eq_true', decide_eq_false_iff_not, beq_iff_eq, List.map_cons, List.map_nil, List.length_cons, List.length_nil, List.replicate_succ, List.replicate_zero, List.cons_append, List.nil_append, List.getElem?_cons_zero, List.getElem?_cons_succ, List.set_cons_zero, List.set_cons_succ, Nat.reduceSub, Nat.reduceAdd, Nat.zero_add, Option.map_some, Option.map_none, c_na10, o_rng1, len_rng, len_lst, len_tup, Int.toNat_natCast, Int.reduceToNat, Int.reduceLE, Int.reduceLT, Nat.reducePow, Nat.reduceLT, and_self, if_true, if_false, ite_true, ite_false, true_and, and_true, reduceIte, o_isn]
    first | rfl | exact ⟨rfl, rfl⟩
  | @str x h =>
    have e1 : cmpV .isN (.str x) .non s = some false := rfl
    have e2 : bltV (.isi .tuple) [.str x] s = some (.bl false, s) := rfl
    simp only [w_varM, w_con, w_bin, w_neg, w_not, w_and, w_or, w_cmp, w_chain, w_ife, w_call, w_callp, w_star, w_blt, w_mth, w_idx, w_slc, w_lst, w_tup, w_tab, w_tin, w_dnew, w_rev, w_lc, w_lsc, w_dc, w_disp, w_get, w_fld, w_mk, w_meth, w_prop, w_nil, w_cons, w_onone, w_osome, w_tnone, w_tsome, w_tnot, w_tand, w_tor, w_tval, w_iex, w_irng1, w_irng2, w_irng3, w_izip, w_run, w_snil, w_scons, w_set, w_unp, w_seti, w_setf, w_exp, w_ret, w_retn, w_pass, w_ifs, w_loop, w_rais, w_try, wr_ok, wr_some, wr_none, wr_stuck, wr_bind, wr_quiet, wr_lift_ite, wr_ite, wo_ite, wo_next, wo_ret, wo_brk, wo_cnt, o_add, o_sub, o_mul, o_fdiv, o_mod, o_pow, o_neg, o_lt, o_le, o_gt, o_ge, o_eq, o_ne, o_eqs, o_nes, o_isB, o_notB, o_tbl, o_int, o_lst, decide_eq_true_eq, Bool.not_eq_true', decide_eq_false_iff_not, beq_iff_eq, List.map_cons, List.map_nil, List.length_cons, List.length_nil, List.replicate_succ, List.replicate_zero, List.cons_append, List.nil_append, List.getElem?_cons_zero, List.getElem?_cons_succ, List.set_cons_zero, List.set_cons_succ, Nat.reduceSub, Nat.reduceAdd, Nat.zero_add, Option.map_some, Option.map_none, c_na10, o_rng1, len_rng, len_lst, len_tup, Int.toNat_natCast, Int.reduceToNat, Int.reduceLE, Int.reduceLT, Nat.reducePow, Nat.reduceLT, and_self, if_true, if_false, ite_true, ite_false, true_and, and_true, reduceIte, e1, e2, o_strs, Bool.false_eq_true]
    first | rfl | exact ⟨rfl, rfl⟩
  | @int k h =>
    have e1 : cmpV .isN (.int k) .non s = some false := rfl
    have e2 : bltV (.isi .tuple) [.int k] s = some (.bl false, s) := rfl
    simp only [w_varM, w_con, w_bin, w_neg, w_not, w_and, w_or, w_cmp, w_chain, w_ife, w_call, w_callp, w_star, w_blt, w_mth, w_idx, w_slc, w_lst, w_tup, w_tab, w_tin, w_dnew, w_rev, w_lc, w_lsc, w_dc, w_disp, w_get, w_fld, w_mk, w_meth, w_prop, w_nil, w_cons, w_onone, w_osome, w_tnone, w_tsome, w_tnot, w_tand, w_tor, w_tval, w_iex, w_irng1, w_irng2, w_irng3, w_izip, w_run, w_snil, w_scons, w_set, w_unp, w_seti, w_setf, w_exp, w_ret, w_retn, w_pass, w_ifs, w_loop, w_rais, w_try, wr_ok, wr_some, wr_none, wr_stuck, wr_bind, wr_quiet, wr_lift_ite, wr_ite, wo_ite, wo_next, wo_ret, wo_brk, wo_cnt, o_add, o_sub, o_mul, o_fdiv, o_mod, o_pow, o_neg, o_lt, o_le, o_gt, o_ge, o_eq, o_ne, o_eqs, o_nes, o_isB, o_notB, o_tbl, o_int, o_lst, decide_eq_true_eq, Bool.not_eq_true', decide_eq_false_iff_not, beq_iff_eq, List.map_cons, List.map_nil, List.length_cons, List.length_nil, List.replicate_succ, List.replicate_zero, List.cons_append, List.nil_append, List.getElem?_cons_zero, List.getElem?_cons_succ, List.set_cons_zero, List.set_cons_succ, Nat.reduceSub, Nat.reduceAdd, Nat.zero_add, Option.map_some, Option.map_none, c_na10, o_rng1, len_rng, len_lst, len_tup, Int.toNat_natCast, Int.reduceToNat, Int.reduceLE, Int.reduceLT, Nat.reducePow, Nat.reduceLT, and_self, if_true, if_false, ite_true, ite_false, true_and, and_true, reduceIte, e1, e2, o_str h, Bool.false_eq_true]
    first | rfl | exact ⟨rfl, rfl⟩
  | trm h =>
    obtain ⟨a1, a2, a3, a4⟩ := v_isi h s
    simp only [w_varM, w_con, w_bin, w_neg, w_not, w_and, w_or, w_cmp, w_chain, w_ife, w_call, w_callp, w_star, w_blt, w_mth, w_idx, w_slc, w_lst, w_tup, w_tab, w_tin, w_dnew, w_rev, w_lc, w_lsc, w_dc, w_disp, w_get, w_fld, w_mk, w_meth, w_prop, w_nil, w_cons, w_onone, w_osome, w_tnone, w_tsome, w_tnot, w_tand, w_tor, w_tval, w_iex, w_irng1, w_irng2, w_irng3, w_izip, w_run, w_snil, w_scons, w_set, w_unp, w_seti, w_setf, w_exp, w_ret, w_retn, w_pass, w_ifs, w_loop, w_rais, w_try, wr_ok, wr_some, wr_none, wr_stuck, wr_bind, wr_quiet, wr_lift_ite, wr_ite, wo_ite, wo_next, wo_ret, wo_brk, wo_cnt, o_add, o_sub, o_mul, o_fdiv, o_mod, o_pow, o_neg, o_lt, o_le, o_gt, o_ge, o_eq, o_ne, o_eqs, o_nes, o_isB, o_notB, o_tbl, o_int, o_lst, decide_eq_true_eq, Bool.not_eq_true', decide_eq_false_iff_not, beq_iff_eq, List.map_cons, List.map_nil, List.length_cons, List.length_nil, List.replicate_succ, List.replicate_zero, List.cons_append, List.nil_append, List.getElem?_cons_zero, List.getElem?_cons_succ, List.set_cons_zero, List.set_cons_succ, Nat.reduceSub, Nat.reduceAdd, Nat.zero_add, Option.map_some, Option.map_none, c_na10, o_rng1, len_rng, len_lst, len_tup, Int.toNat_natCast, Int.reduceToNat, Int.reduceLE, Int.reduceLT, Nat.reducePow, Nat.reduceLT, and_self, if_true, if_false, ite_true, ite_false, true_and, and_true, reduceIte, a4, o_isi a1, Bool.false_eq_true]
    exact show_v (d := d) h
end EVL

/-! ## P29 -/
set_option maxRecDepth 10000
set_option maxHeartbeats 800000
namespace EVL
open PySem L2 EV
/-- a text, then the others, each with a space ahead -/
def glue (x : Str) (ps : List Str) : Str := ps.foldl (fun acc p => (acc ++ (" " : Str)) ++ p) x
theorem join_glue (x : Str) (ps : List Str) : Txt.join " " (x :: ps) = glue x ps := by
  show (⟨List.foldl (fun acc p => acc ++ (" " : Str).cps ++ p.cps) x.cps ps⟩ : Str) = _
  induction ps generalizing x with
  | nil => rfl
  | cons p ps ih => exact ih ((x ++ (" " : Str)) ++ p)
theorem glue_snoc (x p : Str) (ps : List Str) : glue x (ps ++ [p]) = (glue x ps ++ (" " : Str)) ++ p := by
  unfold glue
  rw [List.foldl_append]
  rfl
theorem glue_len {x : Str} : ∀ {ps : List Str} {A : Nat}, x.length ≤ A → (∀ p ∈ ps, p.length ≤ 300) → (glue x ps).length ≤ A + 301 * ps.length := by
  intro ps
  induction ps generalizing x with
  | nil => intro A h _; exact h
  | cons p ps ih =>
    intro A h hp
    have h1 := hp p List.mem_cons_self
    have q := ih (x := (x ++ (" " : Str)) ++ p) (A := A + 301) (by rw [len_app, len_app, sp_len]; omega) fun q hq => hp q (List.mem_cons_of_mem _ hq)
    show (glue ((x ++ (" " : Str)) ++ p) ps).length ≤ _
    rw [List.length_cons]
    omega
/-- a statement's text -/
def sayT (z : Str) (ps : List Val) : Str := glue z (ps.map partT)
theorem word_len {z : Str} {w : Val} (h : tab_SHAPES.lookup z = some w) : z.length ≤ 10 := by
  have mem : ∀ L : List (Str × Val), L.lookup z = some w → ∃ q ∈ L, q.1 = z := by
    intro L
    induction L with
    | nil => intro h; cases h
    | cons q L ih =>
      intro h
      rw [List.lookup_cons] at h
      by_cases e : z == q.1
      · exact ⟨q, List.mem_cons_self, (eq_of_beq e).symm⟩
      · rw [Bool.not_eq_true] at e
        rw [e] at h
        obtain ⟨r, hr, er⟩ := ih h
        exact ⟨r, List.mem_cons_of_mem _ hr, er⟩
  obtain ⟨q, hq, rfl⟩ := mem _ h
  have all : ∀ q ∈ tab_SHAPES, q.1.length ≤ 10 := by decide +kernel
  exact all q hq
/-- what a statement is for its text -/
def SayP (v : Val) : Prop := ∃ (z : Str) (ps : List Val), v = .tup (.str z :: ps) ∧ z.length ≤ 10 ∧ ps.length ≤ 10 ∧ ∀ p ∈ ps, Piece p
theorem say_p {v : Val} (h : Say 200 v) : SayP v := by
  obtain ⟨z, ks, ps, rfl, ht, hl, hk, hp⟩ := h
  refine ⟨z, ps, rfl, word_len ht, by omega, fun p hm => ?_⟩
  obtain ⟨i, hi⟩ := List.getElem?_of_mem hm
  have hlt := (List.getElem?_eq_some_iff.mp hi).1
  exact piece_of (hp i p _ hi (List.getElem?_eq_getElem (by omega : i < ks.length)))
theorem pieces_len {ps : List Val} (h : ∀ p ∈ ps, Piece p) : ∀ q ∈ ps.map partT, q.length ≤ 300 := fun q hq => by
  obtain ⟨p, hp, rfl⟩ := List.mem_map.mp hq
  exact piece_len (h p hp)
theorem sum_len : ∀ {zs : List Str}, (∀ z ∈ zs, z.length ≤ 300) → (zs.map (·.length)).sum ≤ 300 * zs.length
  | [], _ => Nat.le_refl _
  | z :: zs, h => by
    have h1 := h z List.mem_cons_self
    have h2 := sum_len (zs := zs) fun q hq => h q (List.mem_cons_of_mem _ hq)
    rw [List.map_cons, List.sum_cons, List.length_cons]
    omega
theorem show_ok {d : Nat} {s : Store} {z : Str} {ps : List Val} (hz : z.length ≤ 10) (hl : ps.length ≤ 10) (hp : ∀ p ∈ ps, Piece p) :
    wr (clN (d + 5) id_show_saying [.tup (.str z :: ps)] s) (fun u s' => u = .str (sayT z ps) ∧ s <+: s') noX := by
  show wr (runB (clN (d + 4)) 2 b_show_saying [.tup (.str z :: ps)] s) _ noX
  unfold b_show_saying
  have hr : rcv .join (.str (" " : Str)) s = true := rfl
  have hall : ∀ p ∈ (Val.str z :: ps), Piece p := fun p h => by
    rcases List.mem_cons.mp h with rfl | h
    · exact .str hz
    · exact hp p h
  rw [w_run, w_one, w_ret, w_mth, w_con, if_pos hr, w_cons, w_lc, w_iex, w_var (v := .tup (.str z :: ps)) rfl, wr_ok, show wkOf s (.tup (Val.str z :: ps)) = some (.tup (.str z :: ps)) from rfl, wr_ok]
  refine lc_of (w := .tup (.str z :: ps)) (n := ps.length + 1) rfl (fun i s' acc => acc = (((Val.str z :: ps).take i).map partT).map .str ∧ s <+: s' ∧ mutAt s' s.length = some acc) ?_ ?_ (ps.length + 1) 0 _ [] (Nat.zero_add _) ⟨rfl, pre_app pre_rfl _, mut_new⟩
  · rintro i s' _ hi ⟨rfl, pre, hm⟩
    have hi' : i < (Val.str z :: ps).length := hi
    have hv : (Val.str z :: ps)[i]? = some ((Val.str z :: ps)[i]'hi') := List.getElem?_eq_getElem hi'
    refine ⟨_, _, hv, give_nm, ?_⟩
    unfold x_show_saying_0
    simp only [w_varM, w_con, w_bin, w_neg, w_not, w_and, w_or, w_cmp, w_chain, w_ife, w_call, w_callp, w_star, w_blt, w_mth, w_idx, w_slc, w_lst, w_tup, w_tab, w_tin, w_dnew, w_rev, w_lc, w_lsc, w_dc, w_disp, w_get, w_fld, w_mk, w_meth, w_prop, w_nil, w_cons, w_onone, w_osome, w_tnone, w_tsome, w_tnot, w_tand, w_tor, w_tval, w_iex, w_irng1, w_irng2, w_irng3, w_izip, w_run, w_snil, w_scons, w_set, w_unp, w_seti, w_setf, w_exp, w_ret, w_retn, w_pass, w_ifs, w_loop, w_rais, w_try, wr_ok, wr_some, wr_none, wr_stuck, wr_bind, wr_quiet, wr_lift_ite, wr_ite, wo_ite, wo_next, wo_ret, wo_brk, wo_cnt, o_add, o_sub, o_mul, o_fdiv, o_mod, o_pow, o_neg, o_lt, o_le, o_gt, o_ge, o_eq, o_ne, o_eqs, o_nes, o_isB, o_notB, o_tbl, o_int, o_lst, decide_eq_true_eq, Bool.not_eq_true', decide_eq_false_iff_not, beq_iff_eq, List.map_cons, List.map_nil, List.length_cons, List.length_nil, List.replicate_succ, List.replicate_zero, List.cons_append, List.nil_append, List.getElem?_cons_zero, List.getElem?_cons_succ, List.set_cons_zero, List.set_cons_succ, Nat.reduceSub, Nat.reduceAdd, Nat.zero_add, Option.map_some, Option.map_none, c_na10, o_rng1, len_rng, len_lst, len_tup, Int.toNat_natCast, Int.reduceToNat, Int.reduceLE, Int.reduceLT, Nat.reducePow, Nat.reduceLT, and_self, if_true, if_false, ite_true, ite_false, true_and, and_true, reduceIte, wipeF]
    refine wr_imp (part_ok (d := d) (hall _ (List.getElem_mem hi'))) ?_
    rintro _ _ ⟨rfl, rfl⟩
    refine ⟨hm, by rw [List.length_map, List.length_map, List.length_take]; omega, ?_, pre_set pre (Nat.le_refl _), mut_set hm⟩
    rw [List.take_add_one, hv]
    simp only [List.map_append, List.map_cons, List.map_nil, Option.toList]
  · rintro s' _ ⟨rfl, pre, hm⟩
    refine ⟨rfl, ?_⟩
    rw [List.take_of_length_le (Nat.le_of_eq (show (Val.str z :: ps).length = ps.length + 1 from rfl))] at hm
    have hs : ∀ q ∈ (Val.str z :: ps).map partT, q.length ≤ 300 := pieces_len hall
    rw [w_nil, o_join (mut_lst hm) ?_, wr_some]
    · refine ⟨?_, pre⟩
      rw [List.map_cons, show partT (.str z) = z from rfl, join_glue]
      rfl
    · have h1 := sum_len hs
      rw [List.length_map, List.length_cons] at *
      rw [sp_len]
      omega
theorem text_ok {d : Nat} {s : Store} {z : Str} {ps : List Val} (hz : z.length ≤ 10) (hl : ps.length ≤ 10) (hp : ∀ p ∈ ps, Piece p) :
    wr (clN (d + 4) id__law_saying_text [.tup (.str z :: ps)] s) (fun u s' => u = .str (sayT z ps) ∧ s = s') noX := by
  show wr (runB (clN (d + 3)) 3 b__law_saying_text [.tup (.str z :: ps)] s) _ noX
  unfold b__law_saying_text
  have sl : slcV (.tup (.str z :: ps)) (some 1) none s = some (.tup ps, s) := by rw [o_tslc, cut_1]
  rw [w_run]
  refine w_cut (fun ρ s' => s = s' ∧ ρ = [some (.tup (.str z :: ps)), some (.str z), none]) (by simp only [w_varM, w_con, w_bin, w_neg, w_not, w_and, w_or, w_cmp, w_chain, w_ife, w_call, w_callp, w_star, w_blt, w_mth, w_idx, w_slc, w_lst, w_tup, w_tab, w_tin, w_dnew, w_rev, w_lc, w_lsc, w_dc, w_disp, w_get, w_fld, w_mk, w_meth, w_prop, w_nil, w_cons, w_onone, w_osome, w_tnone, w_tsome, w_tnot, w_tand, w_tor, w_tval, w_iex, w_irng1, w_irng2, w_irng3, w_izip, w_run, w_snil, w_scons, w_set, w_unp, w_seti, w_setf, w_exp, w_ret, w_retn, w_pass, w_ifs, w_loop, w_rais, w_try, wr_ok, wr_some, wr_none, wr_stuck, wr_bind, wr_quiet, wr_lift_ite, wr_ite, wo_ite, wo_next, wo_ret, wo_brk, wo_cnt, o_add, o_sub, o_mul, o_fdiv, o_mod, o_pow, o_neg, o_lt, o_le, o_gt, o_ge, o_eq, o_ne, o_eqs, o_nes, o_isB, o_notB, o_tbl, o_int, o_lst, decide_eq_true_eq, Bool.not_eq_true', decide_eq_false_iff_not, beq_iff_eq, List.map_cons, List.map_nil, List.length_cons, List.length_nil, List.replicate_succ, List.replicate_zero, List.cons_append, List.nil_append, List.getElem?_cons_zero, List.getElem?_cons_succ, List.set_cons_zero, List.set_cons_succ, Nat.reduceSub, Nat.reduceAdd, Nat.zero_add, Option.map_some, Option.map_none, c_na10, o_rng1, len_rng, len_lst, len_tup, Int.toNat_natCast, Int.reduceToNat, Int.reduceLE, Int.reduceLT, Nat.reducePow, Nat.reduceLT, and_self, if_true, if_false, ite_true, ite_false, true_and, and_true, reduceIte, idx0]) ?_
  rintro _ _ ⟨rfl, rfl⟩
  refine w_cut (fun ρ s' => s = s' ∧ ∃ y, ρ = [some (.tup (.str z :: ps)), some (.str (sayT z ps)), y]) ?_ ?_
  · rw [w_loop, w_iex, w_slc, w_var (v := .tup (.str z :: ps)) rfl, wr_ok, w_osome, w_con, wr_ok, w_onone, sl, wr_some, show wkOf s (.tup ps) = some (.tup ps) from rfl, wr_ok]
    refine for_tup (fun i ρ s' => s = s' ∧ ∃ y, ρ = [some (.tup (.str z :: ps)), some (.str (glue z ((ps.take i).map partT))), y]) ⟨rfl, none, rfl⟩ ?_ ?_
    · rintro i v _ _ hv ⟨rfl, y, rfl⟩
      refine ⟨_, give_nm, ?_⟩
      have hP := hp v (List.mem_of_getElem? hv)
      have hil := (List.getElem?_eq_some_iff.mp hv).1
      have hgl : (glue z ((ps.take i).map partT)).length ≤ 4000 := by
        have q := glue_len (ps := (ps.take i).map partT) hz fun q hq => by
          obtain ⟨p, hp', rfl⟩ := List.mem_map.mp hq
          exact piece_len (hp p (List.mem_of_mem_take hp'))
        rw [List.length_map, List.length_take] at q
        omega
      have hvl := piece_len hP
      have en : (ps.take (i + 1)).map partT = (ps.take i).map partT ++ [partT v] := by
        rw [List.take_add_one, hv]
        simp only [List.map_append, List.map_cons, List.map_nil, Option.toList]
      rw [en, glue_snoc]
      generalize glue z ((ps.take i).map partT) = G at hgl
      have b1 : binV .add (.str G) (.str " ") s = some (.str (G ++ (" " : Str)), s) := b_add (by rw [sp_len]; omega)
      have b2 : binV .add (.str (G ++ (" " : Str))) (.str (partT v)) s = some (.str ((G ++ (" " : Str)) ++ partT v), s) := b_add (by rw [len_app, sp_len]; omega)
      unfold l__law_saying_text_0
      cases hP with
      | non =>
        have b2 : binV .add (.str (G ++ (" " : Str))) (.str "..") s = some (.str ((G ++ (" " : Str)) ++ partT .non), s) := b2
        simp only [w_varM, w_con, w_bin, w_neg, w_not, w_and, w_or, w_cmp, w_chain, w_ife, w_call, w_callp, w_star, w_blt, w_mth, w_idx, w_slc, w_lst, w_tup, w_tab, w_tin, w_dnew, w_rev, w_lc, w_lsc, w_dc, w_disp, w_get, w_fld, w_mk, w_meth, w_prop, w_nil, w_cons, w_onone, w_osome, w_tnone, w_tsome, w_tnot, w_tand, w_tor, w_tval, w_iex, w_irng1, w_irng2, w_irng3, w_izip, w_run, w_snil, w_scons, w_set, w_unp, w_seti, w_setf, w_exp, w_ret, w_retn, w_pass, w_ifs, w_loop, w_rais, w_try, wr_ok, wr_some, wr_none, wr_stuck, wr_bind, wr_quiet, wr_lift_ite, wr_ite, wo_ite, wo_next, wo_ret, wo_brk, wo_cnt, o_add, o_sub, o_mul, o_fdiv, o_mod, o_pow, o_neg, o_lt, o_le, o_gt, o_ge, o_eq, o_ne, o_eqs, o_nes, o_isB, o_notB, o_tbl, o_int, o_lst, decide_eq_true_eq, Bool.not_eq_true', decide_eq_false_iff_not, beq_iff_eq, List.map_cons, List.map_nil, List.length_cons, List.length_nil, List.replicate_succ, List.replicate_zero, List.cons_append, List.nil_append, List.getElem?_cons_zero, List.getElem?_cons_succ, List.set_cons_zero, List.set_cons_succ, Nat.reduceSub, Nat.reduceAdd, Nat.zero_add, Option.map_some, Option.map_none, c_na10, o_rng1, len_rng, len_lst, len_tup, Int.toNat_natCast, Int.reduceToNat, Int.reduceLE, Int.reduceLT, Nat.reducePow, Nat.reduceLT, and_self, if_true, if_false, ite_true, ite_false, true_and, and_true, reduceIte, b1, o_isn, b2]
        exact ⟨_, rfl⟩
      | @str x h =>
        have b2 : binV .add (.str (G ++ (" " : Str))) (.str x) s = some (.str ((G ++ (" " : Str)) ++ partT (.str x)), s) := b2
        have e1 : cmpV .isN (.str x) .non s = some false := rfl
        have e2 : bltV (.isi .str) [.str x] s = some (.bl true, s) := rfl
        simp only [w_varM, w_con, w_bin, w_neg, w_not, w_and, w_or, w_cmp, w_chain, w_ife, w_call, w_callp, w_star, w_blt, w_mth, w_idx, w_slc, w_lst, w_tup, w_tab, w_tin, w_dnew, w_rev, w_lc, w_lsc, w_dc, w_disp, w_get, w_fld, w_mk, w_meth, w_prop, w_nil, w_cons, w_onone, w_osome, w_tnone, w_tsome, w_tnot, w_tand, w_tor, w_tval, w_iex, w_irng1, w_irng2, w_irng3, w_izip, w_run, w_snil, w_scons, w_set, w_unp, w_seti, w_setf, w_exp, w_ret, w_retn, w_pass, w_ifs, w_loop, w_rais, w_try, wr_ok, wr_some, wr_none, wr_stuck, wr_bind, wr_quiet, wr_lift_ite, wr_ite, wo_ite, wo_next, wo_ret, wo_brk, wo_cnt, o_add, o_sub, o_mul, o_fdiv, o_mod, o_pow, o_neg, o_lt, o_le, o_gt, o_ge, o_eq, o_ne, o_eqs, o_nes, o_isB, o_notB, o_tbl, o_int, o_lst, decide_eq_true_eq, Bool.not_eq_true', decide_eq_false_iff_not, beq_iff_eq, List.map_cons, List.map_nil, List.length_cons, List.length_nil, List.replicate_succ, List.replicate_zero, List.cons_append, List.nil_append, List.getElem?_cons_zero, List.getElem?_cons_succ, List.set_cons_zero, List.set_cons_succ, Nat.reduceSub, Nat.reduceAdd, Nat.zero_add, Option.map_some, Option.map_none, c_na10, o_rng1, len_rng, len_lst, len_tup, Int.toNat_natCast, Int.reduceToNat, Int.reduceLE, Int.reduceLT, Nat.reducePow, Nat.reduceLT, and_self, if_true, if_false, ite_true, ite_false, true_and, and_true, reduceIte, b1, e1, e2, b2, Bool.false_eq_true]
        exact ⟨_, rfl⟩
      | @int k h =>
        have b2 : binV .add (.str (G ++ (" " : Str))) (.str (strI k)) s = some (.str ((G ++ (" " : Str)) ++ partT (.int k)), s) := b2
        have e1 : cmpV .isN (.int k) .non s = some false := rfl
        have e2 : bltV (.isi .str) [.int k] s = some (.bl false, s) := rfl
        have e3 : bltV (.isi .int) [.int k] s = some (.bl true, s) := rfl
        simp only [w_varM, w_con, w_bin, w_neg, w_not, w_and, w_or, w_cmp, w_chain, w_ife, w_call, w_callp, w_star, w_blt, w_mth, w_idx, w_slc, w_lst, w_tup, w_tab, w_tin, w_dnew, w_rev, w_lc, w_lsc, w_dc, w_disp, w_get, w_fld, w_mk, w_meth, w_prop, w_nil, w_cons, w_onone, w_osome, w_tnone, w_tsome, w_tnot, w_tand, w_tor, w_tval, w_iex, w_irng1, w_irng2, w_irng3, w_izip, w_run, w_snil, w_scons, w_set, w_unp, w_seti, w_setf, w_exp, w_ret, w_retn, w_pass, w_ifs, w_loop, w_rais, w_try, wr_ok, wr_some, wr_none, wr_stuck, wr_bind, wr_quiet, wr_lift_ite, wr_ite, wo_ite, wo_next, wo_ret, wo_brk, wo_cnt, o_add, o_sub, o_mul, o_fdiv, o_mod, o_pow, o_neg, o_lt, o_le, o_gt, o_ge, o_eq, o_ne, o_eqs, o_nes, o_isB, o_notB, o_tbl, o_int, o_lst, decide_eq_true_eq, Bool.not_eq_true', decide_eq_false_iff_not, beq_iff_eq, List.map_cons, List.map_nil, List.length_cons, List.length_nil, List.replicate_succ, List.replicate_zero, List.cons_append, List.nil_append, List.getElem?_cons_zero, List.getElem?_cons_succ, List.set_cons_zero, List.set_cons_succ, Nat.reduceSub, Nat.reduceAdd, Nat.zero_add, Option.map_some, Option.map_none, c_na10, o_rng1, len_rng, len_lst, len_tup, Int.toNat_natCast, Int.reduceToNat, Int.reduceLE, Int.reduceLT, Nat.reducePow, Nat.reduceLT, and_self, if_true, if_false, ite_true, ite_false, true_and, and_true, reduceIte, b1, e1, e2, e3, o_str h, b2, Bool.false_eq_true]
        exact ⟨_, rfl⟩
      | trm h =>
        obtain ⟨a1, a2, a3, a4⟩ := v_isi h s
        simp only [w_varM, w_con, w_bin, w_neg, w_not, w_and, w_or, w_cmp, w_chain, w_ife, w_call, w_callp, w_star, w_blt, w_mth, w_idx, w_slc, w_lst, w_tup, w_tab, w_tin, w_dnew, w_rev, w_lc, w_lsc, w_dc, w_disp, w_get, w_fld, w_mk, w_meth, w_prop, w_nil, w_cons, w_onone, w_osome, w_tnone, w_tsome, w_tnot, w_tand, w_tor, w_tval, w_iex, w_irng1, w_irng2, w_irng3, w_izip, w_run, w_snil, w_scons, w_set, w_unp, w_seti, w_setf, w_exp, w_ret, w_retn, w_pass, w_ifs, w_loop, w_rais, w_try, wr_ok, wr_some, wr_none, wr_stuck, wr_bind, wr_quiet, wr_lift_ite, wr_ite, wo_ite, wo_next, wo_ret, wo_brk, wo_cnt, o_add, o_sub, o_mul, o_fdiv, o_mod, o_pow, o_neg, o_lt, o_le, o_gt, o_ge, o_eq, o_ne, o_eqs, o_nes, o_isB, o_notB, o_tbl, o_int, o_lst, decide_eq_true_eq, Bool.not_eq_true', decide_eq_false_iff_not, beq_iff_eq, List.map_cons, List.map_nil, List.length_cons, List.length_nil, List.replicate_succ, List.replicate_zero, List.cons_append, List.nil_append, List.getElem?_cons_zero, List.getElem?_cons_succ, List.set_cons_zero, List.set_cons_succ, Nat.reduceSub, Nat.reduceAdd, Nat.zero_add, Option.map_some, Option.map_none, c_na10, o_rng1, len_rng, len_lst, len_tup, Int.toNat_natCast, Int.reduceToNat, Int.reduceLE, Int.reduceLT, Nat.reducePow, Nat.reduceLT, and_self, if_true, if_false, ite_true, ite_false, true_and, and_true, reduceIte, b1, a4, o_isi a2, o_isi a3, Bool.false_eq_true]
        refine wr_imp (term_v (d := d) h) ?_
        rintro _ _ ⟨rfl, rfl⟩
        simp only [w_varM, w_con, w_bin, w_neg, w_not, w_and, w_or, w_cmp, w_chain, w_ife, w_call, w_callp, w_star, w_blt, w_mth, w_idx, w_slc, w_lst, w_tup, w_tab, w_tin, w_dnew, w_rev, w_lc, w_lsc, w_dc, w_disp, w_get, w_fld, w_mk, w_meth, w_prop, w_nil, w_cons, w_onone, w_osome, w_tnone, w_tsome, w_tnot, w_tand, w_tor, w_tval, w_iex, w_irng1, w_irng2, w_irng3, w_izip, w_run, w_snil, w_scons, w_set, w_unp, w_seti, w_setf, w_exp, w_ret, w_retn, w_pass, w_ifs, w_loop, w_rais, w_try, wr_ok, wr_some, wr_none, wr_stuck, wr_bind, wr_quiet, wr_lift_ite, wr_ite, wo_ite, wo_next, wo_ret, wo_brk, wo_cnt, o_add, o_sub, o_mul, o_fdiv, o_mod, o_pow, o_neg, o_lt, o_le, o_gt, o_ge, o_eq, o_ne, o_eqs, o_nes, o_isB, o_notB, o_tbl, o_int, o_lst, decide_eq_true_eq, Bool.not_eq_true', decide_eq_false_iff_not, beq_iff_eq, List.map_cons, List.map_nil, List.length_cons, List.length_nil, List.replicate_succ, List.replicate_zero, List.cons_append, List.nil_append, List.getElem?_cons_zero, List.getElem?_cons_succ, List.set_cons_zero, List.set_cons_succ, Nat.reduceSub, Nat.reduceAdd, Nat.zero_add, Option.map_some, Option.map_none, c_na10, o_rng1, len_rng, len_lst, len_tup, Int.toNat_natCast, Int.reduceToNat, Int.reduceLE, Int.reduceLT, Nat.reducePow, Nat.reduceLT, and_self, if_true, if_false, ite_true, ite_false, true_and, and_true, reduceIte, b2]
        exact ⟨_, rfl⟩
    · rintro _ _ ⟨rfl, y, rfl⟩
      rw [List.take_of_length_le (Nat.le_refl _)]
      exact ⟨rfl, y, rfl⟩
  rintro _ _ ⟨rfl, y, rfl⟩
  simp only [w_varM, w_con, w_bin, w_neg, w_not, w_and, w_or, w_cmp, w_chain, w_ife, w_call, w_callp, w_star, w_blt, w_mth, w_idx, w_slc, w_lst, w_tup, w_tab, w_tin, w_dnew, w_rev, w_lc, w_lsc, w_dc, w_disp, w_get, w_fld, w_mk, w_meth, w_prop, w_nil, w_cons, w_onone, w_osome, w_tnone, w_tsome, w_tnot, w_tand, w_tor, w_tval, w_iex, w_irng1, w_irng2, w_irng3, w_izip, w_run, w_snil, w_scons, w_set, w_unp, w_seti, w_setf, w_exp, w_ret, w_retn, w_pass, w_ifs, w_loop, w_rais, w_try, wr_ok, wr_some, wr_none, wr_stuck, wr_bind, wr_quiet, wr_lift_ite, wr_ite, wo_ite, wo_next, wo_ret, wo_brk, wo_cnt, o_add, o_sub, o_mul, o_fdiv, o_mod, o_pow, o_neg, o_lt, o_le, o_gt, o_ge, o_eq, o_ne, o_eqs, o_nes, o_isB, o_notB, o_tbl, o_int, o_lst, decide_eq_true_eq, Bool.not_eq_true', decide_eq_false_iff_not, beq_iff_eq, List.map_cons, List.map_nil, List.length_cons, List.length_nil, List.replicate_succ, List.replicate_zero, List.cons_append, List.nil_append, List.getElem?_cons_zero, List.getElem?_cons_succ, List.set_cons_zero, List.set_cons_succ, Nat.reduceSub, Nat.reduceAdd, Nat.zero_add, Option.map_some, Option.map_none, c_na10, o_rng1, len_rng, len_lst, len_tup, Int.toNat_natCast, Int.reduceToNat, Int.reduceLE, Int.reduceLT, Nat.reducePow, Nat.reduceLT, and_self, if_true, if_false, ite_true, ite_false, true_and, and_true, reduceIte]
end EVL

/-! ## P30 -/
set_option maxRecDepth 10000
set_option maxHeartbeats 800000
namespace EVL
open PySem L2 EV
theorem part_mono {k : Str} {v : Val} (h : Part 10 k v) : Part 200 k v := by
  have hp : ∀ {v : Val}, Plain 10 v → Plain 200 v := fun {v} ⟨x, k, e, hx, hk⟩ => ⟨x, k, e, hx, hk.mono (by decide)⟩
  rcases h with h | ⟨e, h⟩ | ⟨e, h⟩ | ⟨e, h⟩ | ⟨e, i, e2, h⟩
  · exact .inl h
  · refine .inr (.inl ⟨e, ?_⟩)
    rcases h with h | ⟨a, p, k, e2, ha, hpp, hk⟩
    · exact .inl (hp h)
    · exact .inr ⟨a, p, k, e2, ha, hp hpp, hk.mono (by decide)⟩
  · exact .inr (.inr (.inl ⟨e, hp h⟩))
  · exact .inr (.inr (.inr (.inl ⟨e, h.imp id hp⟩)))
  · exact .inr (.inr (.inr (.inr ⟨e, i, e2, h.mono (by decide)⟩)))
theorem say_mono {v : Val} (h : Say 10 v) : Say 200 v := by
  obtain ⟨z, ks, ps, e, ht, hl, hk, hp⟩ := h
  exact ⟨z, ks, ps, e, ht, hl, hk, fun i p k h1 h2 => part_mono (hp i p k h1 h2)⟩
theorem parts_mono {s s' : Store} {v : Val} (p : s <+: s') : Parts s v → Parts s' v := fun ⟨a, b, c, e, h1, h2, h3⟩ => ⟨a, b, c, e, h1.mono p, h2.mono p, h3.mono p⟩
abbrev lawF (v sc a b c d e f g : Option Val) : Fr := [some (.ref 0), v, sc, a, b, c, d, e, f, g]
/-- the same term without its number -/
theorem flat_v {s : Store} {v : Val} (h : VTerm 200 v) : ∃ vs, v = .tup vs ∧ ∃ u, VTerm 200 u ∧ slcV v none (some (-1)) s = some (.tup vs.dropLast, s) ∧ binV .add (.tup vs.dropLast) (.tup [.int 0]) s = some (u, s) := by
  rcases h with ⟨x, k, rfl, hx, hk⟩ | ⟨a, p, k, rfl, ha, hp, hk⟩
  · exact ⟨_, rfl, .tup [.str x, .int 0], .inl ⟨x, 0, rfl, hx, sm0 _⟩, rfl, rfl⟩
  · exact ⟨_, rfl, .tup [.str a, p, .int 0], .inr ⟨a, p, 0, rfl, ha, hp, sm0 _⟩, rfl, rfl⟩
theorem flat_str (x : Str) : Pur 3 (.str x) := .inl rfl
theorem part_turn {s : Store} {y v : Val} {V S A B C E F G : Option Val} {En0 : En} (hv : Piece v)
    (hN : ∀ d e f s', s <+: s' → En0.nx (lawF V S A B C (some v) d e f) s') : wo (EV.exs (clN 30) l_law_0 (lawF V S A B C (some v) E F G) s) En0 := by
  unfold l_law_0
  have other : isiV .tuple s v = some false → wo (EV.exs (clN 30) [(.ite (.val (.blt (.isi .tuple) (.cons (.var 6) .nil))) [(.set 7 (.bin .add (.slc (.var 6) .none (.some (.neg (.con (.int 1))))) (.tup (.cons (.con (.int 0)) .nil)))), (.set 8 (.lst (.cons (.call 1 (.cons (.var 6) .nil)) (.cons (.call 1 (.cons (.var 7) .nil)) (.cons (.call 1 (.cons (.var 6) .nil)) .nil))))), (.set 9 (.call 17 (.cons (.var 6) .nil))), (.ite (.not (.val (.call 7 (.cons (.var 8) (.cons (.lst (.cons (.var 9) (.cons (.call 17 (.cons (.var 7) .nil)) (.cons (.var 9) .nil)))) .nil))))) [(.ret (.con (.bl false)))] [])] [])] (lawF V S A B C (some v) E F G) s) En0 := by
    intro h
    simp only [w_varM, w_con, w_bin, w_neg, w_not, w_and, w_or, w_cmp, w_chain, w_ife, w_call, w_callp, w_star, w_blt, w_mth, w_idx, w_slc, w_lst, w_tup, w_tab, w_tin, w_dnew, w_rev, w_lc, w_lsc, w_dc, w_disp, w_get, w_fld, w_mk, w_meth, w_prop, w_nil, w_cons, w_onone, w_osome, w_tnone, w_tsome, w_tnot, w_tand, w_tor, w_tval, w_iex, w_irng1, w_irng2, w_irng3, w_izip, w_run, w_snil, w_scons, w_set, w_unp, w_seti, w_setf, w_exp, w_ret, w_retn, w_pass, w_ifs, w_loop, w_rais, w_try, wr_ok, wr_some, wr_none, wr_stuck, wr_bind, wr_quiet, wr_lift_ite, wr_ite, wo_ite, wo_next, wo_ret, wo_brk, wo_cnt, o_add, o_sub, o_mul, o_fdiv, o_mod, o_pow, o_neg, o_lt, o_le, o_gt, o_ge, o_eq, o_ne, o_eqs, o_nes, o_isB, o_notB, o_tbl, o_int, o_lst, decide_eq_true_eq, Bool.not_eq_true', decide_eq_false_iff_not, beq_iff_eq, List.map_cons, List.map_nil, List.length_cons, List.length_nil, List.replicate_succ, List.replicate_zero, List.cons_append, List.nil_append, List.getElem?_cons_zero, List.getElem?_cons_succ, List.set_cons_zero, List.set_cons_succ, Nat.reduceSub, Nat.reduceAdd, Nat.zero_add, Option.map_some, Option.map_none, c_na10, o_rng1, len_rng, len_lst, len_tup, Int.toNat_natCast, Int.reduceToNat, Int.reduceLE, Int.reduceLT, Nat.reducePow, Nat.reduceLT, and_self, if_true, if_false, ite_true, ite_false, true_and, and_true, reduceIte, o_isi h, Bool.false_eq_true]
    exact hN _ _ _ _ pre_rfl
  have tup : VTerm 200 v → wo (EV.exs (clN 30) [(.ite (.val (.blt (.isi .tuple) (.cons (.var 6) .nil))) [(.set 7 (.bin .add (.slc (.var 6) .none (.some (.neg (.con (.int 1))))) (.tup (.cons (.con (.int 0)) .nil)))), (.set 8 (.lst (.cons (.call 1 (.cons (.var 6) .nil)) (.cons (.call 1 (.cons (.var 7) .nil)) (.cons (.call 1 (.cons (.var 6) .nil)) .nil))))), (.set 9 (.call 17 (.cons (.var 6) .nil))), (.ite (.not (.val (.call 7 (.cons (.var 8) (.cons (.lst (.cons (.var 9) (.cons (.call 17 (.cons (.var 7) .nil)) (.cons (.var 9) .nil)))) .nil))))) [(.ret (.con (.bl false)))] [])] [])] (lawF V S A B C (some v) E F G) s) En0 := by
    intro h
    obtain ⟨a1, a2, a3, a4⟩ := v_isi h s
    obtain ⟨vs, ev, u, hu, h1, h2⟩ := flat_v (s := s) h
    have l1 : lineOk 1 = true := by decide
    have l3 : lineOk 3 = true := by decide
    have nn : negV (.int 1) = some (.int (-1)) := rfl
    simp only [w_varM, w_con, w_bin, w_neg, w_not, w_and, w_or, w_cmp, w_chain, w_ife, w_call, w_callp, w_star, w_blt, w_mth, w_idx, w_slc, w_lst, w_tup, w_tab, w_tin, w_dnew, w_rev, w_lc, w_lsc, w_dc, w_disp, w_get, w_fld, w_mk, w_meth, w_prop, w_nil, w_cons, w_onone, w_osome, w_tnone, w_tsome, w_tnot, w_tand, w_tor, w_tval, w_iex, w_irng1, w_irng2, w_irng3, w_izip, w_run, w_snil, w_scons, w_set, w_unp, w_seti, w_setf, w_exp, w_ret, w_retn, w_pass, w_ifs, w_loop, w_rais, w_try, wr_ok, wr_some, wr_none, wr_stuck, wr_bind, wr_quiet, wr_lift_ite, wr_ite, wo_ite, wo_next, wo_ret, wo_brk, wo_cnt, o_add, o_sub, o_mul, o_fdiv, o_mod, o_pow, o_neg, o_lt, o_le, o_gt, o_ge, o_eq, o_ne, o_eqs, o_nes, o_isB, o_notB, o_tbl, o_int, o_lst, decide_eq_true_eq, Bool.not_eq_true', decide_eq_false_iff_not, beq_iff_eq, List.map_cons, List.map_nil, List.length_cons, List.length_nil, List.replicate_succ, List.replicate_zero, List.cons_append, List.nil_append, List.getElem?_cons_zero, List.getElem?_cons_succ, List.set_cons_zero, List.set_cons_succ, Nat.reduceSub, Nat.reduceAdd, Nat.zero_add, Option.map_some, Option.map_none, c_na10, o_rng1, len_rng, len_lst, len_tup, Int.toNat_natCast, Int.reduceToNat, Int.reduceLE, Int.reduceLT, Nat.reducePow, Nat.reduceLT, and_self, if_true, if_false, ite_true, ite_false, true_and, and_true, reduceIte, o_isi a1, nn, h1, l1, h2]
    refine wr_imp (show_v (d := 27) h) ?_
    rintro _ _ ⟨rfl, rfl⟩
    refine wr_imp (show_v (d := 27) hu) ?_
    rintro _ _ ⟨rfl, rfl⟩
    refine wr_imp (show_v (d := 27) h) ?_
    rintro _ _ ⟨rfl, rfl⟩
    simp only [w_varM, w_con, w_bin, w_neg, w_not, w_and, w_or, w_cmp, w_chain, w_ife, w_call, w_callp, w_star, w_blt, w_mth, w_idx, w_slc, w_lst, w_tup, w_tab, w_tin, w_dnew, w_rev, w_lc, w_lsc, w_dc, w_disp, w_get, w_fld, w_mk, w_meth, w_prop, w_nil, w_cons, w_onone, w_osome, w_tnone, w_tsome, w_tnot, w_tand, w_tor, w_tval, w_iex, w_irng1, w_irng2, w_irng3, w_izip, w_run, w_snil, w_scons, w_set, w_unp, w_seti, w_setf, w_exp, w_ret, w_retn, w_pass, w_ifs, w_loop, w_rais, w_try, wr_ok, wr_some, wr_none, wr_stuck, wr_bind, wr_quiet, wr_lift_ite, wr_ite, wo_ite, wo_next, wo_ret, wo_brk, wo_cnt, o_add, o_sub, o_mul, o_fdiv, o_mod, o_pow, o_neg, o_lt, o_le, o_gt, o_ge, o_eq, o_ne, o_eqs, o_nes, o_isB, o_notB, o_tbl, o_int, o_lst, decide_eq_true_eq, Bool.not_eq_true', decide_eq_false_iff_not, beq_iff_eq, List.map_cons, List.map_nil, List.length_cons, List.length_nil, List.replicate_succ, List.replicate_zero, List.cons_append, List.nil_append, List.getElem?_cons_zero, List.getElem?_cons_succ, List.set_cons_zero, List.set_cons_succ, Nat.reduceSub, Nat.reduceAdd, Nat.zero_add, Option.map_some, Option.map_none, c_na10, o_rng1, len_rng, len_lst, len_tup, Int.toNat_natCast, Int.reduceToNat, Int.reduceLE, Int.reduceLT, Nat.reducePow, Nat.reduceLT, and_self, if_true, if_false, ite_true, ite_false, true_and, and_true, reduceIte, l3]
    generalize hs1 : s ++ [Ob.lst [Val.str (partT v), Val.str (partT u), Val.str (partT v)]] = s1
    have m1 : mutAt s1 s.length = some [Val.str (partT v), Val.str (partT u), Val.str (partT v)] := by rw [← hs1]; exact mut_new
    have p1 : s <+: s1 := by rw [← hs1]; exact pre_app pre_rfl _
    refine wr_imp (term_v (d := 27) h) ?_
    rintro _ _ ⟨rfl, rfl⟩
    refine wr_imp (term_v (d := 27) hu) ?_
    rintro _ _ ⟨rfl, rfl⟩
    refine wr_imp (same_row (d := 25) (row := [Val.str (partT v), Val.str (partT u), Val.str (partT v)]) (mut_pre (pre_app pre_rfl _) m1) mut_new (show 3 ≤ 100 by decide) (by
      intro w hw
      simp only [List.mem_cons, List.not_mem_nil, or_false] at hw
      rcases hw with rfl | rfl | rfl <;> exact flat_str _)) ?_
    rintro _ s2 ⟨rfl, pre2⟩
    simp only [w_varM, w_con, w_bin, w_neg, w_not, w_and, w_or, w_cmp, w_chain, w_ife, w_call, w_callp, w_star, w_blt, w_mth, w_idx, w_slc, w_lst, w_tup, w_tab, w_tin, w_dnew, w_rev, w_lc, w_lsc, w_dc, w_disp, w_get, w_fld, w_mk, w_meth, w_prop, w_nil, w_cons, w_onone, w_osome, w_tnone, w_tsome, w_tnot, w_tand, w_tor, w_tval, w_iex, w_irng1, w_irng2, w_irng3, w_izip, w_run, w_snil, w_scons, w_set, w_unp, w_seti, w_setf, w_exp, w_ret, w_retn, w_pass, w_ifs, w_loop, w_rais, w_try, wr_ok, wr_some, wr_none, wr_stuck, wr_bind, wr_quiet, wr_lift_ite, wr_ite, wo_ite, wo_next, wo_ret, wo_brk, wo_cnt, o_add, o_sub, o_mul, o_fdiv, o_mod, o_pow, o_neg, o_lt, o_le, o_gt, o_ge, o_eq, o_ne, o_eqs, o_nes, o_isB, o_notB, o_tbl, o_int, o_lst, decide_eq_true_eq, Bool.not_eq_true', decide_eq_false_iff_not, beq_iff_eq, List.map_cons, List.map_nil, List.length_cons, List.length_nil, List.replicate_succ, List.replicate_zero, List.cons_append, List.nil_append, List.getElem?_cons_zero, List.getElem?_cons_succ, List.set_cons_zero, List.set_cons_succ, Nat.reduceSub, Nat.reduceAdd, Nat.zero_add, Option.map_some, Option.map_none, c_na10, o_rng1, len_rng, len_lst, len_tup, Int.toNat_natCast, Int.reduceToNat, Int.reduceLE, Int.reduceLT, Nat.reducePow, Nat.reduceLT, and_self, if_true, if_false, ite_true, ite_false, true_and, and_true, reduceIte, Bool.not_true, Bool.false_eq_true]
    exact hN _ _ _ _ (p1.trans ((pre_app pre_rfl _).trans pre2))
  cases hv with
  | non => exact other rfl
  | str h => exact other rfl
  | int h => exact other rfl
  | trm h => exact tup h
theorem law_turn {s : Store} {ns : List Int} {v sc : Val} {p : Int} {b c d e f g : Option Val} {En0 : En} (hs : lstAt s 0 = some (ns.map .int)) (hp : 0 ≤ p) (hv : Parts s v) (hsc : Scale sc)
    (hN : ∀ a b c d e f g s', s <+: s' → En0.nx (lawF (some v) (some sc) a b c d e f g) s') : wo (EV.exs (clN 30) l_law_1 (lawF (some v) (some sc) (some (.int p)) b c d e f g) s) En0 := by
  unfold l_law_1
  refine w_cut (fun ρ s' => s <+: s' ∧ ∃ w, Say 10 w ∧ ρ = lawF (some v) (some sc) (some (.int p)) (some w) c d e f g) ?_ ?_
  · simp only [w_varM, w_con, w_bin, w_neg, w_not, w_and, w_or, w_cmp, w_chain, w_ife, w_call, w_callp, w_star, w_blt, w_mth, w_idx, w_slc, w_lst, w_tup, w_tab, w_tin, w_dnew, w_rev, w_lc, w_lsc, w_dc, w_disp, w_get, w_fld, w_mk, w_meth, w_prop, w_nil, w_cons, w_onone, w_osome, w_tnone, w_tsome, w_tnot, w_tand, w_tor, w_tval, w_iex, w_irng1, w_irng2, w_irng3, w_izip, w_run, w_snil, w_scons, w_set, w_unp, w_seti, w_setf, w_exp, w_ret, w_retn, w_pass, w_ifs, w_loop, w_rais, w_try, wr_ok, wr_some, wr_none, wr_stuck, wr_bind, wr_quiet, wr_lift_ite, wr_ite, wo_ite, wo_next, wo_ret, wo_brk, wo_cnt, o_add, o_sub, o_mul, o_fdiv, o_mod, o_pow, o_neg, o_lt, o_le, o_gt, o_ge, o_eq, o_ne, o_eqs, o_nes, o_isB, o_notB, o_tbl, o_int, o_lst, decide_eq_true_eq, Bool.not_eq_true', decide_eq_false_iff_not, beq_iff_eq, List.map_cons, List.map_nil, List.length_cons, List.length_nil, List.replicate_succ, List.replicate_zero, List.cons_append, List.nil_append, List.getElem?_cons_zero, List.getElem?_cons_succ, List.set_cons_zero, List.set_cons_succ, Nat.reduceSub, Nat.reduceAdd, Nat.zero_add, Option.map_some, Option.map_none, c_na10, o_rng1, len_rng, len_lst, len_tup, Int.toNat_natCast, Int.reduceToNat, Int.reduceLE, Int.reduceLT, Nat.reducePow, Nat.reduceLT, and_self, if_true, if_false, ite_true, ite_false, true_and, and_true, reduceIte]
    refine wr_imp (saying_ok (d := 27) hs hp hv) ?_
    rintro w s' ⟨pre, hw⟩
    exact ⟨pre, w, hw, rfl⟩
  rintro _ s1 ⟨pre1, w, hw, rfl⟩
  refine w_cut (fun ρ s' => s1 <+: s' ∧ ∃ w, Say 200 w ∧ ρ = lawF (some v) (some sc) (some (.int p)) (some w) c d e f g) ?_ ?_
  · have d2 : (0 : Int) < 2 := by decide
    simp only [w_varM, w_con, w_bin, w_neg, w_not, w_and, w_or, w_cmp, w_chain, w_ife, w_call, w_callp, w_star, w_blt, w_mth, w_idx, w_slc, w_lst, w_tup, w_tab, w_tin, w_dnew, w_rev, w_lc, w_lsc, w_dc, w_disp, w_get, w_fld, w_mk, w_meth, w_prop, w_nil, w_cons, w_onone, w_osome, w_tnone, w_tsome, w_tnot, w_tand, w_tor, w_tval, w_iex, w_irng1, w_irng2, w_irng3, w_izip, w_run, w_snil, w_scons, w_set, w_unp, w_seti, w_setf, w_exp, w_ret, w_retn, w_pass, w_ifs, w_loop, w_rais, w_try, wr_ok, wr_some, wr_none, wr_stuck, wr_bind, wr_quiet, wr_lift_ite, wr_ite, wo_ite, wo_next, wo_ret, wo_brk, wo_cnt, o_add, o_sub, o_mul, o_fdiv, o_mod, o_pow, o_neg, o_lt, o_le, o_gt, o_ge, o_eq, o_ne, o_eqs, o_nes, o_isB, o_notB, o_tbl, o_int, o_lst, decide_eq_true_eq, Bool.not_eq_true', decide_eq_false_iff_not, beq_iff_eq, List.map_cons, List.map_nil, List.length_cons, List.length_nil, List.replicate_succ, List.replicate_zero, List.cons_append, List.nil_append, List.getElem?_cons_zero, List.getElem?_cons_succ, List.set_cons_zero, List.set_cons_succ, Nat.reduceSub, Nat.reduceAdd, Nat.zero_add, Option.map_some, Option.map_none, c_na10, o_rng1, len_rng, len_lst, len_tup, Int.toNat_natCast, Int.reduceToNat, Int.reduceLE, Int.reduceLT, Nat.reducePow, Nat.reduceLT, and_self, if_true, if_false, ite_true, ite_false, true_and, and_true, reduceIte, d2]
    split
    · refine wr_imp (scaled_ok (d := 27) hsc hw) ?_
      rintro w s' ⟨hw, pre⟩
      exact ⟨pre, w, hw, rfl⟩
    · exact ⟨pre_rfl, w, say_mono hw, rfl⟩
  clear hw w
  rintro _ s2 ⟨pre2, w, hw, rfl⟩
  obtain ⟨z, ps, rfl, hz, hl, hP⟩ := say_p hw
  refine w_cut (fun ρ s' => s2 = s' ∧ ρ = lawF (some v) (some sc) (some (.int p)) (some (.tup (.str z :: ps))) (some (.str (sayT z ps))) d e f g) ?_ ?_
  · simp only [w_varM, w_con, w_bin, w_neg, w_not, w_and, w_or, w_cmp, w_chain, w_ife, w_call, w_callp, w_star, w_blt, w_mth, w_idx, w_slc, w_lst, w_tup, w_tab, w_tin, w_dnew, w_rev, w_lc, w_lsc, w_dc, w_disp, w_get, w_fld, w_mk, w_meth, w_prop, w_nil, w_cons, w_onone, w_osome, w_tnone, w_tsome, w_tnot, w_tand, w_tor, w_tval, w_iex, w_irng1, w_irng2, w_irng3, w_izip, w_run, w_snil, w_scons, w_set, w_unp, w_seti, w_setf, w_exp, w_ret, w_retn, w_pass, w_ifs, w_loop, w_rais, w_try, wr_ok, wr_some, wr_none, wr_stuck, wr_bind, wr_quiet, wr_lift_ite, wr_ite, wo_ite, wo_next, wo_ret, wo_brk, wo_cnt, o_add, o_sub, o_mul, o_fdiv, o_mod, o_pow, o_neg, o_lt, o_le, o_gt, o_ge, o_eq, o_ne, o_eqs, o_nes, o_isB, o_notB, o_tbl, o_int, o_lst, decide_eq_true_eq, Bool.not_eq_true', decide_eq_false_iff_not, beq_iff_eq, List.map_cons, List.map_nil, List.length_cons, List.length_nil, List.replicate_succ, List.replicate_zero, List.cons_append, List.nil_append, List.getElem?_cons_zero, List.getElem?_cons_succ, List.set_cons_zero, List.set_cons_succ, Nat.reduceSub, Nat.reduceAdd, Nat.zero_add, Option.map_some, Option.map_none, c_na10, o_rng1, len_rng, len_lst, len_tup, Int.toNat_natCast, Int.reduceToNat, Int.reduceLE, Int.reduceLT, Nat.reducePow, Nat.reduceLT, and_self, if_true, if_false, ite_true, ite_false, true_and, and_true, reduceIte]
    refine wr_imp (text_ok (d := 26) hz hl hP) ?_
    rintro _ _ ⟨rfl, rfl⟩
    exact ⟨rfl, rfl⟩
  rintro _ _ ⟨rfl, rfl⟩
  have l2 : lineOk 2 = true := by decide
  refine w_cut (fun ρ s' => s2 <+: s' ∧ ρ = lawF (some v) (some sc) (some (.int p)) (some (.tup (.str z :: ps))) (some (.str (sayT z ps))) d e f g) ?_ ?_
  · simp only [w_varM, w_con, w_bin, w_neg, w_not, w_and, w_or, w_cmp, w_chain, w_ife, w_call, w_callp, w_star, w_blt, w_mth, w_idx, w_slc, w_lst, w_tup, w_tab, w_tin, w_dnew, w_rev, w_lc, w_lsc, w_dc, w_disp, w_get, w_fld, w_mk, w_meth, w_prop, w_nil, w_cons, w_onone, w_osome, w_tnone, w_tsome, w_tnot, w_tand, w_tor, w_tval, w_iex, w_irng1, w_irng2, w_irng3, w_izip, w_run, w_snil, w_scons, w_set, w_unp, w_seti, w_setf, w_exp, w_ret, w_retn, w_pass, w_ifs, w_loop, w_rais, w_try, wr_ok, wr_some, wr_none, wr_stuck, wr_bind, wr_quiet, wr_lift_ite, wr_ite, wo_ite, wo_next, wo_ret, wo_brk, wo_cnt, o_add, o_sub, o_mul, o_fdiv, o_mod, o_pow, o_neg, o_lt, o_le, o_gt, o_ge, o_eq, o_ne, o_eqs, o_nes, o_isB, o_notB, o_tbl, o_int, o_lst, decide_eq_true_eq, Bool.not_eq_true', decide_eq_false_iff_not, beq_iff_eq, List.map_cons, List.map_nil, List.length_cons, List.length_nil, List.replicate_succ, List.replicate_zero, List.cons_append, List.nil_append, List.getElem?_cons_zero, List.getElem?_cons_succ, List.set_cons_zero, List.set_cons_succ, Nat.reduceSub, Nat.reduceAdd, Nat.zero_add, Option.map_some, Option.map_none, c_na10, o_rng1, len_rng, len_lst, len_tup, Int.toNat_natCast, Int.reduceToNat, Int.reduceLE, Int.reduceLT, Nat.reducePow, Nat.reduceLT, and_self, if_true, if_false, ite_true, ite_false, true_and, and_true, reduceIte]
    refine wr_imp (show_ok (d := 25) hz hl hP) ?_
    rintro _ s3 ⟨rfl, pre3⟩
    refine wr_imp (show_ok (d := 25) hz hl hP) ?_
    rintro _ s4 ⟨rfl, pre4⟩
    simp only [w_varM, w_con, w_bin, w_neg, w_not, w_and, w_or, w_cmp, w_chain, w_ife, w_call, w_callp, w_star, w_blt, w_mth, w_idx, w_slc, w_lst, w_tup, w_tab, w_tin, w_dnew, w_rev, w_lc, w_lsc, w_dc, w_disp, w_get, w_fld, w_mk, w_meth, w_prop, w_nil, w_cons, w_onone, w_osome, w_tnone, w_tsome, w_tnot, w_tand, w_tor, w_tval, w_iex, w_irng1, w_irng2, w_irng3, w_izip, w_run, w_snil, w_scons, w_set, w_unp, w_seti, w_setf, w_exp, w_ret, w_retn, w_pass, w_ifs, w_loop, w_rais, w_try, wr_ok, wr_some, wr_none, wr_stuck, wr_bind, wr_quiet, wr_lift_ite, wr_ite, wo_ite, wo_next, wo_ret, wo_brk, wo_cnt, o_add, o_sub, o_mul, o_fdiv, o_mod, o_pow, o_neg, o_lt, o_le, o_gt, o_ge, o_eq, o_ne, o_eqs, o_nes, o_isB, o_notB, o_tbl, o_int, o_lst, decide_eq_true_eq, Bool.not_eq_true', decide_eq_false_iff_not, beq_iff_eq, List.map_cons, List.map_nil, List.length_cons, List.length_nil, List.replicate_succ, List.replicate_zero, List.cons_append, List.nil_append, List.getElem?_cons_zero, List.getElem?_cons_succ, List.set_cons_zero, List.set_cons_succ, Nat.reduceSub, Nat.reduceAdd, Nat.zero_add, Option.map_some, Option.map_none, c_na10, o_rng1, len_rng, len_lst, len_tup, Int.toNat_natCast, Int.reduceToNat, Int.reduceLE, Int.reduceLT, Nat.reducePow, Nat.reduceLT, and_self, if_true, if_false, ite_true, ite_false, true_and, and_true, reduceIte, l2]
    refine wr_imp (same_row (d := 25) (row := [Val.str (sayT z ps), Val.str (sayT z ps)]) (mut_pre (pre_app pre_rfl _) mut_new) mut_new (show 2 ≤ 100 by decide) (by
      intro w hw
      simp only [List.mem_cons, List.not_mem_nil, or_false] at hw
      rcases hw with rfl | rfl <;> exact flat_str _)) ?_
    rintro _ s5 ⟨rfl, pre5⟩
    simp only [w_varM, w_con, w_bin, w_neg, w_not, w_and, w_or, w_cmp, w_chain, w_ife, w_call, w_callp, w_star, w_blt, w_mth, w_idx, w_slc, w_lst, w_tup, w_tab, w_tin, w_dnew, w_rev, w_lc, w_lsc, w_dc, w_disp, w_get, w_fld, w_mk, w_meth, w_prop, w_nil, w_cons, w_onone, w_osome, w_tnone, w_tsome, w_tnot, w_tand, w_tor, w_tval, w_iex, w_irng1, w_irng2, w_irng3, w_izip, w_run, w_snil, w_scons, w_set, w_unp, w_seti, w_setf, w_exp, w_ret, w_retn, w_pass, w_ifs, w_loop, w_rais, w_try, wr_ok, wr_some, wr_none, wr_stuck, wr_bind, wr_quiet, wr_lift_ite, wr_ite, wo_ite, wo_next, wo_ret, wo_brk, wo_cnt, o_add, o_sub, o_mul, o_fdiv, o_mod, o_pow, o_neg, o_lt, o_le, o_gt, o_ge, o_eq, o_ne, o_eqs, o_nes, o_isB, o_notB, o_tbl, o_int, o_lst, decide_eq_true_eq, Bool.not_eq_true', decide_eq_false_iff_not, beq_iff_eq, List.map_cons, List.map_nil, List.length_cons, List.length_nil, List.replicate_succ, List.replicate_zero, List.cons_append, List.nil_append, List.getElem?_cons_zero, List.getElem?_cons_succ, List.set_cons_zero, List.set_cons_succ, Nat.reduceSub, Nat.reduceAdd, Nat.zero_add, Option.map_some, Option.map_none, c_na10, o_rng1, len_rng, len_lst, len_tup, Int.toNat_natCast, Int.reduceToNat, Int.reduceLE, Int.reduceLT, Nat.reducePow, Nat.reduceLT, and_self, if_true, if_false, ite_true, ite_false, true_and, and_true, reduceIte, Bool.not_true, Bool.false_eq_true]
    exact pre3.trans (pre4.trans ((pre_app (pre_app pre_rfl _) _).trans pre5))
  rintro _ s3 ⟨pre3, rfl⟩
  have sl : slcV (.tup (.str z :: ps)) (some 1) none s3 = some (.tup ps, s3) := by rw [o_tslc, cut_1]
  rw [w_one, w_loop, w_iex, w_slc, w_var (v := .tup (.str z :: ps)) rfl, wr_ok, w_osome, w_con, wr_ok, w_onone, sl, wr_some, show wkOf s3 (.tup ps) = some (.tup ps) from rfl, wr_ok]
  refine for_tup (fun i ρ s' => s3 <+: s' ∧ ∃ d e f g, ρ = lawF (some v) (some sc) (some (.int p)) (some (.tup (.str z :: ps))) (some (.str (sayT z ps))) d e f g) ⟨pre_rfl, _, _, _, _, rfl⟩ ?_ ?_
  · rintro i u _ s4 hu ⟨pre4, d, e, f, g, rfl⟩
    refine ⟨_, give_nm, ?_⟩
    exact part_turn (y := .non) (hP u (List.mem_of_getElem? hu)) fun d e f s' p' => ⟨pre4.trans p', _, _, _, _, rfl⟩
  · rintro _ s4 ⟨pre4, d, e, f, g, rfl⟩
    exact hN _ _ _ _ _ _ _ _ (pre1.trans (pre2.trans (pre3.trans pre4)))
theorem law_true (ns : List Int) (hn : ns.length ≤ 63) : ∃ st, clN 31 19 [.ref 0] [.fro (ns.map .int)] = .ok (.bl true) st := by
  have hs : lstAt [Ob.fro (ns.map .int)] 0 = some (ns.map .int) := rfl
  have key : wr (clN 31 19 [.ref 0] [.fro (ns.map .int)]) (fun v _ => v = .bl true) noX := by
    show wr (runB (clN 30) 10 b_law [.ref 0] [.fro (ns.map .int)]) _ noX
    unfold b_law
    generalize hst : [Ob.fro (ns.map .int)] = st at hs
    rw [w_run]
    refine w_cut (fun ρ s' => st <+: s' ∧ ∃ v, Parts s' v ∧ ρ = lawF (some v) none none none none none none none none) ?_ ?_
    · simp only [w_varM, w_con, w_bin, w_neg, w_not, w_and, w_or, w_cmp, w_chain, w_ife, w_call, w_callp, w_star, w_blt, w_mth, w_idx, w_slc, w_lst, w_tup, w_tab, w_tin, w_dnew, w_rev, w_lc, w_lsc, w_dc, w_disp, w_get, w_fld, w_mk, w_meth, w_prop, w_nil, w_cons, w_onone, w_osome, w_tnone, w_tsome, w_tnot, w_tand, w_tor, w_tval, w_iex, w_irng1, w_irng2, w_irng3, w_izip, w_run, w_snil, w_scons, w_set, w_unp, w_seti, w_setf, w_exp, w_ret, w_retn, w_pass, w_ifs, w_loop, w_rais, w_try, wr_ok, wr_some, wr_none, wr_stuck, wr_bind, wr_quiet, wr_lift_ite, wr_ite, wo_ite, wo_next, wo_ret, wo_brk, wo_cnt, o_add, o_sub, o_mul, o_fdiv, o_mod, o_pow, o_neg, o_lt, o_le, o_gt, o_ge, o_eq, o_ne, o_eqs, o_nes, o_isB, o_notB, o_tbl, o_int, o_lst, decide_eq_true_eq, Bool.not_eq_true', decide_eq_false_iff_not, beq_iff_eq, List.map_cons, List.map_nil, List.length_cons, List.length_nil, List.replicate_succ, List.replicate_zero, List.cons_append, List.nil_append, List.getElem?_cons_zero, List.getElem?_cons_succ, List.set_cons_zero, List.set_cons_succ, Nat.reduceSub, Nat.reduceAdd, Nat.zero_add, Option.map_some, Option.map_none, c_na10, o_rng1, len_rng, len_lst, len_tup, Int.toNat_natCast, Int.reduceToNat, Int.reduceLE, Int.reduceLT, Nat.reducePow, Nat.reduceLT, and_self, if_true, if_false, ite_true, ite_false, true_and, and_true, reduceIte]
      refine wr_imp (parts_ok (d := 26) hs (by decide)) ?_
      rintro v s' ⟨pre, hv⟩
      exact ⟨pre, v, hv, rfl⟩
    rintro _ s1 ⟨pre1, v, hv, rfl⟩
    refine w_cut (fun ρ s' => s1 <+: s' ∧ ∃ sc, Scale sc ∧ ρ = lawF (some v) (some sc) none none none none none none none) ?_ ?_
    · simp only [w_varM, w_con, w_bin, w_neg, w_not, w_and, w_or, w_cmp, w_chain, w_ife, w_call, w_callp, w_star, w_blt, w_mth, w_idx, w_slc, w_lst, w_tup, w_tab, w_tin, w_dnew, w_rev, w_lc, w_lsc, w_dc, w_disp, w_get, w_fld, w_mk, w_meth, w_prop, w_nil, w_cons, w_onone, w_osome, w_tnone, w_tsome, w_tnot, w_tand, w_tor, w_tval, w_iex, w_irng1, w_irng2, w_irng3, w_izip, w_run, w_snil, w_scons, w_set, w_unp, w_seti, w_setf, w_exp, w_ret, w_retn, w_pass, w_ifs, w_loop, w_rais, w_try, wr_ok, wr_some, wr_none, wr_stuck, wr_bind, wr_quiet, wr_lift_ite, wr_ite, wo_ite, wo_next, wo_ret, wo_brk, wo_cnt, o_add, o_sub, o_mul, o_fdiv, o_mod, o_pow, o_neg, o_lt, o_le, o_gt, o_ge, o_eq, o_ne, o_eqs, o_nes, o_isB, o_notB, o_tbl, o_int, o_lst, decide_eq_true_eq, Bool.not_eq_true', decide_eq_false_iff_not, beq_iff_eq, List.map_cons, List.map_nil, List.length_cons, List.length_nil, List.replicate_succ, List.replicate_zero, List.cons_append, List.nil_append, List.getElem?_cons_zero, List.getElem?_cons_succ, List.set_cons_zero, List.set_cons_succ, Nat.reduceSub, Nat.reduceAdd, Nat.zero_add, Option.map_some, Option.map_none, c_na10, o_rng1, len_rng, len_lst, len_tup, Int.toNat_natCast, Int.reduceToNat, Int.reduceLE, Int.reduceLT, Nat.reducePow, Nat.reduceLT, and_self, if_true, if_false, ite_true, ite_false, true_and, and_true, reduceIte]
      refine wr_imp (scale_ok (d := 26) (pre_lst pre1 hs) (by decide)) ?_
      rintro sc s' ⟨pre, h⟩
      exact ⟨pre, sc, h, rfl⟩
    rintro _ s3 ⟨pre2, sc, hsc, rfl⟩
    have hs3 := pre_lst (pre1.trans pre2) hs
    have hv3 := parts_mono pre2 hv
    have emin : ∀ s : Store, bltV .min [.int (ns.length : Int), .int 63] s = some (.int (if (63 : Int) < (ns.length : Int) then 63 else (ns.length : Int)), s) := fun _ => rfl
    have e1 : (if (63 : Int) < (ns.length : Int) then 63 else (ns.length : Int)) = (ns.length : Int) := if_neg (by omega)
    have emax : ∀ s : Store, bltV .max [.int 11, .int (ns.length : Int)] s = some (.int (if (ns.length : Int) > 11 then (ns.length : Int) else 11), s) := fun _ => rfl
    obtain ⟨J, hJ, hJ2⟩ : ∃ J : Int, (if (ns.length : Int) > 11 then (ns.length : Int) else 11) = J ∧ 0 ≤ J ∧ J < 100 := ⟨_, rfl, by split <;> omega, by split <;> omega⟩
    rw [hJ] at emax
    have r7 : rngOk 7 = true := by decide
    have rJ : rngOk J = true := rng_ok ⟨by omega, by omega⟩
    rw [w_scons, w_loop]
    simp only [w_varM, w_con, w_bin, w_neg, w_not, w_and, w_or, w_cmp, w_chain, w_ife, w_call, w_callp, w_star, w_blt, w_mth, w_idx, w_slc, w_lst, w_tup, w_tab, w_tin, w_dnew, w_rev, w_lc, w_lsc, w_dc, w_disp, w_get, w_fld, w_mk, w_meth, w_prop, w_nil, w_cons, w_onone, w_osome, w_tnone, w_tsome, w_tnot, w_tand, w_tor, w_tval, w_iex, w_irng1, w_irng2, w_irng3, w_izip, w_run, w_snil, w_scons, w_set, w_unp, w_seti, w_setf, w_exp, w_ret, w_retn, w_pass, w_ifs, w_loop, w_rais, w_try, wr_ok, wr_some, wr_none, wr_stuck, wr_bind, wr_quiet, wr_lift_ite, wr_ite, wo_ite, wo_next, wo_ret, wo_brk, wo_cnt, o_add, o_sub, o_mul, o_fdiv, o_mod, o_pow, o_neg, o_lt, o_le, o_gt, o_ge, o_eq, o_ne, o_eqs, o_nes, o_isB, o_notB, o_tbl, o_int, o_lst, decide_eq_true_eq, Bool.not_eq_true', decide_eq_false_iff_not, beq_iff_eq, List.map_cons, List.map_nil, List.length_cons, List.length_nil, List.replicate_succ, List.replicate_zero, List.cons_append, List.nil_append, List.getElem?_cons_zero, List.getElem?_cons_succ, List.set_cons_zero, List.set_cons_succ, Nat.reduceSub, Nat.reduceAdd, Nat.zero_add, Option.map_some, Option.map_none, c_na10, o_rng1, len_rng, len_lst, len_tup, Int.toNat_natCast, Int.reduceToNat, Int.reduceLE, Int.reduceLT, Nat.reducePow, Nat.reduceLT, and_self, if_true, if_false, ite_true, ite_false, true_and, and_true, reduceIte, o_len hs3, List.length_map, emin, e1, emax]
    rw [show (rngOk 7 && rngOk J) = true by rw [r7, rJ]; rfl, if_pos rfl]
    refine for_rng (fun i ρ s' => s3 <+: s' ∧ ∃ a b c d e f g, ρ = lawF (some v) (some sc) a b c d e f g) ⟨pre_rfl, _, _, _, _, _, _, _, rfl⟩ ?_ ?_
    · rintro i _ s4 hi ⟨pre, a, b, c, d, e, f, g, rfl⟩
      refine ⟨_, give_nm, ?_⟩
      exact law_turn (pre_lst pre hs3) (by omega) (parts_mono pre hv3) hsc fun a b c d e f g s' p' => ⟨pre.trans p', a, b, c, d, e, f, g, rfl⟩
    · rintro _ s4 ⟨pre, a, b, c, d, e, f, g, rfl⟩
      simp only [w_varM, w_con, w_bin, w_neg, w_not, w_and, w_or, w_cmp, w_chain, w_ife, w_call, w_callp, w_star, w_blt, w_mth, w_idx, w_slc, w_lst, w_tup, w_tab, w_tin, w_dnew, w_rev, w_lc, w_lsc, w_dc, w_disp, w_get, w_fld, w_mk, w_meth, w_prop, w_nil, w_cons, w_onone, w_osome, w_tnone, w_tsome, w_tnot, w_tand, w_tor, w_tval, w_iex, w_irng1, w_irng2, w_irng3, w_izip, w_run, w_snil, w_scons, w_set, w_unp, w_seti, w_setf, w_exp, w_ret, w_retn, w_pass, w_ifs, w_loop, w_rais, w_try, wr_ok, wr_some, wr_none, wr_stuck, wr_bind, wr_quiet, wr_lift_ite, wr_ite, wo_ite, wo_next, wo_ret, wo_brk, wo_cnt, o_add, o_sub, o_mul, o_fdiv, o_mod, o_pow, o_neg, o_lt, o_le, o_gt, o_ge, o_eq, o_ne, o_eqs, o_nes, o_isB, o_notB, o_tbl, o_int, o_lst, decide_eq_true_eq, Bool.not_eq_true', decide_eq_false_iff_not, beq_iff_eq, List.map_cons, List.map_nil, List.length_cons, List.length_nil, List.replicate_succ, List.replicate_zero, List.cons_append, List.nil_append, List.getElem?_cons_zero, List.getElem?_cons_succ, List.set_cons_zero, List.set_cons_succ, Nat.reduceSub, Nat.reduceAdd, Nat.zero_add, Option.map_some, Option.map_none, c_na10, o_rng1, len_rng, len_lst, len_tup, Int.toNat_natCast, Int.reduceToNat, Int.reduceLE, Int.reduceLT, Nat.reducePow, Nat.reduceLT, and_self, if_true, if_false, ite_true, ite_false, true_and, and_true, reduceIte]
  obtain ⟨v, st, e, rfl⟩ := wr_ex key
  exact ⟨st, e⟩
end EVL

/-! ## K75H -/
set_option maxRecDepth 100000
set_option maxHeartbeats 0
theorem EVL.law_room : L2.Room 33 PySem.callerA := ⟨rfl, by decide, by decide⟩
namespace EVL
open PySem L2 EV
abbrev R : PySem.W.OpenRow := PySem.W.OpenLaw.row PySem.Challenge.rw_allcells_k75_texts_of_terms_and_statemen
abbrev hk : PySem.W.Hook := He.hookX 6 fa fn ts [] ex
def ob (s : PySem.W.SharedT) : He.AlX := He.obsX 6 fa fn ts [] ex (HandSHeadRun.getT s)
theorem ob_eq (s : PySem.W.SharedT) : ob s = hk.obs s.abs := He.obsX_eq (HandSHeadRun.getT_eq s)
def loose : List Str := (["show_sum", "show_term", "show_part", "show_saying", "_law_figure", "_law_draws", "_law_long", "_law_same", "_law_names", "_law_row", "_law_parts", "_law_sums", "_law_saying", "_law_scale", "_law_scaled_term", "_law_scaled_saying", "_law_tail_text", "_law_term_text", "_law_saying_text"] : List Str)
theorem run (w : World) : HandSHeadRun.RunEq R (PySem.W.view R.prog [21]) hk ob 4000 loose w := by
  intro os
  kernel_rfl
end EVL
open PySem PySem.W PySem.Calls PyProof.Rows
theorem PySem.Challenge.cw_allcells_k75_texts_of_terms_and_statemen_holds : PySem.Challenge.rw_allcells_k75_texts_of_terms_and_statemen.Holds := by
  w_on; o_law
  refine HandSHeadRun.head_any (r := OpenLaw.row PySem.Challenge.rw_allcells_k75_texts_of_terms_and_statemen) (q := view (OpenLaw.row PySem.Challenge.rw_allcells_k75_texts_of_terms_and_statemen).prog [21]) (H := EVL.hk) (ob := EVL.ob) (M := 4000) (loose := EVL.loose) (d := HandSHeadRun.topDef (OpenLaw.row PySem.Challenge.rw_allcells_k75_texts_of_terms_and_statemen).prog 21) (kwd := []) EVL.ob_eq
    (by kernel_rfl) (fun s => by kernel_rfl) EVL.run (by kernel_rfl) (by kernel_rfl) (by kernel_rfl) (by rfl) (by first | assumption | decide +kernel) (by decide +kernel) ⟨rfl, rfl, rfl, rfl, rfl, by decide +kernel⟩ ?hw ?hc
  case hw => w_witness2
  case hc =>
    refine EV.law_end (l := PySem.Challenge.rw_allcells_k75_texts_of_terms_and_statemen) (n := 63) (k := 33) (x := ("_law_script" : Str)) EVL.law_room rfl (by kernel_rfl) (by decide) ?F
    intro w mg fa h Y G hmg0
    obtain ⟨K, KX, c⟩ := Y
    have hmg : mg ("law" : PySem.Str) = some (.ref fa) := by
      have e : (HandSHeadRun.topDef (OpenLaw.row PySem.Challenge.rw_allcells_k75_texts_of_terms_and_statemen).prog 21).name = ("law" : PySem.Str) := by kernel_rfl
      rw [← e]
      exact hmg0
    have C := EVL.facts (P := PySem.Challenge.pw_allcells_k75_texts_of_terms_and_statemen) (w := w) KX G c.t c.more
    obtain ⟨fd, h1, h2⟩ := EVL.law_fin C hmg 30
    exact ⟨K, fd, _, KX, h1, fun H b ns hn hO hS => EV.law_sp hO hS (EVL.law_true ns hn), fun base _ _ => h2 base⟩
