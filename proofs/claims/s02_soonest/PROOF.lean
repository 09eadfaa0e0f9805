import PyProof.Rows.All
import Wide.All
import OpenK.AllK
import Wide.FinOn
import Open.SpecLaws
import KE.OsHead
import KE.OsGo
import HandS.ForSpec
import HandS.Comp
import HandS.Dict
import HandS.Iter
import HandS.WordsDict
import HandS.Walk
import HandS.Deep
import HandS.Conv
import HandS.SortRule
import HandS.SortInts
import KE.DataMinMax
import KE.DatumOrd
import HandS.SortKw
import PySem.Challenge.RW_swallower_s02_soonest
set_option Elab.async false
namespace Sw
open Ks536 (Net)

/-! ### lists -/
theorem len_sub : ∀ {l m : List Nat}, l.Nodup → (∀ x ∈ l, x ∈ m) → l.length ≤ m.length
  | [], _, _, _ => Nat.zero_le _
  | a :: l, m, hn, hs => by
    obtain ⟨h1, h2⟩ := List.nodup_cons.mp hn
    have ha : a ∈ m := hs a (List.mem_cons_self)
    have ih := len_sub (l := l) (m := m.erase a) h2 (fun x hx => (List.mem_erase_of_ne (show x ≠ a from fun e => h1 (e ▸ hx))).mpr (hs x (List.mem_cons_of_mem _ hx)))
    have hl := List.length_erase_of_mem ha
    have hp : 0 < m.length := List.length_pos_of_mem ha
    rw [List.length_cons]
    omega
theorem sub_of_len {l m : List Nat} (hn : l.Nodup) (hs : ∀ x ∈ l, x ∈ m) (hl : m.length ≤ l.length) (x : Nat) (hx : x ∈ m) : x ∈ l := by
  apply Classical.byContradiction
  intro hc
  have h1 : (x :: l).Nodup := List.nodup_cons.mpr ⟨hc, hn⟩
  have h2 := len_sub (m := m) h1 (fun y hy => by
    rcases List.mem_cons.mp hy with rfl | hy
    · exact hx
    · exact hs y hy)
  rw [List.length_cons] at h2
  omega
theorem perm_of_len : ∀ {m l : List Nat}, m.Nodup → (∀ x ∈ m, x ∈ l) → l.length = m.length → l.Perm m
  | [], l, _, _, hl => by
    have : l = [] := List.length_eq_zero_iff.mp hl
    subst this
    exact List.Perm.refl _
  | a :: m, l, hn, hs, hl => by
    obtain ⟨h1, h2⟩ := List.nodup_cons.mp hn
    have ha : a ∈ l := hs a List.mem_cons_self
    have hle := List.length_erase_of_mem ha
    rw [List.length_cons] at hl
    have ih := perm_of_len (m := m) (l := l.erase a) h2 (fun x hx => (List.mem_erase_of_ne (show x ≠ a from fun e => h1 (e ▸ hx))).mpr (hs x (List.mem_cons_of_mem _ hx))) (by omega)
    exact (List.perm_cons_erase ha).trans (ih.cons a)
theorem take_snoc {α : Type} {l : List α} {i : Nat} {x : α} (h : l[i]? = some x) : l.take (i + 1) = l.take i ++ [x] := by
  rw [List.take_add_one, h]; rfl

/-! ### within so many steps -/
def R (E : Nat → Nat → Prop) (A : Nat → Prop) (s : Nat) : Nat → Nat → Prop
  | 0, v => v = s
  | k + 1, v => A v ∧ (R E A s k v ∨ ∃ u, R E A s k u ∧ E u v)
section
variable {E : Nat → Nat → Prop} {A : Nat → Prop} {s : Nat}
theorem R.inA (hs : A s) : ∀ {k v : Nat}, R E A s k v → A v
  | 0, v, h => by
    have e : v = s := h
    rw [e]; exact hs
  | _ + 1, _, h => h.1
theorem R.up (hs : A s) {k v : Nat} (h : R E A s k v) : R E A s (k + 1) v := ⟨R.inA hs h, .inl h⟩
theorem R.le (hs : A s) {k v : Nat} (h : R E A s k v) : ∀ {j : Nat}, k ≤ j → R E A s j v
  | 0, hj => by
    have : k = 0 := by omega
    subst this; exact h
  | j + 1, hj => by
    by_cases e : k = j + 1
    · subst e; exact h
    · exact R.up hs (R.le hs h (by omega))
theorem R.go {k u v : Nat} (h : R E A s k u) (e : E u v) (hv : A v) : R E A s (k + 1) v := ⟨hv, .inr ⟨u, h, e⟩⟩
/-- just so far -/
def Far (E : Nat → Nat → Prop) (A : Nat → Prop) (s d v : Nat) : Prop := R E A s d v ∧ ∀ j, j < d → ¬ R E A s j v
theorem Far.one {d e v : Nat} (a : Far E A s d v) (b : Far E A s e v) : d = e := by
  rcases Nat.lt_trichotomy d e with h | h | h
  · exact absurd a.1 (b.2 d h)
  · exact h
  · exact absurd b.1 (a.2 e h)
abbrev keys (st : List (Nat × Nat)) : List Nat := st.map (·.1)
/-- st tells of each place that's reached how far it is -/
structure IsDist (E : Nat → Nat → Prop) (A : Nat → Prop) (s n : Nat) (st : List (Nat × Nat)) : Prop where
  nd : (keys st).Nodup
  val : ∀ v d, (v, d) ∈ st → Far E A s d v ∧ d < n
  all : ∀ k v, R E A s k v → v ∈ keys st
theorem IsDist.iff {n : Nat} {st : List (Nat × Nat)} (D : IsDist E A s n st) (v d : Nat) : (v, d) ∈ st ↔ Far E A s d v := by
  constructor
  · intro h; exact (D.val v d h).1
  · intro h
    obtain ⟨⟨v', e⟩, h1, h2⟩ := List.mem_map.mp (D.all d v h.1)
    have h2 : v' = v := h2
    subst h2
    rw [h.one (D.val _ _ h1).1]
    exact h1
/-- behind k rounds -/
structure Lvl (E : Nat → Nat → Prop) (A : Nat → Prop) (s k : Nat) (st : List (Nat × Nat)) (edge : List Nat) : Prop where
  nd : (keys st).Nodup
  val : ∀ v d, (v, d) ∈ st → Far E A s d v ∧ d ≤ k
  all : ∀ v, R E A s k v → v ∈ keys st
  edg : ∀ v, v ∈ edge ↔ (v, k) ∈ st
  big : k + (if edge = [] then 0 else 1) ≤ st.length
theorem Lvl.start (s : Nat) : Lvl E A s 0 [(s, 0)] [s] := by
  refine ⟨by simp, fun v d h => ?_, fun v h => ?_, fun v => ?_, by simp⟩
  · simp at h
    obtain ⟨rfl, rfl⟩ := h
    exact ⟨⟨rfl, fun j hj => by omega⟩, Nat.le_refl _⟩
  · have e : v = s := h
    simp [e]
  · simp
/-- amid round k + 1: the others dn are done -/
structure Mid (A : Nat → Prop) (k : Nat) (st : List (Nat × Nat)) (dn : List Nat) (st' : List (Nat × Nat)) (fur : List Nat) : Prop where
  eq : st' = st ++ fur.map (fun v => (v, k + 1))
  nd : fur.Nodup
  mem : ∀ v, v ∈ fur ↔ A v ∧ v ∉ keys st ∧ v ∈ dn
theorem keys_app (st st' : List (Nat × Nat)) : keys (st ++ st') = keys st ++ keys st' := List.map_append
theorem keys_fur (k : Nat) (fur : List Nat) : keys (fur.map (fun v => (v, k + 1))) = fur := by
  unfold keys
  rw [List.map_map]
  exact List.map_id' fur
theorem Mid.start (A : Nat → Prop) (k : Nat) (st : List (Nat × Nat)) : Mid A k st [] st [] := ⟨by simp, by simp, by simp⟩
theorem Mid.keys {k : Nat} {st st' : List (Nat × Nat)} {dn fur : List Nat} (M : Mid A k st dn st' fur) : keys st' = keys st ++ fur := by
  rw [M.eq, keys_app, keys_fur]
theorem Mid.more {k : Nat} {st st' : List (Nat × Nat)} {dn fur : List Nat} (M : Mid A k st dn st' fur) {o : Nat} (ha : A o) (hn : o ∉ Sw.keys st') : Mid A k st (dn ++ [o]) (st' ++ [(o, k + 1)]) (fur ++ [o]) := by
  rw [M.keys, List.mem_append] at hn
  have h1 : o ∉ Sw.keys st := fun h => hn (.inl h)
  have h2 : o ∉ fur := fun h => hn (.inr h)
  refine ⟨by rw [M.eq, List.map_append, List.append_assoc]; rfl, ?_, fun v => ?_⟩
  · rw [List.nodup_append]
    exact ⟨M.nd, by simp, fun a ha b hb => by rw [List.mem_singleton.mp hb]; exact fun e => h2 (e ▸ ha)⟩
  · rw [List.mem_append, List.mem_append, M.mem v, List.mem_singleton]
    constructor
    · rintro (⟨x, y, z⟩ | rfl)
      · exact ⟨x, y, .inl z⟩
      · exact ⟨ha, h1, .inr rfl⟩
    · rintro ⟨x, y, z | z⟩
      · exact .inl ⟨x, y, z⟩
      · exact .inr z
theorem Mid.skip {k : Nat} {st st' : List (Nat × Nat)} {dn fur : List Nat} (M : Mid A k st dn st' fur) {o : Nat} (h : ¬ A o ∨ o ∈ Sw.keys st') : Mid A k st (dn ++ [o]) st' fur := by
  refine ⟨M.eq, M.nd, fun v => ?_⟩
  rw [M.mem v, List.mem_append, List.mem_singleton]
  constructor
  · rintro ⟨x, y, z⟩; exact ⟨x, y, .inl z⟩
  · rintro ⟨x, y, z | rfl⟩
    · exact ⟨x, y, z⟩
    · rcases h with h | h
      · exact absurd x h
      · rw [M.keys, List.mem_append] at h
        rcases h with h | h
        · exact absurd h y
        · exact ⟨x, y, ((M.mem _).mp h).2.2⟩
theorem Lvl.next (hs : A s) {k : Nat} {st st' : List (Nat × Nat)} {edge dn fur : List Nat} (L : Lvl E A s k st edge) (hne : edge ≠ []) (M : Mid A k st dn st' fur)
    (hdn : ∀ v, v ∈ dn ↔ ∃ u, u ∈ edge ∧ E u v) : Lvl E A s (k + 1) st' fur := by
  have inK : ∀ v, R E A s k v ↔ v ∈ Sw.keys st := fun v => ⟨L.all v, fun h => by
    obtain ⟨⟨v', d⟩, h1, h2⟩ := List.mem_map.mp h
    have h2 : v' = v := h2
    subst h2
    obtain ⟨q, hd⟩ := L.val _ _ h1
    exact R.le hs q.1 hd⟩
  have far : ∀ v, v ∈ fur → Far E A s (k + 1) v := fun v h => by
    obtain ⟨ha, hn, hd⟩ := (M.mem v).mp h
    obtain ⟨u, hu, e⟩ := (hdn v).mp hd
    refine ⟨R.go ((L.val _ _ ((L.edg u).mp hu)).1.1) e ha, fun j hj hr => hn ((inK v).mp (R.le hs hr (by omega)))⟩
  refine ⟨?_, fun v d h => ?_, fun v h => ?_, fun v => ?_, ?_⟩
  · rw [M.keys, List.nodup_append]
    exact ⟨L.nd, M.nd, fun a ha b hb e => ((M.mem b).mp hb).2.1 (e ▸ ha)⟩
  · rw [M.eq, List.mem_append] at h
    rcases h with h | h
    · obtain ⟨q, hd⟩ := L.val v d h
      exact ⟨q, by omega⟩
    · obtain ⟨v', h1, h2⟩ := List.mem_map.mp h
      injection h2 with e1 e2
      subst e1 e2
      exact ⟨far _ h1, Nat.le_refl _⟩
  · rw [M.keys, List.mem_append]
    by_cases hk : v ∈ Sw.keys st
    · exact .inl hk
    · obtain ⟨ha, h | ⟨u, hu, e⟩⟩ := h
      · exact absurd ((inK v).mp h) hk
      · refine .inr ((M.mem v).mpr ⟨ha, hk, (hdn v).mpr ⟨u, (L.edg u).mpr ?_, e⟩⟩)
        obtain ⟨⟨u', d⟩, h1, h2⟩ := List.mem_map.mp ((inK u).mp hu)
        have h2 : u' = u := h2
        subst h2
        obtain ⟨q, hd⟩ := L.val _ _ h1
        by_cases hdk : d = k
        · rw [hdk] at h1; exact h1
        · exact absurd ((inK v).mp (R.le hs (R.go q.1 e ha) (by omega))) hk
  · rw [M.eq, List.mem_append]
    constructor
    · intro h
      exact .inr (List.mem_map.mpr ⟨v, h, rfl⟩)
    · rintro (h | h)
      · have := (L.val _ _ h).2
        omega
      · obtain ⟨v', h1, h2⟩ := List.mem_map.mp h
        injection h2 with e1 _
        subst e1
        exact h1
  · have b := L.big
    rw [if_neg hne] at b
    rw [M.eq, List.length_append, List.length_map]
    by_cases hf : fur = []
    · rw [if_pos hf]; omega
    · rw [if_neg hf]
      have := List.length_pos_iff.mpr hf
      omega
theorem Lvl.small (hs : A s) {n k : Nat} {st : List (Nat × Nat)} {edge : List Nat} (hA : ∀ v, A v → v < n) (L : Lvl E A s k st edge) : st.length ≤ n := by
  have h := len_sub (l := Sw.keys st) (m := List.range n) L.nd (fun x hx => by
    obtain ⟨⟨v', d⟩, h1, h2⟩ := List.mem_map.mp hx
    have h2 : v' = x := h2
    subst h2
    exact List.mem_range.mpr (hA _ (R.inA hs (L.val _ _ h1).1.1)))
  rw [List.length_range, List.length_map] at h
  exact h
theorem Lvl.done (hs : A s) {n k : Nat} {st : List (Nat × Nat)} (hA : ∀ v, A v → v < n) (L : Lvl E A s k st []) : IsDist E A s n st := by
  have hl := L.small hs hA
  have hb := L.big
  rw [if_pos rfl] at hb
  have ne : ∀ v d, (v, d) ∈ st → d < k := fun v d h => by
    have h1 := (L.val v d h).2
    by_cases e : d = k
    · rw [e] at h
      exact absurd ((L.edg v).mpr h) (by simp)
    · omega
  refine ⟨L.nd, fun v d h => ⟨(L.val v d h).1, by have := ne v d h; omega⟩, fun j => ?_⟩
  have base : ∀ v, R E A s k v → v ∈ Sw.keys st := L.all
  induction j with
  | zero =>
    intro v h
    exact base v (R.le hs h (Nat.zero_le _))
  | succ j ih =>
    rintro v ⟨ha, h | ⟨u, hu, e⟩⟩
    · exact ih v h
    · obtain ⟨⟨u', d⟩, h1, h2⟩ := List.mem_map.mp (ih u hu)
      have h2 : u' = u := h2
      subst h2
      have hd := ne _ _ h1
      exact base v (R.le hs (R.go (L.val _ _ h1).1.1 e ha) (by omega))

/-! ### how far, as the specification reckons it -/
def gd (ex : List Nat → List Nat) : Nat → List Nat → Nat → Option Nat
  | 0, l, v => if l.contains v then some 0 else none
  | f + 1, l, v => if l.contains v then some 0 else (gd ex f (ex l) v).map (· + 1)
theorem gd_iff {ex : List Nat → List Nat} (hex : ∀ (l : List Nat) (j : Nat), (∀ v, v ∈ l ↔ R E A s j v) → ∀ v, v ∈ ex l ↔ R E A s (j + 1) v) :
    ∀ (f : Nat) (l : List Nat) (j : Nat), (∀ v, v ∈ l ↔ R E A s j v) → ∀ v d, gd ex f l v = some d ↔ (d ≤ f ∧ R E A s (j + d) v ∧ ∀ i, i < d → ¬ R E A s (j + i) v)
  | 0, l, j, hl, v, d => by
    unfold gd
    by_cases h : v ∈ l
    · rw [if_pos (List.contains_iff_mem.mpr h)]
      constructor
      · intro e
        cases e
        exact ⟨Nat.le_refl _, (hl v).mp h, fun i hi => by omega⟩
      · rintro ⟨h1, _, _⟩
        have : d = 0 := by omega
        rw [this]
    · rw [if_neg (fun e => h (List.contains_iff_mem.mp e))]
      constructor
      · intro e; cases e
      · rintro ⟨h1, h2, _⟩
        have : d = 0 := by omega
        subst this
        exact absurd ((hl v).mpr h2) h
  | f + 1, l, j, hl, v, d => by
    unfold gd
    by_cases h : v ∈ l
    · rw [if_pos (List.contains_iff_mem.mpr h)]
      constructor
      · intro e
        cases e
        exact ⟨Nat.zero_le _, (hl v).mp h, fun i hi => by omega⟩
      · rintro ⟨_, _, h3⟩
        by_cases e : d = 0
        · rw [e]
        · exact absurd ((hl v).mp h) (h3 0 (by omega))
    · rw [if_neg (fun e => h (List.contains_iff_mem.mp e))]
      have ih := gd_iff hex f (ex l) (j + 1) (hex l j hl) v
      have h0 : ¬ R E A s j v := fun e => h ((hl v).mpr e)
      cases d with
      | zero =>
        constructor
        · intro e
          cases q : gd ex f (ex l) v with
          | none => rw [q] at e; cases e
          | some x => rw [q] at e; simp at e
        · rintro ⟨_, h2, _⟩
          exact absurd h2 h0
      | succ d =>
        have e1 : (gd ex f (ex l) v).map (· + 1) = some (d + 1) ↔ gd ex f (ex l) v = some d := by
          cases gd ex f (ex l) v <;> simp
        rw [e1, ih d]
        constructor
        · rintro ⟨a, b, c⟩
          refine ⟨by omega, by rw [show j + (d + 1) = j + 1 + d by omega]; exact b, fun i hi => ?_⟩
          cases i with
          | zero => exact h0
          | succ i => rw [show j + (i + 1) = j + 1 + i by omega]; exact c i (by omega)
        · rintro ⟨a, b, c⟩
          refine ⟨by omega, by rw [show j + 1 + d = j + (d + 1) by omega]; exact b, fun i hi => ?_⟩
          rw [show j + 1 + i = j + (i + 1) by omega]
          exact c (i + 1) (by omega)
theorem gd_far {ex : List Nat → List Nat} (hex : ∀ (l : List Nat) (j : Nat), (∀ v, v ∈ l ↔ R E A s j v) → ∀ v, v ∈ ex l ↔ R E A s (j + 1) v) (f v d : Nat) :
    gd ex f [s] v = some d ↔ (d ≤ f ∧ Far E A s d v) := by
  rw [gd_iff hex f [s] 0 (fun v => by rw [List.mem_singleton]; exact Iff.rfl) v d]
  simp only [Nat.zero_add]
  exact Iff.rfl
end
end Sw
set_option Elab.async false
namespace Sw
open Ks536 (Net)

/-! ### links -/
def mkLinks : List Nat → List (Nat × Nat)
  | u :: v :: l => (min u v, max u v) :: mkLinks l
  | _ => []
def nrm (p : Nat × Nat) : Nat × Nat := (min p.1 p.2, max p.1 p.2)
theorem nrm_eq (p q : Nat × Nat) : nrm p = nrm q ↔ (p.1 = q.1 ∧ p.2 = q.2) ∨ (p.1 = q.2 ∧ p.2 = q.1) := by
  unfold nrm
  rw [Prod.mk.injEq]
  omega
theorem linksOf_none : ∀ (l : List Nat), Ks536.linksOf l = none ↔ l.length % 2 = 1
  | [] => by simp [Ks536.linksOf]
  | [_] => by simp [Ks536.linksOf]
  | u :: v :: l => by
    have ih := linksOf_none l
    unfold Ks536.linksOf
    rw [Option.map_eq_none_iff, ih, List.length_cons, List.length_cons]
    omega
theorem linksOf_some : ∀ (l : List Nat) (r : List (Nat × Nat)), Ks536.linksOf l = some r → l.length = 2 * r.length ∧ mkLinks l = r.map nrm
  | [], r, h => by
    have e : r = [] := (Option.some.inj (show some [] = some r from h)).symm
    subst e
    exact ⟨rfl, rfl⟩
  | [_], r, h => by simp [Ks536.linksOf] at h
  | u :: v :: l, r, h => by
    unfold Ks536.linksOf at h
    rw [Option.map_eq_some_iff] at h
    obtain ⟨r', h1, rfl⟩ := h
    obtain ⟨a, b⟩ := linksOf_some l r' h1
    refine ⟨?_, ?_⟩
    · rw [List.length_cons, List.length_cons, List.length_cons, a]; omega
    · show (min u v, max u v) :: mkLinks l = _
      rw [b]; rfl
theorem mkLinks_len : ∀ (l : List Nat), (mkLinks l).length = l.length / 2
  | [] => rfl
  | [_] => by simp [mkLinks]
  | u :: v :: l => by
    show (mkLinks l).length + 1 = (l.length + 1 + 1) / 2
    rw [mkLinks_len l]; omega
theorem mkLinks_at : ∀ (l : List Nat) (i : Nat), i < l.length / 2 → (mkLinks l)[i]? = some (min (l.getD (2 * i) 0) (l.getD (2 * i + 1) 0), max (l.getD (2 * i) 0) (l.getD (2 * i + 1) 0))
  | [], i, h => by simp at h
  | [_], i, h => by simp at h
  | u :: v :: l, 0, h => rfl
  | u :: v :: l, i + 1, h => by
    have h' : i + 1 < (l.length + 1 + 1) / 2 := h
    have ih := mkLinks_at l i (by omega)
    show (mkLinks l)[i]? = _
    rw [ih]
    rfl
def okLink (n : Nat) (l : Nat × Nat) : Prop := l.1 ≠ l.2 ∧ l.2 < n
instance (n : Nat) (l : Nat × Nat) : Decidable (okLink n l) := inferInstanceAs (Decidable (_ ∧ _))
def areLinks (n : Nat) : List (Nat × Nat) → List (Nat × Nat) → Bool
  | _, [] => true
  | told, l :: r => if okLink n l ∧ l ∉ told then areLinks n (told ++ [l]) r else false
theorem areLinks_iff (n : Nat) : ∀ (ls told : List (Nat × Nat)), areLinks n told ls = true ↔ (∀ l ∈ ls, okLink n l ∧ l ∉ told) ∧ ls.Nodup
  | [], told => by simp [areLinks]
  | l :: r, told => by
    unfold areLinks
    by_cases h : okLink n l ∧ l ∉ told
    · rw [if_pos h, areLinks_iff n r (told ++ [l]), List.nodup_cons]
      constructor
      · rintro ⟨a, b⟩
        refine ⟨fun x hx => ?_, fun hm => ?_, b⟩
        · rcases List.mem_cons.mp hx with rfl | hx
          · exact h
          · obtain ⟨p, q⟩ := a x hx
            exact ⟨p, fun z => q (List.mem_append.mpr (.inl z))⟩
        · exact (a l hm).2 (by simp)
      · rintro ⟨a, b, c⟩
        refine ⟨fun x hx => ⟨(a x (List.mem_cons_of_mem _ hx)).1, fun z => ?_⟩, c⟩
        rcases List.mem_append.mp z with z | z
        · exact (a x (List.mem_cons_of_mem _ hx)).2 z
        · rw [List.mem_singleton] at z
          subst z
          exact b hx
    · rw [if_neg h]
      constructor
      · intro z; cases z
      · rintro ⟨a, _⟩
        exact absurd (a l List.mem_cons_self) h
theorem are_of (n : Nat) (r : List (Nat × Nat)) : areLinks n [] (r.map nrm) = true ↔
    (r.all (fun p => decide (p.1 < n) && decide (p.2 < n) && p.1 != p.2) = true ∧ (List.range r.length).all (fun i => (List.range r.length).all fun j => i == j || match r[i]?, r[j]? with
  | some p, some q => !((p.1 == q.1 && p.2 == q.2) || (p.1 == q.2 && p.2 == q.1))
  | _, _ => true) = true) := by
  rw [areLinks_iff]
  apply and_congr
  · constructor
    · intro h
      rw [List.all_eq_true]
      intro p hp
      obtain ⟨⟨a, b⟩, _⟩ := h (nrm p) (List.mem_map.mpr ⟨p, hp, rfl⟩)
      have a : min p.1 p.2 ≠ max p.1 p.2 := a
      have b : max p.1 p.2 < n := b
      rw [Bool.and_eq_true, Bool.and_eq_true, decide_eq_true_eq, decide_eq_true_eq, bne_iff_ne]
      omega
    · intro h l hl
      rw [List.all_eq_true] at h
      obtain ⟨p, hp, rfl⟩ := List.mem_map.mp hl
      have q := h p hp
      rw [Bool.and_eq_true, Bool.and_eq_true, decide_eq_true_eq, decide_eq_true_eq, bne_iff_ne] at q
      refine ⟨⟨?_, ?_⟩, by simp⟩
      · show min p.1 p.2 ≠ max p.1 p.2
        omega
      · show max p.1 p.2 < n
        omega
  · have two : ∀ (p q : Nat × Nat), (!((p.1 == q.1 && p.2 == q.2) || (p.1 == q.2 && p.2 == q.1))) = true ↔ nrm p ≠ nrm q := fun p q => by
      rw [Ne, nrm_eq]
      simp
      omega
    unfold List.Nodup
    rw [List.pairwise_map, List.pairwise_iff_getElem, List.all_eq_true]
    constructor
    · intro h i hi
      rw [List.all_eq_true]
      intro j hj
      rw [List.mem_range] at hi hj
      rw [List.getElem?_eq_getElem hi, List.getElem?_eq_getElem hj]
      by_cases e : i = j
      · simp [e]
      · rw [Bool.or_eq_true]
        refine .inr ((two _ _).mpr ?_)
        rcases Nat.lt_or_gt_of_ne e with e | e
        · exact h i j hi hj e
        · exact (h j i hj hi e).symm
    · intro h i j hi hj hij
      have h1 := h i (List.mem_range.mpr hi)
      rw [List.all_eq_true] at h1
      have h2 := h1 j (List.mem_range.mpr hj)
      rw [List.getElem?_eq_getElem hi, List.getElem?_eq_getElem hj, Bool.or_eq_true] at h2
      rcases h2 with h2 | h2
      · have : i = j := by simpa using h2
        omega
      · exact (two _ _).mp h2

/-! ### beside -/
def push (adj : List (List Nat)) (i v : Nat) : List (List Nat) := adj.set i (adj.getD i [] ++ [v])
theorem push_len (adj : List (List Nat)) (i v : Nat) : (push adj i v).length = adj.length := List.length_set
theorem push_at (adj : List (List Nat)) (i v u : Nat) (hi : i < adj.length) : (push adj i v).getD u [] = if u = i then adj.getD i [] ++ [v] else adj.getD u [] := by
  unfold push
  rw [List.getD_eq_getElem?_getD, List.getD_eq_getElem?_getD]
  by_cases e : u = i
  · subst e
    rw [if_pos rfl, List.getElem?_set_self hi]
    rfl
  · rw [if_neg e, List.getElem?_set_ne (fun q => e q.symm), List.getD_eq_getElem?_getD]
theorem push_mem (adj : List (List Nat)) (i w u v : Nat) (hi : i < adj.length) : v ∈ (push adj i w).getD u [] ↔ v ∈ adj.getD u [] ∨ (u = i ∧ v = w) := by
  rw [push_at _ _ _ _ hi]
  by_cases e : u = i
  · subst e
    rw [if_pos rfl, List.mem_append, List.mem_singleton]
    simp
  · rw [if_neg e]
    simp [e]
def adjOf (n : Nat) (ls : List (Nat × Nat)) : List (List Nat) := ls.foldl (fun adj l => push (push adj l.1 l.2) l.2 l.1) (List.replicate n [])
theorem adjOf_snoc (n : Nat) (ls : List (Nat × Nat)) (l : Nat × Nat) : adjOf n (ls ++ [l]) = push (push (adjOf n ls) l.1 l.2) l.2 l.1 := by
  unfold adjOf
  rw [List.foldl_append]; rfl
theorem adjOf_len (n : Nat) (ls : List (Nat × Nat)) : (adjOf n ls).length = n := by
  unfold adjOf
  have h : ∀ (ls : List (Nat × Nat)) (a : List (List Nat)), (ls.foldl (fun adj l => push (push adj l.1 l.2) l.2 l.1) a).length = a.length := by
    intro ls
    induction ls with
    | nil => intro a; rfl
    | cons l r ih => intro a; rw [List.foldl_cons, ih, push_len, push_len]
  rw [h, List.length_replicate]
def nearL (ls : List (Nat × Nat)) (u v : Nat) : Prop := ∃ p ∈ ls, (p.1 = u ∧ p.2 = v) ∨ (p.1 = v ∧ p.2 = u)
theorem adjOf_mem (n : Nat) (ls : List (Nat × Nat)) (hl : ∀ l ∈ ls, l.1 < n ∧ l.2 < n) (u v : Nat) (hu : u < n) : v ∈ (adjOf n ls).getD u [] ↔ nearL ls u v := by
  have h : ∀ (ls : List (Nat × Nat)) (a : List (List Nat)), a.length = n → (∀ l ∈ ls, l.1 < n ∧ l.2 < n) →
      (v ∈ (ls.foldl (fun adj l => push (push adj l.1 l.2) l.2 l.1) a).getD u [] ↔ (v ∈ a.getD u [] ∨ nearL ls u v)) := by
    intro ls
    induction ls with
    | nil => intro a _ _; simp [nearL]
    | cons l r ih =>
      intro a ha hl
      obtain ⟨h1, h2⟩ := hl l List.mem_cons_self
      rw [List.foldl_cons, ih _ (by rw [push_len, push_len, ha]) (fun x hx => hl x (List.mem_cons_of_mem _ hx)), push_mem _ _ _ _ _ (by rw [push_len, ha]; exact h2), push_mem _ _ _ _ _ (by rw [ha]; exact h1)]
      have e : nearL (l :: r) u v ↔ ((l.1 = u ∧ l.2 = v) ∨ (l.1 = v ∧ l.2 = u)) ∨ nearL r u v := by
        unfold nearL
        simp
      rw [e]
      constructor
      · rintro (((q | ⟨q1, q2⟩) | ⟨q1, q2⟩) | q)
        · exact .inl q
        · exact .inr (.inl (.inl ⟨q1.symm, q2.symm⟩))
        · exact .inr (.inl (.inr ⟨q2.symm, q1.symm⟩))
        · exact .inr (.inr q)
      · rintro (q | (⟨q1, q2⟩ | ⟨q1, q2⟩) | q)
        · exact .inl (.inl (.inl q))
        · exact .inl (.inl (.inr ⟨q1.symm, q2.symm⟩))
        · exact .inl (.inr ⟨q2.symm, q1.symm⟩)
        · exact .inr q
  unfold adjOf
  rw [h ls _ List.length_replicate hl]
  have e : (List.replicate n ([] : List Nat)).getD u [] = [] := by
    rw [List.getD_eq_getElem?_getD, List.getElem?_replicate]
    split <;> rfl
  rw [e]
  simp
end Sw
set_option Elab.async false
namespace Sw
open Ks536 (Net)

/-! ### near -/
theorem near_iff (t : Net) (u v : Nat) : Ks538.near t u v = true ↔ nearL t.links u v := by
  unfold Ks538.near nearL
  rw [List.any_eq_true]
  simp
theorem nearL_nrm (r : List (Nat × Nat)) (u v : Nat) : nearL (r.map nrm) u v ↔ nearL r u v := by
  unfold nearL
  constructor
  · rintro ⟨p, hp, h⟩
    obtain ⟨q, hq, rfl⟩ := List.mem_map.mp hp
    refine ⟨q, hq, ?_⟩
    have h : (min q.1 q.2 = u ∧ max q.1 q.2 = v) ∨ (min q.1 q.2 = v ∧ max q.1 q.2 = u) := h
    omega
  · rintro ⟨p, hp, h⟩
    refine ⟨nrm p, List.mem_map.mpr ⟨p, hp, rfl⟩, ?_⟩
    show (min p.1 p.2 = u ∧ max p.1 p.2 = v) ∨ (min p.1 p.2 = v ∧ max p.1 p.2 = u)
    omega
theorem nearL_symm {ls : List (Nat × Nat)} {u v : Nat} (h : nearL ls u v) : nearL ls v u := by
  obtain ⟨p, hp, h⟩ := h
  exact ⟨p, hp, h.symm⟩

/-! ### how far, in the whole net -/
def ex1 (t : Net) (l : List Nat) : List Nat := (List.range t.n).filter fun w => l.contains w || l.any fun u => (List.range (Ks536.degree t u)).any fun e => Ks536.go t u (e + 1) == w
theorem dist_gd (t : Net) : ∀ (f : Nat) (l : List Nat) (v : Nat), Ks536.dist t f l v = gd (ex1 t) f l v
  | 0, _, _ => rfl
  | f + 1, l, v => by
    unfold Ks536.dist gd
    rw [dist_gd t f]
    rfl
theorem exits_mem (t : Net) (u i : Nat) : i ∈ Ks536.exits t u ↔ ∃ p, t.links[i]? = some p ∧ (p.1 = u ∨ p.2 = u) := by
  unfold Ks536.exits
  rw [List.mem_filter, List.mem_range]
  constructor
  · rintro ⟨h, q⟩
    rw [List.getElem?_eq_getElem h] at q ⊢
    refine ⟨_, rfl, ?_⟩
    simpa using q
  · rintro ⟨p, hp, q⟩
    obtain ⟨h, _⟩ := List.getElem?_eq_some_iff.mp hp
    refine ⟨h, ?_⟩
    rw [hp]
    simpa using q
theorem go_iff (t : Net) (u w : Nat) : ((List.range (Ks536.degree t u)).any fun e => Ks536.go t u (e + 1) == w) = true ↔ nearL t.links u w := by
  rw [List.any_eq_true]
  have step : ∀ e i, (Ks536.exits t u)[e]? = some i → Ks536.go t u (e + 1) = Ks536.end_ t i u := fun e i h => by
    simp only [Ks536.go, Ks536.out, h]
  constructor
  · rintro ⟨e, he, h⟩
    rw [List.mem_range] at he
    have he' : e < (Ks536.exits t u).length := he
    have hx := List.getElem?_eq_getElem he'
    have h : Ks536.go t u (e + 1) = w := by simpa using h
    rw [step e _ hx] at h
    obtain ⟨p, hp, q⟩ := (exits_mem t u _).mp (List.getElem_mem he')
    refine ⟨p, List.mem_of_getElem? hp, ?_⟩
    unfold Ks536.end_ at h
    rw [hp] at h
    have h : (if p.1 = u then p.2 else p.1) = w := h
    split at h <;> omega
  · rintro ⟨p, hp, q⟩
    obtain ⟨i, hi⟩ := List.mem_iff_getElem?.mp hp
    have hm : i ∈ Ks536.exits t u := (exits_mem t u i).mpr ⟨p, hi, by omega⟩
    obtain ⟨e, he⟩ := List.mem_iff_getElem?.mp hm
    refine ⟨e, List.mem_range.mpr (List.getElem?_eq_some_iff.mp he).1, ?_⟩
    rw [step e i he]
    unfold Ks536.end_
    rw [hi]
    show ((if p.1 = u then p.2 else p.1) == w) = true
    rw [beq_iff_eq]
    split <;> omega
theorem ex1_R (t : Net) (s : Nat) (l : List Nat) (j : Nat) (hl : ∀ v, v ∈ l ↔ R (nearL t.links) (· < t.n) s j v) (v : Nat) : v ∈ ex1 t l ↔ R (nearL t.links) (· < t.n) s (j + 1) v := by
  unfold ex1
  rw [List.mem_filter, List.mem_range, Bool.or_eq_true, List.contains_iff_mem, hl v, List.any_eq_true]
  show _ ↔ (v < t.n ∧ _)
  apply and_congr Iff.rfl
  apply or_congr Iff.rfl
  constructor
  · rintro ⟨u, hu, h⟩
    exact ⟨u, (hl u).mp hu, (go_iff t u v).mp h⟩
  · rintro ⟨u, hu, h⟩
    exact ⟨u, (hl u).mpr hu, (go_iff t u v).mpr h⟩
theorem joined_iff (t : Net) {st : List (Nat × Nat)} (h1 : 1 ≤ t.n) (D : IsDist (nearL t.links) (· < t.n) 0 t.n st) : Ks536.joined t = true ↔ st.length = t.n := by
  unfold Ks536.joined
  rw [List.all_eq_true]
  have k : ∀ v, (Ks536.distance t 0 v).isSome = true ↔ v ∈ keys st := fun v => by
    unfold Ks536.distance
    rw [dist_gd]
    constructor
    · intro h
      obtain ⟨d, hd⟩ := Option.isSome_iff_exists.mp h
      exact D.all d v ((gd_far (ex1_R t 0) _ _ _).mp hd).2.1
    · intro h
      obtain ⟨⟨v', d⟩, h1, h2⟩ := List.mem_map.mp h
      have h2 : v' = v := h2
      subst h2
      obtain ⟨q, hd⟩ := D.val _ _ h1
      have := (gd_far (ex1_R t 0) t.n v' d).mpr ⟨by omega, q⟩
      rw [this]; rfl
  have sub : ∀ x ∈ keys st, x ∈ List.range t.n := fun x hx => by
    obtain ⟨⟨v', d⟩, h1, h2⟩ := List.mem_map.mp hx
    have h2 : v' = x := h2
    subst h2
    exact List.mem_range.mpr (R.inA (A := (· < t.n)) (by show 0 < t.n; omega) (D.val _ _ h1).1.1)
  have hle := len_sub D.nd sub
  have ek : (keys st).length = st.length := List.length_map ..
  rw [List.length_range] at hle
  constructor
  · intro h
    have := len_sub (l := List.range t.n) (m := keys st) List.nodup_range (fun x hx => (k x).mp (h x hx))
    rw [List.length_range] at this
    omega
  · intro h v hv
    exact (k v).mpr (sub_of_len D.nd sub (by rw [List.length_range]; omega) v hv)

/-! ### how far, through safe places -/
def ex2 (t : Net) (safe : List Nat) (l : List Nat) : List Nat := safe.filter fun w => l.contains w || l.any fun u => Ks538.near t u w
theorem distIn_gd (t : Net) (safe : List Nat) : ∀ (f : Nat) (l : List Nat) (v : Nat), Ks538.distIn t safe f l v = gd (ex2 t safe) f l v
  | 0, _, _ => rfl
  | f + 1, l, v => by
    unfold Ks538.distIn gd
    rw [distIn_gd t safe f]
    rfl
theorem ex2_R (t : Net) (safe : List Nat) (s : Nat) (l : List Nat) (j : Nat) (hl : ∀ v, v ∈ l ↔ R (nearL t.links) (· ∈ safe) s j v) (v : Nat) : v ∈ ex2 t safe l ↔ R (nearL t.links) (· ∈ safe) s (j + 1) v := by
  unfold ex2
  rw [List.mem_filter, Bool.or_eq_true, List.contains_iff_mem, hl v, List.any_eq_true]
  show _ ↔ (v ∈ safe ∧ _)
  apply and_congr Iff.rfl
  apply or_congr Iff.rfl
  constructor
  · rintro ⟨u, hu, h⟩
    exact ⟨u, (hl u).mp hu, (near_iff t u v).mp h⟩
  · rintro ⟨u, hu, h⟩
    exact ⟨u, (hl u).mpr hu, (near_iff t u v).mpr h⟩
theorem way_iff (t : Net) (safe : List Nat) (u : Nat) {st : List (Nat × Nat)} (D : IsDist (nearL t.links) (· ∈ safe) u t.n st) (v d : Nat) : Ks538.way t safe u v = some d ↔ (v, d) ∈ st := by
  unfold Ks538.way
  rw [distIn_gd, gd_far (ex2_R t safe u), D.iff]
  constructor
  · exact fun h => h.2
  · intro h
    have h1 := (D.iff v d).mpr h
    have := (D.val v d h1).2
    exact ⟨by omega, h⟩
theorem R_congr {E : Nat → Nat → Prop} {A B : Nat → Prop} (h : ∀ v, A v ↔ B v) (s : Nat) : ∀ k v, R E A s k v ↔ R E B s k v
  | 0, _ => Iff.rfl
  | k + 1, v => by
    show (A v ∧ _) ↔ (B v ∧ _)
    apply and_congr (h v)
    apply or_congr (R_congr h s k v)
    constructor
    · rintro ⟨u, a, b⟩; exact ⟨u, (R_congr h s k u).mp a, b⟩
    · rintro ⟨u, a, b⟩; exact ⟨u, (R_congr h s k u).mpr a, b⟩
theorem IsDist.congr {E : Nat → Nat → Prop} {A B : Nat → Prop} (h : ∀ v, A v ↔ B v) {s n : Nat} {st : List (Nat × Nat)} (D : IsDist E A s n st) : IsDist E B s n st :=
  ⟨D.nd, fun v d m => let ⟨⟨a, b⟩, c⟩ := D.val v d m; ⟨⟨(R_congr h s d v).mp a, fun j hj r => b j hj ((R_congr h s j v).mpr r)⟩, c⟩, fun k v r => D.all k v ((R_congr h s k v).mpr r)⟩

/-! ### where from -/
abbrev better (d g e h : Nat) : Prop := d < e ∨ (d = e ∧ g ≤ h)
def gateStep (t : Net) (safe : List Nat) (u x : Nat) (b : Option (Nat × Nat)) (g : Nat) : Option (Nat × Nat) :=
  if Ks538.near t g x then (match Ks538.way t safe u g, b with
  | some d, none => some (d, g)
  | some d, some (e, h) => if d < e ∨ (d = e ∧ g < h) then some (d, g) else some (e, h)
  | none, _ => b) else b
theorem gate_eq (t : Net) (safe : List Nat) (u x : Nat) : Ks538.gate t safe u x = safe.foldl (gateStep t safe u x) none := rfl
/-- c : a safe place g beside x, d far -/
abbrev Cand (t : Net) (safe : List Nat) (u x : Nat) (l : List Nat) (d g : Nat) : Prop := g ∈ l ∧ Ks538.near t g x = true ∧ Ks538.way t safe u g = some d
theorem gate_fold (t : Net) (safe : List Nat) (u x : Nat) : ∀ (l : List Nat) (b : Option (Nat × Nat)),
    match l.foldl (gateStep t safe u x) b with
    | none => b = none ∧ ∀ d g, ¬ Cand t safe u x l d g
    | some (d, g) => (b = some (d, g) ∨ Cand t safe u x l d g) ∧ (∀ e h, b = some (e, h) → better d g e h) ∧ ∀ e h, Cand t safe u x l e h → better d g e h
  | [], none => ⟨rfl, fun d g h => by simp [Cand] at h⟩
  | [], some (d, g) => ⟨.inl rfl, fun e h q => by cases q; exact .inr ⟨rfl, Nat.le_refl _⟩, fun e h q => by simp [Cand] at q⟩
  | a :: l, b => by
    rw [List.foldl_cons]
    have ih := gate_fold t safe u x l (gateStep t safe u x b a)
    have cc : ∀ d g, Cand t safe u x (a :: l) d g ↔ (g = a ∧ Ks538.near t a x = true ∧ Ks538.way t safe u a = some d) ∨ Cand t safe u x l d g := fun d g => by
      unfold Cand
      rw [List.mem_cons]
      constructor
      · rintro ⟨rfl | h, q⟩
        · exact .inl ⟨rfl, q⟩
        · exact .inr ⟨h, q⟩
      · rintro (⟨rfl, q⟩ | ⟨h, q⟩)
        · exact ⟨.inl rfl, q⟩
        · exact ⟨.inr h, q⟩
    -- what one step does
    have st : (gateStep t safe u x b a = b ∧ ∀ d g, Cand t safe u x (a :: l) d g → Cand t safe u x l d g ∨ ∃ e h, b = some (e, h) ∧ better e h d g) ∨
        ∃ d, gateStep t safe u x b a = some (d, a) ∧ Ks538.near t a x = true ∧ Ks538.way t safe u a = some d ∧ ∀ e h, b = some (e, h) → better d a e h := by
      unfold gateStep
      by_cases hn : Ks538.near t a x = true
      · rw [if_pos hn]
        cases hw : Ks538.way t safe u a with
        | none =>
          refine .inl ⟨rfl, fun d g h => ?_⟩
          rcases (cc d g).mp h with ⟨_, _, q⟩ | q
          · rw [hw] at q; cases q
          · exact .inl q
        | some d =>
          cases b with
          | none => exact .inr ⟨d, rfl, hn, rfl, fun e h q => by cases q⟩
          | some p =>
            obtain ⟨e, h⟩ := p
            by_cases c : d < e ∨ (d = e ∧ a < h)
            · refine .inr ⟨d, by simp only [if_pos c], hn, rfl, fun e' h' q => ?_⟩
              cases q
              unfold better
              omega
            · refine .inl ⟨by simp only [if_neg c], fun d' g' h' => ?_⟩
              rcases (cc d' g').mp h' with ⟨rfl, _, q⟩ | q
              · rw [hw] at q
                cases q
                exact .inr ⟨e, h, rfl, by unfold better; omega⟩
              · exact .inl q
      · rw [if_neg hn]
        refine .inl ⟨rfl, fun d g h => ?_⟩
        rcases (cc d g).mp h with ⟨_, q, _⟩ | q
        · exact absurd q hn
        · exact .inl q
    have tr : ∀ {a b c d e f : Nat}, better a b c d → better c d e f → better a b e f := fun h1 h2 => by
      unfold better at *
      omega
    cases hf : l.foldl (gateStep t safe u x) (gateStep t safe u x b a) with
    | none =>
      rw [hf] at ih
      obtain ⟨h1, h2⟩ := ih
      rcases st with ⟨e, q⟩ | ⟨d, e, _⟩
      · rw [e] at h1
        refine ⟨h1, fun d g h => ?_⟩
        rcases q d g h with q | ⟨e, h, q, _⟩
        · exact h2 d g q
        · rw [h1] at q; cases q
      · rw [e] at h1; cases h1
    | some p =>
      obtain ⟨d, g⟩ := p
      rw [hf] at ih
      obtain ⟨h1, h2, h3⟩ := ih
      rcases st with ⟨e, q⟩ | ⟨d', e, hn, hw, q⟩
      · rw [e] at h1 h2
        refine ⟨h1.imp id fun z => (cc d g).mpr (.inr z), h2, fun e' h' z => ?_⟩
        rcases q e' h' z with z | ⟨e2, h2', z1, z2⟩
        · exact h3 e' h' z
        · exact tr (h2 _ _ z1) z2
      · rw [e] at h1 h2
        have ba : better d g d' a := h2 _ _ rfl
        refine ⟨.inr ?_, fun e' h' z => tr ba (q e' h' z), fun e' h' z => ?_⟩
        · rcases h1 with h1 | h1
          · cases h1
            exact (cc _ _).mpr (.inl ⟨rfl, hn, hw⟩)
          · exact (cc _ _).mpr (.inr h1)
        · rcases (cc e' h').mp z with ⟨rfl, _, z⟩ | z
          · rw [hw] at z
            cases z
            exact ba
          · exact h3 e' h' z
/-- the pick: of the places bs that st tells the nearest, of like ones the least -/
def Pick (bs : List Nat) (st : List (Nat × Nat)) : Option (Nat × Nat) → Prop
  | none => ∀ v ∈ bs, v ∉ keys st
  | some (d, g) => g ∈ bs ∧ (g, d) ∈ st ∧ ∀ e h, h ∈ bs → (h, e) ∈ st → better d g e h
theorem pick_gate (t : Net) (safe : List Nat) (u x : Nat) {st : List (Nat × Nat)} (hu : u ∈ safe) (D : IsDist (nearL t.links) (· ∈ safe) u t.n st) {bs : List Nat} (hb : ∀ v, v ∈ bs ↔ nearL t.links x v)
    {r : Option (Nat × Nat)} (P : Pick bs st r) : Ks538.gate t safe u x = r := by
  have c : ∀ d g, Cand t safe u x safe d g ↔ g ∈ bs ∧ (g, d) ∈ st := fun d g => by
    unfold Cand
    rw [way_iff t safe u D, near_iff, hb]
    constructor
    · rintro ⟨_, a, b⟩; exact ⟨nearL_symm a, b⟩
    · rintro ⟨a, b⟩
      exact ⟨R.inA (A := (· ∈ safe)) hu (D.val _ _ b).1.1, nearL_symm a, b⟩
  have h := gate_fold t safe u x safe none
  rw [gate_eq]
  cases hf : safe.foldl (gateStep t safe u x) none with
  | none =>
    rw [hf] at h
    cases r with
    | none => rfl
    | some p =>
      obtain ⟨d, g⟩ := p
      exact absurd ((c d g).mpr ⟨P.1, P.2.1⟩) (h.2 d g)
  | some p =>
    obtain ⟨d, g⟩ := p
    rw [hf] at h
    obtain ⟨h1 | h1, _, h3⟩ := h
    · cases h1
    · obtain ⟨q1, q2⟩ := (c d g).mp h1
      cases r with
      | none => exact absurd (List.mem_map.mpr ⟨_, q2, rfl⟩) (P g q1)
      | some p' =>
        obtain ⟨d', g'⟩ := p'
        have a := P.2.2 d g q1 q2
        have b := h3 d' g' ((c d' g').mpr ⟨P.1, P.2.1⟩)
        have e1 : d = d' := by unfold better at a b; omega
        have e2 : g = g' := by unfold better at a b; omega
        rw [e1, e2]

/-! ### an order -/
theorem isOrder_iff (t : Net) (home : Nat) (hh : home < t.n) (o : List Nat) : Ks538.isOrder t home o = true ↔ o.Perm (Ks538.others t home) := by
  have nd : (Ks538.others t home).Nodup := List.Pairwise.filter _ List.nodup_range
  have hl : (Ks538.others t home).length + 1 = t.n := by
    have m : ∀ x, x ∈ Ks538.others t home ↔ x < t.n ∧ x ≠ home := fun x => by
      unfold Ks538.others
      rw [List.mem_filter, List.mem_range, bne_iff_ne]
    have h1 := len_sub (l := home :: Ks538.others t home) (m := List.range t.n) (List.nodup_cons.mpr ⟨fun z => ((m home).mp z).2 rfl, nd⟩) (fun x hx => by
      rcases List.mem_cons.mp hx with rfl | hx
      · exact List.mem_range.mpr hh
      · exact List.mem_range.mpr ((m x).mp hx).1)
    have h2 := len_sub (l := List.range t.n) (m := home :: Ks538.others t home) List.nodup_range (fun x hx => by
      by_cases e : x = home
      · rw [e]; exact List.mem_cons_self
      · exact List.mem_cons_of_mem _ ((m x).mpr ⟨List.mem_range.mp hx, e⟩))
    rw [List.length_range, List.length_cons] at h1 h2
    omega
  unfold Ks538.isOrder
  rw [Bool.and_eq_true, beq_iff_eq, List.all_eq_true]
  constructor
  · rintro ⟨h1, h2⟩
    exact perm_of_len nd (fun x hx => List.contains_iff_mem.mp (h2 x hx)) (by omega)
  · intro h
    refine ⟨by rw [h.length_eq]; exact hl, fun x hx => List.contains_iff_mem.mpr (h.mem_iff.mpr hx)⟩
end Sw
set_option Elab.async false
namespace Sw
open Ks536 (Net)
theorem netOf_size {n : Nat} {l : List Nat} (h : n < 1 ∨ 7 < n) : Ks536.netOf n l = none := by
  unfold Ks536.netOf
  rw [if_pos (show n < 1 ∨ Ks536.NODES < n from h)]
theorem netOf_len {n : Nat} {l : List Nat} (h : l.length % 2 ≠ 0 ∨ 20 < l.length) : Ks536.netOf n l = none := by
  unfold Ks536.netOf
  split
  · rfl
  · split
    · rfl
    · rename_i r hr
      have hl := (linksOf_some l r hr).1
      have hn : ¬ l.length % 2 = 1 := fun z => by
        have := (linksOf_none l).mpr z
        rw [hr] at this
        cases this
      rw [if_pos (show Ks536.LINKS < r.length by show 10 < r.length; omega)]
/-- a net whose links are told by mkLinks -/
structure IsNet (n : Nat) (l : List Nat) (t : Net) : Prop where
  eq : Ks536.netOf n l = some t
  n : t.n = n
  near : ∀ u v, nearL (mkLinks l) u v ↔ nearL t.links u v
theorem netOf_links {n : Nat} {l : List Nat} (h1 : ¬ (n < 1 ∨ 7 < n)) (h2 : ¬ (l.length % 2 ≠ 0 ∨ 20 < l.length)) :
    ∃ r, Ks536.linksOf l = some r ∧ mkLinks l = r.map nrm ∧ Ks536.netOf n l = if areLinks n [] (mkLinks l) = true ∧ Ks536.joined ⟨n, r⟩ = true then some ⟨n, r⟩ else none := by
  cases hr : Ks536.linksOf l with
  | none =>
    have := (linksOf_none l).mp hr
    omega
  | some r =>
    obtain ⟨hl, hm⟩ := linksOf_some l r hr
    refine ⟨r, rfl, hm, ?_⟩
    unfold Ks536.netOf
    rw [if_neg (show ¬ (n < 1 ∨ Ks536.NODES < n) from h1)]
    simp only [hr]
    rw [if_neg (show ¬ Ks536.LINKS < r.length by show ¬ 10 < r.length; omega)]
    have e : Ks536.okNet ⟨n, r⟩ = true ↔ (areLinks n [] (mkLinks l) = true ∧ Ks536.joined ⟨n, r⟩ = true) := by
      rw [hm, are_of]
      unfold Ks536.okNet
      simp only [Bool.and_eq_true, decide_eq_true_eq]
      constructor
      · rintro ⟨⟨⟨⟨⟨a, b⟩, c⟩, d⟩, e⟩, f⟩
        exact ⟨⟨d, e⟩, f⟩
      · rintro ⟨⟨d, e⟩, f⟩
        exact ⟨⟨⟨⟨⟨by show 1 ≤ n; omega, by show n ≤ 7; omega⟩, by show r.length ≤ 10; omega⟩, d⟩, e⟩, f⟩
    by_cases q : Ks536.okNet ⟨n, r⟩ = true
    · rw [if_pos q, if_pos (e.mp q)]
    · rw [if_neg q, if_neg (fun z => q (e.mpr z))]
theorem netOf_bad {n : Nat} {l : List Nat} (h1 : ¬ (n < 1 ∨ 7 < n)) (h2 : ¬ (l.length % 2 ≠ 0 ∨ 20 < l.length)) (h3 : areLinks n [] (mkLinks l) = false) : Ks536.netOf n l = none := by
  obtain ⟨r, _, _, e⟩ := netOf_links h1 h2
  rw [e, if_neg (by rw [h3]; simp)]
theorem netOf_dist {n : Nat} {l : List Nat} (h1 : ¬ (n < 1 ∨ 7 < n)) (h2 : ¬ (l.length % 2 ≠ 0 ∨ 20 < l.length)) (h3 : areLinks n [] (mkLinks l) = true) {st : List (Nat × Nat)} (D : IsDist (nearL (mkLinks l)) (· < n) 0 n st) :
    (st.length ≠ n → Ks536.netOf n l = none) ∧ (st.length = n → ∃ t, IsNet n l t) := by
  obtain ⟨r, _, hm, e⟩ := netOf_links h1 h2
  have hE : nearL (mkLinks l) = nearL r := by
    funext u v
    rw [hm]
    exact propext (nearL_nrm r u v)
  rw [hE] at D
  have j := joined_iff ⟨n, r⟩ (by show 1 ≤ n; omega) (st := st) D
  constructor
  · intro h
    rw [e, if_neg (fun z => h (j.mp z.2))]
  · intro h
    exact ⟨⟨n, r⟩, by rw [e, if_pos ⟨h3, j.mpr h⟩], rfl, fun u v => by rw [hE]⟩
theorem links_lt {n : Nat} {ls : List (Nat × Nat)} (hl : ∀ l ∈ ls, l.1 ≤ l.2) (h : areLinks n [] ls = true) : ∀ l ∈ ls, l.1 < n ∧ l.2 < n := fun l m => by
  obtain ⟨⟨a, b⟩, _⟩ := ((areLinks_iff n ls []).mp h).1 l m
  have := hl l m
  omega
theorem mkLinks_le : ∀ (l : List Nat), ∀ p ∈ mkLinks l, p.1 ≤ p.2
  | [], p, h => by simp [mkLinks] at h
  | [_], p, h => by simp [mkLinks] at h
  | u :: v :: l, p, h => by
    rcases List.mem_cons.mp h with rfl | h
    · show min u v ≤ max u v
      omega
    · exact mkLinks_le l p h
theorem IsNet.lt {n : Nat} {l : List Nat} {t : Net} (N : IsNet n l t) : 1 ≤ n ∧ n ≤ 7 ∧ l.length % 2 = 0 ∧ l.length ≤ 20 ∧ (∀ p ∈ mkLinks l, p.1 < n ∧ p.2 < n) := by
  have e := N.eq
  by_cases h1 : n < 1 ∨ 7 < n
  · rw [netOf_size h1] at e; cases e
  · by_cases h2 : l.length % 2 ≠ 0 ∨ 20 < l.length
    · rw [netOf_len h2] at e; cases e
    · refine ⟨by omega, by omega, by omega, by omega, ?_⟩
      cases h3 : areLinks n [] (mkLinks l) with
      | false => rw [netOf_bad h1 h2 h3] at e; cases e
      | true => exact links_lt (mkLinks_le l) h3

/-! ### step by step -/
theorem times_none {t : Net} {safe : List Nat} {u k x y : Nat} {l : List Nat} (h : Ks538.gate t safe u x = none) : Ks538.times t safe u k (x :: y :: l) = none := by
  unfold Ks538.times
  rw [h]
theorem times_some {t : Net} {safe : List Nat} {u k x y d g : Nat} {l : List Nat} (h : Ks538.gate t safe u x = some (d, g)) :
    Ks538.times t safe u k (x :: y :: l) = (Ks538.times t (x :: safe) g (k + d + 2) (y :: l)).map fun r => (k + d + 2) :: r := by
  conv => lhs; unfold Ks538.times
  rw [h]
/-- what's told so far, and what's to come -/
def Told (t : Net) (home : Nat) (o : List Nat) (i : Nat) (safe : List Nat) (u k : Nat) (ans : List Nat) : Prop :=
  Ks538.known t home o = (Ks538.times t safe u k (o.drop i)).map fun r => ans ++ r
theorem Told.start (t : Net) (home : Nat) (o : List Nat) : Told t home o 0 [home] home 0 [] := by
  unfold Told Ks538.known
  rw [List.drop_zero]
  cases Ks538.times t [home] home 0 o <;> rfl
theorem drop2 {o : List Nat} {i x : Nat} (h : o.dropLast[i]? = some x) : ∃ y l, o.drop i = x :: y :: l ∧ o.drop (i + 1) = y :: l := by
  obtain ⟨h1, h2⟩ := List.getElem?_eq_some_iff.mp h
  rw [List.length_dropLast] at h1
  have a : o.drop i = o[i] :: o.drop (i + 1) := List.drop_eq_getElem_cons (by omega)
  have b : o.drop (i + 1) = o[i + 1] :: o.drop (i + 1 + 1) := List.drop_eq_getElem_cons (by omega)
  rw [List.getElem_dropLast] at h2
  exact ⟨_, _, by rw [a, b, h2], b⟩
theorem Told.stop {t : Net} {home : Nat} {o : List Nat} {i : Nat} {safe : List Nat} {u k : Nat} {ans : List Nat} (T : Told t home o i safe u k ans) {x : Nat} (hx : o.dropLast[i]? = some x) (h : Ks538.gate t safe u x = none) :
    Ks538.known t home o = none := by
  obtain ⟨y, l, e, _⟩ := drop2 hx
  unfold Told at T
  rw [T, e, times_none h]; rfl
theorem Told.next {t : Net} {home : Nat} {o : List Nat} {i : Nat} {safe : List Nat} {u k : Nat} {ans : List Nat} (T : Told t home o i safe u k ans) {x d g : Nat} (hx : o.dropLast[i]? = some x) (h : Ks538.gate t safe u x = some (d, g)) :
    Told t home o (i + 1) (x :: safe) g (k + d + 2) (ans ++ [k + d + 2]) := by
  obtain ⟨y, l, e, e2⟩ := drop2 hx
  unfold Told at T ⊢
  rw [T, e, times_some h, e2, Option.map_map]
  congr 1
  funext r
  show ans ++ (k + d + 2) :: r = _
  simp
theorem Told.last {t : Net} {home : Nat} {o : List Nat} {safe : List Nat} {u k : Nat} {ans : List Nat} (T : Told t home o o.dropLast.length safe u k ans) (h : o ≠ []) : Ks538.known t home o = some (ans ++ [k]) := by
  unfold Told at T
  have hp := List.length_pos_iff.mpr h
  have e : o.drop o.dropLast.length = [o.getLast h] := by
    rw [List.length_dropLast, List.drop_eq_getElem_cons (by omega), List.getLast_eq_getElem, List.drop_eq_nil_of_le (by omega)]
  rw [T, e]
  rfl
theorem Told.none {t : Net} {home : Nat} {o : List Nat} {safe : List Nat} {u k : Nat} {ans : List Nat} (T : Told t home o o.dropLast.length safe u k ans) (h : o = []) : Ks538.known t home o = some ans := by
  unfold Told at T
  subst h
  rw [T]
  show some (ans ++ []) = _
  rw [List.append_nil]
theorem times_len (t : Net) : ∀ (o safe : List Nat) (u k : Nat) (r : List Nat), Ks538.times t safe u k o = some r → r.length = o.length
  | [], safe, u, k, r, h => by
    unfold Ks538.times at h
    rw [← Option.some.inj h]
  | [x], safe, u, k, r, h => by
    unfold Ks538.times at h
    rw [← Option.some.inj h]; rfl
  | x :: y :: l, safe, u, k, r, h => by
    cases hg : Ks538.gate t safe u x with
    | none => rw [times_none hg] at h; cases h
    | some p =>
      obtain ⟨d, g⟩ := p
      rw [times_some hg, Option.map_eq_some_iff] at h
      obtain ⟨r', h1, rfl⟩ := h
      rw [List.length_cons, times_len t (y :: l) _ _ _ _ h1, List.length_cons (a := x)]
theorem nats_of (l : List Nat) : Ks538Neutral.nats (l.map Int.ofNat) = l := by
  unfold Ks538Neutral.nats
  rw [List.map_map]
  exact List.map_id' l
theorem known_eq (n home : Nat) (l o : List Nat) : PyKs538.known (n : Int) (home : Int) (l.map Int.ofNat) (o.map Int.ofNat) = Ks538Neutral.out (Ks538.answer (.known n home l o)) := by
  have e : PyKs538.known (n : Int) (home : Int) (l.map Int.ofNat) (o.map Int.ofNat) = Ks538Neutral.out (Ks538.answer (.known n home (Ks538Neutral.nats (l.map Int.ofNat)) (Ks538Neutral.nats (o.map Int.ofNat)))) := rfl
  rw [e, nats_of, nats_of]
/-- the answer, case by case -/
def intsN (l : List Nat) : List Int := l.map Int.ofNat
theorem known_bad {n home : Nat} {l o : List Nat} (h : Ks536.netOf n l = none) : Ks538Neutral.out (Ks538.answer (.known n home l o)) = [-22] := by
  unfold Ks538.answer Ks538.home_ Ks536.net
  simp only [h]
  rfl
theorem known_home {n home : Nat} {l o : List Nat} {t : Net} (N : IsNet n l t) (h : n ≤ home) : Ks538Neutral.out (Ks538.answer (.known n home l o)) = [-2] := by
  unfold Ks538.answer Ks538.home_ Ks536.net
  simp only [N.eq]
  rw [if_pos h]
  rfl
theorem known_order {n home : Nat} {l o : List Nat} {t : Net} (N : IsNet n l t) (h : home < n) (ho : ¬ o.Perm (Ks538.others t home)) : Ks538Neutral.out (Ks538.answer (.known n home l o)) = [-22] := by
  unfold Ks538.answer Ks538.home_ Ks536.net
  simp only [N.eq]
  rw [if_neg (by omega), if_pos]
  · rfl
  · cases q : Ks538.isOrder t home o with
    | false => rfl
    | true => exact absurd ((isOrder_iff t home (by rw [N.n]; exact h) o).mp q) ho
theorem known_none {n home : Nat} {l o : List Nat} {t : Net} (N : IsNet n l t) (h : home < n) (ho : o.Perm (Ks538.others t home)) (hk : Ks538.known t home o = none) : Ks538Neutral.out (Ks538.answer (.known n home l o)) = [-33] := by
  have q := (isOrder_iff t home (by rw [N.n]; exact h) o).mpr ho
  unfold Ks538.answer Ks538.home_ Ks536.net
  simp only [N.eq]
  rw [if_neg (by omega), if_neg (by rw [q]; simp)]
  simp only [hk]
  rfl
theorem known_some {n home : Nat} {l o r : List Nat} {t : Net} (N : IsNet n l t) (h : home < n) (ho : o.Perm (Ks538.others t home)) (hk : Ks538.known t home o = some r) : Ks538Neutral.out (Ks538.answer (.known n home l o)) = (r.length : Int) :: intsN r := by
  have q := (isOrder_iff t home (by rw [N.n]; exact h) o).mpr ho
  unfold Ks538.answer Ks538.home_ Ks536.net
  simp only [N.eq]
  rw [if_neg (by omega), if_neg (by rw [q]; simp)]
  simp only [hk]
  rfl
end Sw
set_option Elab.async false
namespace Sw
open Ks536 (Net)
/-! ### the first of two orders -/
def lexlt : List Nat → List Nat → Prop
  | [], [] => False
  | [], _ :: _ => True
  | _ :: _, [] => False
  | x :: a, y :: b => x < y ∨ (x = y ∧ lexlt a b)
theorem lexlt_irrefl : ∀ a : List Nat, ¬ lexlt a a
  | [], h => h
  | x :: a, h => by
    rcases h with h | ⟨_, h⟩
    · omega
    · exact lexlt_irrefl a h
theorem lexlt_trans : ∀ {a b c : List Nat}, lexlt a b → lexlt b c → lexlt a c
  | [], [], _, h, _ => h.elim
  | [], _ :: _, [], _, h => h.elim
  | [], _ :: _, _ :: _, _, _ => trivial
  | _ :: _, [], _, h, _ => h.elim
  | _ :: _, _ :: _, [], _, h => h.elim
  | x :: a, y :: b, z :: c, h1, h2 => by
    rcases h1 with h1 | ⟨e1, h1⟩ <;> rcases h2 with h2 | ⟨e2, h2⟩
    · exact .inl (by omega)
    · exact .inl (by omega)
    · exact .inl (by omega)
    · exact .inr ⟨e1.trans e2, lexlt_trans h1 h2⟩
theorem lexlt_total : ∀ (a b : List Nat), lexlt a b ∨ a = b ∨ lexlt b a
  | [], [] => .inr (.inl rfl)
  | [], _ :: _ => .inl trivial
  | _ :: _, [] => .inr (.inr trivial)
  | x :: a, y :: b => by
    rcases Nat.lt_trichotomy x y with h | h | h
    · exact .inl (.inl h)
    · subst h
      rcases lexlt_total a b with q | q | q
      · exact .inl (.inr ⟨rfl, q⟩)
      · exact .inr (.inl (by rw [q]))
      · exact .inr (.inr (.inr ⟨rfl, q⟩))
    · exact .inr (.inr (.inl h))
theorem perm_filter {l : List Nat} (hn : l.Nodup) {x : Nat} (hx : x ∈ l) : l.Perm (x :: l.filter fun y => y != x) := by
  rw [← List.Nodup.erase_eq_filter hn x]
  exact List.perm_cons_erase hx
theorem orders_mem : ∀ (k : Nat) (l o : List Nat), l.Nodup → l.length = k → (o ∈ Ks538.orders k l ↔ o.Perm l)
  | 0, l, o, _, hl => by
    have e : l = [] := List.length_eq_zero_iff.mp hl
    subst e
    unfold Ks538.orders
    rw [List.mem_singleton]
    constructor
    · rintro rfl; exact List.Perm.refl _
    · intro h; exact List.Perm.eq_nil h
  | k + 1, l, o, hn, hl => by
    unfold Ks538.orders
    rw [List.mem_flatMap]
    have fl : ∀ x ∈ l, (l.filter fun y => y != x).length = k := fun x hx => by
      have := (perm_filter hn hx).length_eq
      rw [List.length_cons] at this
      omega
    constructor
    · rintro ⟨x, hx, h⟩
      obtain ⟨r, hr, rfl⟩ := List.mem_map.mp h
      have q := (orders_mem k _ r (List.Pairwise.filter _ hn) (fl x hx)).mp hr
      exact (q.cons x).trans (perm_filter hn hx).symm
    · intro h
      cases o with
      | nil =>
        have := h.length_eq
        rw [List.length_nil] at this
        omega
      | cons x r =>
        have hx : x ∈ l := h.mem_iff.mp List.mem_cons_self
        exact ⟨x, hx, List.mem_map.mpr ⟨r, (orders_mem k _ r (List.Pairwise.filter _ hn) (fl x hx)).mpr ((h.trans (perm_filter hn hx)).cons_inv), rfl⟩⟩
theorem orders_sorted : ∀ (k : Nat) (l : List Nat), l.Pairwise (· < ·) → (Ks538.orders k l).Pairwise lexlt
  | 0, l, _ => by
    unfold Ks538.orders
    exact List.pairwise_singleton _ _
  | k + 1, l, h => by
    unfold Ks538.orders
    rw [List.pairwise_flatMap]
    refine ⟨fun x _ => ?_, h.imp fun {a b} hab x hx y hy => ?_⟩
    · rw [List.pairwise_map]
      exact (orders_sorted k _ (List.Pairwise.filter _ h)).imp fun {a b} q => .inr ⟨rfl, q⟩
    · obtain ⟨r, _, rfl⟩ := List.mem_map.mp hx
      obtain ⟨r', _, rfl⟩ := List.mem_map.mp hy
      exact .inl hab
theorem others_sorted (t : Net) (home : Nat) : (Ks538.others t home).Pairwise (· < ·) := List.Pairwise.filter _ List.pairwise_lt_range
theorem others_nodup (t : Net) (home : Nat) : (Ks538.others t home).Nodup := (others_sorted t home).imp fun h => Nat.ne_of_lt h
theorem others_mem (t : Net) (home x : Nat) : x ∈ Ks538.others t home ↔ x < t.n ∧ x ≠ home := by
  unfold Ks538.others
  rw [List.mem_filter, List.mem_range, bne_iff_ne]
theorem others_len (t : Net) (home : Nat) (hh : home < t.n) : (Ks538.others t home).length = t.n - 1 := by
  have nd := others_nodup t home
  have h1 := len_sub (l := home :: Ks538.others t home) (m := List.range t.n) (List.nodup_cons.mpr ⟨fun z => ((others_mem t home home).mp z).2 rfl, nd⟩) (fun x hx => by
    rcases List.mem_cons.mp hx with rfl | hx
    · exact List.mem_range.mpr hh
    · exact List.mem_range.mpr ((others_mem t home x).mp hx).1)
  have h2 := len_sub (l := List.range t.n) (m := home :: Ks538.others t home) List.nodup_range (fun x hx => by
    by_cases e : x = home
    · rw [e]; exact List.mem_cons_self
    · exact List.mem_cons_of_mem _ ((others_mem t home x).mpr ⟨List.mem_range.mp hx, e⟩))
  rw [List.length_range, List.length_cons] at h1 h2
  omega
theorem all_mem (t : Net) (home : Nat) (hh : home < t.n) (o r : List Nat) : (o, r) ∈ Ks538.all t home ↔ o.Perm (Ks538.others t home) ∧ Ks538.known t home o = some r := by
  unfold Ks538.all
  rw [List.mem_filterMap]
  constructor
  · rintro ⟨o', h1, h2⟩
    rw [Option.map_eq_some_iff] at h2
    obtain ⟨r', h3, h4⟩ := h2
    injection h4 with e1 e2
    subst e1 e2
    exact ⟨(orders_mem _ _ _ (others_nodup t home) (others_len t home hh)).mp h1, h3⟩
  · rintro ⟨h1, h2⟩
    exact ⟨o, (orders_mem _ _ _ (others_nodup t home) (others_len t home hh)).mpr h1, by rw [h2]; rfl⟩
theorem all_sorted (t : Net) (home : Nat) : (Ks538.all t home).Pairwise fun p q => lexlt p.1 q.1 := by
  unfold Ks538.all
  rw [List.pairwise_filterMap]
  refine (orders_sorted _ _ (others_sorted t home)).imp fun {a b} h p hp q hq => ?_
  rw [Option.map_eq_some_iff] at hp hq
  obtain ⟨_, _, rfl⟩ := hp
  obtain ⟨_, _, rfl⟩ := hq
  exact h
/-! ### the best -/
abbrev bestStep (f : List Nat → Nat) (b : Option (List Nat × List Nat)) (p : List Nat × List Nat) : Option (List Nat × List Nat) := match b with
  | none => some p
  | some q => if f p.2 < f q.2 then some p else some q
theorem best_fold (f : List Nat → Nat) : ∀ (l : List (List Nat × List Nat)) (q : List Nat × List Nat), ∃ p, l.foldl (bestStep f) (some q) = some p ∧
    ((p = q ∧ ∀ x ∈ l, f q.2 ≤ f x.2) ∨ (f p.2 < f q.2 ∧ ∃ a b, l = a ++ p :: b ∧ (∀ x ∈ a, f p.2 < f x.2) ∧ ∀ x ∈ b, f p.2 ≤ f x.2))
  | [], q => ⟨q, rfl, .inl ⟨rfl, by simp⟩⟩
  | x :: l, q => by
    rw [List.foldl_cons]
    by_cases h : f x.2 < f q.2
    · rw [show bestStep f (some q) x = some x from if_pos h]
      obtain ⟨p, e, hp⟩ := best_fold f l x
      refine ⟨p, e, .inr ?_⟩
      rcases hp with ⟨rfl, hp⟩ | ⟨hlt, a, b, rfl, ha, hb⟩
      · exact ⟨h, [], l, rfl, by simp, hp⟩
      · refine ⟨by omega, x :: a, b, rfl, fun y hy => ?_, hb⟩
        rcases List.mem_cons.mp hy with rfl | hy
        · exact hlt
        · exact ha y hy
    · rw [show bestStep f (some q) x = some q from if_neg h]
      obtain ⟨p, e, hp⟩ := best_fold f l q
      refine ⟨p, e, ?_⟩
      rcases hp with ⟨rfl, hp⟩ | ⟨hlt, a, b, rfl, ha, hb⟩
      · refine .inl ⟨rfl, fun y hy => ?_⟩
        rcases List.mem_cons.mp hy with rfl | hy
        · omega
        · exact hp y hy
      · refine .inr ⟨hlt, x :: a, b, rfl, fun y hy => ?_, hb⟩
        rcases List.mem_cons.mp hy with rfl | hy
        · omega
        · exact ha y hy
theorem best_split (f : List Nat → Nat) (l : List (List Nat × List Nat)) : (l = [] ∧ Ks538.best f l = none) ∨
    ∃ p a b, Ks538.best f l = some p ∧ l = a ++ p :: b ∧ (∀ x ∈ a, f p.2 < f x.2) ∧ ∀ x ∈ b, f p.2 ≤ f x.2 := by
  cases l with
  | nil => exact .inl ⟨rfl, rfl⟩
  | cons q l =>
    right
    obtain ⟨p, e, hp⟩ := best_fold f l q
    have e : Ks538.best f (q :: l) = some p := e
    rcases hp with ⟨rfl, hp⟩ | ⟨hlt, a, b, rfl, ha, hb⟩
    · exact ⟨p, [], l, e, rfl, by simp, hp⟩
    · refine ⟨p, q :: a, b, e, rfl, fun y hy => ?_, hb⟩
      rcases List.mem_cons.mp hy with rfl | hy
      · exact hlt
      · exact ha y hy
/-- (o, r) is the order that's due -/
structure Due (t : Net) (home : Nat) (f : List Nat → Nat) (o r : List Nat) : Prop where
  perm : o.Perm (Ks538.others t home)
  known : Ks538.known t home o = some r
  least : ∀ o' r', o'.Perm (Ks538.others t home) → Ks538.known t home o' = some r' → f r ≤ f r'
  first : ∀ o' r', o'.Perm (Ks538.others t home) → Ks538.known t home o' = some r' → f r' = f r → o = o' ∨ lexlt o o'
theorem Due.one {t : Net} {home : Nat} {f : List Nat → Nat} {o r o' r' : List Nat} (a : Due t home f o r) (b : Due t home f o' r') : o = o' ∧ r = r' := by
  have h1 := a.least _ _ b.perm b.known
  have h2 := b.least _ _ a.perm a.known
  have e : o = o' := by
    rcases a.first _ _ b.perm b.known (by omega) with h | h
    · exact h
    · rcases b.first _ _ a.perm a.known (by omega) with q | q
      · exact q.symm
      · exact absurd (lexlt_trans h q) (lexlt_irrefl _)
  subst e
  have h := a.known
  rw [b.known] at h
  exact ⟨rfl, (Option.some.inj h).symm⟩
theorem best_due {t : Net} {home : Nat} (hh : home < t.n) {f : List Nat → Nat} {o r : List Nat} (D : Due t home f o r) : Ks538.best f (Ks538.all t home) = some (o, r) := by
  rcases best_split f (Ks538.all t home) with ⟨h, _⟩ | ⟨p, a, b, e, es, ha, hb⟩
  · have := (all_mem t home hh o r).mpr ⟨D.perm, D.known⟩
    rw [h] at this
    simp at this
  · obtain ⟨o', r'⟩ := p
    rw [e]
    have mp : (o', r') ∈ Ks538.all t home := by rw [es]; simp
    obtain ⟨p1, p2⟩ := (all_mem t home hh o' r').mp mp
    have so := all_sorted t home
    rw [es, List.pairwise_append] at so
    obtain ⟨_, s2, s3⟩ := so
    have D' : Due t home f o' r' := by
      refine ⟨p1, p2, fun o2 r2 h1 h2 => ?_, fun o2 r2 h1 h2 h3 => ?_⟩
      · have m := (all_mem t home hh o2 r2).mpr ⟨h1, h2⟩
        rw [es] at m
        rcases List.mem_append.mp m with m | m
        · exact Nat.le_of_lt (ha _ m)
        · rcases List.mem_cons.mp m with m | m
          · injection m with _ m
            rw [m]; exact Nat.le_refl _
          · exact hb _ m
      · have m := (all_mem t home hh o2 r2).mpr ⟨h1, h2⟩
        rw [es] at m
        rcases List.mem_append.mp m with m | m
        · have := ha _ m
          simp only at this
          omega
        · rcases List.mem_cons.mp m with m | m
          · injection m with m _
            exact .inl m.symm
          · exact .inr ((List.pairwise_cons.mp s2).1 _ m)
    obtain ⟨e1, e2⟩ := D'.one D
    rw [e1, e2]
end Sw
set_option Elab.async false
namespace Sw
open Ks536 (Net)
section
variable {E : Nat → Nat → Prop} {A : Nat → Prop} {s : Nat}
open Classical in
theorem exists_dist_from (hs : A s) {n : Nat} (hA : ∀ v, A v → v < n) : ∀ (m k : Nat) (st : List (Nat × Nat)) (edge : List Nat), 2 * (n - st.length) + (if edge = [] then 0 else 1) ≤ m → Lvl E A s k st edge → ∃ st', IsDist E A s n st'
  | 0, k, st, edge, hm, L => by
    by_cases he : edge = []
    · subst he
      exact ⟨st, L.done hs hA⟩
    · rw [if_neg he] at hm
      omega
  | m + 1, k, st, edge, hm, L => by
    by_cases he : edge = []
    · subst he
      exact ⟨st, L.done hs hA⟩
    · rw [if_neg he] at hm
      let dn := (List.range n).filter fun v => decide (A v ∧ ∃ u, u ∈ edge ∧ E u v)
      have hdnA : ∀ v, v ∈ dn ↔ A v ∧ ∃ u, u ∈ edge ∧ E u v := fun v => by
        show v ∈ List.filter _ _ ↔ _
        rw [List.mem_filter, List.mem_range, decide_eq_true_eq]
        exact ⟨fun h => h.2, fun h => ⟨hA v h.1, h⟩⟩
      let fur := dn.filter fun v => decide (v ∉ keys st)
      have hf : ∀ v, v ∈ fur ↔ A v ∧ v ∉ keys st ∧ ∃ u, u ∈ edge ∧ E u v := fun v => by
        show v ∈ List.filter _ _ ↔ _
        rw [List.mem_filter, hdnA, decide_eq_true_eq]
        exact ⟨fun h => ⟨h.1.1, h.2, h.1.2⟩, fun h => ⟨⟨h.1, h.2.2⟩, h.2.1⟩⟩
      have hfn : fur.Nodup := List.Pairwise.filter _ (List.Pairwise.filter _ List.nodup_range)
      -- the others as one list, without A
      have M : Mid A k st ((List.range n).filter fun v => decide (∃ u, u ∈ edge ∧ E u v)) (st ++ fur.map fun v => (v, k + 1)) fur := ⟨rfl, hfn, fun v => by
        rw [hf v, List.mem_filter, List.mem_range, decide_eq_true_eq]
        exact ⟨fun h => ⟨h.1, h.2.1, hA v h.1, h.2.2⟩, fun h => ⟨h.1, h.2.1, h.2.2.2⟩⟩⟩
      have nx : Lvl E A s (k + 1) (st ++ fur.map fun v => (v, k + 1)) fur := by
        -- E within bounds
        have L' : Lvl (fun u v => E u v ∧ A v) A s k st edge := by
          have rc : ∀ j v, R E A s j v ↔ R (fun u v => E u v ∧ A v) A s j v := by
            intro j
            induction j with
            | zero => intro v; exact Iff.rfl
            | succ j ih =>
              intro v
              show (A v ∧ _) ↔ (A v ∧ _)
              constructor
              · rintro ⟨a, h | ⟨u, h1, h2⟩⟩
                · exact ⟨a, .inl ((ih v).mp h)⟩
                · exact ⟨a, .inr ⟨u, (ih u).mp h1, h2, a⟩⟩
              · rintro ⟨a, h | ⟨u, h1, h2, _⟩⟩
                · exact ⟨a, .inl ((ih v).mpr h)⟩
                · exact ⟨a, .inr ⟨u, (ih u).mpr h1, h2⟩⟩
          exact ⟨L.nd, fun v d h => let ⟨⟨a, b⟩, c⟩ := L.val v d h; ⟨⟨(rc d v).mp a, fun j hj r => b j hj ((rc j v).mpr r)⟩, c⟩, fun v h => L.all v ((rc k v).mpr h), L.edg, L.big⟩
        have M' : Mid A k st dn (st ++ fur.map fun v => (v, k + 1)) fur := ⟨rfl, hfn, fun v => by
          rw [hf v, hdnA]
          exact ⟨fun h => ⟨h.1, h.2.1, h.1, h.2.2⟩, fun h => ⟨h.1, h.2.1, h.2.2.2⟩⟩⟩
        have N' := L'.next hs he M' (fun v => by
          rw [hdnA]
          exact ⟨fun ⟨a, u, h1, h2⟩ => ⟨u, h1, h2, a⟩, fun ⟨u, h1, h2, a⟩ => ⟨a, u, h1, h2⟩⟩)
        have rc : ∀ j v, R E A s j v ↔ R (fun u v => E u v ∧ A v) A s j v := by
          intro j
          induction j with
          | zero => intro v; exact Iff.rfl
          | succ j ih =>
            intro v
            show (A v ∧ _) ↔ (A v ∧ _)
            constructor
            · rintro ⟨a, h | ⟨u, h1, h2⟩⟩
              · exact ⟨a, .inl ((ih v).mp h)⟩
              · exact ⟨a, .inr ⟨u, (ih u).mp h1, h2, a⟩⟩
            · rintro ⟨a, h | ⟨u, h1, h2, _⟩⟩
              · exact ⟨a, .inl ((ih v).mpr h)⟩
              · exact ⟨a, .inr ⟨u, (ih u).mpr h1, h2⟩⟩
        exact ⟨N'.nd, fun v d h => let ⟨⟨a, b⟩, c⟩ := N'.val v d h; ⟨⟨(rc d v).mpr a, fun j hj r => b j hj ((rc j v).mp r)⟩, c⟩, fun v h => N'.all v ((rc _ v).mp h), N'.edg, N'.big⟩
      have sm := nx.small hs hA
      rw [List.length_append, List.length_map] at sm
      refine exists_dist_from hs hA m (k + 1) _ fur ?_ nx
      rw [List.length_append, List.length_map]
      by_cases hfu : fur = []
      · rw [if_pos hfu]
        have : fur.length = 0 := by rw [hfu]; rfl
        omega
      · rw [if_neg hfu]
        have := List.length_pos_iff.mpr hfu
        omega
theorem exists_dist (hs : A s) {n : Nat} (hA : ∀ v, A v → v < n) : ∃ st, IsDist E A s n st := exists_dist_from hs hA _ 0 [(s, 0)] [s] (Nat.le_refl _) (Lvl.start s)
theorem R.comp {k : Nat} {u : Nat} (h1 : R E A s k u) : ∀ {j v : Nat}, R E A u j v → R E A s (k + j) v
  | 0, v, h => by
    have e : v = u := h
    rw [e]; exact h1
  | j + 1, v, ⟨a, h⟩ => by
    refine ⟨a, ?_⟩
    rcases h with h | ⟨x, hx, e⟩
    · exact .inl (R.comp h1 h)
    · exact .inr ⟨x, R.comp h1 hx, e⟩
theorem R.mono {B : Nat → Prop} (hAB : ∀ v, A v → B v) : ∀ {k v : Nat}, R E A s k v → R E B s k v
  | 0, _, h => h
  | k + 1, v, ⟨a, h⟩ => by
    refine ⟨hAB v a, ?_⟩
    rcases h with h | ⟨x, hx, e⟩
    · exact .inl (R.mono hAB h)
    · exact .inr ⟨x, R.mono hAB hx, e⟩
end
/-- any two safe places hang together through safe ones -/
def Conn (t : Net) (safe : List Nat) : Prop := ∀ a ∈ safe, ∀ b ∈ safe, ∃ k, R (nearL t.links) (· ∈ safe) a k b
theorem Conn.one (t : Net) (h : Nat) : Conn t [h] := fun a ha b hb => ⟨0, by
  rw [List.mem_singleton] at ha hb
  rw [ha, hb]; rfl⟩
theorem Conn.more {t : Net} {safe : List Nat} (C : Conn t safe) {g x : Nat} (hg : g ∈ safe) (e : nearL t.links g x) : Conn t (x :: safe) := by
  have up : ∀ a ∈ safe, ∀ b ∈ safe, ∃ k, R (nearL t.links) (· ∈ x :: safe) a k b := fun a ha b hb => by
    obtain ⟨k, h⟩ := C a ha b hb
    exact ⟨k, R.mono (fun v hv => List.mem_cons_of_mem _ hv) h⟩
  have xg : R (nearL t.links) (· ∈ x :: safe) x 1 g := ⟨List.mem_cons_of_mem _ hg, .inr ⟨x, rfl, nearL_symm e⟩⟩
  intro a ha b hb
  rcases List.mem_cons.mp ha with ha1 | ha1 <;> rcases List.mem_cons.mp hb with hb1 | hb1
  · exact ⟨0, hb1.trans ha1.symm⟩
  · obtain ⟨k, h⟩ := up g hg b hb1
    rw [ha1]
    exact ⟨_, R.comp xg h⟩
  · obtain ⟨k, h⟩ := up a ha1 g hg
    rw [hb1]
    exact ⟨k + 1, R.go h e List.mem_cons_self⟩
  · exact up a ha1 b hb1
/-- the whole net hangs together -/
structure Whole (t : Net) : Prop where
  one : 1 ≤ t.n
  lt : ∀ u v, nearL t.links u v → u < t.n ∧ v < t.n
  all : ∀ v, v < t.n → ∃ k, R (nearL t.links) (· < t.n) 0 k v
theorem Whole.out {t : Net} (W : Whole t) {safe : List Nat} {h x : Nat} (hh : h ∈ safe) (hhn : h < t.n) (hx : x < t.n) (hxs : x ∉ safe) : ∃ g y, g ∈ safe ∧ y ∉ safe ∧ nearL t.links g y := by
  apply Classical.byContradiction
  intro no
  have cl : ∀ g y, nearL t.links g y → (g ∈ safe ↔ y ∈ safe) := fun g y e => by
    constructor
    · intro hg
      exact Classical.byContradiction fun z => no ⟨g, y, hg, z, e⟩
    · intro hy
      exact Classical.byContradiction fun z => no ⟨y, g, hy, z, nearL_symm e⟩
  have same : ∀ k v, R (nearL t.links) (· < t.n) 0 k v → (v ∈ safe ↔ 0 ∈ safe) := by
    intro k
    induction k with
    | zero =>
      intro v h
      have e : v = 0 := h
      rw [e]
    | succ k ih =>
      rintro v ⟨_, h | ⟨u, hu, e⟩⟩
      · exact ih v h
      · rw [← cl u v e]
        exact ih u hu
  obtain ⟨k, hk⟩ := W.all h hhn
  obtain ⟨j, hj⟩ := W.all x hx
  exact hxs ((same j x hj).mpr ((same k h hk).mp hh))
theorem way_there {t : Net} {safe : List Nat} (hsn : ∀ v ∈ safe, v < t.n) (C : Conn t safe) {u v : Nat} (hu : u ∈ safe) (hv : v ∈ safe) : ∃ d, Ks538.way t safe u v = some d := by
  obtain ⟨st, D⟩ := exists_dist (E := nearL t.links) (A := (· ∈ safe)) (s := u) hu hsn
  obtain ⟨k, h⟩ := C u hu v hv
  obtain ⟨⟨v', d⟩, h1, h2⟩ := List.mem_map.mp (D.all k v h)
  have h2 : v' = v := h2
  subst h2
  exact ⟨d, (way_iff t safe u D v' d).mpr h1⟩
theorem gate_there {t : Net} {safe : List Nat} (hsn : ∀ v ∈ safe, v < t.n) (C : Conn t safe) {u g x : Nat} (hu : u ∈ safe) (hg : g ∈ safe) (e : nearL t.links g x) : ∃ d g', Ks538.gate t safe u x = some (d, g') ∧ g' ∈ safe ∧ nearL t.links g' x := by
  obtain ⟨d, hd⟩ := way_there hsn C hu hg
  have h := gate_fold t safe u x safe none
  rw [gate_eq]
  cases hf : safe.foldl (gateStep t safe u x) none with
  | none =>
    rw [hf] at h
    exact absurd ⟨hg, (near_iff t g x).mpr e, hd⟩ (h.2 d g)
  | some p =>
    obtain ⟨d', g'⟩ := p
    rw [hf] at h
    rcases h.1 with h1 | ⟨h1, h2, _⟩
    · cases h1
    · exact ⟨d', g', rfl, h1, (near_iff t g' x).mp h2⟩
theorem times_there {t : Net} (W : Whole t) : ∀ (m : Nat) (l safe : List Nat) (u k : Nat), l.length = m → l.Nodup → (∀ v, v ∈ l ↔ v < t.n ∧ v ∉ safe) → (∀ v ∈ safe, v < t.n) → Conn t safe → u ∈ safe →
    ∃ o r, o.Perm l ∧ Ks538.times t safe u k o = some r
  | 0, l, safe, u, k, hl, _, _, _, _, _ => by
    have e : l = [] := List.length_eq_zero_iff.mp hl
    subst e
    exact ⟨[], [], List.Perm.refl _, by unfold Ks538.times; rfl⟩
  | 1, l, safe, u, k, hl, _, _, _, _, _ => by
    obtain ⟨x, rfl⟩ := List.length_eq_one_iff.mp hl
    exact ⟨[x], [k], List.Perm.refl _, by unfold Ks538.times; rfl⟩
  | m + 2, l, safe, u, k, hl, nd, hm, hsn, C, hu => by
    obtain ⟨z, hz⟩ : ∃ z, z ∈ l := by
      cases l with
      | nil => simp at hl
      | cons a r => exact ⟨a, List.mem_cons_self⟩
    obtain ⟨zn, zs⟩ := (hm z).mp hz
    obtain ⟨g, x, hg, hx, e⟩ := W.out hu (hsn u hu) zn zs
    have hxn := (W.lt g x e).2
    have hxl : x ∈ l := (hm x).mpr ⟨hxn, hx⟩
    obtain ⟨d, g', hgt, hg', e'⟩ := gate_there hsn C hu hg e
    have pf := perm_filter nd hxl
    have fl : (l.filter fun y => y != x).length = m + 1 := by
      have := pf.length_eq
      rw [List.length_cons] at this
      omega
    obtain ⟨o, r, hp, ht⟩ := times_there W (m + 1) (l.filter fun y => y != x) (x :: safe) g' (k + d + 2) fl (List.Pairwise.filter _ nd) (fun v => by
        rw [List.mem_filter, hm v, bne_iff_ne, List.mem_cons]
        constructor
        · rintro ⟨⟨a, b⟩, c⟩
          exact ⟨a, fun z => z.elim c b⟩
        · rintro ⟨a, b⟩
          exact ⟨⟨a, fun z => b (.inr z)⟩, fun z => b (.inl z)⟩) (fun v hv => by
        rcases List.mem_cons.mp hv with rfl | hv
        · exact hxn
        · exact hsn v hv) (C.more hg' e') (List.mem_cons_of_mem _ hg')
    cases o with
    | nil =>
      have := hp.length_eq
      rw [fl] at this
      simp at this
    | cons y o =>
      exact ⟨x :: y :: o, (k + d + 2) :: r, (hp.cons x).trans pf.symm, by rw [times_some hgt, ht]; rfl⟩
/-- there always is one -/
theorem known_there {t : Net} (W : Whole t) {home : Nat} (hh : home < t.n) : ∃ o r, o.Perm (Ks538.others t home) ∧ Ks538.known t home o = some r :=
  times_there W _ (Ks538.others t home) [home] home 0 rfl (others_nodup t home) (fun v => by rw [others_mem, List.mem_singleton]) (fun v hv => by rw [List.mem_singleton] at hv; rw [hv]; exact hh) (Conn.one t home) (List.mem_singleton.mpr rfl)
theorem due_there {t : Net} (W : Whole t) {home : Nat} (hh : home < t.n) (f : List Nat → Nat) : ∃ o r, Ks538.best f (Ks538.all t home) = some (o, r) ∧ o.Perm (Ks538.others t home) ∧ Ks538.known t home o = some r := by
  obtain ⟨o, r, h1, h2⟩ := known_there W hh
  rcases best_split f (Ks538.all t home) with ⟨h, _⟩ | ⟨p, a, b, e, es, _, _⟩
  · have := (all_mem t home hh o r).mpr ⟨h1, h2⟩
    rw [h] at this
    simp at this
  · obtain ⟨o', r'⟩ := p
    have mp : (o', r') ∈ Ks538.all t home := by rw [es]; simp
    obtain ⟨p1, p2⟩ := (all_mem t home hh o' r').mp mp
    exact ⟨o', r', e, p1, p2⟩
theorem IsNet.whole {n : Nat} {l : List Nat} {t : Net} (N : IsNet n l t) : Whole t := by
  obtain ⟨n1, n7, l2, l20, hlk⟩ := N.lt
  obtain ⟨r, _, _, e⟩ := netOf_links (n := n) (l := l) (by omega) (by omega)
  rw [N.eq] at e
  have hj : Ks536.joined t = true := by
    split at e
    · rename_i h
      rw [Option.some.inj e]
      exact h.2
    · cases e
  refine ⟨by rw [N.n]; exact n1, fun u v h => ?_, fun v hv => ?_⟩
  · obtain ⟨p, hp, q⟩ := (N.near u v).mpr h
    obtain ⟨a, b⟩ := hlk p hp
    rw [N.n]
    omega
  · unfold Ks536.joined at hj
    rw [List.all_eq_true] at hj
    have q := hj v (List.mem_range.mpr hv)
    obtain ⟨d, hd⟩ := Option.isSome_iff_exists.mp q
    unfold Ks536.distance at hd
    rw [dist_gd] at hd
    exact ⟨d, ((gd_far (ex1_R t 0) _ _ _).mp hd).2.1⟩
/-! ### at worst -/
theorem foldl_max (l : List Nat) : ∀ (a : Nat), a ≤ l.foldl max a ∧ (∀ x ∈ l, x ≤ l.foldl max a) ∧ (l.foldl max a = a ∨ l.foldl max a ∈ l) := by
  induction l with
  | nil => intro a; exact ⟨Nat.le_refl _, by simp, .inl rfl⟩
  | cons x l ih =>
    intro a
    obtain ⟨h1, h2, h3⟩ := ih (max a x)
    rw [List.foldl_cons]
    refine ⟨by omega, fun y hy => ?_, ?_⟩
    · rcases List.mem_cons.mp hy with rfl | hy
      · omega
      · exact h2 y hy
    · rcases h3 with h3 | h3
      · rw [h3]
        by_cases q : x ≤ a
        · exact .inl (by omega)
        · exact .inr (by rw [show max a x = x by omega]; exact List.mem_cons_self)
      · exact .inr (List.mem_cons_of_mem _ h3)
theorem times_rise (t : Net) : ∀ (o safe : List Nat) (u k : Nat) (r : List Nat), Ks538.times t safe u k o = some r → (∀ x ∈ r, k ≤ x) ∧ r.Pairwise (· ≤ ·)
  | [], safe, u, k, r, h => by
    unfold Ks538.times at h
    rw [← Option.some.inj h]
    exact ⟨by simp, List.Pairwise.nil⟩
  | [x], safe, u, k, r, h => by
    unfold Ks538.times at h
    rw [← Option.some.inj h]
    exact ⟨by simp, List.pairwise_singleton _ _⟩
  | x :: y :: l, safe, u, k, r, h => by
    cases hg : Ks538.gate t safe u x with
    | none => rw [times_none hg] at h; cases h
    | some p =>
      obtain ⟨d, g⟩ := p
      rw [times_some hg, Option.map_eq_some_iff] at h
      obtain ⟨r', h1, rfl⟩ := h
      obtain ⟨a, b⟩ := times_rise t (y :: l) _ _ _ _ h1
      refine ⟨fun z hz => ?_, List.pairwise_cons.mpr ⟨a, b⟩⟩
      rcases List.mem_cons.mp hz with rfl | hz
      · omega
      · have := a z hz
        omega
/-- at worst: the last -/
theorem worst_last {r : List Nat} (h : r.Pairwise (· ≤ ·)) : Ks538.worst r = r.getLast?.getD 0 := by
  unfold Ks538.worst
  obtain ⟨h1, h2, h3⟩ := foldl_max r 0
  cases hr : r.getLast? with
  | none =>
    have : r = [] := List.getLast?_eq_none_iff.mp hr
    rw [this]; rfl
  | some m =>
    have hm : m ∈ r := List.mem_of_getLast? hr
    have hle : ∀ x ∈ r, x ≤ m := by
      obtain ⟨ys, rfl⟩ := List.getLast?_eq_some_iff.mp hr
      intro x hx
      rw [List.pairwise_append] at h
      rcases List.mem_append.mp hx with hx | hx
      · exact h.2.2 x hx m (List.mem_singleton.mpr rfl)
      · rw [List.mem_singleton.mp hx]; exact Nat.le_refl _
    show r.foldl max 0 = m
    have a := h2 m hm
    rcases h3 with h3 | h3
    · omega
    · have := hle _ h3
      omega
end Sw
set_option Elab.async false
namespace Sw
open Ks536 (Net)
/-! ### the orders, one place longer at a time -/
def moreOf (n home : Nat) (o : List Nat) : List (List Nat) := ((List.range n).filter fun x => x != home && !decide (x ∈ o)).map fun x => o ++ [x]
def longer (n home : Nat) (os : List (List Nat)) : List (List Nat) := os.flatMap (moreOf n home)
def ordersM (n home : Nat) : Nat → List (List Nat)
  | 0 => [[]]
  | k + 1 => longer n home (ordersM n home k)
theorem moreOf_mem (n home : Nat) (o p : List Nat) : p ∈ moreOf n home o ↔ ∃ x, x < n ∧ x ≠ home ∧ x ∉ o ∧ p = o ++ [x] := by
  unfold moreOf
  rw [List.mem_map]
  constructor
  · rintro ⟨x, h, rfl⟩
    rw [List.mem_filter, List.mem_range, Bool.and_eq_true, bne_iff_ne, Bool.not_eq_true', decide_eq_false_iff_not] at h
    exact ⟨x, h.1, h.2.1, h.2.2, rfl⟩
  · rintro ⟨x, h1, h2, h3, rfl⟩
    refine ⟨x, ?_, rfl⟩
    rw [List.mem_filter, List.mem_range, Bool.and_eq_true, bne_iff_ne, Bool.not_eq_true', decide_eq_false_iff_not]
    exact ⟨h1, h2, h3⟩
theorem ordersM_mem (n home : Nat) : ∀ (k : Nat) (o : List Nat), o ∈ ordersM n home k ↔ o.length = k ∧ o.Nodup ∧ ∀ x ∈ o, x < n ∧ x ≠ home
  | 0, o => by
    unfold ordersM
    rw [List.mem_singleton]
    constructor
    · rintro rfl
      exact ⟨rfl, List.nodup_nil, by simp⟩
    · rintro ⟨h, _⟩
      exact List.length_eq_zero_iff.mp h
  | k + 1, o => by
    unfold ordersM longer
    rw [List.mem_flatMap]
    constructor
    · rintro ⟨p, hp, h⟩
      obtain ⟨x, h1, h2, h3, rfl⟩ := (moreOf_mem n home p o).mp h
      obtain ⟨q1, q2, q3⟩ := (ordersM_mem n home k p).mp hp
      refine ⟨by rw [List.length_append, q1]; rfl, ?_, fun y hy => ?_⟩
      · rw [List.nodup_append]
        exact ⟨q2, List.pairwise_singleton _ _, fun a ha b hb e => h3 (by rw [List.mem_singleton] at hb; rw [← hb, ← e]; exact ha)⟩
      · rcases List.mem_append.mp hy with hy | hy
        · exact q3 y hy
        · rw [List.mem_singleton.mp hy]; exact ⟨h1, h2⟩
    · rintro ⟨h1, h2, h3⟩
      rcases List.eq_nil_or_concat o with rfl | ⟨p, x, rfl⟩
      · simp at h1
      · rw [List.concat_eq_append] at *
        rw [List.nodup_append] at h2
        have hx := h3 x (List.mem_append_right _ (List.mem_singleton.mpr rfl))
        refine ⟨p, (ordersM_mem n home k p).mpr ⟨by rw [List.length_append] at h1; have : ([x] : List Nat).length = 1 := rfl; omega, h2.1, fun y hy => h3 y (List.mem_append_left _ hy)⟩, (moreOf_mem n home p _).mpr ⟨x, hx.1, hx.2, fun z => h2.2.2 x z x (List.mem_singleton.mpr rfl) rfl, rfl⟩⟩
theorem ordersM_perm (t : Net) {home : Nat} (hh : home < t.n) (o : List Nat) : o ∈ ordersM t.n home (t.n - 1) ↔ o.Perm (Ks538.others t home) := by
  rw [ordersM_mem]
  constructor
  · rintro ⟨h1, h2, h3⟩
    rw [List.perm_ext_iff_of_nodup h2 (others_nodup t home)]
    intro x
    rw [others_mem]
    refine ⟨fun h => h3 x h, fun h => Classical.byContradiction fun z => ?_⟩
    have q := len_sub (l := x :: o) (m := Ks538.others t home) (List.nodup_cons.mpr ⟨z, h2⟩) (fun y hy => by
      rw [others_mem]
      rcases List.mem_cons.mp hy with rfl | hy
      · exact h
      · exact h3 y hy)
    rw [others_len t home hh, List.length_cons] at q
    omega
  · intro h
    exact ⟨by rw [h.length_eq, others_len t home hh], h.nodup_iff.mpr (others_nodup t home), fun x hx => (others_mem t home x).mp (h.mem_iff.mp hx)⟩
theorem longer_size (n home : Nat) : ∀ os : List (List Nat), (longer n home os).length ≤ os.length * n
  | [] => by simp [longer]
  | o :: os => by
    have ih := longer_size n home os
    unfold longer at ih ⊢
    rw [List.flatMap_cons, List.length_append, List.length_cons, Nat.succ_mul]
    have : (moreOf n home o).length ≤ n := by
      unfold moreOf
      rw [List.length_map]
      exact Nat.le_trans (List.length_filter_le ..) (by rw [List.length_range]; exact Nat.le_refl _)
    omega
theorem ordersM_size (n home : Nat) (hn : n ≤ 6) : ∀ k : Nat, (ordersM n home k).length ≤ 6 ^ k
  | 0 => Nat.le_refl _
  | k + 1 => by
    have ih := ordersM_size n home hn k
    have h := longer_size n home (ordersM n home k)
    show (longer n home (ordersM n home k)).length ≤ _
    rw [Nat.pow_succ]
    exact Nat.le_trans h (Nat.mul_le_mul ih hn)
theorem ordersM_small (n home : Nat) (hn : n ≤ 6) {k : Nat} (hk : k ≤ n - 1) : (ordersM n home k).length ≤ 7776 :=
  Nat.le_trans (ordersM_size n home hn k) (Nat.le_trans (Nat.pow_le_pow_right (by decide) (show k ≤ 5 by omega)) (by decide))
theorem ordersM_ne (n home : Nat) (hh : home < n) {k : Nat} (hk : k ≤ n - 1) : ordersM n home k ≠ [] := by
  have l := others_len ⟨n, []⟩ home hh
  have m : (Ks538.others ⟨n, []⟩ home).take k ∈ ordersM n home k := (ordersM_mem n home k _).mpr ⟨by
      rw [List.length_take, l]
      show min k (n - 1) = k
      omega, List.Nodup.sublist (List.take_sublist ..) (others_nodup _ _), fun x hx => (others_mem ⟨n, []⟩ home x).mp (List.mem_of_mem_take hx)⟩
  intro z
  rw [z] at m
  simp at m
/-! ### the ways -/
def wayOf (t : Net) (home : Nat) (o : List Nat) : Option (List Nat × List Nat) := (Ks538.known t home o).map fun r => (o, r)
def waysM (t : Net) (home : Nat) : List (List Nat × List Nat) := (ordersM t.n home (t.n - 1)).filterMap (wayOf t home)
theorem waysM_mem (t : Net) {home : Nat} (hh : home < t.n) (o r : List Nat) : (o, r) ∈ waysM t home ↔ o.Perm (Ks538.others t home) ∧ Ks538.known t home o = some r := by
  unfold waysM wayOf
  rw [List.mem_filterMap]
  constructor
  · rintro ⟨o', h1, h2⟩
    rw [Option.map_eq_some_iff] at h2
    obtain ⟨r', h3, h4⟩ := h2
    injection h4 with e1 e2
    subst e1 e2
    exact ⟨(ordersM_perm t hh _).mp h1, h3⟩
  · rintro ⟨h1, h2⟩
    exact ⟨o, (ordersM_perm t hh _).mpr h1, by rw [h2]; rfl⟩
theorem waysM_ne {t : Net} (W : Whole t) {home : Nat} (hh : home < t.n) : waysM t home ≠ [] := by
  obtain ⟨o, r, h1, h2⟩ := known_there W hh
  have m := (waysM_mem t hh o r).mpr ⟨h1, h2⟩
  intro z
  rw [z] at m
  simp at m
theorem waysM_small (t : Net) (home : Nat) (hn : t.n ≤ 6) : (waysM t home).length ≤ 7776 :=
  Nat.le_trans (List.length_filterMap_le ..) (ordersM_small t.n home hn (Nat.le_refl _))
/-- the least of the answers is the one that's due -/
theorem due_least {t : Net} {home : Nat} (hh : home < t.n) {f : List Nat → Nat} {m : List Nat} (hm : m ∈ (waysM t home).map fun p => f p.2 :: p.1) (hl : ∀ y ∈ (waysM t home).map fun p => f p.2 :: p.1, ¬ lexlt y m) :
    ∃ o r, m = f r :: o ∧ Due t home f o r := by
  obtain ⟨⟨o, r⟩, h, rfl⟩ := List.mem_map.mp hm
  obtain ⟨h1, h2⟩ := (waysM_mem t hh o r).mp h
  have q : ∀ o' r', o'.Perm (Ks538.others t home) → Ks538.known t home o' = some r' → ¬ lexlt (f r' :: o') (f r :: o) := fun o' r' a b => hl _ (List.mem_map.mpr ⟨(o', r'), (waysM_mem t hh o' r').mpr ⟨a, b⟩, rfl⟩)
  refine ⟨o, r, rfl, h1, h2, fun o' r' a b => ?_, fun o' r' a b e => ?_⟩
  · exact Nat.le_of_not_lt fun z => q o' r' a b (.inl z)
  · rcases lexlt_total o o' with z | z | z
    · exact .inr z
    · exact .inl z
    · exact absurd (.inr ⟨e, z⟩) (q o' r' a b)
/-! ### the answers, case by case -/
theorem soonest_eq (n home : Nat) (l : List Nat) : PyKs538.soonest (n : Int) (home : Int) (l.map Int.ofNat) = Ks538Neutral.out (Ks538.answer (.soonest n home l)) := by
  have e : PyKs538.soonest (n : Int) (home : Int) (l.map Int.ofNat) = Ks538Neutral.out (Ks538.answer (.soonest n home (Ks538Neutral.nats (l.map Int.ofNat)))) := rfl
  rw [e, nats_of]
theorem mean_eq (n home : Nat) (l : List Nat) : PyKs538.mean (n : Int) (home : Int) (l.map Int.ofNat) = Ks538Neutral.out (Ks538.answer (.mean n home l)) := by
  have e : PyKs538.mean (n : Int) (home : Int) (l.map Int.ofNat) = Ks538Neutral.out (Ks538.answer (.mean n home (Ks538Neutral.nats (l.map Int.ofNat)))) := rfl
  rw [e, nats_of]
theorem soonest_bad {n home : Nat} {l : List Nat} (h : Ks536.netOf n l = none) : Ks538Neutral.out (Ks538.answer (.soonest n home l)) = [-22] := by
  unfold Ks538.answer Ks538.home_ Ks536.net
  simp only [h]
  rfl
theorem soonest_home {n home : Nat} {l : List Nat} {t : Net} (N : IsNet n l t) (h : n ≤ home) : Ks538Neutral.out (Ks538.answer (.soonest n home l)) = [-2] := by
  unfold Ks538.answer Ks538.home_ Ks536.net
  simp only [N.eq]
  rw [if_pos h]
  rfl
theorem soonest_few {n home : Nat} {l : List Nat} {t : Net} (N : IsNet n l t) (h : home < n) (h6 : 6 < n) : Ks538Neutral.out (Ks538.answer (.soonest n home l)) = [-75] := by
  unfold Ks538.answer Ks538.home_ Ks536.net
  simp only [N.eq]
  rw [if_neg (by omega), if_pos (show Ks538.FEW < n from h6)]
  rfl
theorem soonest_due {n home : Nat} {l o r : List Nat} {t : Net} (N : IsNet n l t) (h : home < n) (h6 : n ≤ 6) (D : Due t home Ks538.worst o r) : Ks538Neutral.out (Ks538.answer (.soonest n home l)) = intsN (Ks538.worst r :: o) := by
  have b := best_due (by rw [N.n]; exact h) D
  unfold Ks538.answer Ks538.home_ Ks536.net
  simp only [N.eq]
  rw [if_neg (by omega), if_neg (show ¬ Ks538.FEW < n by show ¬ 6 < n; omega)]
  simp only [b]
  rfl
theorem mean_bad {n home : Nat} {l : List Nat} (h : Ks536.netOf n l = none) : Ks538Neutral.out (Ks538.answer (.mean n home l)) = [-22] := by
  unfold Ks538.answer Ks538.home_ Ks536.net
  simp only [h]
  rfl
theorem mean_home {n home : Nat} {l : List Nat} {t : Net} (N : IsNet n l t) (h : n ≤ home) : Ks538Neutral.out (Ks538.answer (.mean n home l)) = [-2] := by
  unfold Ks538.answer Ks538.home_ Ks536.net
  simp only [N.eq]
  rw [if_pos h]
  rfl
theorem mean_few {n home : Nat} {l : List Nat} {t : Net} (N : IsNet n l t) (h : home < n) (h6 : 6 < n) : Ks538Neutral.out (Ks538.answer (.mean n home l)) = [-75] := by
  unfold Ks538.answer Ks538.home_ Ks536.net
  simp only [N.eq]
  rw [if_neg (by omega), if_pos (show Ks538.FEW < n from h6)]
  rfl
theorem mean_due {n home : Nat} {l o r : List Nat} {t : Net} (N : IsNet n l t) (h : home < n) (h6 : n ≤ 6) (D : Due t home (fun r => r.sum) o r) : Ks538Neutral.out (Ks538.answer (.mean n home l)) = intsN (r.sum :: o) := by
  have b := best_due (by rw [N.n]; exact h) D
  unfold Ks538.answer Ks538.home_ Ks536.net
  simp only [N.eq]
  rw [if_neg (by omega), if_neg (show ¬ Ks538.FEW < n by show ¬ 6 < n; omega)]
  simp only [b]
  rfl
/-! ### the numbers, as whole numbers -/
theorem sum_intsN : ∀ r : List Nat, (intsN r).sum = ((r.sum : Nat) : Int)
  | [] => rfl
  | x :: r => by
    have ih := sum_intsN r
    unfold intsN at ih ⊢
    rw [List.map_cons, List.sum_cons, List.sum_cons, ih]
    show ((x : Nat) : Int) + _ = _
    omega
theorem fmax_intsN : ∀ (r : List Nat) (a : Nat), (intsN r).foldl max ((a : Nat) : Int) = ((r.foldl max a : Nat) : Int)
  | [], _ => rfl
  | x :: r, a => by
    have ih := fmax_intsN r (max a x)
    unfold intsN at ih ⊢
    rw [List.map_cons, List.foldl_cons, List.foldl_cons, ← ih]
    congr 1
    show max ((a : Nat) : Int) ((x : Nat) : Int) = _
    omega
/-- max(r, default=0) -/
def maxOr0 : List Int → Int
  | [] => 0
  | x :: r => r.foldl max x
theorem maxOr0_worst : ∀ r : List Nat, maxOr0 (intsN r) = ((Ks538.worst r : Nat) : Int)
  | [] => rfl
  | x :: r => by
    show (intsN r).foldl max ((x : Nat) : Int) = (((x :: r).foldl max 0 : Nat) : Int)
    rw [fmax_intsN, List.foldl_cons, show max 0 x = x by omega]
end Sw
namespace Sw
open PySem
def topS (i : Nat) : Stmt := PySem.Challenge.pw_swallower_s02_soonest.main.body.getD i (.Pass ⟨0, 0, 0, 0⟩)
abbrev sLinks : Stmt := topS 3
abbrev sAre : Stmt := topS 4
abbrev sBeside : Stmt := topS 5
abbrev sSteps : Stmt := topS 6
abbrev sHang : Stmt := topS 7
abbrev sNet : Stmt := topS 8
abbrev sRef : Stmt := topS 15
abbrev sRefC : Stmt := topS 16
abbrev sPick : Stmt := topS 17
abbrev sTill : Stmt := topS 18
abbrev sLonger : Stmt := topS 19
abbrev sOrders : Stmt := topS 20
abbrev sWays : Stmt := topS 21
abbrev sBestA : Stmt := topS 22
abbrev sSoonest : Stmt := topS 23
end Sw
set_option Elab.async false
set_option maxRecDepth 100000
set_option maxHeartbeats 4000000
namespace Sw
open PySem PySem.Spec PyProof.Rows L2
/-- a place, a number of steps -/
abbrev vi (k : Nat) : V := .int (k : Int)
/-- a list of links at p -/
structure LinksAt (H : Hp) (p : Addr) (ts : List Addr) (ls : List (Nat × Nat)) : Prop where
  lst : H p = some (.lst (ts.map V.ref))
  len : ts.length = ls.length
  at_ : ∀ (i : Nat) (l : Nat × Nat), ls[i]? = some l → ∃ t, ts[i]? = some t ∧ H t = some (.tup [vi l.1, vi l.2])
theorem LinksAt.same {H H' : Hp} {p : Addr} {ts : List Addr} {ls : List (Nat × Nat)} (L : LinksAt H p ts ls) (s : Same H H') : LinksAt H' p ts ls :=
  ⟨s _ _ L.lst, L.len, fun i l h => let ⟨t, a, b⟩ := L.at_ i l h; ⟨t, a, s _ _ b⟩⟩
/-- of each place what's beside it -/
structure AdjAt (H : Hp) (p : Addr) (bs : List Addr) (adj : List (List Nat)) : Prop where
  lst : H p = some (.lst (bs.map V.ref))
  len : bs.length = adj.length
  at_ : ∀ (i : Nat) (b : Addr), bs[i]? = some b → H b = some (.lst ((adj.getD i []).map vi))
theorem AdjAt.same {H H' : Hp} {p : Addr} {bs : List Addr} {adj : List (List Nat)} (L : AdjAt H p bs adj) (s : Same H H') : AdjAt H' p bs adj :=
  ⟨s _ _ L.lst, L.len, fun i b h => s _ _ (L.at_ i b h)⟩
theorem same_new {H : Hp} {p : Addr} {o : HO} (h : H p = none) : Same H (upd H p o) := fun b o' e => by
  rw [upd_ne (ne_of_none e h)]
  exact e
/-- a write to what is new to H -/
theorem Same.new {H H1 : Hp} {p : Addr} {o : HO} (s : Same H H1) (h : H p = none) : Same H (upd H1 p o) := fun b o' e => by
  rw [upd_ne (ne_of_none e h)]
  exact s _ _ e
theorem rg2 : ∀ m : _root_.Fin 25, Builtin.Range.small 0 ((m.1 : Nat) : Int) 2 = true ∧ Builtin.Range.rangeSize 0 ((m.1 : Nat) : Int) 2 = (((m.1 + 1) / 2 : Nat) : Int) := by decide +kernel
theorem get_map {α β : Type} {f : α → β} {l : List α} {i : Nat} {y : β} (h : (l.map f)[i]? = some y) : ∃ x, l[i]? = some x ∧ y = f x := by
  rw [List.getElem?_map] at h
  cases e : l[i]? with
  | none => rw [e] at h; cases h
  | some x => rw [e] at h; exact ⟨x, rfl, (Option.some.inj h).symm⟩
/-! ### the promises -/
def spLinks (K : PySem.W.Frag) : Sp := fun vs H Q _ => ∃ (a : Addr) (l : List Nat), vs = [.ref a] ∧ SqL K H a (l.map vi) ∧ l.length % 2 = 0 ∧ l.length ≤ 24 ∧
  ∀ H' p ts, Same H H' → LinksAt H' p ts (mkLinks l) → Q (.ref p) H'
structure Txt (mg : Str → Option Value) : Prop where
  len : mg "len" = none
  range : mg "range" = none
  min : mg "min" = none
  max : mg "max" = none
  list : mg "list" = none
  sorted : mg "sorted" = none
section
variable {P : Program} {w : World} {K : PySem.W.Frag} {mg : Str → Option Value} {base : Heap}
theorem scLinks : FnScope ["net", "k"] ["net"] (defScope sLinks) := ⟨rfl, rfl, rfl, by decide +kernel, rfl, by decide +kernel, by decide +kernel⟩
theorem ok_links {f : Addr} {fd : FuncData} (F : Fun K "links_of" "links_of" sLinks f fd) (T : Txt mg) : FnOk P w K mg base CX0 1 f fd ["net"] (spLinks K) := by
  refine F.ok scLinks (fun vs H Q E h => ?_) (fun cdv A outer s H vs Q E hr h => ?_)
  · obtain ⟨a, l, rfl, _⟩ := h
    rfl
  · obtain ⟨a, l, rfl, hS, h2, hlen, k⟩ := h
    refine ⟨_, pss_one (ps_ret (pe_lc (own := [("k", 1)]) (g := gName 1) (tt := tYes) rfl scLinks.nd
      (pi_range3 rfl T.range (pa_cons pe_int (pa_cons (pe_callB call_len_seq (by rfl) T.len PySem.boot_len (pa_cons (pv 0) pa_nil)) (pa_cons pe_int pa_nil))))
      (blkOk_by (N := ["net", "k"]) (sc := defScope sLinks) (by decide +kernel)) (fun _ _ _ _ _ => pg_name (i := 1) scLinks.nd rfl (Or.inl rfl)) (fun _ _ _ _ _ => pts_nil)
      (fun _ _ _ _ _ => pe_tup (pa_cons (pe_callB (call_min2 rfl) (by rfl) T.min (by decide +kernel) (pa_cons (pe_ix (r := rIxL K) ix_list (pv 0) (pv 1) (fun _ _ => rfl)) (pa_cons (pe_ix (r := rIxL K) ix_list (pv 0) (pe_op op_add (pv 1) pe_int) (fun _ _ => rfl)) pa_nil)))
        (pa_cons (pe_callB (call_max2 rfl) (by rfl) T.max (by decide +kernel) (pa_cons (pe_ix (r := rIxL K) ix_list (pv 0) (pv 1) (fun _ _ => rfl)) (pa_cons (pe_ix (r := rIxL K) ix_list (pv 0) (pe_op op_add (pv 1) pe_int) (fun _ _ => rfl)) pa_nil))) pa_nil))))), ?_⟩
    have hm : (l.map vi).length = l.length := List.length_map ..
    have rg : RgC 0 (((l.map vi).length : Nat) : Int) 2 (l.length / 2) := by
      have q := rg2 ⟨l.length, by omega⟩
      rw [hm]
      exact ⟨by decide, by decide, q.1, by rw [q.2]; show (((l.length + 1) / 2 : Nat) : Int) = _; congr 1; omega⟩
    refine ⟨_, rfl, a, _, rfl, .inl hS, 0, _, 2, l.length / 2, rfl, rg, fun D hD => ?_⟩
    refine lc_it walk_rangeC (fun i H' => ∃ ts, Same H H' ∧ LinksAt H' D ts ((mkLinks l).take i)) ⟨[], same_new hD, upd_same, by simp, fun i l h => by simp at h⟩ (fun _ _ _ _ => trivial) ?_ ?_
    · rintro i x H0 H1 hi ⟨ts, s1, L⟩ ⟨rfl, rfl⟩
      refine ⟨rfl, ?_⟩
      have i1 : atI (l.map vi) (0 + ((i : Nat) : Int) * 2) = some (vi (l.getD (2 * i) 0)) := at_of (j := 2 * i) (by omega) (by rw [List.getElem?_map, List.getElem?_eq_getElem (by omega), List.getD_eq_getElem?_getD, List.getElem?_eq_getElem (by omega)]; rfl)
      have i2 : atI (l.map vi) (0 + ((i : Nat) : Int) * 2 + 1) = some (vi (l.getD (2 * i + 1) 0)) := at_of (j := 2 * i + 1) (by omega) (by rw [List.getElem?_map, List.getElem?_eq_getElem (by omega), List.getD_eq_getElem?_getD, List.getElem?_eq_getElem (by omega)]; rfl)
      have q := s1.seq hS
      refine ⟨_, rfl, _, rfl, a, _, _, _, rfl, rfl, q, i1, _, rfl, _, rfl, _, _, rfl, rfl, a, _, _, _, rfl, rfl, q, i2, _, _, rfl, ?_⟩
      refine ⟨_, rfl, _, rfl, a, _, _, _, rfl, rfl, q, i1, _, rfl, _, rfl, _, _, rfl, rfl, a, _, _, _, rfl, rfl, q, i2, _, _, rfl, ?_⟩
      refine ⟨(by show 2 ≤ sizeLine; decide), fun p hp => ?_⟩
      have hDp : D ≠ p := ne_of_none L.lst hp
      have hl : ts.length = i := by
        rw [L.len, List.length_take, mkLinks_len]
        omega
      refine ⟨_, by rw [upd_ne hDp]; exact L.lst, (by rw [List.length_map, hl]; exact small1000 (by omega)), ts ++ [p], ?_, ?_⟩
      · exact Same.new (s1.trans (same_new hp)) hD
      · have s2 : ∀ b o, b ≠ D → H1 b = some o → upd (upd H1 p (.tup [V.int (if ((l.getD (2 * i + 1) 0 : Nat) : Int) < ((l.getD (2 * i) 0 : Nat) : Int) then ((l.getD (2 * i + 1) 0 : Nat) : Int) else ((l.getD (2 * i) 0 : Nat) : Int)), V.int (if ((l.getD (2 * i + 1) 0 : Nat) : Int) > ((l.getD (2 * i) 0 : Nat) : Int) then ((l.getD (2 * i + 1) 0 : Nat) : Int) else ((l.getD (2 * i) 0 : Nat) : Int))])) D (.lst (ts.map V.ref ++ [V.ref p])) b = some o := fun b o hb e => by
          rw [upd_ne hb, upd_ne (ne_of_none e hp)]
          exact e
        have hi' : i < (mkLinks l).length := by rw [mkLinks_len]; omega
        refine ⟨by rw [upd_same, List.map_append]; rfl, by rw [List.length_append, List.length_take, hl, mkLinks_len]; show i + 1 = _; omega, fun j lk hj => ?_⟩
        rw [take_snoc (List.getElem?_eq_getElem hi')] at hj
        by_cases e : j < i
        · rw [List.getElem?_append_left (by rw [List.length_take]; omega)] at hj
          obtain ⟨t, a1, a2⟩ := L.at_ j lk hj
          exact ⟨t, by rw [List.getElem?_append_left (by omega)]; exact a1, s2 t _ (ne_of a2 L.lst (by intro z; cases z)) a2⟩
        · have ej : j = i := by
            obtain ⟨z, _⟩ := List.getElem?_eq_some_iff.mp hj
            rw [List.length_append, List.length_take] at z
            have : ([(mkLinks l)[i]] : List (Nat × Nat)).length = 1 := rfl
            omega
          subst ej
          rw [List.getElem?_append_right (by rw [List.length_take]; omega), List.length_take, show j - min j (mkLinks l).length = 0 by omega] at hj
          have el : (mkLinks l)[j] = lk := Option.some.inj hj
          have em := mkLinks_at l j hi
          rw [List.getElem?_eq_getElem hi', el] at em
          have em := Option.some.inj em
          refine ⟨p, by rw [List.getElem?_append_right (by omega), hl, Nat.sub_self]; rfl, ?_⟩
          rw [upd_ne hDp.symm, upd_same, em]
          congr 3
          · congr 1
            split <;> omega
          · congr 2
            split <;> omega
    · rintro H' ⟨ts, s1, L⟩
      rw [List.take_of_length_le (by rw [mkLinks_len]; omega)] at L
      exact k _ _ _ s1 L
end
end Sw
set_option Elab.async false
set_option maxRecDepth 100000
set_option maxHeartbeats 4000000
namespace Sw
open PySem PySem.Spec PyProof.Rows L2
/-! ### a link as data -/
def lkD (l : Nat × Nat) : PyData := .tuple [.int l.1, .int l.2]
theorem lkD_lay (l : Nat × Nat) : (lkD l).canLay0 = true := by simp [lkD, PyData.canLay0, PyData.canLayAll0]
theorem lkD_depth (l : Nat × Nat) : (lkD l).depth = 1 := by simp [lkD, PyData.depth, PyData.depthAll]
theorem lkDs_lay : ∀ ls : List (Nat × Nat), PyData.canLayAll0 (ls.map lkD) = true
  | [] => by simp [PyData.canLayAll0]
  | l :: ls => by simp [PyData.canLayAll0, lkD_lay l, lkDs_lay ls]
theorem lkDs_depth : ∀ ls : List (Nat × Nat), PyData.depthAll (ls.map lkD) ≤ 1
  | [] => by simp [PyData.depthAll]
  | l :: ls => by
    have h := lkDs_depth ls
    have h1 := lkD_depth l
    simp only [List.map_cons, PyData.depthAll]
    omega
theorem lkD_shaped (l : Nat × Nat) : SeqAt.shaped (lkD l) = true := by
  unfold SeqAt.shaped
  rw [lkD_lay, lkD_depth]; rfl
theorem lkDs_shaped (ls : List (Nat × Nat)) : SeqAt.shaped (.list (ls.map lkD)) = true := by
  unfold SeqAt.shaped
  have h : (PyData.list (ls.map lkD)).depth = PyData.depthAll (ls.map lkD) + 1 := by simp only [PyData.depth]
  have h2 : (PyData.list (ls.map lkD)).canLay0 = PyData.canLayAll0 (ls.map lkD) := by simp only [PyData.canLay0]
  have h3 := lkDs_depth ls
  rw [h, h2, lkDs_lay, Bool.true_and, decide_eq_true_eq]
  omega
theorem lkD_eqv (l m : Nat × Nat) : PyData.eqv (lkD l) (lkD m) = decide (l = m) := by
  obtain ⟨a, b⟩ := l
  obtain ⟨a', b'⟩ := m
  have e : PyData.eqv (lkD (a, b)) (lkD (a', b')) = (((a : Int) == (a' : Int)) && (((b : Int) == (b' : Int)) && true)) := by simp only [lkD, PyData.eqv, PyData.eqvAll]
  rw [e]
  by_cases h1 : a = a'
  · by_cases h2 : b = b'
    · simp [h1, h2]
    · simp [h2]; omega
  · simp [h1]; omega
theorem lkD_any (l : Nat × Nat) (ls : List (Nat × Nat)) : ((ls.map lkD).any fun z => PyData.eqv z (lkD l)) = decide (l ∈ ls) := by
  induction ls with
  | nil => rfl
  | cons m r ih =>
    rw [List.map_cons, List.any_cons, ih, lkD_eqv]
    by_cases h : m = l
    · subst h; simp
    · have h' : ¬ l = m := fun e => h e.symm
      simp [h, h']
theorem LinksAt.dpAll {K : PySem.W.Frag} {H : Hp} : ∀ (ts : List Addr) (ls : List (Nat × Nat)), ts.length = ls.length → (∀ (i : Nat) (l : Nat × Nat), ls[i]? = some l → ∃ t, ts[i]? = some t ∧ H t = some (.tup [vi l.1, vi l.2])) →
    DpAll K H (ts.map V.ref) (ls.map lkD)
  | [], [], _, _ => .nil
  | [], _ :: _, h, _ => by simp at h
  | _ :: _, [], h, _ => by simp at h
  | t :: ts, l :: ls, h, a => by
    obtain ⟨t', e, ht⟩ := a 0 l rfl
    have e : t = t' := Option.some.inj e
    subst e
    exact .cons (.tup (.inl (.inl ht)) (.cons (.int _) (.cons (.int _) .nil))) (LinksAt.dpAll ts ls (by simpa using h) fun i l q => a (i + 1) l q)
def spAre : Sp := fun vs H Q _ => ∃ (p : Addr) (ts : List Addr) (ls : List (Nat × Nat)) (n : Nat), vs = [vi n, .ref p] ∧ LinksAt H p ts ls ∧ ls.length ≤ 100 ∧
  ∀ H', Same H H' → Q (.bl (areLinks n [] ls)) H'
section
variable {P : Program} {w : World} {K : PySem.W.Frag} {mg : Str → Option Value} {base : Heap}
theorem scAre : FnScope ["n", "links", "told", "link"] ["n", "links"] (defScope sAre) := ⟨rfl, rfl, rfl, by decide +kernel, rfl, by decide +kernel, by decide +kernel⟩
theorem ok_are {f : Addr} {fd : FuncData} (F : Fun K "are_links" "are_links" sAre f fd) : FnOk P w K mg base CX0 1 f fd ["n", "links"] spAre := by
  refine F.ok scAre (fun vs H Q E h => ?_) (fun cdv A outer s H vs Q E hr h => ?_)
  · obtain ⟨p, ts, ls, n, rfl, _⟩ := h
    rfl
  · obtain ⟨p, ts, ls, n, rfl, L, hlen, k⟩ := h
    have hu : (A.deeper (envOfC "are_links" (defScope sAre) s.heap.objs.size f cdv)).units + 65 < cLine := by have := hr.un; omega
    refine ⟨_, pss_cons (ps_set (i := 2) scAre.nd rfl (Or.inl rfl) (pe_lst pa_nil))
      (pss_cons (ps_for PassesOwn.never rfl (pi_list (pv 1)) (pg_name (i := 3) scAre.nd rfl (Or.inl rfl))
        (pss_cons (ps_if (PW.pt (pw_or (pt_cmpR op_eq (pe_ix ix_tup (pv 3) pe_int (fun _ _ => rfl)) (pe_ix ix_tup (pv 3) pe_int (fun _ _ => rfl)) (nomark _))
            (pw_or (pt_cmpR op_ge (pe_ix ix_tup (pv 3) pe_int (fun _ _ => rfl)) (pv 0) (nomark _)) (pw_or1 (pt_cmpR (op_inD hu) (pv 3) (pv 2) (by rfl))))))
          (pss_one (ps_ret pe_bl)) pss_nil)
        (pss_one (ps_expr (pe_bm PySem.F.plainAttrs_list PySem.F.slot_list_append PySem.F.type_list_append mt_append (pv 2) (pa_cons (pv 3) pa_nil))))))
      (pss_one (ps_ret pe_bl))), ?_⟩
    refine ⟨Nat.zero_le _, fun q hq => ?_⟩
    have s1 : Same H (upd H q (.lst [])) := same_new hq
    refine ⟨_, rfl, p, rfl, ⟨_, SqL.of (s1 _ _ L.lst)⟩, for_list (K := K) (a := p) (xs := ts.map V.ref) (fun i σ H' => ∃ v : Option V, σ = [some (vi n), some (.ref p), some (.ref q), v] ∧ Same H H' ∧ H' q = some (.lst ((ts.take i).map V.ref)) ∧ areLinks n [] ls = areLinks n (ls.take i) (ls.drop i))
      ⟨none, rfl, s1, upd_same, rfl⟩ (fun i σ H' _ ⟨_, _, s5, _⟩ => SqL.of (s5 _ _ L.lst)) ?_ ?_⟩
    · rintro i y σ H' hi ⟨v, rfl, s5, hq', ea⟩
      obtain ⟨t, ht, rfl⟩ := get_map hi
      have hi' : i < ls.length := by rw [← L.len]; exact (List.getElem?_eq_some_iff.mp ht).1
      obtain ⟨l, hl⟩ : ∃ l, ls[i]? = some l := ⟨_, List.getElem?_eq_getElem hi'⟩
      obtain ⟨t', ht', hT⟩ := L.at_ i l hl
      have et : t = t' := Option.some.inj (ht.symm.trans ht')
      subst et
      have hT' := s5 _ _ hT
      have ed : ls.drop i = l :: ls.drop (i + 1) := by
        rw [List.drop_eq_getElem_cons hi']
        rw [List.getElem?_eq_getElem hi'] at hl
        rw [Option.some.inj hl]
      rw [ed] at ea
      refine ⟨_, rfl, t, _, _, _, rfl, rfl, SqT.of hT', atI_nat (j := 0) (v := vi l.1) rfl, _, rfl, t, _, _, _, rfl, rfl, SqT.of hT', atI_nat (j := 1) (v := vi l.2) rfl, rfl, _, rfl, ?_⟩
      have vij : ∀ {a b : Nat}, decide (vi a = vi b) = true ↔ a = b := fun {a b} => by
        rw [decide_eq_true_eq]
        constructor
        · intro z
          injection z with z
          omega
        · rintro rfl; rfl
      have bad : ¬ (okLink n l ∧ l ∉ ls.take i) → areLinks n [] ls = false := fun z => by
        rw [ea]
        unfold areLinks
        rw [if_neg z]
      refine ite2 (fun c => ?_) (fun c => ?_)
      · have e := vij.mp c
        have q := k H' s5
        rw [bad fun z => z.1.1 e] at q
        exact q
      have c' : l.1 ≠ l.2 := fun e => c (vij.mpr e)
      refine ⟨_, rfl, t, _, _, _, rfl, rfl, SqT.of hT', atI_nat (j := 1) (v := vi l.2) rfl, _, rfl, _, _, rfl, rfl, _, rfl, ?_⟩
      refine ite2 (fun c => ?_) (fun c => ?_)
      · have e : ¬ l.2 < n := by
          have := of_decide_eq_true c
          omega
        have q := k H' s5
        rw [bad fun z => e z.1.2] at q
        exact q
      have c2 : l.2 < n := by
        have : ¬ ((l.2 : Nat) : Int) ≥ ((n : Nat) : Int) := fun z => c (decide_eq_true z)
        omega
      have hti : (ts.take i).length = i := by
        have := (List.getElem?_eq_some_iff.mp ht).1
        rw [List.length_take]; omega
      have hli : (ls.take i).length = i := by rw [List.length_take]; omega
      have dp : DpAll K H' ((ts.take i).map V.ref) ((ls.take i).map lkD) := LinksAt.dpAll _ _ (by rw [hti, hli]) (fun j m hj => by
        have hj' : j < i := by
          have := (List.getElem?_eq_some_iff.mp hj).1
          omega
        rw [List.getElem?_take_of_lt hj'] at hj
        obtain ⟨u, a1, a2⟩ := L.at_ j m hj
        exact ⟨u, by rw [List.getElem?_take_of_lt hj']; exact a1, s5 _ _ a2⟩)
      refine ⟨_, rfl, _, rfl, lkD l, (ls.take i).map lkD, .tup (.inl (.inl hT')) (.cons (.int _) (.cons (.int _) .nil)), .lst (SqL.of hq') dp, lkD_shaped l, lkDs_shaped _, _, rfl, ?_⟩
      rw [lkD_any]
      refine ite2 (fun c => ?_) (fun c => ?_)
      · have q := k H' s5
        rw [bad fun z => z.2 (of_decide_eq_true c)] at q
        exact q
      have c3 : l ∉ ls.take i := fun z => c (decide_eq_true z)
      refine ⟨_, rfl, .inl ⟨rfl, _, SqL.of hq'⟩, _, rfl, q, _, _, rfl, rfl, hq', (by rw [List.length_map, hti]; exact small1000 (by omega)), ?_⟩
      refine ⟨_, rfl, Same.new s5 hq, ?_, ?_⟩
      · rw [upd_same, take_snoc ht, List.map_append]; rfl
      · rw [ea, take_snoc hl]
        conv => lhs; unfold areLinks
        rw [if_pos ⟨⟨c', c2⟩, c3⟩]
    · rintro σ H' ⟨v, rfl, s5, hq', ea⟩
      have q := k H' s5
      rw [ea, List.length_map, L.len, List.drop_length] at q
      exact q
end
end Sw
set_option Elab.async false
set_option maxRecDepth 100000
set_option maxHeartbeats 4000000
namespace Sw
open PySem PySem.Spec PyProof.Rows L2
theorem push_size (adj : List (List Nat)) (i v u m : Nat) (h : ∀ u, (adj.getD u []).length ≤ m) : ((push adj i v).getD u []).length ≤ m + 1 := by
  by_cases hi : i < adj.length
  · rw [push_at _ _ _ _ hi]
    split
    · rw [List.length_append]
      have := h i
      show _ + 1 ≤ _
      omega
    · have := h u
      omega
  · unfold push
    rw [List.set_eq_of_length_le (by omega)]
    have := h u
    omega
theorem adjOf_size (n : Nat) : ∀ (j : Nat) (ls : List (Nat × Nat)), ls.length = j → ∀ u, ((adjOf n ls).getD u []).length ≤ 2 * j
  | 0, ls, h, u => by
    have : ls = [] := List.length_eq_zero_iff.mp h
    subst this
    unfold adjOf
    rw [List.foldl_nil, List.getD_eq_getElem?_getD, List.getElem?_replicate]
    split <;> simp
  | j + 1, ls, h, u => by
    have hne : ls ≠ [] := fun e => by rw [e] at h; simp at h
    have e := (List.dropLast_concat_getLast hne).symm
    have hd : ls.dropLast.length = j := by rw [List.length_dropLast]; omega
    rw [e, adjOf_snoc]
    have h1 := push_size (adjOf n ls.dropLast) (ls.getLast hne).1 (ls.getLast hne).2
    have h2 := push_size (push (adjOf n ls.dropLast) (ls.getLast hne).1 (ls.getLast hne).2) (ls.getLast hne).2 (ls.getLast hne).1 u (2 * j + 1) (fun u => h1 u (2 * j) (adjOf_size n j _ hd))
    omega
theorem AdjAt.push {H : Hp} {p : Addr} {bs : List Addr} {adj : List (List Nat)} (A : AdjAt H p bs adj) (nd : bs.Nodup) (np : p ∉ bs) {i v : Nat} {b : Addr} (hb : bs[i]? = some b) :
    AdjAt (upd H b (.lst ((adj.getD i []).map vi ++ [vi v]))) p bs (push adj i v) := by
  have hi : i < adj.length := by rw [← A.len]; exact (List.getElem?_eq_some_iff.mp hb).1
  refine ⟨?_, by rw [push_len]; exact A.len, fun j c hc => ?_⟩
  · rw [upd_ne (fun e => np (by rw [e]; exact List.mem_of_getElem? hb))]
    exact A.lst
  · rw [push_at _ _ _ _ hi]
    by_cases e : j = i
    · subst e
      have ec : c = b := Option.some.inj (hc.symm.trans hb)
      subst ec
      rw [upd_same, if_pos rfl, List.map_append]; rfl
    · rw [upd_ne (fun q => e (nd_ix nd hc (by rw [q]; exact hb))), if_neg e]
      exact A.at_ j c hc
def spBeside : Sp := fun vs H Q _ => ∃ (p : Addr) (ts : List Addr) (ls : List (Nat × Nat)) (n : Nat), vs = [vi n, .ref p] ∧ LinksAt H p ts ls ∧ ls.length ≤ 100 ∧ n ≤ 100 ∧ (∀ l ∈ ls, l.1 < n ∧ l.2 < n) ∧
  ∀ H' q bs, Same H H' → AdjAt H' q bs (adjOf n ls) → Q (.ref q) H'
section
variable {P : Program} {w : World} {K : PySem.W.Frag} {mg : Str → Option Value} {base : Heap}
theorem scBeside : FnScope ["n", "links", "beside_each", "link", "place"] ["n", "links"] (defScope sBeside) := ⟨rfl, rfl, rfl, by decide +kernel, rfl, by decide +kernel, by decide +kernel⟩
theorem ok_beside {f : Addr} {fd : FuncData} (F : Fun K "places_beside" "places_beside" sBeside f fd) (T : Txt mg) : FnOk P w K mg base CX0 1 f fd ["n", "links"] spBeside := by
  refine F.ok scBeside (fun vs H Q E h => ?_) (fun cdv A outer s H vs Q E hr h => ?_)
  · obtain ⟨p, ts, ls, n, rfl, _⟩ := h
    rfl
  · obtain ⟨p, ts, ls, n, rfl, L, hlen, hn, hls, k⟩ := h
    refine ⟨_, pss_cons (ps_setLc (i := 2) (own := [("place", 4)]) (g := gName 4) (tt := tYes) rfl scBeside.nd rfl rfl (sw_true rfl rfl rfl (by decide +kernel)) (pi_range1 rfl T.range (pa_cons (pv 0) pa_nil))
        (blkOk_by (N := ["n", "links", "beside_each", "link", "place"]) (sc := defScope sBeside) (by decide +kernel)) (fun _ _ _ _ _ => pg_name (i := 4) scBeside.nd rfl (Or.inl rfl)) (fun _ _ _ _ _ => pts_nil) (fun _ _ _ _ _ => pe_lst pa_nil))
      (pss_cons (ps_for PassesOwn.never rfl (pi_list (pv 1)) (pg_name (i := 3) scBeside.nd rfl (Or.inl rfl))
        (pss_cons (ps_expr (pe_bm PySem.F.plainAttrs_list PySem.F.slot_list_append PySem.F.type_list_append mt_append (pe_ix ix_list (pv 2) (pe_ix ix_tup (pv 3) pe_int (fun _ _ => rfl)) (fun _ _ => rfl)) (pa_cons (pe_ix ix_tup (pv 3) pe_int (fun _ _ => rfl)) pa_nil)))
        (pss_one (ps_expr (pe_bm PySem.F.plainAttrs_list PySem.F.slot_list_append PySem.F.type_list_append mt_append (pe_ix ix_list (pv 2) (pe_ix ix_tup (pv 3) pe_int (fun _ _ => rfl)) (fun _ _ => rfl)) (pa_cons (pe_ix ix_tup (pv 3) pe_int (fun _ _ => rfl)) pa_nil))))))
      (pss_one (ps_ret (pv 2)))), ?_⟩
    refine ⟨_, rfl, (n : Int), rfl, by omega, by omega, fun D hD => ?_⟩
    have e0 : adjOf n [] = List.replicate n [] := rfl
    refine lc_range (lo := 0) (n := ((n : Nat) : Int).toNat) (fun i H' => ∃ bs : List Addr, Same H H' ∧ H' D = some (.lst (bs.map V.ref)) ∧ bs.length = i ∧ bs.Nodup ∧ D ∉ bs ∧ (∀ b ∈ bs, H b = none ∧ H' b = some (.lst [])))
      ⟨[], same_new hD, upd_same, rfl, List.nodup_nil, by simp, by simp⟩ ?_ ?_
    · rintro i H1 hi ⟨bs, s1, hD1, hbl, nd, hDn, hb⟩
      refine ⟨rfl, Nat.zero_le _, fun b hb1 => ?_⟩
      have hDb : D ≠ b := ne_of_none hD1 hb1
      have nb : b ∉ bs := fun z => by rw [(hb b z).2] at hb1; cases hb1
      refine ⟨_, by rw [upd_ne hDb]; exact hD1, by rw [List.length_map, hbl]; exact small1000 (by omega), bs ++ [b], Same.new (s1.trans (same_new hb1)) hD, by rw [upd_same, List.map_append]; rfl, by rw [List.length_append, hbl]; rfl, ?_, ?_, fun c hc => ?_⟩
      · rw [List.nodup_append]
        exact ⟨nd, by simp, fun x hx y hy e => nb (by rw [← List.mem_singleton.mp hy, ← e]; exact hx)⟩
      · rw [List.mem_append, List.mem_singleton]
        rintro (z | z)
        · exact hDn z
        · exact hDb z
      · rcases List.mem_append.mp hc with hc | hc
        · refine ⟨(hb c hc).1, ?_⟩
          rw [upd_ne (show c ≠ D from fun z => hDn (z ▸ hc)), upd_ne (show c ≠ b from fun z => nb (z ▸ hc))]
          exact (hb c hc).2
        · rw [List.mem_singleton] at hc
          subst hc
          exact ⟨s1.free hb1, by rw [upd_ne hDb.symm, upd_same]⟩
    · rintro H1 ⟨bs, s1, hD1, hbl, nd, hDn, hb⟩
      have hbl : bs.length = n := by omega
      have A1 : AdjAt H1 D bs (adjOf n (ls.take 0)) := ⟨hD1, by rw [adjOf_len]; exact hbl, fun i b h => by
        rw [(hb b (List.mem_of_getElem? h)).2, List.take_zero, e0, List.getD_eq_getElem?_getD, List.getElem?_replicate]
        split <;> rfl⟩
      refine ⟨_, rfl, p, rfl, ⟨_, SqL.of (s1 _ _ L.lst)⟩, for_list (K := K) (a := p) (xs := ts.map V.ref) (fun i σ H' => ∃ v : Option V, σ = [some (vi n), some (.ref p), some (.ref D), v, none] ∧ Same H H' ∧ AdjAt H' D bs (adjOf n (ls.take i)))
        ⟨none, rfl, s1, A1⟩ (fun i σ H' _ ⟨_, _, s5, _⟩ => SqL.of (s5 _ _ L.lst)) ?_ ?_⟩
      · rintro i y σ H' hi ⟨v, rfl, s5, A5⟩
        obtain ⟨t, ht, rfl⟩ := get_map hi
        have hi' : i < ls.length := by rw [← L.len]; exact (List.getElem?_eq_some_iff.mp ht).1
        obtain ⟨l, hl⟩ : ∃ l, ls[i]? = some l := ⟨_, List.getElem?_eq_getElem hi'⟩
        obtain ⟨t', ht', hT⟩ := L.at_ i l hl
        have et : t = t' := Option.some.inj (ht.symm.trans ht')
        subst et
        obtain ⟨l1, l2⟩ := hls l (List.mem_of_getElem? hl)
        obtain ⟨b1, hb1⟩ : ∃ b, bs[l.1]? = some b := ⟨_, List.getElem?_eq_getElem (by omega)⟩
        obtain ⟨b2, hb2⟩ : ∃ b, bs[l.2]? = some b := ⟨_, List.getElem?_eq_getElem (by omega)⟩
        have sz := adjOf_size n _ (ls.take i) rfl
        have hti : (ls.take i).length = i := by rw [List.length_take]; omega
        rw [hti] at sz
        have hT5 := s5 _ _ hT
        have x1 := A5.at_ _ _ hb1
        refine ⟨_, rfl, _, rfl, t, _, _, _, rfl, rfl, SqT.of hT5, atI_nat (j := 0) (v := vi l.1) rfl, D, _, _, _, rfl, rfl, SqL.of A5.lst, at_of (j := l.1) (v := V.ref b1) rfl (by rw [List.getElem?_map, hb1]; rfl), .inl ⟨rfl, _, SqL.of x1⟩,
          _, rfl, t, _, _, _, rfl, rfl, SqT.of hT5, atI_nat (j := 1) (v := vi l.2) rfl, b1, _, _, rfl, rfl, x1, (by rw [List.length_map]; have := sz l.1; exact small1000 (by omega)), ?_⟩
        have A6 := A5.push nd hDn (v := l.2) hb1
        have s6 : Same H (upd H' b1 (.lst (((adjOf n (ls.take i)).getD l.1 []).map vi ++ [vi l.2]))) := Same.new s5 (hb b1 (List.mem_of_getElem? hb1)).1
        have x2 := A6.at_ _ _ hb2
        have hT6 := s6 _ _ hT
        have sz2 := push_size (adjOf n (ls.take i)) l.1 l.2 l.2 _ sz
        refine ⟨_, rfl, _, rfl, t, _, _, _, rfl, rfl, SqT.of hT6, atI_nat (j := 1) (v := vi l.2) rfl, D, _, _, _, rfl, rfl, SqL.of A6.lst, at_of (j := l.2) (v := V.ref b2) rfl (by rw [List.getElem?_map, hb2]; rfl), .inl ⟨rfl, _, SqL.of x2⟩,
          _, rfl, t, _, _, _, rfl, rfl, SqT.of hT6, atI_nat (j := 0) (v := vi l.1) rfl, b2, _, _, rfl, rfl, x2, (by rw [List.length_map]; exact small1000 (by omega)), ?_⟩
        refine ⟨_, rfl, Same.new s6 (hb b2 (List.mem_of_getElem? hb2)).1, ?_⟩
        rw [take_snoc hl, adjOf_snoc]
        exact A6.push nd hDn hb2
      · rintro σ H' ⟨v, rfl, s5, A5⟩
        rw [List.length_map, L.len, List.take_length] at A5
        exact ⟨_, rfl, k _ _ _ s5 A5⟩
end
end Sw
set_option Elab.async false
set_option maxRecDepth 100000
set_option maxHeartbeats 4000000
namespace Sw
open PySem PySem.Spec PyProof.Rows L2
/-! ### a dict of places and steps -/
def kvp (p : Nat × Nat) : Key × V := (Sum.inl ((p.1 : Nat) : Int), vi p.2)
abbrev dic (st : List (Nat × Nat)) : HO := .dK (st.map kvp)
theorem kvp_ne {a b : Nat} (h : a ≠ b) : ¬ ((Sum.inl ((a : Nat) : Int) : Key) = Sum.inl ((b : Nat) : Int)) := fun e => by
  have := Sum.inl.inj e
  omega
theorem dic_none : ∀ {st : List (Nat × Nat)} {v : Nat}, v ∉ keys st → valV (st.map kvp) (Sum.inl ((v : Nat) : Int)) = none
  | [], _, _ => rfl
  | p :: r, v, h => by
    rw [List.map_cons, valV_neg (p := kvp p) (kvp_ne (fun e => h (by rw [← e]; exact List.mem_cons_self)))]
    exact dic_none fun z => h (List.mem_cons_of_mem _ z)
theorem dic_some : ∀ {st : List (Nat × Nat)} {v d : Nat}, (keys st).Nodup → (v, d) ∈ st → valV (st.map kvp) (Sum.inl ((v : Nat) : Int)) = some (vi d)
  | [], _, _, _, h => by simp at h
  | p :: r, v, d, nd, h => by
    obtain ⟨h1, h2⟩ := List.nodup_cons.mp (show (p.1 :: keys r).Nodup from nd)
    rcases List.mem_cons.mp h with e | h
    · subst e
      exact valV_pos (p := kvp (v, d)) (r := r.map kvp) rfl
    · have hv : v ∈ keys r := List.mem_map.mpr ⟨_, h, rfl⟩
      rw [List.map_cons, valV_neg (p := kvp p) (kvp_ne (fun e => h1 (by rw [e]; exact hv)))]
      exact dic_some h2 h
theorem dic_isSome {st : List (Nat × Nat)} (v : Nat) (nd : (keys st).Nodup) : (valV (st.map kvp) (Sum.inl ((v : Nat) : Int))).isSome = decide (v ∈ keys st) := by
  by_cases h : v ∈ keys st
  · obtain ⟨⟨v', d⟩, h1, h2⟩ := List.mem_map.mp h
    have h2 : v' = v := h2
    subst h2
    rw [dic_some nd h1, decide_eq_true h]; rfl
  · rw [dic_none h, decide_eq_false h]; rfl
theorem dic_put {st : List (Nat × Nat)} {v d : Nat} (h : v ∉ keys st) : putK (st.map kvp) (Sum.inl ((v : Nat) : Int)) (vi d) = (st ++ [(v, d)]).map kvp := by
  rw [putK_new _ (dic_none h), List.map_append]; rfl
theorem inV_vi (v : Nat) : ∀ (l : List Nat), inV (vi v) (l.map vi) = decide (v ∈ l)
  | [] => rfl
  | u :: l => by
    have ih := inV_vi v l
    unfold inV at ih ⊢
    rw [List.map_cons, List.any_cons, ih]
    show (((u : Nat) : Int) == ((v : Nat) : Int) || _) = _
    by_cases h : u = v
    · subst h; simp
    · have h' : ¬ v = u := fun e => h e.symm
      have e : (((u : Nat) : Int) == ((v : Nat) : Int)) = false := beq_eq_false_iff_ne.mpr (by omega)
      simp [e, h']
theorem flat_vi : ∀ (l : List Nat), (l.map vi).all flatV = true
  | [] => rfl
  | u :: l => by rw [List.map_cons, List.all_cons, flat_vi l]; rfl
theorem mid_small {E : Nat → Nat → Prop} {A : Nat → Prop} {s n k : Nat} {st st' : List (Nat × Nat)} {edge dn fur : List Nat} (hs : A s) (hA : ∀ v, A v → v < n) (L : Lvl E A s k st edge) (M : Mid A k st dn st' fur) :
    (keys st').Nodup ∧ st'.length ≤ n ∧ st'.length = st.length + fur.length := by
  have nd : (keys st').Nodup := by
    rw [M.keys, List.nodup_append]
    exact ⟨L.nd, M.nd, fun a ha b hb e => ((M.mem b).mp hb).2.1 (e ▸ ha)⟩
  refine ⟨nd, ?_, by rw [M.eq, List.length_append, List.length_map]⟩
  have h := len_sub (l := keys st') (m := List.range n) nd (fun x hx => by
    rw [M.keys, List.mem_append] at hx
    rcases hx with hx | hx
    · obtain ⟨⟨v', d⟩, h1, h2⟩ := List.mem_map.mp hx
      have h2 : v' = x := h2
      subst h2
      exact List.mem_range.mpr (hA _ (R.inA hs (L.val _ _ h1).1.1))
    · exact List.mem_range.mpr (hA _ ((M.mem x).mp hx).1))
  rw [List.length_range] at h
  have e : (keys st').length = st'.length := List.length_map ..
  omega
def spSteps (K : PySem.W.Frag) : Sp := fun vs H Q _ => ∃ (a al : Addr) (bs : List Addr) (adj : List (List Nat)) (allowed : List Nat) (s n : Nat) (E : Nat → Nat → Prop), vs = [.ref a, vi s, .ref al] ∧ AdjAt H a bs adj ∧ adj.length = n ∧ n ≤ 100 ∧
  (∀ u, u < n → ∀ v, v ∈ adj.getD u [] ↔ E u v) ∧ SqL K H al (allowed.map vi) ∧ (∀ v, v ∈ allowed → v < n) ∧ s ∈ allowed ∧
  ∀ H' d st, Same H H' → H d = none → H' d = some (dic st) → IsDist E (· ∈ allowed) s n st → Q (.ref d) H'
section
variable {P : Program} {w : World} {K : PySem.W.Frag} {mg : Str → Option Value} {base : Heap}
theorem scSteps : FnScope ["beside_each", "start", "allowed", "steps", "edge", "further", "place", "other"] ["beside_each", "start", "allowed"] (defScope sSteps) := ⟨rfl, rfl, rfl, by decide +kernel, rfl, by decide +kernel, by decide +kernel⟩
theorem ok_steps {f : Addr} {fd : FuncData} (F : Fun K "steps_to_each" "steps_to_each" sSteps f fd) (T : Txt mg) : FnOk P w K mg base CX0 1 f fd ["beside_each", "start", "allowed"] (spSteps K) := by
  refine F.ok scSteps (fun vs H Q E h => ?_) (fun cdv A outer sh H vs Q E0 hr h => ?_)
  · obtain ⟨a, al, bs, adj, allowed, s, n, E, rfl, _⟩ := h
    rfl
  · obtain ⟨a, al, bs, adj, allowed, s, n, E, rfl, hAdj, hn, hn100, hE, hAl, hlt, hs, k⟩ := h
    have hu := hu_of hr
    refine ⟨_, pss_cons (ps_set (i := 3) scSteps.nd rfl (Or.inl rfl) (pe_disp (pps_cons (pv 1) pe_int pps_nil) (by rfl) (by rfl) (fun z => by cases z) (by decide)))
      (pss_cons (ps_set (i := 4) scSteps.nd rfl (Or.inl rfl) (pe_lst (pa_cons (pv 1) pa_nil)))
      (pss_cons (ps_while PassesOwn.never (pt_cmpR op_gt (pe_callB call_len_seq (by rfl) T.len PySem.boot_len (pa_cons (pv 4) pa_nil)) pe_int (nomark _))
        (pss_cons (ps_set (i := 5) scSteps.nd rfl (Or.inl rfl) (pe_lst pa_nil))
        (pss_cons (ps_for PassesOwn.never rfl (pi_list (pv 4)) (pg_name (i := 6) scSteps.nd rfl (Or.inl rfl))
          (pss_one (ps_for PassesOwn.never rfl (pi_list (pe_ix ix_list (pv 0) (pv 6) (fun _ _ => rfl))) (pg_name (i := 7) scSteps.nd rfl (Or.inl rfl))
            (pss_one (ps_if (PW.pt (pw_and (pt_cmpR op_in_seq (pv 7) (pv 2) (by rfl)) (pw_and1 (pt_cmp (pc_dnotin hu (pv 7) (pv 3))))))
              (pss_cons (ps_dput hu (pv 3) (pv 7) (pe_op op_add (pe_dget hu (pv 3) (pv 6) (fun _ _ => rfl)) pe_int) rfl)
              (pss_one (ps_expr (pe_bm PySem.F.plainAttrs_list PySem.F.slot_list_append PySem.F.type_list_append mt_append (pv 5) (pa_cons (pv 7) pa_nil)))))
              pss_nil)))))
        (pss_one (ps_set (i := 4) scSteps.nd rfl (Or.inl rfl) (pv 5))))))
      (pss_one (ps_ret (pv 3))))), ?_⟩
    -- steps = {start: 0}; edge = [start]
    refine fun d hd => ⟨_, rfl, ⟨upd_same, [(Sum.inl ((s : Nat) : Int), vi 0)], rfl, (by show 1 ≤ 15; decide), ?_⟩⟩
    rw [upd_upd]
    refine ⟨_, rfl, (by show 1 ≤ sizeLine; decide), fun e0 he0 => ?_⟩
    have s0 : Same H (upd H d (dic [(s, 0)])) := same_new hd
    have hde0 : d ≠ e0 := ne_of_none upd_same he0
    have he0H : H e0 = none := s0.free he0
    -- the loop
    refine ⟨fun m σ H' => ∃ (kk : Nat) (st : List (Nat × Nat)) (edge : List Nat) (eA : Addr) (vf vp vo : Option V), σ = [some (.ref a), some (vi s), some (.ref al), some (.ref d), some (.ref eA), vf, vp, vo] ∧ Same H H' ∧ H eA = none ∧ H' d = some (dic st) ∧
        H' eA = some (.lst (edge.map vi)) ∧ Lvl E (· ∈ allowed) s kk st edge ∧ m = 2 * (n - st.length) + (if edge = [] then 0 else 1),
      ⟨_, 0, [(s, 0)], [s], e0, none, none, none, rfl, Same.new s0 he0H, he0H, by rw [upd_ne hde0]; exact upd_same, upd_same, Lvl.start s, rfl⟩, ?_⟩
    rintro m σ H1 ⟨kk, st, edge, eA, vf, vp, vo, rfl, s1, heA, hd1, he1, L, rfl⟩
    refine ⟨_, rfl, eA, _, rfl, .inl (SqL.of he1), _, _, rfl, rfl, _, rfl, ?_⟩
    refine ite2 (fun c => ?_) (fun c => ?_)
    · have hne : edge ≠ [] := fun z => by
        subst z
        have := of_decide_eq_true c
        simp at this
      refine ⟨fun σ' H' => ∃ (st' : List (Nat × Nat)) (fur : List Nat) (fA : Addr) (vf vp vo : Option V), σ' = [some (.ref a), some (vi s), some (.ref al), some (.ref d), some (.ref fA), vf, vp, vo] ∧ Same H H' ∧ H fA = none ∧ H' d = some (dic st') ∧
        H' fA = some (.lst (fur.map vi)) ∧ Lvl E (· ∈ allowed) s (kk + 1) st' fur ∧ st'.length = st.length + fur.length ∧ st'.length ≤ n, ?_, ?_⟩
      · rintro σ' H' ⟨st', fur, fA, vf, vp, vo, rfl, s2, hfA, hd2, hf2, L2', el, en⟩
        refine ⟨_, ?_, kk + 1, st', fur, fA, vf, vp, vo, rfl, s2, hfA, hd2, hf2, L2', rfl⟩
        rw [if_neg hne]
        by_cases z : fur = []
        · rw [if_pos z]
          subst z
          rw [List.length_nil] at el
          omega
        · rw [if_neg z]
          have := List.length_pos_iff.mpr z
          omega
      -- further = []
      refine ⟨Nat.zero_le _, fun fA hfA => ?_⟩
      have hfH : H fA = none := s1.free hfA
      have hdf : d ≠ fA := ne_of_none hd1 hfA
      have hef : eA ≠ fA := ne_of_none he1 hfA
      have hde : d ≠ eA := ne_of hd1 he1 (by intro z; cases z)
      have hl1 := L.small hs hlt
      refine ⟨_, rfl, eA, rfl, ⟨_, SqL.of (by rw [upd_ne hef]; exact he1)⟩, for_list (K := K) (a := eA) (xs := edge.map vi) (fun i σ H' => ∃ (st' : List (Nat × Nat)) (fur : List Nat) (vp vo : Option V),
          σ = [some (.ref a), some (vi s), some (.ref al), some (.ref d), some (.ref eA), some (.ref fA), vp, vo] ∧ Same H H' ∧ H' d = some (dic st') ∧ H' eA = some (.lst (edge.map vi)) ∧ H' fA = some (.lst (fur.map vi)) ∧
          Mid (· ∈ allowed) kk st ((edge.take i).flatMap fun u => adj.getD u []) st' fur)
        ⟨st, [], vp, vo, rfl, Same.new s1 hfH, by rw [upd_ne hdf]; exact hd1, by rw [upd_ne hef]; exact he1, upd_same, Mid.start _ _ _⟩ (fun i σ H' _ ⟨_, _, _, _, _, _, _, q, _⟩ => SqL.of q) ?_ ?_⟩
      · -- for place in edge
        rintro i y σ H2 hi ⟨st', fur, vp, vo, rfl, s2, hd2, he2, hf2, M⟩
        obtain ⟨u, hu', rfl⟩ := get_map hi
        have hue : u ∈ edge := List.mem_of_getElem? hu'
        have hust := (L.edg u).mp hue
        have hun : u < n := hlt u (R.inA (A := (· ∈ allowed)) hs (L.val _ _ hust).1.1)
        obtain ⟨b, hb⟩ : ∃ b, bs[u]? = some b := ⟨_, List.getElem?_eq_getElem (by rw [hAdj.len, hn]; exact hun)⟩
        have A2 := hAdj.same s2
        refine ⟨_, rfl, _, rfl, a, _, _, _, rfl, rfl, SqL.of A2.lst, at_of (j := u) (v := V.ref b) rfl (by rw [List.getElem?_map, hb]; rfl), b, rfl, ⟨_, SqL.of (A2.at_ _ _ hb)⟩, for_list (K := K) (a := b) (xs := (adj.getD u []).map vi) (fun j σ H' => ∃ (st' : List (Nat × Nat)) (fur : List Nat) (vo : Option V),
            σ = [some (.ref a), some (vi s), some (.ref al), some (.ref d), some (.ref eA), some (.ref fA), some (vi u), vo] ∧ Same H H' ∧ H' d = some (dic st') ∧ H' eA = some (.lst (edge.map vi)) ∧ H' fA = some (.lst (fur.map vi)) ∧
            Mid (· ∈ allowed) kk st (((edge.take i).flatMap fun u => adj.getD u []) ++ (adj.getD u []).take j) st' fur)
          ⟨st', fur, vo, rfl, s2, hd2, he2, hf2, by rw [List.take_zero, List.append_nil]; exact M⟩ (fun j σ H' _ ⟨_, _, _, _, s3, _⟩ => SqL.of ((hAdj.same s3).at_ _ _ hb)) ?_ ?_⟩
        · -- for other in beside_each[place]
          rintro j y σ H3 hj ⟨st', fur, vo, rfl, s3, hd3, he3, hf3, M⟩
          obtain ⟨o, ho, rfl⟩ := get_map hj
          obtain ⟨nd', ln', _⟩ := mid_small hs hlt L M
          rw [take_snoc ho, ← List.append_assoc]
          refine ⟨_, rfl, _, rfl, al, _, rfl, .inl (s3.seq hAl), rfl, flat_vi _, _, rfl, ?_⟩
          rw [show (if false = true then !inV (vi o) (allowed.map vi) else inV (vi o) (allowed.map vi)) = inV (vi o) (allowed.map vi) from rfl, inV_vi]
          refine ite2 (fun c => ?_) (fun c => ?_)
          · have ca : o ∈ allowed := of_decide_eq_true c
            refine ⟨_, rfl, _, rfl, d, _, rfl, DGet.k (k := Sum.inl ((o : Nat) : Int)) hd3, _, rfl, ?_⟩
            rw [dic_isSome o nd']
            by_cases hk : o ∈ keys st'
            · rw [decide_eq_true hk]
              exact ⟨st', fur, some (vi o), rfl, s3, hd3, he3, hf3, M.skip (.inr hk)⟩
            · rw [decide_eq_false hk]
              have hu2 : (u, kk) ∈ st' := by rw [M.eq]; exact List.mem_append_left _ hust
              refine ⟨_, rfl, _, rfl, d, _, rfl, (by rw [← dic_some nd' hu2]; exact DGet.k (k := Sum.inl ((u : Nat) : Int)) hd3), _, _, rfl, rfl, _, rfl, _, rfl, d, _, rfl, DPut.k (k := Sum.inl ((o : Nat) : Int)) hd3 (by rw [List.length_map]; exact small1000 (by omega)), ?_⟩
              have e1 : putK (st'.map kvp) (Sum.inl ((o : Nat) : Int)) (V.int (((kk : Nat) : Int) + 1)) = (st' ++ [(o, kk + 1)]).map kvp := dic_put hk
              rw [e1]
              have hdf3 : fA ≠ d := hdf.symm
              have hf4 : upd H3 d (dic (st' ++ [(o, kk + 1)])) fA = some (.lst (fur.map vi)) := by rw [upd_ne hdf3]; exact hf3
              have lf : fur.length ≤ n := by
                have := (mid_small hs hlt L M).2.2
                omega
              refine ⟨_, rfl, .inl ⟨rfl, _, SqL.of hf4⟩, _, rfl, fA, _, _, rfl, rfl, hf4, (by rw [List.length_map]; exact small1000 (by omega)), ?_⟩
              refine ⟨st' ++ [(o, kk + 1)], fur ++ [o], some (vi o), rfl, Same.new (Same.new s3 hd) hfH, ?_, ?_, ?_, M.more ca hk⟩
              · rw [upd_ne hdf, upd_same]
              · rw [upd_ne hef, upd_ne hde.symm]; exact he3
              · rw [upd_same, List.map_append]; rfl
          · have ca : ¬ o ∈ allowed := fun z => c (decide_eq_true z)
            exact ⟨st', fur, some (vi o), rfl, s3, hd3, he3, hf3, M.skip (.inl ca)⟩
        · rintro σ H3 ⟨st', fur, vo, rfl, s3, hd3, he3, hf3, M⟩
          refine ⟨st', fur, some (vi u), vo, rfl, s3, hd3, he3, hf3, ?_⟩
          rw [List.length_map, List.take_length] at M
          rw [take_snoc hu', List.flatMap_append]
          simpa using M
      · rintro σ H2 ⟨st', fur, vp, vo, rfl, s2, hd2, he2, hf2, M⟩
        rw [List.length_map, List.take_length] at M
        obtain ⟨nd', ln', el⟩ := mid_small hs hlt L M
        refine ⟨_, rfl, st', fur, fA, some (.ref fA), vp, vo, rfl, s2, hfH, hd2, hf2, L.next hs hne M (fun v => ?_), el, ln'⟩
        rw [List.mem_flatMap]
        constructor
        · rintro ⟨u, h1, h2⟩
          exact ⟨u, h1, (hE u (hlt u (R.inA (A := (· ∈ allowed)) hs (L.val _ _ ((L.edg u).mp h1)).1.1)) v).mp h2⟩
        · rintro ⟨u, h1, h2⟩
          exact ⟨u, h1, (hE u (hlt u (R.inA (A := (· ∈ allowed)) hs (L.val _ _ ((L.edg u).mp h1)).1.1)) v).mpr h2⟩
    · have hne : edge = [] := by
        have : ¬ (((edge.map vi).length : Nat) : Int) > 0 := fun z => c (decide_eq_true z)
        rw [List.length_map] at this
        exact List.length_eq_zero_iff.mp (by omega)
      subst hne
      exact ⟨_, rfl, k _ _ _ s1 hd hd1 (L.done hs hlt)⟩
end
end Sw
set_option Elab.async false
set_option maxRecDepth 100000
set_option maxHeartbeats 4000000
namespace Sw
open PySem PySem.Spec PyProof.Rows L2
/-- a def of the text that another one calls -/
structure Callee (K : PySem.W.Frag) (mg : Str → Option Value) (x : Str) (f : Addr) (fd : FuncData) (ps : List Str) : Prop where
  mg : mg x = some (.ref f)
  kp : PySem.W.keepIn K (.ref f) = true
  b : Binds K fd ps []
theorem rgV_vi (n : Nat) : rgV 0 ((n : Nat) : Int) = (List.range n).map vi := by
  unfold rgV
  rw [show (((n : Nat) : Int) - 0).toNat = n by omega]
  apply List.map_congr_left
  intro i _
  show V.int (0 + ((i : Nat) : Int)) = V.int ((i : Nat) : Int)
  rw [Int.zero_add]
def spHang : Sp := fun vs H Q _ => ∃ (p : Addr) (ts : List Addr) (ls : List (Nat × Nat)) (n : Nat), vs = [vi n, .ref p] ∧ LinksAt H p ts ls ∧ ls.length ≤ 100 ∧ 1 ≤ n ∧ n ≤ 100 ∧ (∀ l ∈ ls, l.1 < n ∧ l.2 < n) ∧
  ∀ H' st, Same H H' → IsDist (nearL ls) (· < n) 0 n st → Q (.bl (decide (st.length = n))) H'
def spNet (K : PySem.W.Frag) : Sp := fun vs H Q _ => ∃ (a : Addr) (l : List Nat) (n : Nat), vs = [vi n, .ref a] ∧ SqL K H a (l.map vi) ∧ l.length ≤ 24 ∧
  (Ks536.netOf n l = none → ∀ H', Same H H' → Q (.bl false) H') ∧ ∀ t, IsNet n l t → ∀ H', Same H H' → Q (.bl true) H'
section
variable {P : Program} {w : World} {K : PySem.W.Frag} {mg : Str → Option Value} {base : Heap}
theorem scHang : FnScope ["n", "links"] ["n", "links"] (defScope sHang) := ⟨rfl, rfl, rfl, by decide +kernel, rfl, by decide +kernel, by decide +kernel⟩
theorem ok_hang {f fS fB : Addr} {fd fdS fdB : FuncData} (F : Fun K "hang_together" "hang_together" sHang f fd) (T : Txt mg)
    (cS : Callee K mg "steps_to_each" fS fdS ["beside_each", "start", "allowed"]) (GS : FnOk P w K mg base CX0 1 fS fdS ["beside_each", "start", "allowed"] (spSteps K))
    (cB : Callee K mg "places_beside" fB fdB ["n", "links"]) (GB : FnOk P w K mg base CX0 1 fB fdB ["n", "links"] spBeside) : FnOk P w K mg base CX0 2 f fd ["n", "links"] spHang := by
  refine F.ok scHang (fun vs H Q E h => ?_) (fun cdv A outer sh H vs Q E0 hr h => ?_)
  · obtain ⟨p, ts, ls, n, rfl, _⟩ := h
    rfl
  · obtain ⟨p, ts, ls, n, rfl, L, hlen, h1, hn, hls, k⟩ := h
    refine ⟨_, pss_one (ps_ret (pe_cmpR op_eq (pe_callB call_lenD (by rfl) T.len PySem.boot_len (pa_cons (pe_call GS hr rfl cS.mg cS.kp cS.b .nil pass0
      (pa_cons (pe_call GB hr rfl cB.mg cB.kp cB.b .nil pass0 (pa_cons (pv 0) (pa_cons (pv 1) pa_nil))) (pa_cons pe_int (pa_cons (pe_listRg rfl (by rfl) T.list (prg_1 (by rfl) T.range (pv 0))) pa_nil)))) pa_nil)) (pv 0) (nomark _))), ?_⟩
    refine ⟨_, rfl, _, rfl, p, ts, ls, n, rfl, L, hlen, hn, hls, fun H1 q bs s1 A1 => ?_⟩
    refine ⟨_, rfl, (n : Int), rfl, RgOk.of_le (by omega) (by omega) (by omega) (by omega), fun r hr' => ?_⟩
    rw [rgV_vi]
    have s2 := same_new (o := HO.lst ((List.range n).map vi)) hr'
    refine ⟨q, r, bs, adjOf n ls, List.range n, 0, n, nearL ls, rfl, A1.same s2, adjOf_len n ls, hn, fun u hu v => adjOf_mem n ls hls u v hu, SqL.of upd_same, fun v hv => List.mem_range.mp hv, List.mem_range.mpr (by omega), fun H2 d st s3 hd hd2 D => ?_⟩
    refine ⟨d, _, rfl, hd2, _, rfl, rfl, ?_⟩
    have q := k H2 st ((s1.trans s2).trans s3) (D.congr fun v => List.mem_range)
    have e : decide (V.int (((st.map kvp).length : Nat) : Int) = V.int ((n : Nat) : Int)) = decide (st.length = n) := by
      rw [List.length_map]
      by_cases z : st.length = n
      · rw [decide_eq_true z, z]; simp
      · rw [decide_eq_false z]
        refine decide_eq_false fun y => z ?_
        injection y with y
        omega
    rw [e]
    exact q
theorem scNet : FnScope ["n", "net", "links"] ["n", "net"] (defScope sNet) := ⟨rfl, rfl, rfl, by decide +kernel, rfl, by decide +kernel, by decide +kernel⟩
theorem ok_net {f fL fA fH : Addr} {fd fdL fdA fdH : FuncData} {t1 t2 : Tok} (F : Fun K "is_net" "is_net" sNet f fd) (T : Txt mg) (c1 : mg "MOST_PLACES" = some (.int 7 t1)) (c2 : mg "MOST_LINKS" = some (.int 10 t2))
    (cL : Callee K mg "links_of" fL fdL ["net"]) (GL : FnOk P w K mg base CX0 1 fL fdL ["net"] (spLinks K))
    (cA : Callee K mg "are_links" fA fdA ["n", "links"]) (GA : FnOk P w K mg base CX0 1 fA fdA ["n", "links"] spAre)
    (cH : Callee K mg "hang_together" fH fdH ["n", "links"]) (GH : FnOk P w K mg base CX0 2 fH fdH ["n", "links"] spHang) : FnOk P w K mg base CX0 3 f fd ["n", "net"] (spNet K) := by
  refine F.ok scNet (fun vs H Q E h => ?_) (fun cdv A outer sh H vs Q E0 hr h => ?_)
  · obtain ⟨a, l, n, rfl, _⟩ := h
    rfl
  · obtain ⟨a, l, n, rfl, hS, hlen, kn, ks⟩ := h
    have hr1 : Room 1 _ := hr.mono (by decide)
    refine ⟨_, pss_cons (ps_if (PW.pt (pw_or (pt_cmpR op_lt (pv 0) pe_int (nomark _)) (pw_or1 (pt_cmpR op_gt (pv 0) (pe_glob (v := .int 7) rfl c1 ⟨_, rfl⟩) (nomark _))))) (pss_one (ps_ret pe_bl)) pss_nil)
      (pss_cons (ps_if (PW.pt (pw_or (pt_cmpR op_ne (pe_op op_mod (pe_callB call_len_seq (by rfl) T.len PySem.boot_len (pa_cons (pv 1) pa_nil)) pe_int) pe_int (nomark _))
          (pw_or1 (pt_cmpR op_gt (pe_callB call_len_seq (by rfl) T.len PySem.boot_len (pa_cons (pv 1) pa_nil)) (pe_op op_mul pe_int (pe_glob (v := .int 10) rfl c2 ⟨_, rfl⟩)) (nomark _))))) (pss_one (ps_ret pe_bl)) pss_nil)
      (pss_cons (ps_set (i := 2) scNet.nd rfl (Or.inl rfl) (pe_call GL hr1 rfl cL.mg cL.kp cL.b .nil pass0 (pa_cons (pv 1) pa_nil)))
      (pss_one (ps_ret (pe_and (pe_call GA hr1 rfl cA.mg cA.kp cA.b .nil pass0 (pa_cons (pv 0) (pa_cons (pv 2) pa_nil)))
        (pe_one (pe_call GH hr rfl cH.mg cH.kp cH.b .nil pass0 (pa_cons (pv 0) (pa_cons (pv 2) pa_nil))))))))), ?_⟩
    refine ⟨_, rfl, _, _, rfl, rfl, _, rfl, ?_⟩
    refine ite2 (fun c => ?_) (fun c => ?_)
    · have := of_decide_eq_true c
      exact kn (netOf_size (by omega)) H (Same.refl _)
    have c1' : ¬ ((n : Nat) : Int) < 1 := fun z => c (decide_eq_true z)
    refine ⟨_, rfl, _, _, rfl, rfl, _, rfl, ?_⟩
    refine ite2 (fun c => ?_) (fun c => ?_)
    · have := of_decide_eq_true c
      exact kn (netOf_size (by omega)) H (Same.refl _)
    have c2' : ¬ ((n : Nat) : Int) > 7 := fun z => c (decide_eq_true z)
    have b1 : ¬ (n < 1 ∨ 7 < n) := by omega
    refine ⟨_, rfl, a, _, rfl, .inl hS, _, _, rfl, rfl, (by show (0 : Int) < 2; decide), rfl, _, rfl, ?_⟩
    have hm : (l.map vi).length = l.length := List.length_map ..
    have e2 : (!decide ((V.int (((((l.map vi).length : Nat)) : Int) % 2)) = V.int 0)) = true ↔ l.length % 2 ≠ 0 := by
      rw [hm, Bool.not_eq_true', decide_eq_false_iff_not, V.int.injEq]
      omega
    refine ite2 (fun c => ?_) (fun c => ?_)
    · exact kn (netOf_len (.inl (e2.mp c))) H (Same.refl _)
    have c3 : ¬ l.length % 2 ≠ 0 := fun z => c (e2.mpr z)
    refine ⟨_, rfl, a, _, rfl, .inl hS, _, _, rfl, rfl, .inl ⟨by decide, by decide⟩, _, _, rfl, rfl, _, rfl, ?_⟩
    refine ite2 (fun c => ?_) (fun c => ?_)
    · have z := of_decide_eq_true c
      rw [hm] at z
      exact kn (netOf_len (.inr (by omega))) H (Same.refl _)
    have c4 : ¬ (2 * (10 : Int) < (((l.map vi).length : Nat) : Int)) := fun z => c (decide_eq_true z)
    rw [hm] at c4
    have b2 : ¬ (l.length % 2 ≠ 0 ∨ 20 < l.length) := by omega
    refine ⟨_, rfl, a, l, rfl, hS, by omega, hlen, fun H1 p ts s1 L => ?_⟩
    have ll : (mkLinks l).length ≤ 100 := by rw [mkLinks_len]; omega
    refine ⟨_, rfl, _, rfl, p, ts, mkLinks l, n, rfl, L, ll, fun H2 s2 => ⟨_, rfl, ?_⟩⟩
    cases h3 : areLinks n [] (mkLinks l) with
    | false => exact kn (netOf_bad b1 b2 h3) H2 (s1.trans s2)
    | true =>
      refine ⟨_, rfl, _, rfl, p, ts, mkLinks l, n, rfl, L.same s2, ll, by omega, by omega, links_lt (mkLinks_le l) h3, fun H3 st s3 D => ?_⟩
      obtain ⟨q1, q2⟩ := netOf_dist b1 b2 h3 D
      by_cases z : st.length = n
      · rw [decide_eq_true z]
        obtain ⟨t, N⟩ := q2 z
        exact ks t N H3 ((s1.trans s2).trans s3)
      · rw [decide_eq_false z]
        exact kn (q1 z) H3 ((s1.trans s2).trans s3)
end
end Sw
set_option Elab.async false
set_option maxRecDepth 100000
set_option maxHeartbeats 4000000
namespace Sw
open PySem PySem.Spec PyProof.Rows L2
/-! ### lists of intsN as data -/
theorem intsD_lay : ∀ ns : List Int, PyData.canLayAll0 (ns.map PyData.int) = true
  | [] => by simp [PyData.canLayAll0]
  | n :: ns => by simp [PyData.canLayAll0, PyData.canLay0, intsD_lay ns]
theorem intsD_depth : ∀ ns : List Int, PyData.depthAll (ns.map PyData.int) ≤ 1
  | [] => by simp [PyData.depthAll]
  | n :: ns => by
    have h := intsD_depth ns
    have h1 : (PyData.int n).depth ≤ 1 := by simp [PyData.depth]
    simp only [List.map_cons, PyData.depthAll]
    omega
theorem intsD_shaped (ns : List Int) : SeqAt.shaped (.list (ns.map PyData.int)) = true := by
  unfold SeqAt.shaped
  have h : (PyData.list (ns.map PyData.int)).depth = PyData.depthAll (ns.map PyData.int) + 1 := by simp only [PyData.depth]
  have h2 : (PyData.list (ns.map PyData.int)).canLay0 = PyData.canLayAll0 (ns.map PyData.int) := by simp only [PyData.canLay0]
  have h3 := intsD_depth ns
  rw [h, h2, intsD_lay, Bool.true_and, decide_eq_true_eq]
  omega
theorem intsD_eqvAll : ∀ (ns ms : List Int), PyData.eqvAll (ns.map PyData.int) (ms.map PyData.int) = decide (ns = ms)
  | [], [] => by simp [PyData.eqvAll]
  | [], _ :: _ => by simp [PyData.eqvAll]
  | _ :: _, [] => by simp [PyData.eqvAll]
  | n :: ns, m :: ms => by
    have ih := intsD_eqvAll ns ms
    simp only [List.map_cons, PyData.eqvAll, PyData.eqv, ih]
    by_cases h : n = m
    · subst h; simp
    · simp [h]
theorem intsD_eqv (ns ms : List Int) : PyData.eqv (.list (ns.map PyData.int)) (.list (ms.map PyData.int)) = decide (ns = ms) := by
  rw [show PyData.eqv (.list (ns.map PyData.int)) (.list (ms.map PyData.int)) = PyData.eqvAll (ns.map PyData.int) (ms.map PyData.int) by simp only [PyData.eqv]]
  exact intsD_eqvAll ns ms
theorem intsD_dp {K : PySem.W.Frag} {H : Hp} : ∀ ns : List Int, DpAll K H (ns.map V.int) (ns.map PyData.int)
  | [] => .nil
  | n :: ns => .cons (.int n) (intsD_dp ns)
theorem vi_ints (l : List Nat) : l.map vi = (intsN l).map V.int := by
  unfold intsN
  rw [List.map_map]; rfl
theorem ints_perm {a b : List Nat} : (intsN a).Perm (intsN b) ↔ a.Perm b := by
  constructor
  · intro h
    have h2 := h.map Int.toNat
    have e : ∀ l : List Nat, (intsN l).map Int.toNat = l := fun l => by
      unfold intsN
      rw [List.map_map]
      exact List.map_id' l
    rw [e, e] at h2
    exact h2
  · intro h; exact h.map _
theorem ints_sorted {l : List Nat} (h : l.Pairwise (· ≤ ·)) : (intsN l).Pairwise (· ≤ ·) := by
  unfold intsN
  rw [List.pairwise_map]
  exact h.imp fun {a b} q => by
    show ((a : Nat) : Int) ≤ ((b : Nat) : Int)
    omega
theorem sorted_same {os m : List Nat} {ns : List Int} (h1 : ns.Perm (intsN os)) (h2 : ns.Pairwise (· ≤ ·)) (hm : m.Pairwise (· ≤ ·)) : ns = intsN m ↔ os.Perm m := by
  constructor
  · rintro rfl
    exact (ints_perm.mp h1).symm
  · intro h
    exact List.Perm.eq_of_pairwise (fun x y _ _ p q => Int.le_antisymm p q) h2 (ints_sorted hm) (h1.trans (ints_perm.mpr h))
def othersM (n home : Nat) : List Nat := (List.range n).filter fun x => x != home
theorem othersM_sorted (n home : Nat) : (othersM n home).Pairwise (· ≤ ·) := List.Pairwise.filter _ (List.pairwise_le_range)
end Sw
set_option Elab.async false
set_option maxRecDepth 100000
set_option maxHeartbeats 4000000
namespace Sw
open PySem PySem.Spec PyProof.Rows L2
/-- a pair at a new tuple: its address, how far, the place -/
abbrev Trip := Addr × Nat × Nat
structure TripsAt (H : Hp) (D : Addr) (bs : List Nat) (st : List (Nat × Nat)) (L : List Trip) : Prop where
  lst : H D = some (.lst (L.map fun x => V.ref x.1))
  at_ : ∀ x ∈ L, H x.1 = some (.tup [vi x.2.1, vi x.2.2])
  mem : ∀ d g, (∃ t, (t, d, g) ∈ L) ↔ g ∈ bs ∧ (g, d) ∈ st
  len : L.length ≤ bs.length
def pairOf (H : Hp) : V → Int × Int
  | .ref t => match H t with
    | some (.tup [.int i, .int j]) => (i, j)
    | _ => (0, 0)
  | _ => (0, 0)
theorem pairOf_at {H : Hp} {t : Addr} {a b : Nat} (h : H t = some (.tup [vi a, vi b])) : pairOf H (.ref t) = (((a : Nat) : Int), ((b : Nat) : Int)) := by
  unfold pairOf
  simp only [h]
def optV : Option (Nat × Nat) → V
  | none => .non
  | some (_, g) => vi g
def spPick (K : PySem.W.Frag) : Sp := fun vs H Q _ => ∃ (b d : Addr) (bs : List Nat) (st : List (Nat × Nat)), vs = [.ref b, .ref d] ∧ SqL K H b (bs.map vi) ∧ bs.length ≤ 500 ∧ H d = some (dic st) ∧ (keys st).Nodup ∧
  ∀ H' r, Same H H' → Pick bs st r → Q (optV r) H'
section
variable {P : Program} {w : World} {K : PySem.W.Frag} {mg : Str → Option Value} {base : Heap}
theorem scPick : FnScope ["beside_it", "steps", "near_ones", "place"] ["beside_it", "steps"] (defScope sPick) := ⟨rfl, rfl, rfl, by decide +kernel, rfl, by decide +kernel, by decide +kernel⟩
theorem ok_pick {f : Addr} {fd : FuncData} (F : Fun K "place_to_look_from" "place_to_look_from" sPick f fd) (T : Txt mg) : FnOk P w K mg base CX0 1 f fd ["beside_it", "steps"] (spPick K) := by
  refine F.ok scPick (fun vs H Q E h => ?_) (fun cdv A outer sh H vs Q E0 hr h => ?_)
  · obtain ⟨b, d, bs, st, rfl, _⟩ := h
    rfl
  · obtain ⟨b, d, bs, st, rfl, hS, hbs, hd, nd, k⟩ := h
    have hu := hu_of hr
    refine ⟨_, pss_cons (ps_set (i := 2) scPick.nd rfl (Or.inl rfl) (pe_callB cr_sortedPO (by rfl) T.sorted (by decide +kernel) (pa_cons
        (pe_lc (own := [("place", 3)]) (g := gName 3) rfl scPick.nd (pi_list (pv 0)) (blkOk_by (N := ["beside_it", "steps", "near_ones", "place"]) (sc := defScope sPick) (by decide +kernel))
          (fun _ _ _ _ _ => pg_name (i := 3) scPick.nd rfl (Or.inl rfl)) (fun _ _ _ _ _ => pts_one (pt_cmp (pc_din hu (pv 3) (pv 1)))) (fun _ _ _ _ _ => pe_tup (pa_cons (pe_dget hu (pv 1) (pv 3) (fun _ _ => rfl)) (pa_cons (pv 3) pa_nil)))) pa_nil)))
      (pss_cons (ps_if (pt_cmpR op_eq (pe_callB call_len_seq (by rfl) T.len PySem.boot_len (pa_cons (pv 2) pa_nil)) pe_int (nomark _)) (pss_one (ps_ret pe_non)) pss_nil)
      (pss_one (ps_ret (pe_ix ix_tup (pe_ix ix_list (pv 2) pe_int (fun _ _ => rfl)) pe_int (fun _ _ => rfl))))), ?_⟩
    refine ⟨_, rfl, b, rfl, ⟨_, hS⟩, fun D hD => lc_list (K := K) (a := b) (xs := bs.map vi) (fun i H' => ∃ L, Same H H' ∧ TripsAt H' D (bs.take i) st L)
      ⟨[], same_new hD, upd_same, by simp, fun d g => by simp, by simp⟩ (fun i H' _ ⟨_, s1, _⟩ => s1.seq hS) ?_ ?_⟩
    · rintro i y H1 hi ⟨L, s1, W⟩
      obtain ⟨v, hv, rfl⟩ := get_map hi
      have hd1 := s1 _ _ hd
      have hlt := (List.getElem?_eq_some_iff.mp hv).1
      refine ⟨rfl, _, rfl, _, rfl, d, _, rfl, DGet.k (k := Sum.inl ((v : Nat) : Int)) hd1, _, rfl, ?_⟩
      rw [dic_isSome v nd, take_snoc hv]
      refine ite2 (fun c => ?_) (fun c => ?_)
      · obtain ⟨⟨v', e⟩, m1, m2⟩ := List.mem_map.mp (of_decide_eq_true c)
        have m2 : v' = v := m2
        subst m2
        refine ⟨_, rfl, _, rfl, d, _, rfl, (by rw [← dic_some nd m1]; exact DGet.k (k := Sum.inl ((v' : Nat) : Int)) hd1), _, rfl, (by show 2 ≤ sizeLine; decide), fun t ht => ?_⟩
        have hDt : D ≠ t := ne_of_none W.lst ht
        have wl := W.len
        rw [List.length_take] at wl
        refine ⟨_, by rw [upd_ne hDt]; exact W.lst, (by rw [List.length_map]; exact small1000 (by omega)), L ++ [(t, e, v')], Same.new (s1.trans (same_new ht)) hD, ?_, fun x hx => ?_, fun d' g' => ?_, ?_⟩
        · rw [upd_same, List.map_append]; rfl
        · rcases List.mem_append.mp hx with hx | hx
          · have q := W.at_ x hx
            rw [upd_ne (ne_of q W.lst (by intro z; cases z)), upd_ne (ne_of_none q ht)]
            exact q
          · rw [List.mem_singleton] at hx
            subst hx
            rw [upd_ne hDt.symm, upd_same]
        · rw [List.mem_append, List.mem_singleton]
          constructor
          · rintro ⟨t', h⟩
            rcases List.mem_append.mp h with h | h
            · obtain ⟨a1, a2⟩ := (W.mem d' g').mp ⟨t', h⟩
              exact ⟨.inl a1, a2⟩
            · rw [List.mem_singleton] at h
              injection h with _ h
              injection h with h1 h2
              subst h1 h2
              exact ⟨.inr rfl, m1⟩
          · rintro ⟨a1 | a1, a2⟩
            · obtain ⟨t', h⟩ := (W.mem d' g').mpr ⟨a1, a2⟩
              exact ⟨t', List.mem_append_left _ h⟩
            · subst a1
              have e1 := dic_some nd a2
              rw [dic_some nd m1] at e1
              have e2 := Option.some.inj e1
              injection e2 with e2
              have e3 : e = d' := by omega
              subst e3
              exact ⟨t, List.mem_append_right _ (List.mem_singleton.mpr rfl)⟩
        · rw [List.length_append, List.length_append]
          have := W.len
          show _ + 1 ≤ _ + 1
          omega
      · have cn : v ∉ keys st := fun z => c (decide_eq_true z)
        refine ⟨L, s1, W.lst, W.at_, fun d' g' => ?_, by rw [List.length_append]; have := W.len; omega⟩
        rw [W.mem, List.mem_append, List.mem_singleton]
        constructor
        · rintro ⟨a1, a2⟩; exact ⟨.inl a1, a2⟩
        · rintro ⟨a1 | a1, a2⟩
          · exact ⟨a1, a2⟩
          · subst a1
            exact absurd (List.mem_map.mpr ⟨_, a2, rfl⟩) cn
    · rintro H1 ⟨L, s1, W⟩
      rw [List.length_map, List.take_length] at W
      refine ⟨D, L.map fun x => V.ref x.1, pairOf H1, rfl, SqL.of W.lst, fun x hx => ?_, fun ys p hs hst hp => ?_⟩
      · obtain ⟨t, ht, rfl⟩ := List.mem_map.mp hx
        refine ⟨t.1, rfl, ?_⟩
        rw [pairOf_at (W.at_ t ht)]
        exact W.at_ t ht
      have s2 := same_new (o := HO.lst ys) hp
      refine ⟨_, rfl, p, _, rfl, .inl (SqL.of upd_same), rfl, _, rfl, ?_⟩
      cases ys with
      | nil =>
        have e : L = [] := by
          have := hst.perm.length_eq
          rw [List.length_map] at this
          exact List.length_eq_zero_iff.mp this.symm
        refine k _ none (s1.trans s2) fun v hv hk => ?_
        obtain ⟨⟨v', e'⟩, m1, m2⟩ := List.mem_map.mp hk
        have m2 : v' = v := m2
        subst m2
        obtain ⟨t, ht⟩ := (W.mem e' v').mpr ⟨hv, m1⟩
        rw [e] at ht
        simp at ht
      | cons y ys =>
        obtain ⟨⟨t, dd, g⟩, ht, ey⟩ := List.mem_map.mp (hst.perm.mem_iff.mp (List.mem_cons_self (a := y) (l := ys)))
        have ey : V.ref t = y := ey
        subst ey
        have hT : H1 t = some (.tup [vi dd, vi g]) := W.at_ _ ht
        have eF : decide (V.int (((V.ref t :: ys).length : Nat) : Int) = V.int 0) = false := decide_eq_false fun z => by
          injection z with z
          rw [List.length_cons] at z
          omega
        rw [eF]
        refine ⟨_, rfl, p, _, _, _, rfl, rfl, SqL.of upd_same, atI_nat (j := 0) (v := V.ref t) rfl, t, _, _, _, rfl, rfl, SqT.of (s2 _ _ hT), atI_nat (j := 1) (v := vi g) rfl, ?_⟩
        obtain ⟨g1, g2⟩ := (W.mem dd g).mp ⟨t, ht⟩
        refine k _ (some (dd, g)) (s1.trans s2) ⟨g1, g2, fun e h hh he => ?_⟩
        obtain ⟨t', ht'⟩ := (W.mem e h).mpr ⟨hh, he⟩
        have hin : V.ref t' ∈ V.ref t :: ys := hst.perm.mem_iff.mpr (List.mem_map.mpr ⟨_, ht', rfl⟩)
        rcases List.mem_cons.mp hin with z | z
        · injection z with z
          subst z
          have a : H1 t' = some (.tup [vi e, vi h]) := W.at_ _ ht'
          rw [hT] at a
          injection a with a
          injection a with a
          injection a with a1 a2
          injection a1 with a1
          injection a2 with a2
          injection a2 with a2
          unfold better
          omega
        · have q := SrtO.srtd_head hs _ z
          have q := SrtO.lexB_no.mp q
          have a : H1 t' = some (.tup [vi e, vi h]) := W.at_ _ ht'
          rw [pairOf_at a, pairOf_at hT] at q
          simp only at q
          unfold better
          omega
end
end Sw
set_option Elab.async false
set_option maxRecDepth 100000
set_option maxHeartbeats 4000000
namespace Sw
open PySem PySem.Spec PyProof.Rows L2
theorem cut_last (l : List Nat) : cutV (l.map vi) none (some (-1)) = l.dropLast.map vi := by
  unfold cutV
  have e : HT.sIx (l.map vi).length (l.map vi).length (some (-1)) = l.length - 1 := by
    unfold HT.sIx
    rw [List.length_map]
    simp only
    rw [if_pos (by decide)]
    omega
  rw [e]
  show ((l.map vi).drop 0).take (l.length - 1 - 0) = _
  rw [List.drop_zero, Nat.sub_zero, ← List.map_take, List.dropLast_eq_take]
def spTill (K : PySem.W.Frag) : Sp := fun vs H Q _ => ∃ (a o : Addr) (bs : List Addr) (adj : List (List Nat)) (os : List Nat) (home : Nat) (t : Ks536.Net), vs = [.ref a, vi home, .ref o] ∧ AdjAt H a bs adj ∧ adj.length = t.n ∧ t.n ≤ 100 ∧
  (∀ u, u < t.n → ∀ v, v ∈ adj.getD u [] ↔ nearL t.links u v) ∧ (∀ u, (adj.getD u []).length ≤ 500) ∧ SqL K H o (os.map vi) ∧ os.length ≤ 100 ∧ home < t.n ∧ (∀ x ∈ os, x < t.n) ∧
  (Ks538.known t home os = none → ∀ H', Same H H' → Q .non H') ∧ ∀ r, Ks538.known t home os = some r → ∀ H' p, Same H H' → H p = none → H' p = some (.lst (r.map vi)) → Q (.ref p) H'
section
variable {P : Program} {w : World} {K : PySem.W.Frag} {mg : Str → Option Value} {base : Heap}
theorem scTill : FnScope ["beside_each", "home", "order", "safe", "here", "behind", "answer", "place", "steps", "spot"] ["beside_each", "home", "order"] (defScope sTill) := ⟨rfl, rfl, rfl, by decide +kernel, rfl, by decide +kernel, by decide +kernel⟩
theorem ok_till {f fS fP : Addr} {fd fdS fdP : FuncData} {t3 : Tok} (F : Fun K "steps_till_known" "steps_till_known" sTill f fd) (T : Txt mg) (c3 : mg "IN_AND_BACK" = some (.int 2 t3))
    (cS : Callee K mg "steps_to_each" fS fdS ["beside_each", "start", "allowed"]) (GS : FnOk P w K mg base CX0 1 fS fdS ["beside_each", "start", "allowed"] (spSteps K))
    (cP : Callee K mg "place_to_look_from" fP fdP ["beside_it", "steps"]) (GP : FnOk P w K mg base CX0 1 fP fdP ["beside_it", "steps"] (spPick K)) :
    FnOk P w K mg base CX0 2 f fd ["beside_each", "home", "order"] (spTill K) := by
  refine F.ok scTill (fun vs H Q E h => ?_) (fun cdv A outer sh H vs Q E0 hr h => ?_)
  · obtain ⟨a, o, bs, adj, os, home, t, rfl, _⟩ := h
    rfl
  · obtain ⟨a, o, bs, adj, os, home, t, rfl, hAdj, hn, hn100, hE, hsz, hO, hol, hh, hos, kn, ks⟩ := h
    have hu := hu_of hr
    refine ⟨_, pss_cons (ps_set (i := 3) scTill.nd rfl (Or.inl rfl) (pe_lst (pa_cons (pv 1) pa_nil)))
      (pss_cons (ps_set (i := 4) scTill.nd rfl (Or.inl rfl) (pv 1))
      (pss_cons (ps_set (i := 5) scTill.nd rfl (Or.inl rfl) pe_int)
      (pss_cons (ps_set (i := 6) scTill.nd rfl (Or.inl rfl) (pe_lst pa_nil))
      (pss_cons (ps_for PassesOwn.never rfl (pi_list (pe_slice sl_list (pv 2) po_none (po_some (pe_un un_neg pe_int)))) (pg_name (i := 7) scTill.nd rfl (Or.inl rfl))
        (pss_cons (ps_set (i := 8) scTill.nd rfl (Or.inl rfl) (pe_call GS hr rfl cS.mg cS.kp cS.b .nil pass0 (pa_cons (pv 0) (pa_cons (pv 4) (pa_cons (pv 3) pa_nil)))))
        (pss_cons (ps_set (i := 9) scTill.nd rfl (Or.inl rfl) (pe_call GP hr rfl cP.mg cP.kp cP.b .nil pass0 (pa_cons (pe_ix ix_list (pv 0) (pv 7) (fun _ _ => rfl)) (pa_cons (pv 8) pa_nil))))
        (pss_cons (ps_if (pt_cmp (pc_isN (pv 9))) (pss_one (ps_ret pe_non)) pss_nil)
        (pss_cons (ps_set (i := 5) scTill.nd rfl (Or.inl rfl) (pe_op op_add (pe_op op_add (pv 5) (pe_dget hu (pv 8) (pv 9) (fun _ _ => rfl))) (pe_glob (v := .int 2) rfl c3 ⟨_, rfl⟩)))
        (pss_cons (ps_expr (pe_bm PySem.F.plainAttrs_list PySem.F.slot_list_append PySem.F.type_list_append mt_append (pv 6) (pa_cons (pv 5) pa_nil)))
        (pss_cons (ps_expr (pe_bm PySem.F.plainAttrs_list PySem.F.slot_list_append PySem.F.type_list_append mt_append (pv 3) (pa_cons (pv 7) pa_nil)))
        (pss_one (ps_set (i := 4) scTill.nd rfl (Or.inl rfl) (pv 9))))))))))
      (pss_cons (ps_if (pt_cmpR op_gt (pe_callB call_len_seq (by rfl) T.len PySem.boot_len (pa_cons (pv 2) pa_nil)) pe_int (nomark _))
        (pss_one (ps_expr (pe_bm PySem.F.plainAttrs_list PySem.F.slot_list_append PySem.F.type_list_append mt_append (pv 6) (pa_cons (pv 5) pa_nil)))) pss_nil)
      (pss_one (ps_ret (pv 6)))))))), ?_⟩
    -- safe = [home]; here = home; behind = 0; answer = []
    refine ⟨_, rfl, (by show 1 ≤ sizeLine; decide), fun sA hsA => ?_⟩
    refine ⟨_, rfl, Nat.zero_le _, fun nA hnA => ?_⟩
    have s1 : Same H (upd H sA (.lst [vi home])) := same_new hsA
    have hnH : H nA = none := s1.free hnA
    have hsn : sA ≠ nA := ne_of_none upd_same hnA
    have s2 : Same H (upd (upd H sA (.lst [vi home])) nA (.lst [])) := s1.trans (same_new hnA)
    refine ⟨_, rfl, _, rfl, _, rfl, o, _, rfl, s2.seq hO, fun cA hcA => ?_⟩
    have hcH : H cA = none := s2.free hcA
    have s3 : Same H (upd (upd (upd H sA (.lst [vi home])) nA (.lst [])) cA (.lst (cutV (os.map vi) none (some (-1))))) := s2.trans (same_new hcA)
    have hsc : sA ≠ cA := ne_of_none (by rw [upd_ne hsn]; exact upd_same) hcA
    have hnc : nA ≠ cA := ne_of_none upd_same hcA
    rw [show (some (-(1 : Int))) = some (-1) from rfl, cut_last] at s3 ⊢
    refine ⟨cA, rfl, ⟨_, SqL.of upd_same⟩, for_list (K := K) (a := cA) (xs := os.dropLast.map vi) (fun i σ H' => ∃ (safe sf ans : List Nat) (here behind : Nat) (v7 v8 v9 : Option V),
        σ = [some (.ref a), some (vi home), some (.ref o), some (.ref sA), some (vi here), some (vi behind), some (.ref nA), v7, v8, v9] ∧ Same H H' ∧ H' sA = some (.lst (safe.map vi)) ∧ H' nA = some (.lst (ans.map vi)) ∧
        H' cA = some (.lst (os.dropLast.map vi)) ∧ Told t home os i sf here behind ans ∧ (∀ v, v ∈ safe ↔ v ∈ sf) ∧ here ∈ safe ∧ (∀ v, v ∈ safe → v < t.n) ∧ ans.length ≤ i ∧ safe.length ≤ i + 1)
      ⟨[home], [home], [], home, 0, none, none, none, rfl, s3, by rw [upd_ne hsc, upd_ne hsn]; exact upd_same, by rw [upd_ne hnc]; exact upd_same, upd_same, Told.start t home os, fun _ => Iff.rfl, by simp, fun v hv => by rw [List.mem_singleton] at hv; rw [hv]; exact hh, Nat.le_refl _, Nat.le_refl _⟩
      (fun i σ H' _ ⟨_, _, _, _, _, _, _, _, _, _, _, _, q, _⟩ => SqL.of q) ?_ ?_⟩
    · rintro i y σ H1 hi ⟨safe, sf, ans, here, behind, v7, v8, v9, rfl, s4, hs1, hn1, hc1, Tl, hsf, hhe, hlt, la, lsf⟩
      obtain ⟨x, hx, rfl⟩ := get_map hi
      have hil : i < os.length := by
        have := (List.getElem?_eq_some_iff.mp hx).1
        rw [List.length_dropLast] at this
        omega
      have hxo : x ∈ os := (List.dropLast_sublist os).subset (List.mem_of_getElem? hx)
      have hxn := hos x hxo
      have A1 := hAdj.same s4
      refine ⟨_, rfl, _, rfl, _, rfl, a, sA, bs, adj, safe, here, t.n, nearL t.links, rfl, A1, hn, hn100, hE, SqL.of hs1, hlt, hhe, fun H2 d st s5 hdn hd D => ?_⟩
      have A2 := A1.same s5
      obtain ⟨b, hb⟩ : ∃ b, bs[x]? = some b := ⟨_, List.getElem?_eq_getElem (by rw [hAdj.len, hn]; exact hxn)⟩
      refine ⟨_, rfl, _, rfl, a, _, _, _, rfl, rfl, SqL.of A2.lst, at_of (j := x) (v := V.ref b) rfl (by rw [List.getElem?_map, hb]; rfl), _, rfl, b, d, adj.getD x [], st, rfl, SqL.of (A2.at_ _ _ hb), hsz x, hd, D.nd, fun H3 r s6 Pk => ?_⟩
      have hg : Ks538.gate t sf here x = r := pick_gate t sf here x ((hsf here).mp hhe) (D.congr hsf) (hE x hxn) Pk
      have s7 : Same H H3 := (s4.trans s5).trans s6
      cases r with
      | none => exact ⟨_, rfl, _, rfl, kn (Tl.stop hx hg) H3 s7⟩
      | some p =>
        obtain ⟨dd, g⟩ := p
        have T2 := Tl.next hx hg
        refine ⟨_, rfl, _, rfl, ?_⟩
        have hd3 := s6 _ _ hd
        have hs3 := s6 _ _ (s5 _ _ hs1)
        have hn3 := s6 _ _ (s5 _ _ hn1)
        have hc3 := s6 _ _ (s5 _ _ hc1)
        have gst : (g, dd) ∈ st := Pk.2.1
        refine ⟨_, rfl, _, rfl, _, rfl, d, _, rfl, (by rw [← dic_some D.nd gst]; exact DGet.k (k := Sum.inl ((g : Nat) : Int)) hd3), _, _, rfl, rfl, _, _, rfl, rfl, ?_⟩
        refine ⟨_, rfl, .inl ⟨rfl, _, SqL.of hn3⟩, _, rfl, nA, _, _, rfl, rfl, hn3, (by rw [List.length_map]; exact small1000 (by omega)), ?_⟩
        have hs4 : upd H3 nA (.lst (ans.map vi ++ [vi (behind + dd + 2)])) sA = some (.lst (safe.map vi)) := by rw [upd_ne hsn]; exact hs3
        refine ⟨_, rfl, .inl ⟨rfl, _, SqL.of hs4⟩, _, rfl, sA, _, _, rfl, rfl, hs4, (by rw [List.length_map]; exact small1000 (by omega)), ?_⟩
        refine ⟨_, rfl, safe ++ [x], x :: sf, ans ++ [behind + dd + 2], g, behind + dd + 2, _, _, _, rfl, Same.new (Same.new s7 hnH) hsA, ?_, ?_, ?_, T2, fun v => ?_, ?_, fun v hv => ?_, ?_, ?_⟩
        · rw [upd_same, List.map_append]; rfl
        · rw [upd_ne hsn.symm, upd_same, List.map_append]; rfl
        · rw [upd_ne hsc.symm, upd_ne hnc.symm]; exact hc3
        · rw [List.mem_append, List.mem_singleton, List.mem_cons, hsf]
          exact Or.comm
        · exact List.mem_append_left _ (R.inA (A := (· ∈ safe)) hhe (D.val _ _ gst).1.1)
        · rcases List.mem_append.mp hv with hv | hv
          · exact hlt v hv
          · rw [List.mem_singleton.mp hv]; exact hxn
        · rw [List.length_append]; show _ + 1 ≤ _; omega
        · rw [List.length_append]; show _ + 1 ≤ _; omega
    · rintro σ H1 ⟨safe, sf, ans, here, behind, v7, v8, v9, rfl, s4, hs1, hn1, hc1, Tl, hsf, hhe, hlt, la, lsf⟩
      rw [List.length_map] at Tl la
      rw [List.length_dropLast] at la
      refine ⟨_, rfl, o, _, rfl, .inl (s4.seq hO), _, _, rfl, rfl, _, rfl, ?_⟩
      refine ite2 (fun c => ?_) (fun c => ?_)
      · have z := of_decide_eq_true c
        rw [List.length_map] at z
        have hne : os ≠ [] := fun e => by rw [e] at z; simp at z
        refine ⟨_, rfl, .inl ⟨rfl, _, SqL.of hn1⟩, _, rfl, nA, _, _, rfl, rfl, hn1, (by rw [List.length_map]; exact small1000 (by omega)), ?_⟩
        refine ⟨_, rfl, ks _ (Tl.last hne) _ _ (Same.new s4 hnH) hnH ?_⟩
        rw [upd_same, List.map_append]; rfl
      · have z : ¬ (0 : Int) < (((os.map vi).length : Nat) : Int) := fun q => c (decide_eq_true q)
        rw [List.length_map] at z
        have he : os = [] := List.length_eq_zero_iff.mp (by omega)
        exact ⟨_, rfl, ks _ (Tl.none he) _ _ s4 hnH hn1⟩
end
end Sw
set_option Elab.async false
set_option maxRecDepth 100000
set_option maxHeartbeats 4000000
namespace Sw
open PySem PySem.Spec PyProof.Rows L2
def spRef (K : PySem.W.Frag) : Sp := fun vs H Q _ => ∃ (a : Addr) (l : List Nat) (n home : Nat), vs = [vi n, vi home, .ref a] ∧ SqL K H a (l.map vi) ∧ l.length ≤ 24 ∧
  (Ks536.netOf n l = none → ∀ H', Same H H' → Q (.int (-22)) H') ∧ (∀ t, IsNet n l t → n ≤ home → ∀ H', Same H H' → Q (.int (-2)) H') ∧ ∀ t, IsNet n l t → home < n → ∀ H', Same H H' → Q .non H'
section
variable {P : Program} {w : World} {K : PySem.W.Frag} {mg : Str → Option Value} {base : Heap}
theorem scRef : FnScope ["n", "home", "net"] ["n", "home", "net"] (defScope sRef) := ⟨rfl, rfl, rfl, by decide +kernel, rfl, by decide +kernel, by decide +kernel⟩
theorem ok_ref {f fN : Addr} {fd fdN : FuncData} {t1 t2 : Tok} (F : Fun K "refusal_of" "refusal_of" sRef f fd)
    (c1 : mg "NOT_AS_TOLD" = some (.int (-22) t1)) (c2 : mg "NO_SUCH_HOME" = some (.int (-2) t2))
    (cN : Callee K mg "is_net" fN fdN ["n", "net"]) (GN : FnOk P w K mg base CX0 3 fN fdN ["n", "net"] (spNet K)) : FnOk P w K mg base CX0 4 f fd ["n", "home", "net"] (spRef K) := by
  refine F.ok scRef (fun vs H Q E h => ?_) (fun cdv A outer sh H vs Q E0 hr h => ?_)
  · obtain ⟨a, l, n, home, rfl, _⟩ := h
    rfl
  · obtain ⟨a, l, n, home, rfl, hS, hl, k1, k2, k3⟩ := h
    refine ⟨_, pss_cons (ps_if (pt_not (pt_val (pe_call GN hr rfl cN.mg cN.kp cN.b .nil pass0 (pa_cons (pv 0) (pa_cons (pv 2) pa_nil))))) (pss_one (ps_ret (pe_glob (v := .int (-22)) rfl c1 ⟨_, rfl⟩))) pss_nil)
      (pss_cons (ps_if (pt_cmpR op_ge (pv 1) (pv 0) (nomark _)) (pss_one (ps_ret (pe_glob (v := .int (-2)) rfl c2 ⟨_, rfl⟩))) pss_nil)
      (pss_one (ps_ret pe_non))), ?_⟩
    refine ⟨_, rfl, _, rfl, a, l, n, rfl, hS, hl, fun hbad H1 s1 => ⟨_, rfl, k1 hbad _ s1⟩, fun t N H1 s1 => ?_⟩
    refine ⟨_, rfl, _, rfl, _, rfl, _, _, rfl, rfl, _, rfl, ?_⟩
    refine ite2 (fun c => ?_) (fun c => ?_)
    · have c' := of_decide_eq_true c
      exact k2 t N (by omega) _ s1
    · have c' : ¬ ((home : Nat) : Int) ≥ ((n : Nat) : Int) := fun z => c (decide_eq_true z)
      exact k3 t N (by omega) _ s1
end
end Sw
set_option Elab.async false
set_option maxRecDepth 100000
set_option maxHeartbeats 4000000
namespace Sw
open PySem PySem.Spec PyProof.Rows L2
/-! ### own rules: min(l) of a list of lists of whole numbers; max(l, default=k) of a list of whole numbers -/
theorem paired_at : ∀ {xs : List V} {us : List Value} {i : Nat} {u : Value}, Vals xs us → us[i]? = some u → ∃ x, xs[i]? = some x ∧ RelV x u
  | _, _, _, _, .nil, h => by simp at h
  | _, _, 0, u, .cons r _, h => by
    have e := Option.some.inj (show some _ = some u from h)
    subst e
    exact ⟨_, rfl, r⟩
  | _, _, i + 1, u, .cons _ t, h => by
    obtain ⟨x, h1, h2⟩ := paired_at (i := i) t (by simpa using h)
    exact ⟨x, by simpa using h1, h2⟩
section
variable {X : Cx}
/-- min(l), l a list of alike data: the item at some place at which the least stands -/
def rMinD (K : PySem.W.Frag) : List V → Hp → VK → Prop := fun vs H Q => ∃ (p : Addr) (xs : List V) (d : PyData) (ds : List PyData), vs = [.ref p] ∧ SqL K H p xs ∧ DpAll K H xs (d :: ds) ∧ PySem.W.AlikeAll (d :: ds) ∧ PyData.depthAll (d :: ds) ≤ 60 ∧
  ∀ i x, xs[i]? = some x → (d :: ds).getD i .none = PySem.W.minD d ds → Q x H
theorem cr_minD (hc : X.calm = true) (hu : X.A.units + 65 < cLine) : CallR X (.builtin "min") (rMinD X.K) := by
  intro pins s σ H vs us Q I r h
  obtain ⟨p, xs, d, ds, rfl, hs, hd, ha, hdp, q⟩ := h
  obtain ⟨its, rv, hl, _⟩ := I.list hs
  rw [Vals.ref1 r]
  obtain ⟨as, hr⟩ := Dp.readsAll I _ _ _ hd rv
  have hr : ReadsAll s.heap its.toArray.toList (d :: ds) as := hr
  have hn : its.toArray.size = ds.length + 1 := PySem.W.readsAll_len hr
  refine call_min_walkH (PySem.W.iter_listW (A := X.A.in1) (I.ok.hd hc) hl.isList fun s₂ e W st hfp hw hk => ?_)
  refine ⟨_, _, _, _, _, _, _, s.heap, _, rfl, W, st, hfp, by omega, hw, hk, PySem.W.cmpIn_lt (A := X.A.in1) hr ha (by show X.A.units + 1 + _ < _; omega), fun v s' hP m => ?_⟩
  obtain ⟨h', tk, rfl, hk'⟩ := PySem.W.moved_old e rfl m
  have e1 : its.toArray.size - 1 = ds.length := by omega
  have e2 := (PySem.W.argBest_fold PySem.W.dataLt PyData.none d ds ds.length (Nat.le_refl _)).2
  rw [List.take_length] at e2
  rw [e1] at hP
  have hP : its.toArray[argBest (fun i j => PySem.W.dataLt ((d :: ds).getD i .none) ((d :: ds).getD j .none)) ds.length]? = some v := hP
  rw [List.getElem?_toArray] at hP
  obtain ⟨x, hx, rx⟩ := paired_at rv hP
  exact ⟨x, H, I.kept hk', rx, q _ x hx e2⟩
/-- max(l, default=0) -/
def rMaxOr (K : PySem.W.Frag) : List V → List V → Hp → VK → Prop := fun vs zs H Q => ∃ (a : Addr) (ns : List Int), vs = [V.ref a] ∧ zs = [.int 0] ∧ SqL K H a (ns.map V.int) ∧ Q (.int (maxOr0 ns)) H
theorem cr_maxOr (hc : X.calm = true) (hu : X.A.units + 65 < cLine) : CallRK X (.builtin "max") [Str.ofString "default"] (rMaxOr X.K) := by
  intro pins s σ H vs zs us ws Q I r rz h
  obtain ⟨a, ns, rfl, rfl, hs, q⟩ := h
  obtain ⟨its, rv, hl, _⟩ := I.list hs
  obtain rfl := Vals.ref1 r
  obtain ⟨w1, rfl, t1, rfl⟩ := vals1 rz
  obtain ⟨as, hr⟩ := Dp.readsAll I _ _ _ (intsD_dp ns) rv
  have hr : ReadsAll s.heap its.toArray.toList (ns.map PyData.int) as := hr
  have hd := intsD_depth ns
  have ha : PySem.W.AlikeAll (ns.map PyData.int) := ⟨fun x hx y hy => by
      obtain ⟨i, _, rfl⟩ := List.mem_map.mp hx
      obtain ⟨j, _, rfl⟩ := List.mem_map.mp hy
      simp only [PySem.W.alike], fun x hx e => by
      obtain ⟨i, _, rfl⟩ := List.mem_map.mp hx
      cases e⟩
  refine PySem.W.max_list_default (I.ok.hd hc) hl.isList hr ha (by omega) (fun e h' tk hk => ?_) (fun y ys i v h' tk bs e hv rd hk => ?_)
  · have e : ns = [] := List.map_eq_nil_iff.mp e
    subst e
    exact ⟨.int 0, H, I.kept hk, ⟨_, rfl⟩, q⟩
  · cases ns with
    | nil => cases e
    | cons n ns =>
      rw [List.map_cons] at e
      injection e with e1 e2
      subst e1 e2
      rw [PySem.W.maxD_ints] at rd
      cases rd
      exact ⟨.int _, H, I.kept hk, ⟨_, rfl⟩, q⟩
end
/-! ### the least of lists of whole numbers -/
abbrev dL (l : List Nat) : PyData := .list ((intsN l).map PyData.int)
theorem dL_lt (a b : List Nat) : PySem.W.dataLt (dL a) (dL b) = true ↔ lexlt a b := by
  rw [PySem.W.dataLt_list]
  have e := PySem.W.lexAll_map (intsN a) (intsN b)
  have e' : PyProof.Rows.lexLt itemOrd (PySem.W.keyToksAll ((intsN a).map PyData.int)) (PySem.W.keyToksAll ((intsN b).map PyData.int)) = PySem.W.listLt (intsN a) (intsN b) := e
  rw [e']
  clear e e'
  induction a generalizing b with
  | nil =>
    cases b with
    | nil => simp [intsN, PySem.W.listLt, lexlt]
    | cons y b => simp [intsN, PySem.W.listLt, lexlt]
  | cons x a ih =>
    cases b with
    | nil => simp [intsN, PySem.W.listLt, lexlt]
    | cons y b =>
      show (if Int.ofNat x = Int.ofNat y then PySem.W.listLt (intsN a) (intsN b) else decide (Int.ofNat x < Int.ofNat y)) = true ↔ (x < y ∨ (x = y ∧ lexlt a b))
      by_cases h : x = y
      · rw [if_pos (by rw [h])]
        exact ⟨fun z => .inr ⟨h, (ih b).mp z⟩, fun z => (ih b).mpr (z.elim (fun z => by omega) fun z => z.2)⟩
      · rw [if_neg (fun z => h (Int.ofNat.inj z)), decide_eq_true_eq]
        exact ⟨fun z => .inl (Int.ofNat_lt.mp z), fun z => z.elim (fun z => Int.ofNat_lt.mpr z) fun z => absurd z.1 h⟩
theorem dL_alike : ∀ (a b : List Int), PySem.W.alikeAll (a.map PyData.int) (b.map PyData.int) = true
  | [], _ => by simp [PySem.W.alikeAll]
  | _ :: _, [] => by simp [PySem.W.alikeAll]
  | x :: a, y :: b => by
    have := dL_alike a b
    simp [PySem.W.alikeAll, PySem.W.alike, this]
theorem dL_alikeAll (ls : List (List Nat)) : PySem.W.AlikeAll (ls.map dL) := ⟨fun x hx y hy => by
    obtain ⟨a, _, rfl⟩ := List.mem_map.mp hx
    obtain ⟨b, _, rfl⟩ := List.mem_map.mp hy
    show PySem.W.alike (.list _) (.list _) = true
    simp only [PySem.W.alike]
    exact dL_alike _ _, fun x hx e => by
    obtain ⟨i, _, rfl⟩ := List.mem_map.mp hx
    cases e⟩
theorem dL_depth : ∀ ls : List (List Nat), PyData.depthAll (ls.map dL) ≤ 2
  | [] => by simp [PyData.depthAll]
  | l :: ls => by
    have h := dL_depth ls
    have h1 := intsD_depth (intsN l)
    have h2 : (dL l).depth = PyData.depthAll ((intsN l).map PyData.int) + 1 := by simp only [PyData.depth]
    simp only [List.map_cons, PyData.depthAll]
    omega
theorem minD_dL : ∀ (ls : List (List Nat)) (l : List Nat), ∃ m, PySem.W.minD (dL l) (ls.map dL) = dL m ∧ m ∈ l :: ls ∧ ∀ y ∈ l :: ls, ¬ lexlt y m
  | [], l => ⟨l, rfl, List.mem_cons_self, fun y hy => by rw [List.mem_singleton.mp hy]; exact lexlt_irrefl l⟩
  | x :: ls, l => by
    have e : PySem.W.minD (dL l) ((x :: ls).map dL) = PySem.W.minD (if PySem.W.dataLt (dL x) (dL l) = true then dL x else dL l) (ls.map dL) := rfl
    by_cases h : lexlt x l
    · rw [e, if_pos ((dL_lt x l).mpr h)]
      obtain ⟨m, h1, h2, h3⟩ := minD_dL ls x
      refine ⟨m, h1, List.mem_cons_of_mem _ h2, fun y hy => ?_⟩
      rcases List.mem_cons.mp hy with rfl | hy
      · intro z
        exact h3 x List.mem_cons_self (lexlt_trans h z)
      · exact h3 y hy
    · rw [e, if_neg (fun z => h ((dL_lt x l).mp z))]
      obtain ⟨m, h1, h2, h3⟩ := minD_dL ls l
      refine ⟨m, h1, ?_, fun y hy => ?_⟩
      · rcases List.mem_cons.mp h2 with rfl | h2
        · exact List.mem_cons_self
        · exact List.mem_cons_of_mem _ (List.mem_cons_of_mem _ h2)
      · rcases List.mem_cons.mp hy with rfl | hy
        · exact h3 y List.mem_cons_self
        · rcases List.mem_cons.mp hy with rfl | hy
          · intro z
            rcases lexlt_total m l with q | q | q
            · exact h (lexlt_trans z q)
            · rw [q] at z; exact h z
            · exact h3 l List.mem_cons_self q
          · exact h3 y (List.mem_cons_of_mem _ hy)
theorem dL_inj {a b : List Nat} (h : dL a = dL b) : a = b := by
  injection h with h
  have q : ∀ x y : List Int, x.map PyData.int = y.map PyData.int → x = y := fun x => by
    induction x with
    | nil => intro y e; cases y with
      | nil => rfl
      | cons => cases e
    | cons u x ih => intro y e; cases y with
      | nil => cases e
      | cons v y =>
        rw [List.map_cons, List.map_cons] at e
        injection e with e1 e2
        injection e1 with e1
        rw [e1, ih y e2]
  have h := congrArg (List.map Int.toNat) (q _ _ h)
  have e : ∀ l : List Nat, (intsN l).map Int.toNat = l := fun l => by
    unfold intsN
    rw [List.map_map]
    exact List.map_id' l
  rw [e, e] at h
  exact h
end Sw
set_option Elab.async false
set_option maxRecDepth 100000
set_option maxHeartbeats 4000000
namespace Sw
open PySem PySem.Spec PyProof.Rows L2
theorem small_line {n : Nat} (h : n ≤ 100000) : n < sizeLine := by rw [sizeLine_eq]; omega
theorem AdjAt.in_ne {H : Hp} {D : Addr} {bs : List Addr} {adj : List (List Nat)} (A : AdjAt H D bs adj) {i : Nat} {b : Addr} (h : bs[i]? = some b) : b ≠ D := by
  rintro rfl
  have q := A.at_ i b h
  rw [A.lst] at q
  injection q with q
  injection q with q
  cases bs with
  | nil => simp at h
  | cons x bs =>
    cases hh : adj.getD i [] with
    | nil => rw [hh] at q; cases q
    | cons y l =>
      rw [hh, List.map_cons, List.map_cons] at q
      injection q with q _
      cases q
/-- one more list at the end -/
theorem AdjAt.snoc {H H1 : Hp} {D p : Addr} {bs : List Addr} {adj : List (List Nat)} {x : List Nat} (A : AdjAt H D bs adj) (s : Same H H1) (hp : H p = none) (h1 : H1 p = some (.lst (x.map vi))) :
    AdjAt (upd H1 D (.lst (bs.map V.ref ++ [V.ref p]))) D (bs ++ [p]) (adj ++ [x]) := by
  have hDp : D ≠ p := ne_of_none A.lst hp
  refine ⟨by rw [upd_same, List.map_append]; rfl, by rw [List.length_append, List.length_append, A.len]; rfl, fun i b hb => ?_⟩
  by_cases e : i < bs.length
  · rw [List.getElem?_append_left e] at hb
    rw [upd_ne (A.in_ne hb), s _ _ (A.at_ i b hb), List.getD_eq_getElem?_getD, List.getD_eq_getElem?_getD, List.getElem?_append_left (by rw [← A.len]; exact e)]
  · have ei : i = bs.length := by
      obtain ⟨z, _⟩ := List.getElem?_eq_some_iff.mp hb
      rw [List.length_append] at z
      have : ([p] : List Addr).length = 1 := rfl
      omega
    subst ei
    rw [List.getElem?_append_right (Nat.le_refl _), Nat.sub_self] at hb
    have e : p = b := Option.some.inj hb
    subst e
    rw [upd_ne hDp.symm, h1, List.getD_eq_getElem?_getD, A.len, List.getElem?_append_right (Nat.le_refl _), Nat.sub_self]
    rfl
def spLonger : Sp := fun vs H Q _ => ∃ (a : Addr) (bs : List Addr) (os : List (List Nat)) (n home : Nat), vs = [vi n, vi home, .ref a] ∧ AdjAt H a bs os ∧ n ≤ 6 ∧ os.length ≤ 7776 ∧ (∀ o ∈ os, o.length ≤ 100) ∧
  ∀ H' p bs', Same H H' → (∀ b ∈ bs', H b = none) → AdjAt H' p bs' (longer n home os) → Q (.ref p) H'
def spOrders : Sp := fun vs H Q _ => ∃ (n home : Nat), vs = [vi n, vi home] ∧ n ≤ 6 ∧ home < n ∧
  ∀ H' p bs, Same H H' → (∀ b ∈ bs, H b = none) → AdjAt H' p bs (ordersM n home (n - 1)) → Q (.ref p) H'
section
variable {P : Program} {w : World} {K : PySem.W.Frag} {mg : Str → Option Value} {base : Heap}
theorem scLonger : FnScope ["n", "home", "orders", "longer", "order", "place"] ["n", "home", "orders"] (defScope sLonger) := ⟨rfl, rfl, rfl, by decide +kernel, rfl, by decide +kernel, by decide +kernel⟩
theorem ok_longer {f : Addr} {fd : FuncData} (F : Fun K "one_place_longer" "one_place_longer" sLonger f fd) (T : Txt mg) : FnOk P w K mg base CX0 1 f fd ["n", "home", "orders"] spLonger := by
  refine F.ok scLonger (fun vs H Q E h => ?_) (fun cdv A outer sh H vs Q E0 hr h => ?_)
  · obtain ⟨a, bs, os, n, home, rfl, _⟩ := h
    rfl
  · obtain ⟨a, bs, os, n, home, rfl, hA, hn, hos, hol, k⟩ := h
    refine ⟨_, pss_cons (ps_set (i := 3) scLonger.nd rfl (Or.inl rfl) (pe_lst pa_nil))
      (pss_cons (ps_for PassesOwn.never rfl (pi_list (pv 2)) (pg_name (i := 4) scLonger.nd rfl (Or.inl rfl))
        (pss_one (ps_for PassesOwn.never rfl (pi_range1 rfl T.range (pa_cons (pv 0) pa_nil)) (pg_name (i := 5) scLonger.nd rfl (Or.inl rfl))
          (pss_one (ps_if (PW.pt (pw_and (pt_cmpR op_ne (pv 5) (pv 1) (nomark _)) (pw_and1 (pt_cmpR op_notIn_seq (pv 5) (pv 4) (by rfl)))))
            (pss_one (ps_expr (pe_bm PySem.F.plainAttrs_list PySem.F.slot_list_append PySem.F.type_list_append mt_append (pv 3) (pa_cons (pe_op op_cat (pv 4) (pe_lst (pa_cons (pv 5) pa_nil))) pa_nil)))) pss_nil)))))
      (pss_one (ps_ret (pv 3)))), ?_⟩
    refine ⟨Nat.zero_le _, fun D hD => ?_⟩
    have s0 : Same H (upd H D (.lst [])) := same_new hD
    refine ⟨_, rfl, a, rfl, ⟨_, SqL.of (hA.same s0).lst⟩, for_list (K := K) (a := a) (xs := bs.map V.ref) (fun i σ H' => ∃ (bs' : List Addr) (v4 v5 : Option V), σ = [some (vi n), some (vi home), some (.ref a), some (.ref D), v4, v5] ∧ Same H H' ∧ (∀ b ∈ bs', H b = none) ∧ AdjAt H' D bs' (longer n home (os.take i)))
      ⟨[], none, none, rfl, s0, by simp, upd_same, rfl, fun i b h => by simp at h⟩ (fun i σ H' _ ⟨_, _, _, _, s1, _⟩ => SqL.of (hA.same s1).lst) ?_ ?_⟩
    · rintro i y σ H1 hi ⟨bs', v4, v5, rfl, s1, fr, B⟩
      obtain ⟨b, hb, rfl⟩ := get_map hi
      obtain ⟨hib, _⟩ := List.getElem?_eq_some_iff.mp hb
      have ho : os[i]? = some (os.getD i []) := by
        rw [List.getD_eq_getElem?_getD, List.getElem?_eq_getElem (by rw [← hA.len]; exact hib)]; rfl
      have hom : os.getD i [] ∈ os := List.mem_of_getElem? ho
      have hbo := hA.at_ i b hb
      generalize os.getD i [] = o at ho hom hbo
      have sz := longer_size n home (os.take i)
      rw [List.length_take] at sz
      refine ⟨_, rfl, ((n : Nat) : Int), rfl, by omega, by omega, for_range (lo := 0) (n := ((n : Nat) : Int).toNat) (fun j σ H' => ∃ (bs' : List Addr) (v5 : Option V), σ = [some (vi n), some (vi home), some (.ref a), some (.ref D), some (.ref b), v5] ∧ Same H H' ∧ (∀ b ∈ bs', H b = none) ∧
          AdjAt H' D bs' (longer n home (os.take i) ++ ((List.range j).filter fun x => x != home && !decide (x ∈ o)).map fun x => o ++ [x]))
        ⟨bs', v5, rfl, s1, fr, by simpa using B⟩ ?_ ?_⟩
      · rintro j σ H2 hj ⟨bs', v5, rfl, s2, fr, B⟩
        have es : ((List.range (j + 1)).filter fun x => x != home && !decide (x ∈ o)) = ((List.range j).filter fun x => x != home && !decide (x ∈ o)) ++ (if j = home ∨ j ∈ o then [] else [j]) := by
          rw [List.range_succ, List.filter_append]
          congr 1
          by_cases z : j = home
          · simp [z]
          · by_cases z2 : j ∈ o
            · simp [z2]
            · simp [z, z2]
        have eb : (!decide (V.int (0 + ((j : Nat) : Int)) = vi home)) = true ↔ ¬ j = home := by
          rw [Bool.not_eq_true', decide_eq_false_iff_not, V.int.injEq]
          omega
        refine ⟨_, rfl, _, rfl, rfl, _, rfl, ?_⟩
        refine ite2 (fun c => ?_) (fun c => ?_)
        · have c1 := eb.mp c
          refine ⟨_, rfl, _, rfl, b, _, rfl, .inl (SqL.of (s2 _ _ hbo)), rfl, flat_vi _, _, rfl, ?_⟩
          rw [show V.int (0 + ((j : Nat) : Int)) = vi j by rw [Int.zero_add], show (if true = true then !inV (vi j) (o.map vi) else inV (vi j) (o.map vi)) = !inV (vi j) (o.map vi) from rfl, inV_vi]
          refine ite2 (fun c => ?_) (fun c => ?_)
          · have c2 : j ∉ o := by
              rw [Bool.not_eq_true', decide_eq_false_iff_not] at c
              exact c
            refine ⟨_, rfl, .inl ⟨rfl, _, SqL.of B.lst⟩, _, rfl, _, rfl, (by show 1 ≤ sizeLine; decide), fun q hq => ?_⟩
            have hbq : b ≠ q := ne_of_none (s2 _ _ hbo) hq
            refine ⟨b, q, _, _, rfl, rfl, by rw [upd_ne hbq]; exact s2 _ _ hbo, upd_same, Nat.le_of_lt (small_line (by rw [List.length_map]; have := hol o hom; show _ + 1 ≤ _; omega)), fun p hp => ?_⟩
            have s3 : Same H2 (upd H2 q (.lst [vi j])) := same_new hq
            have s4 := s3.trans (same_new (o := HO.lst (o.map vi ++ [vi j])) hp)
            have hp2 : H2 p = none := s3.free hp
            have bl : bs'.length ≤ 100000 := by
              rw [B.len, List.length_append, List.length_map]
              have := List.length_filter_le (fun x => x != home && !decide (x ∈ o)) (List.range j)
              rw [List.length_range] at this
              have : min i os.length * n ≤ 7776 * 6 := Nat.mul_le_mul (by omega) hn
              omega
            refine ⟨D, _, _, rfl, rfl, s4 _ _ B.lst, (by rw [List.length_map]; exact small_line bl), ?_⟩
            refine ⟨bs' ++ [p], some (vi j), rfl, Same.new (s2.trans s4) hD, fun b hb => (List.mem_append.mp hb).elim (fr b) (fun z => by rw [List.mem_singleton.mp z]; exact s2.free hp2), ?_⟩
            rw [es, if_neg (by rintro (z | z); exact c1 z; exact c2 z), List.map_append, ← List.append_assoc]
            exact B.snoc s4 hp2 (by rw [upd_same, List.map_append]; rfl)
          · have c2 : j ∈ o := Classical.byContradiction fun z => c (by rw [decide_eq_false z]; rfl)
            exact ⟨bs', some (vi j), rfl, s2, fr, by rw [es, if_pos (.inr c2), List.append_nil]; exact B⟩
        · have c1 : j = home := Classical.byContradiction fun z => c (eb.mpr z)
          exact ⟨bs', some _, rfl, s2, fr, by rw [es, if_pos (.inl c1), List.append_nil]; exact B⟩
      · rintro σ H2 ⟨bs', v5, rfl, s2, fr, B⟩
        refine ⟨bs', _, _, rfl, s2, fr, ?_⟩
        rw [show ((n : Nat) : Int).toNat = n by omega] at B
        have e : longer n home (os.take (i + 1)) = longer n home (os.take i) ++ moreOf n home o := by
          unfold longer
          rw [take_snoc ho, List.flatMap_append]
          simp
        rw [e]
        exact B
    · rintro σ H1 ⟨bs', v4, v5, rfl, s1, fr, B⟩
      rw [List.length_map, hA.len, List.take_length] at B
      exact ⟨_, rfl, k _ _ _ s1 fr B⟩
theorem scOrders : FnScope ["n", "home", "orders"] ["n", "home"] (defScope sOrders) := ⟨rfl, rfl, rfl, by decide +kernel, rfl, by decide +kernel, by decide +kernel⟩
theorem ok_orders {f fL : Addr} {fd fdL : FuncData} (F : Fun K "all_orders" "all_orders" sOrders f fd) (T : Txt mg)
    (cL : Callee K mg "one_place_longer" fL fdL ["n", "home", "orders"]) (GL : FnOk P w K mg base CX0 1 fL fdL ["n", "home", "orders"] spLonger) : FnOk P w K mg base CX0 2 f fd ["n", "home"] spOrders := by
  refine F.ok scOrders (fun vs H Q E h => ?_) (fun cdv A outer sh H vs Q E0 hr h => ?_)
  · obtain ⟨n, home, rfl, _⟩ := h
    rfl
  · obtain ⟨n, home, rfl, hn, hh, k⟩ := h
    refine ⟨_, pss_cons (ps_set (i := 2) scOrders.nd rfl (Or.inl rfl) (pe_lst (pa_cons (pe_lst pa_nil) pa_nil)))
      (pss_cons (ps_while PassesOwn.never (pt_cmpR op_lt (pe_callB call_len_seq (by rfl) T.len PySem.boot_len (pa_cons (pe_ix ix_list (pv 2) pe_int (fun _ _ => rfl)) pa_nil)) (pe_op op_sub (pv 0) pe_int) (nomark _))
        (pss_one (ps_set (i := 2) scOrders.nd rfl (Or.inl rfl) (pe_call GL hr rfl cL.mg cL.kp cL.b .nil pass0 (pa_cons (pv 0) (pa_cons (pv 1) (pa_cons (pv 2) pa_nil)))))))
      (pss_one (ps_ret (pv 2)))), ?_⟩
    refine ⟨Nat.zero_le _, fun e he => ?_⟩
    have s0 : Same H (upd H e (.lst [])) := same_new he
    refine ⟨(by show 1 ≤ sizeLine; decide), fun p hp => ?_⟩
    have hep : e ≠ p := ne_of_none upd_same hp
    have s1 := s0.trans (same_new (o := HO.lst [V.ref e]) hp)
    refine ⟨fun m σ H' => ∃ (kk : Nat) (a : Addr) (bs : List Addr), σ = [some (vi n), some (vi home), some (.ref a)] ∧ Same H H' ∧ (∀ b ∈ bs, H b = none) ∧ AdjAt H' a bs (ordersM n home kk) ∧ kk ≤ n - 1 ∧ m = n - 1 - kk,
      ⟨_, 0, p, [e], rfl, s1, fun b hb => by rw [List.mem_singleton.mp hb]; exact he, ⟨upd_same, rfl, fun i b h => ?_⟩, Nat.zero_le _, rfl⟩, ?_⟩
    · cases i with
      | zero =>
        have z : e = b := Option.some.inj h
        subst z
        rw [upd_ne hep, upd_same]; rfl
      | succ i => simp at h
    rintro m σ H1 ⟨kk, a, bs, rfl, s2, fr, B, hk, rfl⟩
    obtain ⟨b, hb⟩ : ∃ b, bs[0]? = some b := by
      have := ordersM_ne n home hh hk
      have := List.length_pos_iff.mpr this
      exact ⟨_, List.getElem?_eq_getElem (by rw [B.len]; exact this)⟩
    have hb1 := B.at_ 0 b hb
    have hlen : ((ordersM n home kk).getD 0 []).length = kk := by
      have := ordersM_ne n home hh hk
      have hp := List.length_pos_iff.mpr this
      have m : (ordersM n home kk).getD 0 [] ∈ ordersM n home kk := by
        rw [List.getD_eq_getElem?_getD, List.getElem?_eq_getElem hp]
        exact List.getElem_mem hp
      exact ((ordersM_mem n home kk _).mp m).1
    refine ⟨_, rfl, a, _, _, _, rfl, rfl, SqL.of B.lst, atI_nat (j := 0) (v := V.ref b) (by rw [List.getElem?_map, hb]; rfl), b, _, rfl, .inl (SqL.of hb1), _, rfl, _, _, rfl, rfl, _, _, rfl, rfl, _, rfl, ?_⟩
    rw [List.length_map, hlen]
    refine ite2 (fun c => ?_) (fun c => ?_)
    · have c' := of_decide_eq_true c
      refine ⟨_, fun σ' H' h => h, ?_⟩
      refine ⟨_, rfl, _, rfl, _, rfl, a, bs, ordersM n home kk, n, home, rfl, B, hn, ordersM_small n home hn hk, fun o ho => ?_, fun H2 q bs' s3 fr' B' => ?_⟩
      · have := ((ordersM_mem n home kk o).mp ho).1
        omega
      · exact ⟨n - 1 - (kk + 1), by omega, kk + 1, q, bs', rfl, s2.trans s3, fun b hb => s2.free (fr' b hb), B', by omega, rfl⟩
    · have c' : ¬ ((kk : Nat) : Int) < ((n : Nat) : Int) - 1 := fun z => c (decide_eq_true z)
      have e : kk = n - 1 := by omega
      subst e
      exact ⟨_, rfl, k _ _ _ s2 fr B⟩
end
end Sw
set_option Elab.async false
set_option maxRecDepth 100000
set_option maxHeartbeats 4000000
namespace Sw
open PySem PySem.Spec PyProof.Rows L2
/-- ways at p: of each the order and behind how many steps -/
structure WaysAt (H : Hp) (p : Addr) (ts : List Addr) (ws : List (List Nat × List Nat)) : Prop where
  lst : H p = some (.lst (ts.map V.ref))
  len : ts.length = ws.length
  at_ : ∀ (i : Nat) (t : Addr), ts[i]? = some t → ∃ (a b : Addr) (wy : List Nat × List Nat), ws[i]? = some wy ∧ H t = some (.tup [V.ref a, V.ref b]) ∧ H a = some (.lst (wy.1.map vi)) ∧ H b = some (.lst (wy.2.map vi))
theorem WaysAt.same {H H' : Hp} {p : Addr} {ts : List Addr} {ws : List (List Nat × List Nat)} (L : WaysAt H p ts ws) (s : Same H H') : WaysAt H' p ts ws :=
  ⟨s _ _ L.lst, L.len, fun i t h => let ⟨a, b, wy, h1, h2, h3, h4⟩ := L.at_ i t h; ⟨a, b, wy, h1, s _ _ h2, s _ _ h3, s _ _ h4⟩⟩
theorem refs_ne {H : Hp} {p a : Addr} {ts : List Addr} {l : List Nat} (h : H p = some (.lst (ts.map V.ref))) (ht : ts ≠ []) (ha : H a = some (.lst (l.map vi))) : a ≠ p := by
  rintro rfl
  rw [h] at ha
  injection ha with q
  injection q with q
  cases ts with
  | nil => exact ht rfl
  | cons x ts =>
    cases l with
    | nil => cases q
    | cons y l =>
      rw [List.map_cons, List.map_cons] at q
      injection q with q _
      cases q
theorem WaysAt.snoc {H H1 : Hp} {D t a b : Addr} {ts : List Addr} {ws : List (List Nat × List Nat)} {wy : List Nat × List Nat} (A : WaysAt H D ts ws) (s : Same H H1) (ht : H t = none) (h1 : H1 t = some (.tup [V.ref a, V.ref b]))
    (ha : a ≠ D) (hb : b ≠ D) (h2 : H1 a = some (.lst (wy.1.map vi))) (h3 : H1 b = some (.lst (wy.2.map vi))) :
    WaysAt (upd H1 D (.lst (ts.map V.ref ++ [V.ref t]))) D (ts ++ [t]) (ws ++ [wy]) := by
  have hDt : D ≠ t := ne_of_none A.lst ht
  refine ⟨by rw [upd_same, List.map_append]; rfl, by rw [List.length_append, List.length_append, A.len]; rfl, fun i c hc => ?_⟩
  by_cases e : i < ts.length
  · rw [List.getElem?_append_left e] at hc
    have hne : ts ≠ [] := fun z => by rw [z] at e; simp at e
    obtain ⟨a', b', wy', q1, q2, q3, q4⟩ := A.at_ i c hc
    refine ⟨a', b', wy', by rw [List.getElem?_append_left (by rw [← A.len]; exact e)]; exact q1, ?_, ?_, ?_⟩
    · rw [upd_ne (ne_of q2 A.lst (by intro z; cases z))]; exact s _ _ q2
    · rw [upd_ne (refs_ne A.lst hne q3)]; exact s _ _ q3
    · rw [upd_ne (refs_ne A.lst hne q4)]; exact s _ _ q4
  · have ei : i = ts.length := by
      obtain ⟨z, _⟩ := List.getElem?_eq_some_iff.mp hc
      rw [List.length_append] at z
      have : ([t] : List Addr).length = 1 := rfl
      omega
    subst ei
    rw [List.getElem?_append_right (Nat.le_refl _), Nat.sub_self] at hc
    have e : t = c := Option.some.inj hc
    subst e
    refine ⟨a, b, wy, by rw [A.len, List.getElem?_append_right (Nat.le_refl _), Nat.sub_self]; rfl, by rw [upd_ne hDt.symm]; exact h1, by rw [upd_ne ha]; exact h2, by rw [upd_ne hb]; exact h3⟩
theorem AdjAt.off {H : Hp} {D q : Addr} {o : HO} {bs : List Addr} {adj : List (List Nat)} (A : AdjAt H q bs adj) (hq : q ≠ D) (hb : ∀ b ∈ bs, b ≠ D) : AdjAt (upd H D o) q bs adj :=
  ⟨by rw [upd_ne hq]; exact A.lst, A.len, fun i b h => by rw [upd_ne (hb b (List.mem_of_getElem? h))]; exact A.at_ i b h⟩
def spWays (K : PySem.W.Frag) : Sp := fun vs H Q _ => ∃ (a : Addr) (l : List Nat) (n home : Nat) (t : Ks536.Net), vs = [vi n, vi home, .ref a] ∧ SqL K H a (l.map vi) ∧ l.length ≤ 24 ∧ IsNet n l t ∧ home < n ∧ n ≤ 6 ∧
  ∀ H' p ts, Same H H' → WaysAt H' p ts (waysM t home) → Q (.ref p) H'
section
variable {P : Program} {w : World} {K : PySem.W.Frag} {mg : Str → Option Value} {base : Heap}
theorem scWays : FnScope ["n", "home", "net", "beside_each", "ways", "order", "behind"] ["n", "home", "net"] (defScope sWays) := ⟨rfl, rfl, rfl, by decide +kernel, rfl, by decide +kernel, by decide +kernel⟩
theorem ok_ways {f fL fB fO fK : Addr} {fd fdL fdB fdO fdK : FuncData} (F : Fun K "ways_to_look" "ways_to_look" sWays f fd)
    (cL : Callee K mg "links_of" fL fdL ["net"]) (GL : FnOk P w K mg base CX0 1 fL fdL ["net"] (spLinks K))
    (cB : Callee K mg "places_beside" fB fdB ["n", "links"]) (GB : FnOk P w K mg base CX0 1 fB fdB ["n", "links"] spBeside)
    (cO : Callee K mg "all_orders" fO fdO ["n", "home"]) (GO : FnOk P w K mg base CX0 2 fO fdO ["n", "home"] spOrders)
    (cK : Callee K mg "steps_till_known" fK fdK ["beside_each", "home", "order"]) (GK : FnOk P w K mg base CX0 2 fK fdK ["beside_each", "home", "order"] (spTill K)) :
    FnOk P w K mg base CX0 3 f fd ["n", "home", "net"] (spWays K) := by
  refine F.ok scWays (fun vs H Q E h => ?_) (fun cdv A outer sh H vs Q E0 hr h => ?_)
  · obtain ⟨a, l, n, home, t, rfl, _⟩ := h
    rfl
  · obtain ⟨a, l, n, home, t, rfl, hS, hl, N, hh, hn6, k⟩ := h
    have hr1 : Room 1 _ := hr.mono (by decide)
    refine ⟨_, pss_cons (ps_set (i := 3) scWays.nd rfl (Or.inl rfl) (pe_call GB hr1 rfl cB.mg cB.kp cB.b .nil pass0 (pa_cons (pv 0) (pa_cons (pe_call GL hr1 rfl cL.mg cL.kp cL.b .nil pass0 (pa_cons (pv 2) pa_nil)) pa_nil))))
      (pss_cons (ps_set (i := 4) scWays.nd rfl (Or.inl rfl) (pe_lst pa_nil))
      (pss_cons (ps_for PassesOwn.never rfl (pi_list (pe_call GO hr rfl cO.mg cO.kp cO.b .nil pass0 (pa_cons (pv 0) (pa_cons (pv 1) pa_nil)))) (pg_name (i := 5) scWays.nd rfl (Or.inl rfl))
        (pss_cons (ps_set (i := 6) scWays.nd rfl (Or.inl rfl) (pe_call GK hr rfl cK.mg cK.kp cK.b .nil pass0 (pa_cons (pv 3) (pa_cons (pv 1) (pa_cons (pv 5) pa_nil)))))
        (pss_one (ps_if (pt_cmp (pc_notN (pv 6))) (pss_one (ps_expr (pe_bm PySem.F.plainAttrs_list PySem.F.slot_list_append PySem.F.type_list_append mt_append (pv 4) (pa_cons (pe_tup (pa_cons (pv 5) (pa_cons (pv 6) pa_nil))) pa_nil)))) pss_nil))))
      (pss_one (ps_ret (pv 4))))), ?_⟩
    obtain ⟨n1, n7, l2, l20, hlk⟩ := N.lt
    have ll : (mkLinks l).length ≤ 100 := by rw [mkLinks_len]; omega
    refine ⟨_, rfl, _, rfl, a, l, rfl, hS, l2, hl, fun H1 p ts s1 L => ?_⟩
    refine ⟨p, ts, mkLinks l, n, rfl, L, ll, by omega, hlk, fun H2 q bs s2 A2 => ?_⟩
    have sz := adjOf_size n _ (mkLinks l) rfl
    refine ⟨Nat.zero_le _, fun D hD => ?_⟩
    have s12 := s1.trans s2
    have hDH : H D = none := s12.free hD
    have s3 : Same H2 (upd H2 D (.lst [])) := same_new hD
    have s13 := s12.trans s3
    refine ⟨_, rfl, _, rfl, n, home, rfl, hn6, hh, fun H3 oA os s4 fr O => ?_⟩
    have s23 := s3.trans s4
    have s14 := s13.trans s4
    have hD3 : H3 D = some (.lst []) := s4 _ _ upd_same
    have hoD : ∀ b ∈ os, b ≠ D := fun b hb => (ne_of_none upd_same (fr b hb)).symm
    have hone : os ≠ [] := fun z => ordersM_ne n home hh (Nat.le_refl _) (List.length_eq_zero_iff.mp (by rw [← O.len, z]; rfl))
    have hAD : oA ≠ D := by
      rintro rfl
      have z := O.lst
      rw [hD3] at z
      injection z with z
      injection z with z
      exact hone (List.map_eq_nil_iff.mp z.symm)
    have hqD : q ≠ D := ne_of_none A2.lst hD
    have hbD : ∀ b ∈ bs, b ≠ D := fun b hb => by
      obtain ⟨i, hi⟩ := List.getElem?_of_mem hb
      exact ne_of_none (A2.at_ i b hi) hD
    refine ⟨oA, rfl, ⟨_, SqL.of O.lst⟩, for_list (K := K) (a := oA) (xs := os.map V.ref) (fun i σ H' => ∃ (ts : List Addr) (v5 v6 : Option V), σ = [some (vi n), some (vi home), some (.ref a), some (.ref q), some (.ref D), v5, v6] ∧ Same H H' ∧ AdjAt H' q bs (adjOf n (mkLinks l)) ∧
        AdjAt H' oA os (ordersM n home (n - 1)) ∧ WaysAt H' D ts (((ordersM n home (n - 1)).take i).filterMap (wayOf t home)))
      ⟨[], none, none, rfl, s14, A2.same s23, O, hD3, rfl, fun i b h => by simp at h⟩ (fun i σ H' _ ⟨_, _, _, _, _, _, q, _⟩ => SqL.of q.lst) ?_ ?_⟩
    · rintro i y σ H4 hi ⟨ts, v5, v6, rfl, s5, A4, O4, W4⟩
      obtain ⟨b, hb, rfl⟩ := get_map hi
      obtain ⟨hib, _⟩ := List.getElem?_eq_some_iff.mp hb
      have ho : (ordersM n home (n - 1))[i]? = some ((ordersM n home (n - 1)).getD i []) := by
        rw [List.getD_eq_getElem?_getD, List.getElem?_eq_getElem (by rw [← O.len]; exact hib)]; rfl
      have hom : (ordersM n home (n - 1)).getD i [] ∈ ordersM n home (n - 1) := List.mem_of_getElem? ho
      have hbo := O4.at_ i b hb
      have hbm : b ∈ os := List.mem_of_getElem? hb
      generalize (ordersM n home (n - 1)).getD i [] = o at ho hom hbo
      obtain ⟨o1, o2, o3⟩ := (ordersM_mem n home _ o).mp hom
      have hwl : ts.length ≤ 7776 := by
        rw [W4.len]
        refine Nat.le_trans (List.length_filterMap_le ..) (Nat.le_trans (List.length_take_le' ..) ?_)
        have := ordersM_small n home hn6 (Nat.le_refl (n - 1))
        omega
      refine ⟨_, rfl, _, rfl, _, rfl, q, b, bs, adjOf n (mkLinks l), o, home, t, rfl, A4, by rw [adjOf_len, N.n], by rw [N.n]; omega, fun u hu v => ?_, fun u => ?_, SqL.of hbo, by omega, by rw [N.n]; exact hh, fun x hx => ?_, fun hk H5 s6 => ?_, fun r hk H5 z s6 hz hz5 => ?_⟩
      · rw [N.n] at hu
        rw [adjOf_mem n _ hlk u v hu]
        exact N.near u v
      · have := sz u
        omega
      · rw [N.n]; exact (o3 x hx).1
      · refine ⟨_, rfl, _, rfl, ts, _, _, rfl, s5.trans s6, A4.same s6, O4.same s6, ?_⟩
        rw [take_snoc ho, List.filterMap_append]
        have e : [o].filterMap (wayOf t home) = [] := by simp [wayOf, hk]
        rw [e, List.append_nil]
        exact W4.same s6
      · refine ⟨_, rfl, _, rfl, ?_⟩
        refine ⟨_, rfl, .inl ⟨rfl, _, SqL.of (W4.same s6).lst⟩, _, rfl, _, rfl, (by show 2 ≤ sizeLine; decide), fun c hc => ?_⟩
        have s7 := s6.trans (same_new (o := HO.tup [V.ref b, V.ref z]) hc)
        have hc4 : H4 c = none := s6.free hc
        have hzD : z ≠ D := (ne_of_none W4.lst hz).symm
        refine ⟨D, _, _, rfl, rfl, s7 _ _ W4.lst, (by rw [List.length_map]; exact small_line (by omega)), ?_⟩
        refine ⟨ts ++ [c], _, _, rfl, Same.new (s5.trans s7) hDH, (A4.same s7).off hqD hbD, (O4.same s7).off hAD hoD, ?_⟩
        rw [take_snoc ho, List.filterMap_append]
        have e : [o].filterMap (wayOf t home) = [(o, r)] := by simp [wayOf, hk]
        rw [e]
        refine W4.snoc s7 hc4 upd_same (hoD b hbm) hzD (s7 _ _ hbo) ?_
        rw [upd_ne (ne_of_none hz5 hc)]
        exact hz5
    · rintro σ H4 ⟨ts, v5, v6, rfl, s5, A4, O4, W4⟩
      rw [List.length_map, O.len, List.take_length] at W4
      refine ⟨_, rfl, k _ _ ts s5 ?_⟩
      unfold waysM
      rw [N.n]
      exact W4
end
end Sw
set_option Elab.async false
set_option maxRecDepth 100000
set_option maxHeartbeats 4000000
namespace Sw
open PySem PySem.Spec PyProof.Rows L2
def spRefC (K : PySem.W.Frag) : Sp := fun vs H Q _ => ∃ (a : Addr) (l : List Nat) (n home : Nat), vs = [vi n, vi home, .ref a] ∧ SqL K H a (l.map vi) ∧ l.length ≤ 24 ∧
  (Ks536.netOf n l = none → ∀ H', Same H H' → Q (.int (-22)) H') ∧ (∀ t, IsNet n l t → n ≤ home → ∀ H', Same H H' → Q (.int (-2)) H') ∧ (∀ t, IsNet n l t → home < n → 6 < n → ∀ H', Same H H' → Q (.int (-75)) H') ∧
  ∀ t, IsNet n l t → home < n → n ≤ 6 → ∀ H', Same H H' → Q .non H'
def spBestA : Sp := fun vs H Q _ => ∃ (p : Addr) (bs : List Addr) (ls : List (List Nat)), vs = [.ref p] ∧ AdjAt H p bs ls ∧ ls ≠ [] ∧
  ∀ m q, m ∈ ls → (∀ y ∈ ls, ¬ lexlt y m) → H q = some (.lst (m.map vi)) → Q (.ref q) H
theorem adj_dp {K : PySem.W.Frag} {H : Hp} : ∀ (bs : List Addr) (ls : List (List Nat)), bs.length = ls.length → (∀ (i : Nat) (b : Addr), bs[i]? = some b → H b = some (.lst ((ls.getD i []).map vi))) → DpAll K H (bs.map V.ref) (ls.map dL)
  | [], [], _, _ => .nil
  | b :: bs, l :: ls, e, h => by
    have h0 := h 0 b rfl
    refine .cons (.lst (SqL.of (by rw [← vi_ints]; exact h0)) (intsD_dp _)) (adj_dp bs ls (by simpa using e) fun i c hc => ?_)
    exact h (i + 1) c (by simpa using hc)
section
variable {P : Program} {w : World} {K : PySem.W.Frag} {mg : Str → Option Value} {base : Heap}
theorem scRefC : FnScope ["n", "home", "net", "refusal"] ["n", "home", "net"] (defScope sRefC) := ⟨rfl, rfl, rfl, by decide +kernel, rfl, by decide +kernel, by decide +kernel⟩
theorem ok_refC {f fR : Addr} {fd fdR : FuncData} {t1 t2 : Tok} (F : Fun K "refusal_to_choose" "refusal_to_choose" sRefC f fd)
    (c1 : mg "MOST_TO_CHOOSE_FROM" = some (.int 6 t1)) (c2 : mg "TOO_MANY_TO_CHOOSE_FROM" = some (.int (-75) t2))
    (cR : Callee K mg "refusal_of" fR fdR ["n", "home", "net"]) (GR : FnOk P w K mg base CX0 4 fR fdR ["n", "home", "net"] (spRef K)) : FnOk P w K mg base CX0 5 f fd ["n", "home", "net"] (spRefC K) := by
  refine F.ok scRefC (fun vs H Q E h => ?_) (fun cdv A outer sh H vs Q E0 hr h => ?_)
  · obtain ⟨a, l, n, home, rfl, _⟩ := h
    rfl
  · obtain ⟨a, l, n, home, rfl, hS, hl, k1, k2, k3, k4⟩ := h
    refine ⟨_, pss_cons (ps_set (i := 3) scRefC.nd rfl (Or.inl rfl) (pe_call GR hr rfl cR.mg cR.kp cR.b .nil pass0 (pa_cons (pv 0) (pa_cons (pv 1) (pa_cons (pv 2) pa_nil)))))
      (pss_cons (ps_if (PW.pt (pw_and (pt_cmp (pc_isN (pv 3))) (pw_and1 (pt_cmpR op_gt (pv 0) (pe_glob (v := .int 6) rfl c1 ⟨_, rfl⟩) (nomark _))))) (pss_one (ps_ret (pe_glob (v := .int (-75)) rfl c2 ⟨_, rfl⟩))) pss_nil)
      (pss_one (ps_ret (pv 3)))), ?_⟩
    refine ⟨_, rfl, _, rfl, _, rfl, a, l, n, home, rfl, hS, hl, fun hbad H1 s1 => ?_, fun t N hh H1 s1 => ?_, fun t N hh H1 s1 => ?_⟩
    · exact ⟨_, rfl, _, rfl, _, rfl, k1 hbad _ s1⟩
    · exact ⟨_, rfl, _, rfl, _, rfl, k2 t N hh _ s1⟩
    · refine ⟨_, rfl, _, rfl, _, rfl, _, _, rfl, rfl, _, rfl, ?_⟩
      refine ite2 (fun c => ?_) (fun c => ?_)
      · have c' := of_decide_eq_true c
        exact k3 t N hh (by omega) _ s1
      · have c' : ¬ (6 : Int) < ((n : Nat) : Int) := fun z => c (decide_eq_true z)
        exact ⟨_, rfl, k4 t N hh (by omega) _ s1⟩
theorem scBestA : FnScope ["answers"] ["answers"] (defScope sBestA) := ⟨rfl, rfl, rfl, by decide +kernel, rfl, by decide +kernel, by decide +kernel⟩
theorem ok_bestA {f : Addr} {fd : FuncData} (F : Fun K "best_answer" "best_answer" sBestA f fd) (T : Txt mg) : FnOk P w K mg base CX0 1 f fd ["answers"] spBestA := by
  refine F.ok scBestA (fun vs H Q E h => ?_) (fun cdv A outer sh H vs Q E0 hr h => ?_)
  · obtain ⟨p, bs, ls, rfl, _⟩ := h
    rfl
  · obtain ⟨p, bs, ls, rfl, hA, hne, k⟩ := h
    have hu : (A.deeper (envOfC "best_answer" (defScope sBestA) sh.heap.objs.size f cdv)).units + 65 < cLine := by have := hr.un; omega
    refine ⟨_, pss_one (ps_ret (pe_callB (cr_minD rfl hu) (by rfl) T.min (by decide +kernel) (pa_cons (pv 0) pa_nil))), ?_⟩
    cases ls with
    | nil => exact absurd rfl hne
    | cons l ls =>
      obtain ⟨m, e, h1, h2⟩ := minD_dL ls l
      refine ⟨_, rfl, p, _, dL l, ls.map dL, rfl, SqL.of hA.lst, adj_dp bs (l :: ls) hA.len hA.at_, dL_alikeAll (l :: ls), Nat.le_trans (dL_depth (l :: ls)) (by decide), fun i x hx hi => ?_⟩
      obtain ⟨b, hb, rfl⟩ := get_map hx
      obtain ⟨hib, _⟩ := List.getElem?_eq_some_iff.mp hb
      have hil : i < (l :: ls).length := by rw [← hA.len]; exact hib
      have q := hA.at_ i b hb
      have em : (l :: ls).getD i [] = m := by
        rw [e] at hi
        rw [List.getD_eq_getElem?_getD, show dL l :: ls.map dL = (l :: ls).map dL from rfl, List.getElem?_map, List.getElem?_eq_getElem hil] at hi
        rw [List.getD_eq_getElem?_getD, List.getElem?_eq_getElem hil]
        exact dL_inj hi
      rw [em] at q
      exact k m b h1 h2 q
end
end Sw
set_option Elab.async false
set_option maxRecDepth 100000
set_option maxHeartbeats 4000000
namespace Sw
open PySem PySem.Spec PyProof.Rows L2
def spSoonest (K : PySem.W.Frag) : Sp := fun vs H Q _ => ∃ (a : Addr) (l : List Nat) (n home : Nat), vs = [vi n, vi home, .ref a] ∧ SqL K H a (l.map vi) ∧ l.length ≤ 24 ∧
  ∀ H' p, Same H H' → H' p = some (.lst ((Ks538Neutral.out (Ks538.answer (.soonest n home l))).map V.int)) → Q (.ref p) H'
section
variable {P : Program} {w : World} {K : PySem.W.Frag} {mg : Str → Option Value} {base : Heap}
theorem scSoonest : FnScope ["n", "home", "net", "refusal", "way"] ["n", "home", "net"] (defScope sSoonest) := ⟨rfl, rfl, rfl, by decide +kernel, rfl, by decide +kernel, by decide +kernel⟩
theorem ok_soonest {f fR fW fB : Addr} {fd fdR fdW fdB : FuncData} (F : Fun K "soonest" "soonest" sSoonest f fd) (T : Txt mg)
    (cR : Callee K mg "refusal_to_choose" fR fdR ["n", "home", "net"]) (GR : FnOk P w K mg base CX0 5 fR fdR ["n", "home", "net"] (spRefC K))
    (cW : Callee K mg "ways_to_look" fW fdW ["n", "home", "net"]) (GW : FnOk P w K mg base CX0 3 fW fdW ["n", "home", "net"] (spWays K))
    (cB : Callee K mg "best_answer" fB fdB ["answers"]) (GB : FnOk P w K mg base CX0 1 fB fdB ["answers"] spBestA) :
    FnOk P w K mg base CX0 6 f fd ["n", "home", "net"] (spSoonest K) := by
  refine F.ok scSoonest (fun vs H Q E h => ?_) (fun cdv A outer sh H vs Q E0 hr h => ?_)
  · obtain ⟨a, l, n, home, rfl, _⟩ := h
    rfl
  · obtain ⟨a, l, n, home, rfl, hS, hl, k⟩ := h
    have hr1 : Room 1 _ := hr.mono (by decide)
    have hr3 : Room 3 _ := hr.mono (by decide)
    have hu : (A.deeper (envOfC "soonest" (defScope sSoonest) sh.heap.objs.size f cdv)).units + 65 < cLine := by have := hr.un; omega
    refine ⟨_, pss_cons (ps_set (i := 3) scSoonest.nd rfl (Or.inl rfl) (pe_call GR hr rfl cR.mg cR.kp cR.b .nil pass0 (pa_cons (pv 0) (pa_cons (pv 1) (pa_cons (pv 2) pa_nil)))))
      (pss_cons (ps_if (pt_cmp (pc_notN (pv 3))) (pss_one (ps_ret (pe_lst (pa_cons (pv 3) pa_nil)))) pss_nil)
      (pss_one (ps_ret (pe_call GB hr1 rfl cB.mg cB.kp cB.b .nil pass0 (pa_cons
        (pe_lc (own := [("way", 4)]) (g := gName 4) (tt := tYes) rfl scSoonest.nd (pi_list (pe_call GW hr3 rfl cW.mg cW.kp cW.b .nil pass0 (pa_cons (pv 0) (pa_cons (pv 1) (pa_cons (pv 2) pa_nil)))))
          (blkOk_by (N := ["n", "home", "net", "refusal", "way"]) (sc := defScope sSoonest) (by decide +kernel)) (fun _ _ _ _ _ => pg_name (i := 4) scSoonest.nd rfl (Or.inl rfl)) (fun _ _ _ _ _ => pts_nil)
          (fun _ _ _ _ _ => pe_op op_cat (pe_lst (pa_cons (pe_callBK (r := rMaxOr K) (cr_maxOr rfl hu) (by rfl) T.max (by decide +kernel) (pa_cons (pe_ix (r := rIxT K) ix_tup (pv 4) pe_int (fun _ _ => rfl)) pa_nil) (pk_cons pe_int pk_nil)) pa_nil)) (pe_ix (r := rIxT K) ix_tup (pv 4) pe_int (fun _ _ => rfl)))) pa_nil))))), ?_⟩
    refine ⟨_, rfl, _, rfl, _, rfl, a, l, n, home, rfl, hS, hl, fun hbad H1 s1 => ?_, fun t N hh H1 s1 => ?_, fun t N hh h6 H1 s1 => ?_, fun t N hh h6 H1 s1 => ?_⟩
    · refine ⟨_, rfl, _, rfl, _, rfl, (by show 1 ≤ sizeLine; decide), fun p hp => k _ p (s1.trans (same_new hp)) ?_⟩
      rw [upd_same, soonest_bad hbad]; rfl
    · refine ⟨_, rfl, _, rfl, _, rfl, (by show 1 ≤ sizeLine; decide), fun p hp => k _ p (s1.trans (same_new hp)) ?_⟩
      rw [upd_same, soonest_home N hh]; rfl
    · refine ⟨_, rfl, _, rfl, _, rfl, (by show 1 ≤ sizeLine; decide), fun p hp => k _ p (s1.trans (same_new hp)) ?_⟩
      rw [upd_same, soonest_few N hh h6]; rfl
    · have ht : home < t.n := by rw [N.n]; exact hh
      have hsm := waysM_small t home (by rw [N.n]; exact h6)
      refine ⟨_, rfl, _, rfl, _, rfl, _, rfl, _, rfl, a, l, n, home, t, rfl, s1.seq hS, hl, N, hh, h6, fun H2 p ts s2 W => ?_⟩
      refine ⟨p, rfl, ⟨_, SqL.of W.lst⟩, fun D hD => lc_list (K := K) (a := p) (xs := ts.map V.ref) (fun i H' => ∃ bs, Same H2 H' ∧ AdjAt H' D bs (((waysM t home).take i).map fun q => Ks538.worst q.2 :: q.1))
        ⟨[], same_new hD, upd_same, rfl, fun i b h => by simp at h⟩ (fun i H' _ ⟨_, s3, _⟩ => SqL.of (s3 _ _ W.lst)) ?_ ?_⟩
      · rintro i y H3 hi ⟨bs, s3, B⟩
        obtain ⟨tA, hA, rfl⟩ := get_map hi
        obtain ⟨oA, rA, wy, hw, hT, ho, hre⟩ := (W.same s3).at_ i tA hA
        refine ⟨rfl, _, rfl, tA, _, _, _, rfl, rfl, SqT.of hT, atI_nat (j := 1) (v := V.ref rA) rfl, rA, intsN wy.2, rfl, rfl, (by rw [← vi_ints]; exact SqL.of hre), (by show 1 ≤ sizeLine; decide), fun c hc => ?_⟩
        have s4 : Same H3 (upd H3 c (.lst [V.int (maxOr0 (intsN wy.2))])) := same_new hc
        have hwl : wy.1.length ≤ 100 := by
          have m := (waysM_mem t ht wy.1 wy.2).mp (List.mem_of_getElem? hw)
          rw [m.1.length_eq, others_len t home ht, N.n]
          omega
        refine ⟨_, rfl, tA, _, _, _, rfl, rfl, SqT.of (s4 _ _ hT), atI_nat (j := 0) (v := V.ref oA) rfl, c, oA, _, _, rfl, rfl, upd_same, s4 _ _ ho, Nat.le_of_lt (small_line (by show 1 + (wy.1.map vi).length ≤ _; rw [List.length_map]; omega)), fun z hz => ?_⟩
        have s5 := s4.trans (same_new (o := HO.lst ([V.int (maxOr0 (intsN wy.2))] ++ wy.1.map vi)) hz)
        have hz3 : H3 z = none := s4.free hz
        have bl : bs.length ≤ 100000 := by
          rw [B.len, List.length_map]
          have := List.length_take_le' i (waysM t home)
          omega
        refine ⟨_, s5 _ _ B.lst, (by rw [List.length_map]; exact small_line bl), bs ++ [z], Same.new (s3.trans s5) hD, ?_⟩
        rw [take_snoc hw, List.map_append]
        refine B.snoc s5 hz3 ?_
        rw [upd_same, maxOr0_worst]; rfl
      · rintro H3 ⟨bs, s3, B⟩
        rw [List.length_map, W.len, List.take_length] at B
        refine ⟨D, bs, _, rfl, B, fun z => waysM_ne N.whole ht (List.map_eq_nil_iff.mp z), fun m q hm hlt hq => k _ q ((s1.trans s2).trans s3) ?_⟩
        obtain ⟨o, r, rfl, Du⟩ := due_least ht hm hlt
        rw [hq, soonest_due N hh h6 Du, vi_ints]
end
end Sw
set_option Elab.async false
set_option maxRecDepth 100000
set_option maxHeartbeats 4000000
namespace Sw
open PySem PySem.Spec PyProof.Rows L2
open PySem.W (Codec WData)
theorem nat_of {z : Int} (h : 0 ≤ z) : ∃ k : Nat, z = ((k : Nat) : Int) := ⟨z.toNat, by omega⟩
theorem nats_of_ints : ∀ (l : List Int), (∀ x ∈ l, 0 ≤ x) → ∃ m : List Nat, l = intsN m ∧ m.length = l.length
  | [], _ => ⟨[], rfl, rfl⟩
  | z :: r, h => by
    obtain ⟨m, e, el⟩ := nats_of_ints r fun x hx => h x (List.mem_cons_of_mem _ hx)
    obtain ⟨k, hk⟩ := nat_of (h z List.mem_cons_self)
    exact ⟨k :: m, by rw [e, hk]; rfl, by rw [List.length_cons, List.length_cons, el]⟩
theorem all_nonneg {l : List Int} {hi : Int} (h : l.all (Codec.inInt 0 hi) = true) : ∀ x ∈ l, 0 ≤ x := fun x hx => (Codec.inInt_iff.mp (List.all_eq_true.mp h x hx)).1
theorem request {K : PySem.W.Frag} {H : Hp} {xs : List V} {n home : Int} {net : List Int}
    (hwi : (Codec.inInt 0 4294967295 n && (Codec.inInt 0 4294967295 home && ((Codec.inLen 0 24 net && net.all (Codec.inInt 0 4294967295)) && true))) = true)
    (hx : DwAll K H xs [.int n, .int home, .list (net.map WData.int)]) :
    spSoonest K xs H (fun v H' => Dw K H' v (.list ((PyKs538.soonest n home net).map WData.int))) fun _ _ _ => False := by
  rw [Bool.and_eq_true, Bool.and_eq_true, Bool.and_eq_true, Bool.and_eq_true] at hwi
  obtain ⟨h_n, h_home, ⟨g_net, h_net⟩, _⟩ := hwi
  obtain ⟨n', rfl⟩ := nat_of (Codec.inInt_iff.mp h_n).1
  obtain ⟨home', rfl⟩ := nat_of (Codec.inInt_iff.mp h_home).1
  obtain ⟨l_net, rfl, e_net⟩ := nats_of_ints net (all_nonneg h_net)
  have m_net := (Codec.inNat_iff.mp g_net).2
  cases hx with
  | cons x_n hx =>
    cases hx with
    | cons x_home hx =>
      cases hx with
      | cons x_net hx =>
        cases hx
        cases x_n
        cases x_home
        cases x_net with
        | lst s_net a_net =>
          have d_net := ints_dw _ _ a_net
          subst d_net
          refine ⟨_, l_net, n', home', rfl, (by rw [vi_ints]; exact s_net), (by omega), fun H' p _ hp => ?_⟩
          rw [show PyKs538.soonest ((n' : Nat) : Int) ((home' : Nat) : Int) (intsN l_net) = Ks538Neutral.out (Ks538.answer (.soonest n' home' l_net)) from soonest_eq n' home' l_net]
          exact .lst (SqL.of hp) (dw_ints _)
theorem all_mk {P : Program} {w : World} {K : PySem.W.Frag} {h : Heap} {mg : Str → Option Value} {fa f1 f2 f3 f4 f5 f6 f7 f8 f9 f10 f11 f12 f13 f14 f15 : Addr} (X : K.In h) (G : h.Ns mainGlobals mg) (hfa : mg "soonest" = some (.ref fa))
    {od1 an1 od2 an2 od3 an3 od4 an4 od5 an5 od6 an6 od7 an7 od8 an8 od9 an9 od10 an10 od11 an11 od12 an12 od13 an13 od14 an14 od15 an15 : Option Addr} {sl1 sl2 sl3 sl4 sl5 sl6 sl7 sl8 sl9 sl10 sl11 sl12 sl13 sl14 sl15 : Array (Option Value)} {oc1 kV1 dc1 pm1 cd1 ct1 oc2 kV2 dc2 pm2 cd2 ct2 oc3 kV3 dc3 pm3 cd3 ct3 oc4 kV4 dc4 pm4 cd4 ct4 oc5 kV5 dc5 pm5 cd5 ct5 oc6 kV6 dc6 pm6 cd6 ct6 oc7 kV7 dc7 pm7 cd7 ct7 oc8 kV8 dc8 pm8 cd8 ct8 oc9 kV9 dc9 pm9 cd9 ct9 oc10 kV10 dc10 pm10 cd10 ct10 oc11 kV11 dc11 pm11 cd11 ct11 oc12 kV12 dc12 pm12 cd12 ct12 oc13 kV13 dc13 pm13 cd13 ct13 oc14 kV14 dc14 pm14 cd14 ct14 oc15 kV15 dc15 pm15 cd15 ct15 : Value} {tk1 tk2 tk3 tk4 tk5 tk6 tk7 : Tok}
    (a1 : PySem.W.nsIn K mainGlobals "links_of" = some (some (.ref f1))) (l1 : K.lookup f1 = some ⟨oc1, od1, .func (PySem.W.fnOf "links_of" "links_of" (defArgs sLinks) (defBody sLinks) (defScope sLinks) .none kV1 dc1 pm1 an1 cd1 ct1), sl1⟩) (c1 : PySem.W.codeIn K cd1 "links_of" = true) (k1 : PySem.W.keepIn K (.ref f1) = true)
    (a2 : PySem.W.nsIn K mainGlobals "are_links" = some (some (.ref f2))) (l2 : K.lookup f2 = some ⟨oc2, od2, .func (PySem.W.fnOf "are_links" "are_links" (defArgs sAre) (defBody sAre) (defScope sAre) .none kV2 dc2 pm2 an2 cd2 ct2), sl2⟩) (c2 : PySem.W.codeIn K cd2 "are_links" = true) (k2 : PySem.W.keepIn K (.ref f2) = true)
    (a3 : PySem.W.nsIn K mainGlobals "places_beside" = some (some (.ref f3))) (l3 : K.lookup f3 = some ⟨oc3, od3, .func (PySem.W.fnOf "places_beside" "places_beside" (defArgs sBeside) (defBody sBeside) (defScope sBeside) .none kV3 dc3 pm3 an3 cd3 ct3), sl3⟩) (c3 : PySem.W.codeIn K cd3 "places_beside" = true) (k3 : PySem.W.keepIn K (.ref f3) = true)
    (a4 : PySem.W.nsIn K mainGlobals "steps_to_each" = some (some (.ref f4))) (l4 : K.lookup f4 = some ⟨oc4, od4, .func (PySem.W.fnOf "steps_to_each" "steps_to_each" (defArgs sSteps) (defBody sSteps) (defScope sSteps) .none kV4 dc4 pm4 an4 cd4 ct4), sl4⟩) (c4 : PySem.W.codeIn K cd4 "steps_to_each" = true) (k4 : PySem.W.keepIn K (.ref f4) = true)
    (a5 : PySem.W.nsIn K mainGlobals "hang_together" = some (some (.ref f5))) (l5 : K.lookup f5 = some ⟨oc5, od5, .func (PySem.W.fnOf "hang_together" "hang_together" (defArgs sHang) (defBody sHang) (defScope sHang) .none kV5 dc5 pm5 an5 cd5 ct5), sl5⟩) (c5 : PySem.W.codeIn K cd5 "hang_together" = true) (k5 : PySem.W.keepIn K (.ref f5) = true)
    (a6 : PySem.W.nsIn K mainGlobals "is_net" = some (some (.ref f6))) (l6 : K.lookup f6 = some ⟨oc6, od6, .func (PySem.W.fnOf "is_net" "is_net" (defArgs sNet) (defBody sNet) (defScope sNet) .none kV6 dc6 pm6 an6 cd6 ct6), sl6⟩) (c6 : PySem.W.codeIn K cd6 "is_net" = true) (k6 : PySem.W.keepIn K (.ref f6) = true)
    (a7 : PySem.W.nsIn K mainGlobals "refusal_of" = some (some (.ref f7))) (l7 : K.lookup f7 = some ⟨oc7, od7, .func (PySem.W.fnOf "refusal_of" "refusal_of" (defArgs sRef) (defBody sRef) (defScope sRef) .none kV7 dc7 pm7 an7 cd7 ct7), sl7⟩) (c7 : PySem.W.codeIn K cd7 "refusal_of" = true) (k7 : PySem.W.keepIn K (.ref f7) = true)
    (a8 : PySem.W.nsIn K mainGlobals "refusal_to_choose" = some (some (.ref f8))) (l8 : K.lookup f8 = some ⟨oc8, od8, .func (PySem.W.fnOf "refusal_to_choose" "refusal_to_choose" (defArgs sRefC) (defBody sRefC) (defScope sRefC) .none kV8 dc8 pm8 an8 cd8 ct8), sl8⟩) (c8 : PySem.W.codeIn K cd8 "refusal_to_choose" = true) (k8 : PySem.W.keepIn K (.ref f8) = true)
    (a9 : PySem.W.nsIn K mainGlobals "place_to_look_from" = some (some (.ref f9))) (l9 : K.lookup f9 = some ⟨oc9, od9, .func (PySem.W.fnOf "place_to_look_from" "place_to_look_from" (defArgs sPick) (defBody sPick) (defScope sPick) .none kV9 dc9 pm9 an9 cd9 ct9), sl9⟩) (c9 : PySem.W.codeIn K cd9 "place_to_look_from" = true) (k9 : PySem.W.keepIn K (.ref f9) = true)
    (a10 : PySem.W.nsIn K mainGlobals "steps_till_known" = some (some (.ref f10))) (l10 : K.lookup f10 = some ⟨oc10, od10, .func (PySem.W.fnOf "steps_till_known" "steps_till_known" (defArgs sTill) (defBody sTill) (defScope sTill) .none kV10 dc10 pm10 an10 cd10 ct10), sl10⟩) (c10 : PySem.W.codeIn K cd10 "steps_till_known" = true) (k10 : PySem.W.keepIn K (.ref f10) = true)
    (a11 : PySem.W.nsIn K mainGlobals "one_place_longer" = some (some (.ref f11))) (l11 : K.lookup f11 = some ⟨oc11, od11, .func (PySem.W.fnOf "one_place_longer" "one_place_longer" (defArgs sLonger) (defBody sLonger) (defScope sLonger) .none kV11 dc11 pm11 an11 cd11 ct11), sl11⟩) (c11 : PySem.W.codeIn K cd11 "one_place_longer" = true) (k11 : PySem.W.keepIn K (.ref f11) = true)
    (a12 : PySem.W.nsIn K mainGlobals "all_orders" = some (some (.ref f12))) (l12 : K.lookup f12 = some ⟨oc12, od12, .func (PySem.W.fnOf "all_orders" "all_orders" (defArgs sOrders) (defBody sOrders) (defScope sOrders) .none kV12 dc12 pm12 an12 cd12 ct12), sl12⟩) (c12 : PySem.W.codeIn K cd12 "all_orders" = true) (k12 : PySem.W.keepIn K (.ref f12) = true)
    (a13 : PySem.W.nsIn K mainGlobals "ways_to_look" = some (some (.ref f13))) (l13 : K.lookup f13 = some ⟨oc13, od13, .func (PySem.W.fnOf "ways_to_look" "ways_to_look" (defArgs sWays) (defBody sWays) (defScope sWays) .none kV13 dc13 pm13 an13 cd13 ct13), sl13⟩) (c13 : PySem.W.codeIn K cd13 "ways_to_look" = true) (k13 : PySem.W.keepIn K (.ref f13) = true)
    (a14 : PySem.W.nsIn K mainGlobals "best_answer" = some (some (.ref f14))) (l14 : K.lookup f14 = some ⟨oc14, od14, .func (PySem.W.fnOf "best_answer" "best_answer" (defArgs sBestA) (defBody sBestA) (defScope sBestA) .none kV14 dc14 pm14 an14 cd14 ct14), sl14⟩) (c14 : PySem.W.codeIn K cd14 "best_answer" = true) (k14 : PySem.W.keepIn K (.ref f14) = true)
    (a15 : PySem.W.nsIn K mainGlobals "soonest" = some (some (.ref f15))) (l15 : K.lookup f15 = some ⟨oc15, od15, .func (PySem.W.fnOf "soonest" "soonest" (defArgs sSoonest) (defBody sSoonest) (defScope sSoonest) .none kV15 dc15 pm15 an15 cd15 ct15), sl15⟩) (c15 : PySem.W.codeIn K cd15 "soonest" = true) (k15 : PySem.W.keepIn K (.ref f15) = true)
    (y1 : PySem.W.nsIn K mainGlobals "MOST_PLACES" = some (some (.int (7) tk1)))
    (y2 : PySem.W.nsIn K mainGlobals "MOST_LINKS" = some (some (.int (10) tk2)))
    (y3 : PySem.W.nsIn K mainGlobals "NOT_AS_TOLD" = some (some (.int (-22) tk3)))
    (y4 : PySem.W.nsIn K mainGlobals "NO_SUCH_HOME" = some (some (.int (-2) tk4)))
    (y5 : PySem.W.nsIn K mainGlobals "TOO_MANY_TO_CHOOSE_FROM" = some (some (.int (-75) tk5)))
    (y6 : PySem.W.nsIn K mainGlobals "IN_AND_BACK" = some (some (.int (2) tk6)))
    (y7 : PySem.W.nsIn K mainGlobals "MOST_TO_CHOOSE_FROM" = some (some (.int (6) tk7)))
    (z1 : PySem.W.nsIn K mainGlobals "len" = some none)
    (z2 : PySem.W.nsIn K mainGlobals "range" = some none)
    (z3 : PySem.W.nsIn K mainGlobals "min" = some none)
    (z4 : PySem.W.nsIn K mainGlobals "max" = some none)
    (z5 : PySem.W.nsIn K mainGlobals "list" = some none)
    (z6 : PySem.W.nsIn K mainGlobals "sorted" = some none) :
    ∃ fd : FuncData, (∀ (s : Shared) (us : List Value), us.length = (["n", "home", "net"] : List Str).length → BindsTo s fd ⟨us, []⟩ ((["n", "home", "net"] : List Str).zip us)) ∧ ∀ base : Heap, K.In base → base.Ns mainGlobals mg → FnOk P w K mg base CX0 6 fa fd ["n", "home", "net"] (spSoonest K) := by
  have e := hfa.symm.trans (PySem.W.mg_of X G a15)
  cases e
  have T : Txt mg := ⟨PySem.W.mg_none_of X G z1, PySem.W.mg_none_of X G z2, PySem.W.mg_none_of X G z3, PySem.W.mg_none_of X G z4, PySem.W.mg_none_of X G z5, PySem.W.mg_none_of X G z6⟩
  have F1 := fun_mk (st := sLinks) l1 c1 k1
  have C1 : Callee K mg "links_of" f1 _ ["net"] := ⟨PySem.W.mg_of X G a1, k1, F1.binds (ps := ["net"]) fun _ _ _ _ _ _ us hl => match us, hl with | [_], _ => rfl⟩
  have F2 := fun_mk (st := sAre) l2 c2 k2
  have C2 : Callee K mg "are_links" f2 _ ["n", "links"] := ⟨PySem.W.mg_of X G a2, k2, F2.binds (ps := ["n", "links"]) fun _ _ _ _ _ _ us hl => match us, hl with | [_, _], _ => rfl⟩
  have F3 := fun_mk (st := sBeside) l3 c3 k3
  have C3 : Callee K mg "places_beside" f3 _ ["n", "links"] := ⟨PySem.W.mg_of X G a3, k3, F3.binds (ps := ["n", "links"]) fun _ _ _ _ _ _ us hl => match us, hl with | [_, _], _ => rfl⟩
  have F4 := fun_mk (st := sSteps) l4 c4 k4
  have C4 : Callee K mg "steps_to_each" f4 _ ["beside_each", "start", "allowed"] := ⟨PySem.W.mg_of X G a4, k4, F4.binds (ps := ["beside_each", "start", "allowed"]) fun _ _ _ _ _ _ us hl => match us, hl with | [_, _, _], _ => rfl⟩
  have F5 := fun_mk (st := sHang) l5 c5 k5
  have C5 : Callee K mg "hang_together" f5 _ ["n", "links"] := ⟨PySem.W.mg_of X G a5, k5, F5.binds (ps := ["n", "links"]) fun _ _ _ _ _ _ us hl => match us, hl with | [_, _], _ => rfl⟩
  have F6 := fun_mk (st := sNet) l6 c6 k6
  have C6 : Callee K mg "is_net" f6 _ ["n", "net"] := ⟨PySem.W.mg_of X G a6, k6, F6.binds (ps := ["n", "net"]) fun _ _ _ _ _ _ us hl => match us, hl with | [_, _], _ => rfl⟩
  have F7 := fun_mk (st := sRef) l7 c7 k7
  have C7 : Callee K mg "refusal_of" f7 _ ["n", "home", "net"] := ⟨PySem.W.mg_of X G a7, k7, F7.binds (ps := ["n", "home", "net"]) fun _ _ _ _ _ _ us hl => match us, hl with | [_, _, _], _ => rfl⟩
  have F8 := fun_mk (st := sRefC) l8 c8 k8
  have C8 : Callee K mg "refusal_to_choose" f8 _ ["n", "home", "net"] := ⟨PySem.W.mg_of X G a8, k8, F8.binds (ps := ["n", "home", "net"]) fun _ _ _ _ _ _ us hl => match us, hl with | [_, _, _], _ => rfl⟩
  have F9 := fun_mk (st := sPick) l9 c9 k9
  have C9 : Callee K mg "place_to_look_from" f9 _ ["beside_it", "steps"] := ⟨PySem.W.mg_of X G a9, k9, F9.binds (ps := ["beside_it", "steps"]) fun _ _ _ _ _ _ us hl => match us, hl with | [_, _], _ => rfl⟩
  have F10 := fun_mk (st := sTill) l10 c10 k10
  have C10 : Callee K mg "steps_till_known" f10 _ ["beside_each", "home", "order"] := ⟨PySem.W.mg_of X G a10, k10, F10.binds (ps := ["beside_each", "home", "order"]) fun _ _ _ _ _ _ us hl => match us, hl with | [_, _, _], _ => rfl⟩
  have F11 := fun_mk (st := sLonger) l11 c11 k11
  have C11 : Callee K mg "one_place_longer" f11 _ ["n", "home", "orders"] := ⟨PySem.W.mg_of X G a11, k11, F11.binds (ps := ["n", "home", "orders"]) fun _ _ _ _ _ _ us hl => match us, hl with | [_, _, _], _ => rfl⟩
  have F12 := fun_mk (st := sOrders) l12 c12 k12
  have C12 : Callee K mg "all_orders" f12 _ ["n", "home"] := ⟨PySem.W.mg_of X G a12, k12, F12.binds (ps := ["n", "home"]) fun _ _ _ _ _ _ us hl => match us, hl with | [_, _], _ => rfl⟩
  have F13 := fun_mk (st := sWays) l13 c13 k13
  have C13 : Callee K mg "ways_to_look" f13 _ ["n", "home", "net"] := ⟨PySem.W.mg_of X G a13, k13, F13.binds (ps := ["n", "home", "net"]) fun _ _ _ _ _ _ us hl => match us, hl with | [_, _, _], _ => rfl⟩
  have F14 := fun_mk (st := sBestA) l14 c14 k14
  have C14 : Callee K mg "best_answer" f14 _ ["answers"] := ⟨PySem.W.mg_of X G a14, k14, F14.binds (ps := ["answers"]) fun _ _ _ _ _ _ us hl => match us, hl with | [_], _ => rfl⟩
  have F15 := fun_mk (st := sSoonest) l15 c15 k15
  refine ⟨PySem.W.fnOf "soonest" "soonest" (defArgs sSoonest) (defBody sSoonest) (defScope sSoonest) .none kV15 dc15 pm15 an15 cd15 ct15, fun s us hu => match us, hu with | [_, _, _], _ => .of_eq rfl, fun base _ _ => ?_⟩
  have G1 : FnOk P w K mg base CX0 1 f1 _ _ _ := ok_links F1 T
  have G2 : FnOk P w K mg base CX0 1 f2 _ _ _ := ok_are F2
  have G4 : FnOk P w K mg base CX0 1 f4 _ _ _ := ok_steps F4 T
  have G3 : FnOk P w K mg base CX0 1 f3 _ _ _ := ok_beside F3 T
  have G5 : FnOk P w K mg base CX0 2 f5 _ _ _ := ok_hang F5 T C4 G4 C3 G3
  have G6 : FnOk P w K mg base CX0 3 f6 _ _ _ := ok_net F6 T (PySem.W.mg_of X G y1) (PySem.W.mg_of X G y2) C1 G1 C2 G2 C5 G5
  have G7 : FnOk P w K mg base CX0 4 f7 _ _ _ := ok_ref F7 (PySem.W.mg_of X G y3) (PySem.W.mg_of X G y4) C6 G6
  have G8 : FnOk P w K mg base CX0 5 f8 _ _ _ := ok_refC F8 (PySem.W.mg_of X G y7) (PySem.W.mg_of X G y5) C7 G7
  have G11 : FnOk P w K mg base CX0 1 f11 _ _ _ := ok_longer F11 T
  have G12 : FnOk P w K mg base CX0 2 f12 _ _ _ := ok_orders F12 T C11 G11
  have G9 : FnOk P w K mg base CX0 1 f9 _ _ _ := ok_pick F9 T
  have G10 : FnOk P w K mg base CX0 2 f10 _ _ _ := ok_till F10 T (PySem.W.mg_of X G y6) C4 G4 C9 G9
  have G13 : FnOk P w K mg base CX0 3 f13 _ _ _ := ok_ways F13 C1 G1 C3 G3 C12 G12 C10 G10
  have G14 : FnOk P w K mg base CX0 1 f14 _ _ _ := ok_bestA F14 T
  exact ok_soonest F15 T C8 G8 C13 G13 C14 G14
end Sw
open PySem PySem.W PyProof.Rows
set_option maxRecDepth 100000 in
set_option maxHeartbeats 8000000 in
theorem PySem.Challenge.cw_swallower_s02_soonest_holds : PySem.Challenge.rw_swallower_s02_soonest.Holds := by
  w_on; k_headS; (case hw => exact ⟨[.int 0, .int 0, .list []], by decide +kernel, by decide +kernel⟩)
  k_fillS
  refine L2.walk_specK (r := PySem.Challenge.rw_swallower_s02_soonest) (k := 6) (CX := L2.CX0) (ps := ["n", "home", "net"]) (sp := Sw.spSoonest) (by decide +kernel) rfl rfl ⟨rfl, by decide, by decide⟩ (fun w h Y => PySem.W.kIn_of Y) ?F ?S (fun _ _ _ _ z => z)
  case F =>
    intro w mg fa h Y KX G hmg
    refine' Sw.all_mk KX G hmg ?a1 ?l1 ?c1 ?k1 ?a2 ?l2 ?c2 ?k2 ?a3 ?l3 ?c3 ?k3 ?a4 ?l4 ?c4 ?k4 ?a5 ?l5 ?c5 ?k5 ?a6 ?l6 ?c6 ?k6 ?a7 ?l7 ?c7 ?k7 ?a8 ?l8 ?c8 ?k8 ?a9 ?l9 ?c9 ?k9 ?a10 ?l10 ?c10 ?k10 ?a11 ?l11 ?c11 ?k11 ?a12 ?l12 ?c12 ?k12 ?a13 ?l13 ?c13 ?k13 ?a14 ?l14 ?c14 ?k14 ?a15 ?l15 ?c15 ?k15 ?y1 ?y2 ?y3 ?y4 ?y5 ?y6 ?y7 ?z1 ?z2 ?z3 ?z4 ?z5 ?z6
    (case a1 => k_is)
    (case l1 => k_is)
    (case c1 => k_is)
    (case k1 => k_is)
    (case a2 => k_is)
    (case l2 => k_is)
    (case c2 => k_is)
    (case k2 => k_is)
    (case a3 => k_is)
    (case l3 => k_is)
    (case c3 => k_is)
    (case k3 => k_is)
    (case a4 => k_is)
    (case l4 => k_is)
    (case c4 => k_is)
    (case k4 => k_is)
    (case a5 => k_is)
    (case l5 => k_is)
    (case c5 => k_is)
    (case k5 => k_is)
    (case a6 => k_is)
    (case l6 => k_is)
    (case c6 => k_is)
    (case k6 => k_is)
    (case a7 => k_is)
    (case l7 => k_is)
    (case c7 => k_is)
    (case k7 => k_is)
    (case a8 => k_is)
    (case l8 => k_is)
    (case c8 => k_is)
    (case k8 => k_is)
    (case a9 => k_is)
    (case l9 => k_is)
    (case c9 => k_is)
    (case k9 => k_is)
    (case a10 => k_is)
    (case l10 => k_is)
    (case c10 => k_is)
    (case k10 => k_is)
    (case a11 => k_is)
    (case l11 => k_is)
    (case c11 => k_is)
    (case k11 => k_is)
    (case a12 => k_is)
    (case l12 => k_is)
    (case c12 => k_is)
    (case k12 => k_is)
    (case a13 => k_is)
    (case l13 => k_is)
    (case c13 => k_is)
    (case k13 => k_is)
    (case a14 => k_is)
    (case l14 => k_is)
    (case c14 => k_is)
    (case k14 => k_is)
    (case a15 => k_is)
    (case l15 => k_is)
    (case c15 => k_is)
    (case k15 => k_is)
    (case y1 => k_is)
    (case y2 => k_is)
    (case y3 => k_is)
    (case y4 => k_is)
    (case y5 => k_is)
    (case y6 => k_is)
    (case y7 => k_is)
    (case z1 => k_is)
    (case z2 => k_is)
    (case z3 => k_is)
    (case z4 => k_is)
    (case z5 => k_is)
    (case z6 => k_is)
  case S =>
    intro K H xs a hO hwi hask hx
    obtain ⟨n, home, net, u⟩ := a
    exact Sw.request hwi hx
#print axioms PySem.Challenge.cw_swallower_s02_soonest_holds
