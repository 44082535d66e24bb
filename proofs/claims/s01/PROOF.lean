import PyProof.Rows.All
import PyVamete
import Wide.All
import OpenK.AllK
import Wide.FinOn
import Open.SpecLaws
import KE.OsGo
import KE.GoesEnum
import HandS.ForSpec
import HandS.Iter
import HandS.Walk
import HandS.Dict
import HandS.SortOrd
import HandS.SortInts
import HandS.Zip
import HandS.TupAny
import HandS.DictTup
import KE.KDictWalk
import HandS.TupLen
import HandS.SetFor
import HandS.Strs
import PyProof.SetRoads
import PyProof.FactsAll.subtypes_5
import HandS.TryMany
import HandS.Comp
import HandS.Conv
import HandS.CallLocal
import HandS.Flow
import HandS.WordsDict
import HandS.More
import HandS.Sort
import PySem.Challenge.RW_turngroups_s01_answers
set_option Elab.async false
namespace Vm
open Vamete VametBase

/-! ## Lists: general -/
theorem nodup_len_le {α : Type} [DecidableEq α] : ∀ (l m : List α), l.Nodup → (∀ x ∈ l, x ∈ m) → l.length ≤ m.length
  | [], _, _, _ => Nat.zero_le _
  | x :: l, m, hn, hs => by
    have hx : x ∈ m := hs x (List.mem_cons_self)
    have hn' := List.nodup_cons.mp hn
    have h1 := nodup_len_le l (m.erase x) hn'.2 (fun y hy => by
      have hy' : y ∈ m := hs y (List.mem_cons_of_mem _ hy)
      have hne : y ≠ x := fun e => hn'.1 (e ▸ hy)
      exact (List.mem_erase_of_ne hne).mpr hy')
    have h2 := List.length_erase_of_mem hx
    have h3 : 0 < m.length := List.length_pos_of_mem hx
    simp only [List.length_cons]
    omega

theorem perm_of_sub {α : Type} [DecidableEq α] : ∀ (l m : List α), l.Nodup → (∀ x ∈ l, x ∈ m) → m.length ≤ l.length → l.Perm m
  | [], m, _, _, h => by
    have : m = [] := List.length_eq_zero_iff.mp (by simpa using h)
    subst this
    exact .refl _
  | x :: l, m, hn, hs, h => by
    have hx : x ∈ m := hs x (List.mem_cons_self)
    have hn' := List.nodup_cons.mp hn
    have h2 := List.length_erase_of_mem hx
    have h3 : 0 < m.length := List.length_pos_of_mem hx
    have h1 := perm_of_sub l (m.erase x) hn'.2 (fun y hy => by
      have hy' : y ∈ m := hs y (List.mem_cons_of_mem _ hy)
      have hne : y ≠ x := fun e => hn'.1 (e ▸ hy)
      exact (List.mem_erase_of_ne hne).mpr hy') (by simp only [List.length_cons] at h; omega)
    exact (h1.cons x).trans (List.perm_cons_erase hx).symm

/-! ## Valid turns -/
structure Valid (n : Nat) (t : Turn) : Prop where
  lp : t.places.length = n
  ls : t.signs.length = n
  nd : t.places.Nodup
  lt : ∀ p ∈ t.places, p < n

theorem mem_signsOf : ∀ (n : Nat) (s : List Bool), s ∈ signsOf n ↔ s.length = n
  | 0, s => by simp [signsOf, List.length_eq_zero_iff]
  | n + 1, s => by
    simp only [signsOf, List.mem_append, List.mem_map, mem_signsOf n]
    constructor
    · rintro (⟨r, hr, rfl⟩ | ⟨r, hr, rfl⟩) <;> simp [hr]
    · intro h
      match s, h with
      | b :: r, h =>
        have hr : r.length = n := by simpa using h
        cases b
        · exact .inl ⟨r, hr, rfl⟩
        · exact .inr ⟨r, hr, rfl⟩

theorem mem_ordersOf : ∀ (f : Nat) (l r : List Nat), l.Nodup → l.length ≤ f → (r ∈ ordersOf f l ↔ r.Perm l)
  | 0, l, r, _, hl => by
    have : l = [] := List.length_eq_zero_iff.mp (by omega)
    subst this
    simp [ordersOf]
  | f + 1, l, r, hn, hl => by
    unfold ordersOf
    by_cases he : l.isEmpty
    · have : l = [] := List.isEmpty_iff.mp he
      subst this
      simp
    · rw [if_neg he]
      simp only [List.mem_flatMap, List.mem_map]
      constructor
      · rintro ⟨x, hx, q, hq, rfl⟩
        have hf : (l.filter fun y => y != x) = l.erase x := (hn.erase_eq_filter x).symm
        rw [hf] at hq
        have hlen : (l.erase x).length ≤ f := by
          rw [List.length_erase_of_mem hx]
          omega
        have := (mem_ordersOf f (l.erase x) q (hn.erase x) hlen).mp hq
        exact (this.cons x).trans (List.perm_cons_erase hx).symm
      · intro hp
        match r, hp with
        | [], hp => exact absurd (List.isEmpty_iff.mpr hp.nil_eq.symm) he
        | x :: q, hp =>
          have hx : x ∈ l := hp.subset List.mem_cons_self
          refine ⟨x, hx, q, ?_, rfl⟩
          have hf : (l.filter fun y => y != x) = l.erase x := (hn.erase_eq_filter x).symm
          rw [hf]
          have hlen : (l.erase x).length ≤ f := by
            rw [List.length_erase_of_mem hx]
            omega
          refine (mem_ordersOf f (l.erase x) q (hn.erase x) hlen).mpr ?_
          exact List.Perm.cons_inv (hp.trans (List.perm_cons_erase hx))

theorem mem_allTurns (n : Nat) (t : Turn) : t ∈ allTurns n ↔ Valid n t := by
  simp only [allTurns, List.mem_flatMap, List.mem_map, mem_signsOf]
  have ho := fun p => mem_ordersOf n (List.range n) p List.nodup_range (by simp)
  constructor
  · rintro ⟨p, hp, s, hs, rfl⟩
    have hp := (ho p).mp hp
    exact ⟨by simpa using hp.length_eq, hs, hp.nodup_iff.mpr List.nodup_range, fun q hq => by
      have := hp.subset hq
      simpa using this⟩
  · rintro ⟨hp, hs, nd, lt⟩
    refine ⟨t.places, (ho _).mpr ?_, t.signs, hs, rfl⟩
    exact perm_of_sub _ _ nd (fun q hq => by simpa using lt q hq) (by simp [hp])

theorem valid_same (n : Nat) : Valid n (same n) :=
  ⟨by simp [same], by simp [same], List.nodup_range, fun p hp => by simpa [same] using hp⟩
end Vm
set_option Elab.async false
set_option linter.unusedSectionVars false
namespace Vm
open Vamete VametBase

/-! ## Breadth first, for any things -/
section
variable {α : Type} [DecidableEq α]
def addG (acts : List (α → α)) (l : List α) (t : α) : List α := acts.foldl (fun k f => if f t ∈ k then k else k ++ [f t]) l
def growG (acts : List (α → α)) : Nat → Nat → List α → List α
  | 0, _, l => l
  | f + 1, i, l => match l[i]? with
    | none => l
    | some t => growG acts f (i + 1) (addG acts l t)
inductive ReachG (acts : List (α → α)) (a : α) : α → Prop
  | start : ReachG acts a a
  | next {f : α → α} {t : α} : f ∈ acts → ReachG acts a t → ReachG acts a (f t)

theorem addG_pre : ∀ (acts : List (α → α)) (l : List α) (t : α), l <+: addG acts l t
  | [], l, t => List.prefix_refl _
  | f :: acts, l, t => by
    show l <+: addG acts (if f t ∈ l then l else l ++ [f t]) t
    refine List.IsPrefix.trans ?_ (addG_pre acts _ t)
    split
    · exact List.prefix_refl _
    · exact List.prefix_append _ _
theorem addG_nodup : ∀ (acts : List (α → α)) (l : List α) (t : α), l.Nodup → (addG acts l t).Nodup
  | [], l, t, h => h
  | f :: acts, l, t, h => by
    show (addG acts (if f t ∈ l then l else l ++ [f t]) t).Nodup
    refine addG_nodup acts _ t ?_
    split
    · exact h
    · rename_i hn
      rw [List.nodup_append]
      refine ⟨h, by simp, ?_⟩
      intro x hx y hy e
      simp only [List.mem_singleton] at hy
      exact hn (hy ▸ e ▸ hx)
theorem addG_mem : ∀ (acts : List (α → α)) (l : List α) (t x : α), x ∈ addG acts l t ↔ x ∈ l ∨ ∃ f ∈ acts, x = f t
  | [], l, t, x => by simp [addG]
  | f :: acts, l, t, x => by
    show x ∈ addG acts (if f t ∈ l then l else l ++ [f t]) t ↔ _
    rw [addG_mem acts]
    split
    · rename_i hm
      constructor
      · rintro (h | ⟨g, hg, e⟩)
        · exact .inl h
        · exact .inr ⟨g, List.mem_cons_of_mem _ hg, e⟩
      · rintro (h | ⟨g, hg, e⟩)
        · exact .inl h
        · rcases List.mem_cons.mp hg with rfl | hg
          · exact .inl (e ▸ hm)
          · exact .inr ⟨g, hg, e⟩
    · constructor
      · rintro (h | ⟨g, hg, e⟩)
        · rcases List.mem_append.mp h with h | h
          · exact .inl h
          · exact .inr ⟨f, List.mem_cons_self, List.mem_singleton.mp h⟩
        · exact .inr ⟨g, List.mem_cons_of_mem _ hg, e⟩
      · rintro (h | ⟨g, hg, e⟩)
        · exact .inl (List.mem_append.mpr (.inl h))
        · rcases List.mem_cons.mp hg with rfl | hg
          · exact .inl (List.mem_append.mpr (.inr (List.mem_singleton.mpr e)))
          · exact .inr ⟨g, hg, e⟩

/-- what holds between two turns -/
structure GInv (acts : List (α → α)) (a : α) (i : Nat) (l : List α) : Prop where
  nd : l.Nodup
  mem : a ∈ l
  rch : ∀ x ∈ l, ReachG acts a x
  cl : ∀ (j : Nat) (t : α), j < i → l[j]? = some t → ∀ f ∈ acts, f t ∈ l
  le : i ≤ l.length
theorem GInv.first (acts : List (α → α)) (a : α) : GInv acts a 0 [a] :=
  ⟨by simp, by simp, fun x hx => by
    rw [List.mem_singleton.mp hx]
    exact .start, fun j t h => absurd h (Nat.not_lt_zero _), Nat.zero_le _⟩
theorem GInv.next {acts : List (α → α)} {a : α} {i : Nat} {l : List α} {t : α} (h : GInv acts a i l) (e : l[i]? = some t) : GInv acts a (i + 1) (addG acts l t) := by
  have hp := addG_pre acts l t
  refine ⟨addG_nodup acts l t h.nd, hp.subset h.mem, fun x hx => ?_, fun j u hj hu f hf => ?_, ?_⟩
  · rcases (addG_mem acts l t x).mp hx with hx | ⟨f, hf, rfl⟩
    · exact h.rch x hx
    · exact .next hf (h.rch t (List.mem_of_getElem? e))
  · have hi : i < l.length := (List.getElem?_eq_some_iff.mp e).1
    have hu' : l[j]? = some u := by
      obtain ⟨r, hr⟩ := hp
      rw [← hr, List.getElem?_append_left (by omega)] at hu
      exact hu
    by_cases hji : j < i
    · exact hp.subset (h.cl j u hji hu' f hf)
    · have : j = i := by omega
      subst this
      rw [hu'] at e
      cases e
      exact (addG_mem acts l _ _).mpr (.inr ⟨f, hf, rfl⟩)
  · have := hp.length_le
    have hi : i < l.length := (List.getElem?_eq_some_iff.mp e).1
    omega
theorem GInv.last {acts : List (α → α)} {a : α} {i : Nat} {l : List α} (h : GInv acts a i l) (e : l.length ≤ i) : ∀ x, x ∈ l ↔ ReachG acts a x := by
  intro x
  refine ⟨h.rch x, fun r => ?_⟩
  induction r with
  | start => exact h.mem
  | next hf _ ih =>
    obtain ⟨j, hj⟩ := List.mem_iff_getElem?.mp ih
    have hl : j < l.length := (List.getElem?_eq_some_iff.mp hj).1
    exact h.cl j _ (by omega) hj _ hf
theorem GInv.bound {acts : List (α → α)} {a : α} {i : Nat} {l : List α} (h : GInv acts a i l) {U : List α} (hU : ∀ x, ReachG acts a x → x ∈ U) : l.length ≤ U.length :=
  nodup_len_le l U h.nd fun x hx => hU x (h.rch x hx)
theorem growG_spec {acts : List (α → α)} {a : α} {U : List α} (hU : ∀ x, ReachG acts a x → x ∈ U) : ∀ (f i : Nat) (l : List α), GInv acts a i l → U.length < f + i → (growG acts f i l).Nodup ∧ ∀ x, x ∈ growG acts f i l ↔ ReachG acts a x
  | 0, i, l, h, hf => by
    have := h.bound hU
    have := h.le
    omega
  | f + 1, i, l, h, hf => by
    unfold growG
    cases e : l[i]? with
    | none =>
      have : l.length ≤ i := List.getElem?_eq_none_iff.mp e
      exact ⟨h.nd, h.last this⟩
    | some t => exact growG_spec hU f (i + 1) _ (h.next e) (by omega)
end

/-! ## Turns -/
theorem Valid.at {n : Nat} {t : Turn} (h : Valid n t) {p : Nat} (hp : p < n) : ∃ q, t.places[p]? = some q ∧ q < n := by
  have hl : p < t.places.length := by rw [h.lp]; exact hp
  exact ⟨t.places[p], List.getElem?_eq_getElem hl, h.lt _ (List.getElem_mem hl)⟩
theorem zip_maps {α β γ δ : Type} (a : α → γ) (b : α × β → δ) : ∀ (P : List α) (S : List β), P.length = S.length → (P.map a).zip ((P.zip S).map b) = (P.zip S).map fun z => (a z.1, b z)
  | [], [], _ => rfl
  | p :: P, s :: S, h => by
    have := zip_maps a b P S (by simpa using h)
    simp [this]
  | [], _ :: _, h => by simp at h
  | _ :: _, [], h => by simp at h
theorem valid_after {n : Nat} {g t : Turn} (hg : Valid n g) (ht : Valid n t) : Valid n (after g t) := by
  have ix : ∀ p ∈ g.places, ∃ q, t.places[p]? = some q ∧ q < n := fun p hp => ht.at (hg.lt p hp)
  refine ⟨by simp [after, hg.lp], by simp [after, hg.lp, hg.ls], ?_, ?_⟩
  · show (g.places.map fun p => (t.places[p]?).getD 0).Nodup
    refine List.pairwise_map.mpr (List.Pairwise.imp_of_mem ?_ hg.nd)
    intro p q hp hq hne e
    obtain ⟨a, ha, _⟩ := ix p hp
    obtain ⟨b, hb, _⟩ := ix q hq
    rw [ha, hb] at e
    have e' : a = b := e
    subst e'
    exact hne ((List.getElem?_inj (List.getElem?_eq_some_iff.mp ha).1 ht.nd).mp (ha.trans hb.symm))
  · intro x hx
    obtain ⟨p, hp, rfl⟩ := List.mem_map.mp hx
    obtain ⟨a, ha, hlt⟩ := ix p hp
    rw [ha]
    exact hlt
theorem turned_length {n : Nat} {t : Turn} (h : Valid n t) (x : Row) : (Vamete.turned t x).length = n := by
  simp [Vamete.turned, h.lp, h.ls]
theorem turned_at {n : Nat} {t : Turn} (h : Valid n t) (x : Row) {p : Nat} (hp : p < n) : (Vamete.turned t x)[p]? = some (signed ((t.signs[p]?).getD false) ((x[(t.places[p]?).getD 0]?).getD 0)) := by
  have h1 : p < t.places.length := by rw [h.lp]; exact hp
  have h2 : p < t.signs.length := by rw [h.ls]; exact hp
  have h3 : p < (t.places.zip t.signs).length := by simp [h.lp, h.ls, hp]
  simp only [Vamete.turned, List.getElem?_map, List.getElem?_eq_getElem h3, List.getElem?_eq_getElem h1, List.getElem?_eq_getElem h2, Option.map_some, List.getElem_zip, Option.getD_some]
theorem signed_signed (a b : Bool) (x : Int) : signed a (signed b x) = signed (a != b) x := by
  cases a <;> cases b <;> simp [signed]
theorem turned_after {n : Nat} {g t : Turn} (hg : Valid n g) (ht : Valid n t) (x : Row) : Vamete.turned (after g t) x = Vamete.turned g (Vamete.turned t x) := by
  show (((g.places.map fun p => (t.places[p]?).getD 0).zip ((g.places.zip g.signs).map fun p => p.2 != (t.signs[p.1]?).getD false)).map fun p => signed p.2 ((x[p.1]?).getD 0)) = _
  rw [zip_maps _ _ _ _ (by rw [hg.lp, hg.ls]), List.map_map]
  refine List.map_congr_left ?_
  rintro ⟨p, s⟩ hps
  have hp : p < n := hg.lt p (List.of_mem_zip hps).1
  simp only [Function.comp]
  rw [turned_at ht x hp, Option.getD_some, signed_signed]
theorem turned_same {n : Nat} {x : Row} (h : x.length = n) : Vamete.turned (same n) x = x := by
  apply List.ext_getElem?
  intro p
  by_cases hp : p < n
  · rw [turned_at (valid_same n) x hp]
    have hx : p < x.length := by omega
    simp [same, hp, signed, List.getElem?_eq_getElem hx]
  · have h1 := turned_length (valid_same n) x
    rw [List.getElem?_eq_none (by omega), List.getElem?_eq_none (by omega)]

/-! ## The group, the orbit -/
abbrev Reach (n : Nat) (gs : List Turn) : Turn → Prop := ReachG (gs.map after) (same n)
theorem addAll_eq (gs l : List Turn) (t : Turn) : addAll gs l t = addG (gs.map after) l t := by
  unfold addAll addG
  rw [List.foldl_map]
  congr 1
  funext k g
  simp
theorem growFrom_eq (gs : List Turn) : ∀ (f i : Nat) (l : List Turn), growFrom gs f i l = growG (gs.map after) f i l
  | 0, _, _ => rfl
  | f + 1, i, l => by
    unfold growFrom growG
    cases e : l[i]? with
    | none => rfl
    | some t => simp only [addAll_eq, growFrom_eq gs f]
theorem reach_valid {n : Nat} {gs : List Turn} (hg : ∀ g ∈ gs, Valid n g) {t : Turn} (h : Reach n gs t) : Valid n t := by
  induction h with
  | start => exact valid_same n
  | next hf _ ih =>
    obtain ⟨g, hm, rfl⟩ := List.mem_map.mp hf
    exact valid_after (hg g hm) ih
theorem generated_spec {n : Nat} {gs : List Turn} (hg : ∀ g ∈ gs, Valid n g) : (Vamete.generated n gs).Nodup ∧ ∀ t, t ∈ Vamete.generated n gs ↔ Reach n gs t := by
  unfold Vamete.generated
  rw [growFrom_eq]
  exact growG_spec (U := allTurns n) (fun x hx => (mem_allTurns n x).mpr (reach_valid hg hx)) _ _ _ (GInv.first _ _) (by omega)
/-- the rows that are reached by the generators are those of the group's turns -/
theorem reach_rows {n : Nat} {gs : List Turn} (hg : ∀ g ∈ gs, Valid n g) {x : Row} (hx : x.length = n) (y : Row) :
    ReachG (gs.map Vamete.turned) x y ↔ ∃ t, Reach n gs t ∧ y = Vamete.turned t x := by
  constructor
  · intro h
    induction h with
    | start => exact ⟨same n, .start, (turned_same hx).symm⟩
    | next hf _ ih =>
      obtain ⟨g, hm, rfl⟩ := List.mem_map.mp hf
      obtain ⟨t, ht, rfl⟩ := ih
      exact ⟨after g t, .next (List.mem_map.mpr ⟨g, hm, rfl⟩) ht, (turned_after (hg g hm) (reach_valid hg ht) x).symm⟩
  · rintro ⟨t, ht, rfl⟩
    induction ht with
    | start =>
      rw [turned_same hx]
      exact .start
    | next hf hr ih =>
      obtain ⟨g, hm, rfl⟩ := List.mem_map.mp hf
      rw [turned_after (hg g hm) (reach_valid hg hr)]
      exact .next (List.mem_map.mpr ⟨g, hm, rfl⟩) ih
theorem reach_rows_in {n : Nat} {gs : List Turn} (hg : ∀ g ∈ gs, Valid n g) {x : Row} (hx : x.length = n) (y : Row) (h : ReachG (gs.map Vamete.turned) x y) : y ∈ (allTurns n).map fun t => Vamete.turned t x := by
  obtain ⟨t, ht, rfl⟩ := (reach_rows hg hx y).mp h
  exact List.mem_map.mpr ⟨t, (mem_allTurns n t).mpr (reach_valid hg ht), rfl⟩
end Vm
set_option Elab.async false
set_option linter.unusedSectionVars false
namespace Vm
open Vamete VametBase

/-! ## Sorted lists are told by their members -/
theorem sorted_unique {α : Type} {r : α → α → Prop} (irr : ∀ a, ¬ r a a) (asy : ∀ a b, r a b → r b a → False) : ∀ (l m : List α), l.Pairwise r → m.Pairwise r → (∀ x, x ∈ l ↔ x ∈ m) → l = m
  | [], [], _, _, _ => rfl
  | [], y :: m, _, _, h => absurd ((h y).mpr List.mem_cons_self) (by simp)
  | x :: l, [], _, _, h => absurd ((h x).mp List.mem_cons_self) (by simp)
  | x :: l, y :: m, hl, hm, h => by
    have hl' := List.pairwise_cons.mp hl
    have hm' := List.pairwise_cons.mp hm
    have e : x = y := by
      rcases List.mem_cons.mp ((h x).mp List.mem_cons_self) with e | e
      · exact e
      · rcases List.mem_cons.mp ((h y).mpr List.mem_cons_self) with e' | e'
        · exact e'.symm
        · exact (asy _ _ (hl'.1 y e') (hm'.1 x e)).elim
    subst e
    have := sorted_unique irr asy l m hl'.2 hm'.2 (fun z => by
      constructor
      · intro hz
        rcases List.mem_cons.mp ((h z).mp (List.mem_cons_of_mem _ hz)) with e | e
        · exact absurd (e ▸ hl'.1 z hz) (irr _)
        · exact e
      · intro hz
        rcases List.mem_cons.mp ((h z).mpr (List.mem_cons_of_mem _ hz)) with e | e
        · exact absurd (e ▸ hm'.1 z hz) (irr _)
        · exact e)
    rw [this]

/-! ## Rows by their first number, then by their second one -/
def rlt : Row → Row → Bool
  | [], [] => false
  | [], _ :: _ => true
  | _ :: _, [] => false
  | x :: a, y :: b => if x = y then rlt a b else decide (x < y)
theorem rlt_irr : ∀ a : Row, rlt a a = false
  | [] => rfl
  | x :: a => by simp [rlt, rlt_irr a]
theorem rlt_asy : ∀ a b : Row, rlt a b = true → rlt b a = true → False
  | [], [], h, _ => by simp [rlt] at h
  | [], _ :: _, _, h => by simp [rlt] at h
  | _ :: _, [], h, _ => by simp [rlt] at h
  | x :: a, y :: b, h, k => by
    unfold rlt at h k
    by_cases e : x = y
    · rw [if_pos e] at h
      rw [if_pos e.symm] at k
      exact rlt_asy a b h k
    · rw [if_neg e] at h
      rw [if_neg (fun q => e q.symm)] at k
      have := of_decide_eq_true h
      have := of_decide_eq_true k
      omega
theorem rlt_trans : ∀ a b c : Row, rlt a b = true → rlt b c = true → rlt a c = true
  | [], [], c, h, _ => by simp [rlt] at h
  | [], _ :: _, [], _, k => by simp [rlt] at k
  | [], _ :: _, _ :: _, _, _ => rfl
  | _ :: _, [], _, h, _ => by simp [rlt] at h
  | _ :: _, _ :: _, [], _, k => by simp [rlt] at k
  | x :: a, y :: b, z :: c, h, k => by
    unfold rlt at h k ⊢
    by_cases e : x = y
    · subst e
      rw [if_pos rfl] at h
      by_cases e2 : x = z
      · subst e2
        rw [if_pos rfl] at k ⊢
        exact rlt_trans a b c h k
      · rw [if_neg e2] at k ⊢
        exact k
    · rw [if_neg e] at h
      have h' := of_decide_eq_true h
      by_cases e2 : y = z
      · subst e2
        rw [if_neg e]
        exact h
      · rw [if_neg e2] at k
        have k' := of_decide_eq_true k
        rw [if_neg (by omega)]
        exact decide_eq_true (by omega)
theorem rlt_total : ∀ a b : Row, a ≠ b → rlt a b = false → rlt b a = true
  | [], [], h, _ => absurd rfl h
  | [], _ :: _, _, h => by simp [rlt] at h
  | _ :: _, [], _, _ => rfl
  | x :: a, y :: b, h, k => by
    unfold rlt at k ⊢
    by_cases e : x = y
    · subst e
      rw [if_pos rfl] at k ⊢
      exact rlt_total a b (fun q => h (by rw [q])) k
    · rw [if_neg e] at k
      rw [if_neg (fun q => e q.symm)]
      have := of_decide_eq_false k
      exact decide_eq_true (by omega)
theorem rlt_find : ∀ a b : Row, a.length = b.length → (((a.zip b).find? fun z => z.1 != z.2).any fun z => decide (z.1 < z.2)) = rlt a b
  | [], [], _ => rfl
  | [], _ :: _, h => by simp at h
  | _ :: _, [], h => by simp at h
  | x :: a, y :: b, h => by
    unfold rlt
    by_cases e : x = y
    · subst e
      simp only [List.zip_cons_cons, bne_self_eq_false, Bool.false_eq_true, not_false_eq_true, List.find?_cons_of_neg, ↓reduceIte]
      exact rlt_find a b (by simpa using h)
    · have hb : (x != y) = true := by simpa using e
      rw [List.zip_cons_cons, List.find?_cons_of_pos (by exact hb), if_neg e]
      rfl
theorem putRow_mem (x : Row) : ∀ (l : List Row) (y : Row), y ∈ putRow x l ↔ y = x ∨ y ∈ l
  | [], y => by simp [putRow]
  | z :: l, y => by
    unfold putRow
    by_cases e : x = z
    · subst e
      simp
    · rw [if_neg e]
      split
      · simp
      · simp only [List.mem_cons, putRow_mem x l]
        constructor
        · rintro (h | h | h)
          · exact .inr (.inl h)
          · exact .inl h
          · exact .inr (.inr h)
        · rintro (h | h | h)
          · exact .inr (.inl h)
          · exact .inl h
          · exact .inr (.inr h)
abbrev RSorted (l : List Row) : Prop := l.Pairwise fun a b => rlt a b = true
theorem putRow_sorted {n : Nat} (x : Row) (hx : x.length = n) : ∀ (l : List Row), (∀ y ∈ l, y.length = n) → RSorted l → RSorted (putRow x l)
  | [], _, _ => by simp [putRow, RSorted]
  | z :: l, hl, hs => by
    have hs' := List.pairwise_cons.mp hs
    unfold putRow
    by_cases e : x = z
    · rw [if_pos e]
      exact hs
    · rw [if_neg e, rlt_find x z (by rw [hx, hl z List.mem_cons_self])]
      by_cases c : rlt x z = true
      · rw [if_pos c]
        refine List.pairwise_cons.mpr ⟨fun y hy => ?_, hs⟩
        rcases List.mem_cons.mp hy with rfl | hy
        · exact c
        · exact rlt_trans _ _ _ c (hs'.1 y hy)
      · rw [if_neg c]
        refine List.pairwise_cons.mpr ⟨fun y hy => ?_, putRow_sorted x hx l (fun y hy => hl y (List.mem_cons_of_mem _ hy)) hs'.2⟩
        rcases (putRow_mem x l y).mp hy with rfl | hy
        · exact rlt_total _ _ e (by simpa using c)
        · exact hs'.1 y hy
theorem putAll {α : Type} {n : Nat} (f : α → Row) : ∀ (g : List α) (l : List Row), (∀ t ∈ g, (f t).length = n) → (∀ y ∈ l, y.length = n) → RSorted l →
    RSorted (g.foldl (fun l t => putRow (f t) l) l) ∧ ∀ y, y ∈ g.foldl (fun l t => putRow (f t) l) l ↔ y ∈ l ∨ ∃ t ∈ g, y = f t
  | [], l, _, _, hs => ⟨hs, fun y => by simp⟩
  | t :: g, l, hg, hl, hs => by
    have ht := hg t List.mem_cons_self
    have := putAll f g (putRow (f t) l) (fun u hu => hg u (List.mem_cons_of_mem _ hu)) (fun y hy => by
      rcases (putRow_mem _ _ _).mp hy with rfl | hy
      · exact ht
      · exact hl y hy) (putRow_sorted _ ht l hl hs)
    refine ⟨this.1, fun y => ?_⟩
    rw [List.foldl_cons, this.2 y, putRow_mem]
    constructor
    · rintro ((h | h) | ⟨u, hu, e⟩)
      · exact .inr ⟨t, List.mem_cons_self, h⟩
      · exact .inl h
      · exact .inr ⟨u, List.mem_cons_of_mem _ hu, e⟩
    · rintro (h | ⟨u, hu, e⟩)
      · exact .inl (.inr h)
      · rcases List.mem_cons.mp hu with rfl | hu
        · exact .inl (.inl e)
        · exact .inr ⟨u, hu, e⟩
/-- the rows of an orbit, however they're found: strictly rising, and those that the generators reach -/
theorem orbit_spec {n : Nat} {gs : List Turn} (hg : ∀ g ∈ gs, Valid n g) {x : Row} (hx : x.length = n) :
    RSorted (Vamete.orbit gs x) ∧ ∀ y, y ∈ Vamete.orbit gs x ↔ ReachG (gs.map Vamete.turned) x y := by
  have G := generated_spec hg
  subst hx
  have V : ∀ t ∈ Vamete.generated x.length gs, (Vamete.turned t x).length = x.length := fun t ht => turned_length (reach_valid hg ((G.2 t).mp ht)) x
  have P := putAll (fun t => Vamete.turned t x) (Vamete.generated x.length gs) [] V (by simp) List.Pairwise.nil
  refine ⟨P.1, fun y => ?_⟩
  show y ∈ List.foldl _ _ _ ↔ _
  rw [P.2 y, reach_rows hg rfl y]
  constructor
  · rintro (h | ⟨t, ht, e⟩)
    · simp at h
    · exact ⟨t, (G.2 t).mp ht, e⟩
  · rintro ⟨t, ht, e⟩
    exact .inr ⟨t, (G.2 t).mpr ht, e⟩
theorem orbit_eq {n : Nat} {gs : List Turn} (hg : ∀ g ∈ gs, Valid n g) {x : Row} (hx : x.length = n) {l : List Row} (hs : RSorted l) (hm : ∀ y, y ∈ l ↔ ReachG (gs.map Vamete.turned) x y) : l = Vamete.orbit gs x := by
  have O := orbit_spec hg hx
  exact sorted_unique (r := fun a b => rlt a b = true) (fun a h => by rw [rlt_irr] at h; cases h) rlt_asy l _ hs O.1 fun y => (hm y).trans (O.2 y).symm

/-! ## Numbers of turns, rising -/
theorem zipIdx_filter_sorted {α : Type} (p : α → Bool) : ∀ (l : List α) (k : Nat), (((l.zipIdx k).filter fun z => p z.1).map fun z => z.2).Pairwise (· < ·)
  | [], _ => by simp
  | x :: l, k => by
    have ih := zipIdx_filter_sorted p l (k + 1)
    rw [List.zipIdx_cons]
    by_cases c : p x = true
    · rw [List.filter_cons_of_pos (by exact c), List.map_cons]
      refine List.pairwise_cons.mpr ⟨fun y hy => ?_, ih⟩
      obtain ⟨z, hz, rfl⟩ := List.mem_map.mp hy
      have := (List.mem_filter.mp hz).1
      have := List.le_snd_of_mem_zipIdx this
      omega
    · rw [List.filter_cons_of_neg (by simpa using c)]
      exact ih
theorem zipIdx_filter_mem {α : Type} (p : α → Bool) (l : List α) (i : Nat) : (i ∈ ((l.zipIdx).filter fun z => p z.1).map fun z => z.2) ↔ ∃ t, l[i]? = some t ∧ p t = true := by
  simp only [List.mem_map, List.mem_filter, List.mem_zipIdx_iff_getElem?, Prod.exists]
  constructor
  · rintro ⟨a, b, ⟨h1, h2⟩, rfl⟩
    exact ⟨a, h1, h2⟩
  · rintro ⟨t, h1, h2⟩
    exact ⟨t, i, ⟨h1, h2⟩, rfl⟩
/-- a strictly rising list of the numbers of just the turns of g is what is told -/
theorem numbersTold_eq {s : State} {g : List Turn} {l : List Nat} (hs : l.Pairwise (· < ·)) (hm : ∀ i, i ∈ l ↔ ∃ t, (turns s)[i]? = some t ∧ t ∈ g) : (l.length : Int) :: l.map (fun (i : Nat) => (i : Int)) = numbersTold s g := by
  have e : l = ((turns s).zipIdx.filter fun z => g.contains z.1).map fun z => z.2 := by
    refine sorted_unique (r := (· < ·)) (fun a h => Nat.lt_irrefl _ h) (fun a b h k => by omega) l _ hs (zipIdx_filter_sorted (fun t => g.contains t) (turns s) 0) fun i => ?_
    rw [hm i, zipIdx_filter_mem (fun t => g.contains t)]
    simp
  subst e
  rfl
end Vm
set_option Elab.async false
set_option linter.unusedSectionVars false
namespace Vm
open Vamete VametBase

/-! ## Rows as numbers -/
theorem readInt_cons (m v : Int) (r : List Int) : readInt m (v :: r) = if 0 - m ≤ v ∧ v ≤ m then some (v, r) else none := rfl
theorem readTimes_int (m : Int) : ∀ (n : Nat) (xs x r : List Int), readTimes (readInt m) n xs = some (x, r) ↔ xs = x ++ r ∧ x.length = n ∧ ∀ v ∈ x, 0 - m ≤ v ∧ v ≤ m
  | 0, xs, x, r => by
    show some ([], xs) = some (x, r) ↔ _
    constructor
    · intro h
      cases h
      simp
    · rintro ⟨h1, h2, _⟩
      have : x = [] := List.length_eq_zero_iff.mp h2
      subst this
      simp at h1
      rw [h1]
  | n + 1, xs, x, r => by
    show ((readInt m xs).bind fun u => (readTimes (readInt m) n u.2).map fun v => (u.1 :: v.1, v.2)) = some (x, r) ↔ _
    match xs with
    | [] =>
      constructor
      · intro h
        cases h
      · rintro ⟨h1, h2, _⟩
        have : x = [] := by
          have := congrArg List.length h1
          simp at this
          exact List.length_eq_zero_iff.mp (by omega)
        subst this
        simp at h2
    | v :: xs =>
      rw [readInt_cons]
      by_cases c : 0 - m ≤ v ∧ v ≤ m
      · rw [if_pos c]
        show ((readTimes (readInt m) n xs).map fun w => (v :: w.1, w.2)) = some (x, r) ↔ _
        constructor
        · intro h
          obtain ⟨⟨y, s⟩, hy, e⟩ := Option.map_eq_some_iff.mp h
          cases e
          obtain ⟨h1, h2, h3⟩ := (readTimes_int m n xs y s).mp hy
          exact ⟨by rw [h1]; rfl, by simp [h2], fun z hz => by
            rcases List.mem_cons.mp hz with rfl | hz
            · exact c
            · exact h3 z hz⟩
        · rintro ⟨h1, h2, h3⟩
          match x, h2 with
          | w :: y, h2 =>
            have e : v = w ∧ xs = y ++ r := by simpa using h1
            obtain ⟨rfl, e2⟩ := e
            have := (readTimes_int m n xs y r).mpr ⟨e2, by simpa using h2, fun z hz => h3 z (List.mem_cons_of_mem _ hz)⟩
            rw [this]
            rfl
      · rw [if_neg c]
        constructor
        · intro h
          cases h
        · rintro ⟨h1, h2, h3⟩
          match x, h2 with
          | w :: y, h2 =>
            have e : v = w ∧ xs = y ++ r := by simpa using h1
            obtain ⟨rfl, e2⟩ := e
            exact absurd (h3 v List.mem_cons_self) c
theorem whole_eq {A : Type} {a : Reader A} {x : List Int} {u : A} : whole a x = some u ↔ a x = some (u, []) := by
  unfold whole
  split
  · rename_i v h
    rw [h]
    constructor
    · intro e
      cases e
      rfl
    · intro e
      cases e
      rfl
  · rename_i h
    constructor
    · intro e
      cases e
    · intro e
      exact absurd e (h u)
theorem whole_row_iff (ns x : List Int) : whole readRow ns = some x ↔ ns = (x.length : Int) :: x ∧ x.length ≤ 8 ∧ ∀ v ∈ x, -99 ≤ v ∧ v ≤ 99 := by
  rw [whole_eq]
  show ((readNat 0 8 ns).bind fun n => readTimes (readInt TOLD) n.1 n.2) = some (x, []) ↔ _
  match ns with
  | [] =>
    constructor
    · intro h
      cases h
    · rintro ⟨h, _⟩
      cases h
  | z :: r =>
    show ((if int 0 ≤ z ∧ z ≤ int 8 then some (z.toNat, r) else none : Option (Nat × List Int)).bind fun n => readTimes (readInt TOLD) n.1 n.2) = some (x, []) ↔ _
    by_cases c : int 0 ≤ z ∧ z ≤ int 8
    · rw [if_pos c]
      show readTimes (readInt TOLD) z.toNat r = some (x, []) ↔ _
      rw [readTimes_int, List.append_nil]
      have c1 : 0 ≤ z ∧ z ≤ 8 := c
      constructor
      · rintro ⟨h1, h2, h3⟩
        refine ⟨?_, by omega, fun v hv => h3 v hv⟩
        rw [h1]
        congr 1
        omega
      · rintro ⟨h1, h2, h3⟩
        have e : z = (x.length : Int) ∧ r = x := by simpa using h1
        exact ⟨e.2, by omega, fun v hv => h3 v hv⟩
    · rw [if_neg c]
      constructor
      · intro h
        cases h
      · rintro ⟨h1, h2, h3⟩
        have e : z = (x.length : Int) ∧ r = x := by simpa using h1
        exact absurd (show int 0 ≤ z ∧ z ≤ int 8 from ⟨by show (0 : Int) ≤ z; omega, by show z ≤ (8 : Int); omega⟩) c
/-- of n numbers -/
def rowOf (n : Nat) (ns : List Int) : Option (List Int) := match whole readRow ns with
  | some x => if x.length = n then some x else none
  | none => none
theorem rowOf_iff {n : Nat} (hn : n ≤ 8) (ns x : List Int) : rowOf n ns = some x ↔ ns = (n : Int) :: x ∧ x.length = n ∧ ∀ v ∈ x, -99 ≤ v ∧ v ≤ 99 := by
  unfold rowOf
  constructor
  · intro h
    cases e : whole readRow ns with
    | none =>
      rw [e] at h
      cases h
    | some y =>
      rw [e] at h
      by_cases hl : y.length = n
      · have h' : (if y.length = n then some y else none) = some x := h
        rw [if_pos hl] at h'
        cases h'
        obtain ⟨h1, h2, h3⟩ := (whole_row_iff ns _).mp e
        exact ⟨by rw [← hl]; exact h1, hl, h3⟩
      · have h' : (if y.length = n then some y else none) = some x := h
        rw [if_neg hl] at h'
        cases h'
  · rintro ⟨h1, h2, h3⟩
    have := (whole_row_iff ns x).mpr ⟨by rw [h2]; exact h1, by omega, h3⟩
    rw [this]
    simp [h2]
end Vm
set_option Elab.async false
set_option linter.unusedSectionVars false
namespace Vm
open Vamete VametBase

/-! ## Steps as numbers: which number stands behind a step -/
/-- what may stand behind the step of a number: from, to -/
def behind (k : Nat) : Option (Int × Int) := if k = 0 ∨ k = 1 ∨ k = 9 then some (-99, 99) else if k = 2 then some (1, 9) else if k = 6 ∨ k = 7 ∨ k = 8 then some (0, 9) else none
/-- a step as the program holds it -/
def pairOf : Step → Int × Int
  | .add c => (0, c)
  | .times c => (1, c)
  | .rest m => (2, int m)
  | .abs => (3, 0)
  | .sort => (4, 0)
  | .reverse => (5, 0)
  | .rotate k => (6, int k)
  | .take k => (7, int k)
  | .drop k => (8, int k)
  | .above c => (9, c)
  | .once => (10, 0)
  | .sum => (11, 0)
  | .greatest => (12, 0)
  | .least => (13, 0)
  | .count => (14, 0)
  | .steps => (15, 0)
  | .sums => (16, 0)
  | .twice => (17, 0)
theorem pairOf_inj {s t : Step} (h : pairOf s = pairOf t) : s = t := by
  cases s <;> cases t <;> simp_all [pairOf, int] <;> omega
/-- without a number behind it -/
theorem readStep_plain {k : Nat} (hk : k ≤ 17) (hb : behind k = none) (r : List Int) : ∃ s, readStep ((k : Int) :: r) = some (s, r) ∧ pairOf s = ((k : Int), 0) := by
  have : k = 3 ∨ k = 4 ∨ k = 5 ∨ k = 10 ∨ k = 11 ∨ k = 12 ∨ k = 13 ∨ k = 14 ∨ k = 15 ∨ k = 16 ∨ k = 17 := by
    unfold behind at hb
    split at hb
    · cases hb
    · split at hb
      · cases hb
      · split at hb
        · cases hb
        · omega
  rcases this with rfl | rfl | rfl | rfl | rfl | rfl | rfl | rfl | rfl | rfl | rfl
  all_goals exact ⟨_, rfl, rfl⟩
theorem readNat_cons (lo hi : Nat) (v : Int) (r : List Int) : readNat lo hi (v :: r) = if int lo ≤ v ∧ v ≤ int hi then some (v.toNat, r) else none := rfl
/-- with one -/
theorem readStep_more {k : Nat} {lo hi : Int} (hb : behind k = some (lo, hi)) (v : Int) (r : List Int) (h1 : lo ≤ v) (h2 : v ≤ hi) : ∃ s, readStep ((k : Int) :: v :: r) = some (s, r) ∧ pairOf s = ((k : Int), v) := by
  unfold behind at hb
  split at hb
  · rename_i c
    cases hb
    rcases c with rfl | rfl | rfl
    · exact ⟨.add v, by show ((readInt TOLD (v :: r)).map fun u => (Step.add u.1, u.2)) = _; rw [readInt_cons, if_pos (by show 0 - (99 : Int) ≤ v ∧ v ≤ (99 : Int); omega)]; rfl, rfl⟩
    · exact ⟨.times v, by show ((readInt TOLD (v :: r)).map fun u => (Step.times u.1, u.2)) = _; rw [readInt_cons, if_pos (by show 0 - (99 : Int) ≤ v ∧ v ≤ (99 : Int); omega)]; rfl, rfl⟩
    · exact ⟨.above v, by show ((readInt TOLD (v :: r)).map fun u => (Step.above u.1, u.2)) = _; rw [readInt_cons, if_pos (by show 0 - (99 : Int) ≤ v ∧ v ≤ (99 : Int); omega)]; rfl, rfl⟩
  · split at hb
    · rename_i c
      cases hb
      subst c
      refine ⟨.rest v.toNat, by show ((readNat 1 SMALL (v :: r)).map fun u => (Step.rest u.1, u.2)) = _; rw [readNat_cons, if_pos (by show (1 : Int) ≤ v ∧ v ≤ (9 : Int); omega)]; rfl, ?_⟩
      show ((2 : Int), ((v.toNat : Nat) : Int)) = _
      rw [Int.toNat_of_nonneg (by omega)]
      rfl
    · split at hb
      · rename_i c
        cases hb
        rcases c with rfl | rfl | rfl
        · refine ⟨.rotate v.toNat, by show ((readNat 0 SMALL (v :: r)).map fun u => (Step.rotate u.1, u.2)) = _; rw [readNat_cons, if_pos (by show (0 : Int) ≤ v ∧ v ≤ (9 : Int); omega)]; rfl, ?_⟩
          show ((6 : Int), ((v.toNat : Nat) : Int)) = _
          rw [Int.toNat_of_nonneg (by omega)]
          rfl
        · refine ⟨.take v.toNat, by show ((readNat 0 SMALL (v :: r)).map fun u => (Step.take u.1, u.2)) = _; rw [readNat_cons, if_pos (by show (0 : Int) ≤ v ∧ v ≤ (9 : Int); omega)]; rfl, ?_⟩
          show ((7 : Int), ((v.toNat : Nat) : Int)) = _
          rw [Int.toNat_of_nonneg (by omega)]
          rfl
        · refine ⟨.drop v.toNat, by show ((readNat 0 SMALL (v :: r)).map fun u => (Step.drop u.1, u.2)) = _; rw [readNat_cons, if_pos (by show (0 : Int) ≤ v ∧ v ≤ (9 : Int); omega)]; rfl, ?_⟩
          show ((8 : Int), ((v.toNat : Nat) : Int)) = _
          rw [Int.toNat_of_nonneg (by omega)]
          rfl
      · cases hb
theorem readStep_bad {k : Nat} {lo hi : Int} (hb : behind k = some (lo, hi)) (r : List Int) (h : ∀ v r', r = v :: r' → ¬ (lo ≤ v ∧ v ≤ hi)) : readStep ((k : Int) :: r) = none := by
  have key : ∀ {A : Type} (f : Int → Step) (g : Nat → Step), (lo = -99 ∧ hi = 99 → ((readInt TOLD r).map fun u => (f u.1, u.2)) = none) ∧ ((lo = 1 ∧ hi = 9) → ((readNat 1 SMALL r).map fun u => (g u.1, u.2)) = none) ∧ ((lo = 0 ∧ hi = 9) → ((readNat 0 SMALL r).map fun u => (g u.1, u.2)) = none) := by
    intro A f g
    match r with
    | [] => exact ⟨fun _ => rfl, fun _ => rfl, fun _ => rfl⟩
    | v :: r' =>
      have hv := h v r' rfl
      refine ⟨fun e => ?_, fun e => ?_, fun e => ?_⟩
      · rw [readInt_cons, if_neg (by show ¬ (0 - (99 : Int) ≤ v ∧ v ≤ (99 : Int)); omega)]; rfl
      · rw [readNat_cons, if_neg (by show ¬ ((1 : Int) ≤ v ∧ v ≤ (9 : Int)); omega)]; rfl
      · rw [readNat_cons, if_neg (by show ¬ ((0 : Int) ≤ v ∧ v ≤ (9 : Int)); omega)]; rfl
  unfold behind at hb
  split at hb
  · rename_i c
    cases hb
    rcases c with rfl | rfl | rfl
    · exact (key (A := Unit) Step.add Step.rest).1 ⟨rfl, rfl⟩
    · exact (key (A := Unit) Step.times Step.rest).1 ⟨rfl, rfl⟩
    · exact (key (A := Unit) Step.above Step.rest).1 ⟨rfl, rfl⟩
  · split at hb
    · rename_i c
      cases hb
      subst c
      exact (key (A := Unit) Step.add Step.rest).2.1 ⟨rfl, rfl⟩
    · split at hb
      · rename_i c
        cases hb
        rcases c with rfl | rfl | rfl
        · exact (key (A := Unit) Step.add Step.rotate).2.2 ⟨rfl, rfl⟩
        · exact (key (A := Unit) Step.add Step.take).2.2 ⟨rfl, rfl⟩
        · exact (key (A := Unit) Step.add Step.drop).2.2 ⟨rfl, rfl⟩
      · cases hb
theorem readStep_nil : readStep [] = none := rfl
theorem readStep_out (v : Int) (r : List Int) (h : ¬ (0 ≤ v ∧ v ≤ 17)) : readStep (v :: r) = none := by
  unfold readStep
  split
  all_goals first | rfl | (rename_i e; simp only [List.cons.injEq] at e; omega) | (rename_i e _ ; simp only [List.cons.injEq] at e; omega)
/-- how many are left -/
theorem readStep_drop {x r : List Int} {s : Step} (h : readStep x = some (s, r)) : ∃ k, x.drop k = r ∧ k ≤ x.length := by
  match x with
  | [] => cases h
  | v :: x =>
    by_cases c : 0 ≤ v ∧ v ≤ 17
    · have hv : v = (v.toNat : Int) := by omega
      have hk : v.toNat ≤ 17 := by omega
      rw [hv] at h
      cases hb : behind v.toNat with
      | none =>
        obtain ⟨t, ht, _⟩ := readStep_plain hk hb x
        rw [ht] at h
        cases h
        exact ⟨1, rfl, by simp⟩
      | some b =>
        obtain ⟨lo, hi⟩ := b
        by_cases q : ∃ u x', x = u :: x' ∧ lo ≤ u ∧ u ≤ hi
        · obtain ⟨u, x', rfl, q1, q2⟩ := q
          obtain ⟨t, ht, _⟩ := readStep_more hb u x' q1 q2
          rw [ht] at h
          cases h
          exact ⟨2, rfl, by simp⟩
        · rw [readStep_bad hb x (fun u x' e z => q ⟨u, x', e, z⟩)] at h
          cases h
    · rw [readStep_out v x c] at h
      cases h
end Vm
set_option Elab.async false
set_option linter.unusedSectionVars false
namespace Vm
open Vamete VametBase

/-! ## Turns as the program holds them -/
def heldAt (p : Nat × Bool) : Int := if p.2 then -((p.1 : Int) + 1) else (p.1 : Int) + 1
def held (t : Turn) : List Int := (t.places.zip t.signs).map heldAt
/-- within n places -/
def okAt (n : Nat) (e : Int) : Prop := (0 < e ∧ e ≤ (n : Int)) ∨ (e < 0 ∧ -e ≤ (n : Int))
def pickL (x : List Int) (e : Int) : Int := if 0 < e then (x[(e - 1).toNat]?).getD 0 else -((x[(-e - 1).toNat]?).getD 0)
def turnedL (c x : List Int) : List Int := c.map (pickL x)
theorem held_length {n : Nat} {t : Turn} (h : Valid n t) : (held t).length = n := by simp [held, h.lp, h.ls]
theorem held_ok {n : Nat} {t : Turn} (h : Valid n t) : ∀ e ∈ held t, okAt n e := by
  intro e he
  obtain ⟨⟨p, s⟩, hp, rfl⟩ := List.mem_map.mp he
  have := h.lt p (List.of_mem_zip hp).1
  cases s
  · left
    simp only [heldAt]
    constructor
    · simp <;> omega
    · simp <;> omega
  · right
    simp only [heldAt]
    constructor
    · simp <;> omega
    · simp <;> omega
theorem pickL_held (x : List Int) (p : Nat) (s : Bool) : pickL x (heldAt (p, s)) = signed s ((x[p]?).getD 0) := by
  cases s
  · simp only [heldAt, pickL, signed]
    have : 0 < (p : Int) + 1 := by omega
    simp [this]
  · simp only [heldAt, pickL, signed]
    have : ¬ 0 < -((p : Int) + 1) := by omega
    have e : (- -((p : Int) + 1) - 1).toNat = p := by omega
    show (if 0 < -((p : Int) + 1) then _ else -((x[(- -((p : Int) + 1) - 1).toNat]?).getD 0)) = 0 - (x[p]?).getD 0
    rw [if_neg this, e]
    omega
theorem turnedL_row (t : Turn) (x : Row) : turnedL (held t) x = Vamete.turned t x := by
  unfold turnedL held Vamete.turned
  rw [List.map_map]
  refine List.map_congr_left ?_
  rintro ⟨p, s⟩ _
  exact pickL_held x p s
theorem held_at {n : Nat} {t : Turn} (h : Valid n t) {p : Nat} (hp : p < n) : (held t)[p]? = some (heldAt ((t.places[p]?).getD 0, (t.signs[p]?).getD false)) := by
  have h1 : p < t.places.length := by rw [h.lp]; exact hp
  have h2 : p < t.signs.length := by rw [h.ls]; exact hp
  have h3 : p < (t.places.zip t.signs).length := by simp [h.lp, h.ls, hp]
  simp only [held, List.getElem?_map, List.getElem?_eq_getElem h3, List.getElem?_eq_getElem h1, List.getElem?_eq_getElem h2, Option.map_some, List.getElem_zip, Option.getD_some]
theorem turnedL_held {n : Nat} {g t : Turn} (hg : Valid n g) (ht : Valid n t) : turnedL (held g) (held t) = held (after g t) := by
  show ((g.places.zip g.signs).map heldAt).map (pickL (held t)) = (((g.places.map fun p => (t.places[p]?).getD 0).zip ((g.places.zip g.signs).map fun p => p.2 != (t.signs[p.1]?).getD false)).map heldAt)
  rw [zip_maps _ _ _ _ (by rw [hg.lp, hg.ls]), List.map_map, List.map_map]
  refine List.map_congr_left ?_
  rintro ⟨p, s⟩ hps
  have hp : p < n := hg.lt p (List.of_mem_zip hps).1
  simp only [Function.comp]
  rw [pickL_held, held_at ht hp, Option.getD_some]
  cases s <;> cases (t.signs[p]?).getD false <;> simp [signed, heldAt]
theorem heldAt_inj {p q : Nat × Bool} (h : heldAt p = heldAt q) : p = q := by
  obtain ⟨a, b⟩ := p
  obtain ⟨c, d⟩ := q
  cases b <;> cases d <;> simp [heldAt] at h <;> first | (simp; omega) | (exfalso; omega)
theorem map_inj {α β : Type} {f : α → β} (hf : ∀ {a b}, f a = f b → a = b) : ∀ {l m : List α}, l.map f = m.map f → l = m
  | [], [], _ => rfl
  | [], _ :: _, h => by simp at h
  | _ :: _, [], h => by simp at h
  | x :: l, y :: m, h => by
    simp only [List.map_cons, List.cons.injEq] at h
    rw [hf h.1, map_inj hf h.2]
theorem zip_inj {α β : Type} : ∀ {a c : List α} {b d : List β}, a.length = b.length → c.length = d.length → a.zip b = c.zip d → a = c ∧ b = d
  | [], [], [], [], _, _, _ => ⟨rfl, rfl⟩
  | [], _ :: _, [], _ :: _, _, _, h => by simp at h
  | _ :: _, [], _ :: _, [], _, _, h => by simp at h
  | x :: a, y :: c, z :: b, w :: d, h1, h2, h => by
    simp only [List.zip_cons_cons, List.cons.injEq, Prod.mk.injEq] at h
    obtain ⟨e1, e2⟩ := zip_inj (by simpa using h1) (by simpa using h2) h.2
    exact ⟨by rw [h.1.1, e1], by rw [h.1.2, e2]⟩
  | [], _, _ :: _, _, h, _, _ => by simp at h
  | _ :: _, _, [], _, h, _, _ => by simp at h
  | _, [], _, _ :: _, _, h, _ => by simp at h
  | _, _ :: _, _, [], _, h, _ => by simp at h
theorem held_inj {n : Nat} {s t : Turn} (hs : Valid n s) (ht : Valid n t) (h : held s = held t) : s = t := by
  have := map_inj (fun {a b} => heldAt_inj) h
  obtain ⟨e1, e2⟩ := zip_inj (by rw [hs.lp, hs.ls]) (by rw [ht.lp, ht.ls]) this
  cases s
  cases t
  simp at e1 e2
  rw [e1, e2]

/-! ## Places and signs of a held turn; numbers -/
def sourcesL (c : List Int) : List Int := c.map fun e => (if e < 0 then -e else e) - 1
def signsL (c : List Int) : List Int := c.map fun e => if e < 0 then 1 else 0
theorem sourcesL_held {n : Nat} {t : Turn} (h : Valid n t) : sourcesL (held t) = t.places.map int := by
  unfold sourcesL held
  rw [List.map_map]
  have e : t.places = (t.places.zip t.signs).map Prod.fst := by rw [List.map_fst_zip (by rw [h.lp, h.ls]; exact Nat.le_refl _)]
  conv => rhs; rw [e]
  rw [List.map_map]
  refine List.map_congr_left ?_
  rintro ⟨p, s⟩ _
  cases s
  · simp only [Function.comp, heldAt, int]
    have : ¬ ((p : Int) + 1 < 0) := by omega
    simp [this]
  · simp only [Function.comp, heldAt, int]
    have : -((p : Int) + 1) < 0 := by omega
    simp [this] <;> omega
theorem signsL_held {n : Nat} {t : Turn} (h : Valid n t) : signsL (held t) = bits t.signs := by
  unfold signsL held bits
  rw [List.map_map]
  have e : t.signs = (t.places.zip t.signs).map Prod.snd := by rw [List.map_snd_zip (by rw [h.lp, h.ls]; exact Nat.le_refl _)]
  conv => rhs; rw [e]
  rw [List.map_map]
  refine List.map_congr_left ?_
  rintro ⟨p, s⟩ _
  cases s
  · simp only [Function.comp, heldAt]
    have : ¬ ((p : Int) + 1 < 0) := by omega
    simp [this]
  · simp only [Function.comp, heldAt]
    have : -((p : Int) + 1) < 0 := by omega
    simp [this]
/-- one source more -/
def numStep (st : Int × List Int) (src : Int) : Int × List Int := (st.1 * (st.2.length : Int) + (st.2.idxOf src : Int), st.2.eraseIdx (st.2.idxOf src))
def numberL (c : List Int) : Int := (signsL c).foldl (fun n g => n * 2 + g) ((sourcesL c).foldl numStep (0, (List.range c.length).map int)).1
/-- the remainders, the last one first, and what is left -/
def digitsL (bs : List Int) (k : Int) : List Int × Int := bs.foldl (fun st b => (st.2 % b :: st.1, st.2 / b)) ([], k)
def popStep (st : List Int × List Int) (j : Int) : List Int × List Int := (st.1 ++ [(st.2[j.toNat]?).getD 0], st.2.eraseIdx j.toNat)
def rankedL (n : Nat) (k : Int) : List Int := ((digitsL ((List.range n).map fun (i : Nat) => ((i : Int) + 1)) k).1.foldl popStep ([], (List.range n).map int)).1
def turnL (n : Nat) (k : Int) : List Int :=
  let d := digitsL (List.replicate n 2) k
  ((rankedL n d.2).zip d.1).map fun z => if z.2 = 1 then -z.1 - 1 else z.1 + 1
def undoStep (st : List Int × Int) (e : Int) : List Int × Int := (st.1.set ((if e < 0 then -e else e) - 1).toNat (if 0 < e then st.2 + 1 else -st.2 - 1), st.2 + 1)
def undoneL (c : List Int) : List Int := (c.foldl undoStep (c, 0)).1
def tableOk (n : Nat) : Bool := (allTurns n).zipIdx.all fun z => numberL (held z.1) == (z.2 : Int) && (turnL n (z.2 : Int) == held z.1) && (undoneL (held z.1) == held (Vamete.back z.1))
set_option maxRecDepth 100000 in
theorem table : ∀ n, n ≤ 4 → tableOk n = true := by
  intro n h
  have : n = 0 ∨ n = 1 ∨ n = 2 ∨ n = 3 ∨ n = 4 := by omega
  rcases this with rfl | rfl | rfl | rfl | rfl
  all_goals decide +kernel
theorem table_at {n : Nat} (h : n ≤ 4) {k : Nat} {t : Turn} (ht : (allTurns n)[k]? = some t) : numberL (held t) = (k : Int) ∧ turnL n (k : Int) = held t ∧ undoneL (held t) = held (Vamete.back t) := by
  have T := table n h
  unfold tableOk at T
  rw [List.all_eq_true] at T
  have := T (t, k) (by rw [List.mem_zipIdx_iff_getElem?]; exact ht)
  simp only [Bool.and_eq_true, beq_iff_eq] at this
  exact ⟨this.1.1, this.1.2, this.2⟩
/-- a turn's number is the one that the program tells -/
theorem number_eq {n : Nat} (h : n ≤ 4) {t : Turn} (v : Valid n t) : numberL (held t) = ((numberOf n t : Nat) : Int) := by
  have hm := (mem_allTurns n t).mpr v
  have hlt : (allTurns n).findIdx (fun s => s == t) < (allTurns n).length := List.findIdx_lt_length_of_exists ⟨t, hm, by simp⟩
  have hget := List.findIdx_getElem (w := hlt)
  have e : (allTurns n)[(allTurns n).findIdx fun s => s == t] = t := by simpa using hget
  have := table_at h (k := (allTurns n).findIdx fun s => s == t) (t := t) (by rw [List.getElem?_eq_getElem hlt, e])
  exact this.1
theorem numberOf_get {n : Nat} {t : Turn} (v : Valid n t) : (allTurns n)[numberOf n t]? = some t := by
  have hm := (mem_allTurns n t).mpr v
  have hlt : (allTurns n).findIdx (fun s => s == t) < (allTurns n).length := List.findIdx_lt_length_of_exists ⟨t, hm, by simp⟩
  have hget := List.findIdx_getElem (w := hlt)
  have e : (allTurns n)[(allTurns n).findIdx fun s => s == t] = t := by simpa using hget
  show (allTurns n)[(allTurns n).findIdx fun s => s == t]? = some t
  rw [List.getElem?_eq_getElem hlt, e]
theorem held_same (n : Nat) : held (same n) = (List.range n).map fun (i : Nat) => ((i : Int) + 1) := by
  apply List.ext_getElem?
  intro p
  by_cases hp : p < n
  · rw [held_at (valid_same n) hp]
    simp [same, hp, heldAt]
  · rw [List.getElem?_eq_none (by rw [held_length (valid_same n)]; omega), List.getElem?_eq_none (by simp; omega)]
end Vm
set_option Elab.async false
set_option linter.unusedSectionVars false
namespace Vm
open PyFlat PyVamete

/-! ## One call read off the list -/
theorem row_inv {r x t : List Int} (h : PyFlat.row r = some (x, t)) : r = (x.length : Int) :: (x ++ t) := by
  match r with
  | [] => cases h
  | n :: r =>
    have h' : (if 0 ≤ n ∧ n.toNat ≤ r.length then some (r.take n.toNat, r.drop n.toNat) else none) = some (x, t) := h
    by_cases c : 0 ≤ n ∧ n.toNat ≤ r.length
    · rw [if_pos c] at h'
      cases h'
      rw [List.take_append_drop, List.length_take, Nat.min_eq_left c.2]
      congr 1
      omega
    · rw [if_neg c] at h'
      cases h'
theorem rows0_inv {r : List Int} {xs : List (List Int)} {t : List Int} (h : PyFlat.rows 0 r = some (xs, t)) : xs = [] ∧ t = r := by
  have h' : some (([] : List (List Int)), r) = some (xs, t) := h
  cases h'
  exact ⟨rfl, rfl⟩
theorem rowsS_inv {k : Nat} {r : List Int} {xs : List (List Int)} {t : List Int} (h : PyFlat.rows (k + 1) r = some (xs, t)) : ∃ x s ys, PyFlat.row r = some (x, s) ∧ PyFlat.rows k s = some (ys, t) ∧ xs = x :: ys := by
  unfold PyFlat.rows at h
  cases e : PyFlat.row r with
  | none =>
    rw [e] at h
    cases h
  | some z =>
    obtain ⟨x, s⟩ := z
    rw [e] at h
    dsimp only at h
    cases e2 : PyFlat.rows k s with
    | none =>
      rw [e2] at h
      cases h
    | some z =>
      obtain ⟨ys, t'⟩ := z
      rw [e2] at h
      cases h
      exact ⟨x, s, ys, rfl, e2, rfl⟩
theorem call_inv {sh : Int → Option (Nat × Nat)} {p : Int} {r : List Int} {c : List (List Int)} {t : List Int} {n k : Nat} (hs : sh p = some (n, k)) (h : PyFlat.call sh (p :: r) = some (c, t)) :
    n ≤ r.length ∧ ∃ xs, PyFlat.rows k (r.drop n) = some (xs, t) ∧ c = (p :: r.take n) :: xs := by
  unfold PyFlat.call at h
  dsimp only at h
  rw [hs] at h
  dsimp only at h
  by_cases cc : r.length < n
  · rw [if_pos cc] at h
    cases h
  · rw [if_neg cc] at h
    cases e : PyFlat.rows k (r.drop n) with
    | none =>
      rw [e] at h
      cases h
    | some z =>
      obtain ⟨xs, t'⟩ := z
      rw [e] at h
      cases h
      exact ⟨by omega, xs, rfl, rfl⟩
theorem call00 {sh : Int → Option (Nat × Nat)} {p : Int} {r : List Int} {c : List (List Int)} {t : List Int} (hs : sh p = some (0, 0)) (h : PyFlat.call sh (p :: r) = some (c, t)) : r = t ∧ c = [[p]] := by
  obtain ⟨_, xs, h1, h2⟩ := call_inv hs h
  obtain ⟨rfl, rfl⟩ := rows0_inv h1
  exact ⟨rfl, h2⟩
theorem call10 {sh : Int → Option (Nat × Nat)} {p : Int} {r : List Int} {c : List (List Int)} {t : List Int} (hs : sh p = some (1, 0)) (h : PyFlat.call sh (p :: r) = some (c, t)) : ∃ x, r = x :: t ∧ c = [[p, x]] := by
  obtain ⟨hl, xs, h1, h2⟩ := call_inv hs h
  obtain ⟨rfl, rfl⟩ := rows0_inv h1
  match r, hl with
  | x :: r, _ => exact ⟨x, rfl, h2⟩
theorem call20 {sh : Int → Option (Nat × Nat)} {p : Int} {r : List Int} {c : List (List Int)} {t : List Int} (hs : sh p = some (2, 0)) (h : PyFlat.call sh (p :: r) = some (c, t)) : ∃ x y, r = x :: y :: t ∧ c = [[p, x, y]] := by
  obtain ⟨hl, xs, h1, h2⟩ := call_inv hs h
  obtain ⟨rfl, rfl⟩ := rows0_inv h1
  match r, hl with
  | x :: y :: r, _ => exact ⟨x, y, rfl, h2⟩
  | [_], hl => simp at hl
theorem call01 {sh : Int → Option (Nat × Nat)} {p : Int} {r : List Int} {c : List (List Int)} {t : List Int} (hs : sh p = some (0, 1)) (h : PyFlat.call sh (p :: r) = some (c, t)) : ∃ l : List Int, r = (l.length : Int) :: (l ++ t) ∧ c = [[p], l] := by
  obtain ⟨hl, xs, h1, h2⟩ := call_inv hs h
  obtain ⟨x, s, ys, e1, e2, rfl⟩ := rowsS_inv h1
  obtain ⟨rfl, rfl⟩ := rows0_inv e2
  exact ⟨x, row_inv e1, h2⟩
theorem call11 {sh : Int → Option (Nat × Nat)} {p : Int} {r : List Int} {c : List (List Int)} {t : List Int} (hs : sh p = some (1, 1)) (h : PyFlat.call sh (p :: r) = some (c, t)) : ∃ (y : Int) (l : List Int), r = y :: (l.length : Int) :: (l ++ t) ∧ c = [[p, y], l] := by
  obtain ⟨hl, xs, h1, h2⟩ := call_inv hs h
  obtain ⟨x, s, ys, e1, e2, rfl⟩ := rowsS_inv h1
  obtain ⟨rfl, rfl⟩ := rows0_inv e2
  match r, hl with
  | y :: r, _ =>
    have := row_inv e1
    exact ⟨y, x, by rw [← this]; rfl, h2⟩
theorem call02 {sh : Int → Option (Nat × Nat)} {p : Int} {r : List Int} {c : List (List Int)} {t : List Int} (hs : sh p = some (0, 2)) (h : PyFlat.call sh (p :: r) = some (c, t)) : ∃ l m : List Int, r = (l.length : Int) :: (l ++ ((m.length : Int) :: (m ++ t))) ∧ c = [[p], l, m] := by
  obtain ⟨hl, xs, h1, h2⟩ := call_inv hs h
  obtain ⟨x, s, ys, e1, e2, rfl⟩ := rowsS_inv h1
  obtain ⟨x2, s2, ys2, e3, e4, rfl⟩ := rowsS_inv e2
  obtain ⟨rfl, rfl⟩ := rows0_inv e4
  refine ⟨x, x2, ?_, h2⟩
  have q1 := row_inv e1
  have q2 := row_inv e3
  rw [q2] at q1
  exact q1

/-! ## Places in a list, by what is left -/
theorem drop_cons {α : Type} {ns : List α} {p : Nat} {x : α} {t : List α} (h : ns.drop p = x :: t) : ns[p]? = some x ∧ ns.drop (p + 1) = t ∧ p + 1 ≤ ns.length := by
  have hl : p < ns.length := by
    have := congrArg List.length h
    rw [List.length_drop, List.length_cons] at this
    omega
  rw [List.drop_eq_getElem_cons hl] at h
  cases h
  exact ⟨List.getElem?_eq_getElem hl, rfl, hl⟩
theorem drop_app {α : Type} {ns l t : List α} {p : Nat} (h : ns.drop p = l ++ t) (hp : p ≤ ns.length) : (ns.drop p).take l.length = l ∧ ns.drop (p + l.length) = t ∧ p + l.length ≤ ns.length := by
  refine ⟨by rw [h, List.take_left], by rw [← List.drop_drop, h, List.drop_left], ?_⟩
  have := congrArg List.length h
  rw [List.length_drop, List.length_append] at this
  omega
theorem step_some {s : VameteNeutral.S} {c : List (List Int)} {k : Vamete.Call} (h : VameteNeutral.callOf c = some k) : VameteNeutral.step s c = Vamete.step s k := by
  unfold VameteNeutral.step
  rw [h]
  rfl
theorem turnAt_some {s : Vamete.State} {k : Int} {t : Vamete.Turn} (h : Vamete.turnAt s k = some t) : 0 ≤ k ∧ k < (((Vamete.allTurns s.places).length : Nat) : Int) ∧ (Vamete.allTurns s.places)[k.toNat]? = some t := by
  unfold Vamete.turnAt at h
  by_cases c : k < 0
  · rw [if_pos c] at h
    cases h
  · rw [if_neg c] at h
    have h' : (Vamete.allTurns s.places)[k.toNat]? = some t := h
    have := (List.getElem?_eq_some_iff.mp h').1
    exact ⟨by omega, by omega, h'⟩
theorem turnAt_of {s : Vamete.State} {k : Int} (h0 : 0 ≤ k) (h1 : k < (((Vamete.allTurns s.places).length : Nat) : Int)) : ∃ t, Vamete.turnAt s k = some t ∧ (Vamete.allTurns s.places)[k.toNat]? = some t ∧ Valid s.places t := by
  have hl : k.toNat < (Vamete.allTurns s.places).length := by omega
  refine ⟨(Vamete.allTurns s.places)[k.toNat], ?_, List.getElem?_eq_getElem hl, (mem_allTurns _ _).mp (List.getElem_mem hl)⟩
  unfold Vamete.turnAt
  rw [if_neg (by omega)]
  exact List.getElem?_eq_getElem hl
theorem turnAt_none {s : Vamete.State} {k : Int} (h : ¬ (0 ≤ k ∧ k < (((Vamete.allTurns s.places).length : Nat) : Int))) : Vamete.turnAt s k = none := by
  unfold Vamete.turnAt
  by_cases c : k < 0
  · rw [if_pos c]
  · rw [if_neg c]
    exact List.getElem?_eq_none (by show (Vamete.allTurns s.places).length ≤ k.toNat; omega)
end Vm
set_option Elab.async false
set_option linter.unusedSectionVars false
namespace Vm
open Vamete VametBase

/-! ## What each call answers -/
theorem readNat_one (lo hi : Nat) (v : Int) : readNat lo hi [v] = if int lo ≤ v ∧ v ≤ int hi then some (v.toNat, []) else none := rfl
theorem step_size_bad {s : State} {n h : Int} (c : ¬ (0 ≤ n ∧ n ≤ 4 ∧ 0 ≤ h ∧ h ≤ 9)) : step s (.size n h) = (s, [-1]) := by
  show (match readNat 0 PLACES [n], readNat 0 SMALL [h] with
    | some a, some b => if ROWS < countOf a.1 b.1 then refused s (-7) else ({ s with places := a.1, high := b.1 }, [int (countOf a.1 b.1), int (allTurns a.1).length])
    | _, _ => refused s (-1)) = _
  rw [readNat_one, readNat_one]
  by_cases c1 : int 0 ≤ n ∧ n ≤ int PLACES
  · rw [if_pos c1]
    have c2 : ¬ (int 0 ≤ h ∧ h ≤ int SMALL) := fun q => c ⟨c1.1, c1.2, q.1, q.2⟩
    rw [if_neg c2]
    rfl
  · rw [if_neg c1]
    rfl
theorem step_size {s : State} {n h : Nat} (hn : n ≤ 4) (hh : h ≤ 9) : step s (.size (n : Int) (h : Int)) = if 130 < countOf n h then (s, [-7]) else ({ s with places := n, high := h }, [int (countOf n h), int (allTurns n).length]) := by
  show (match readNat 0 PLACES [(n : Int)], readNat 0 SMALL [(h : Int)] with
    | some a, some b => if ROWS < countOf a.1 b.1 then refused s (-7) else ({ s with places := a.1, high := b.1 }, [int (countOf a.1 b.1), int (allTurns a.1).length])
    | _, _ => refused s (-1)) = _
  rw [readNat_one, readNat_one, if_pos (show int 0 ≤ (n : Int) ∧ (n : Int) ≤ int PLACES from ⟨by show (0 : Int) ≤ n; omega, by show (n : Int) ≤ 4; omega⟩), if_pos (show int 0 ≤ (h : Int) ∧ (h : Int) ≤ int SMALL from ⟨by show (0 : Int) ≤ h; omega, by show (h : Int) ≤ 9; omega⟩)]
  rfl
theorem step_program_bad {s : State} {w : Int} {l : List Int} (c : whole readProgram l = none) : step s (.program w l) = (s, [-1]) := by
  show (match whole readProgram l with
    | none => refused s (-1)
    | some p => if w = 0 then ({ s with first := p }, [int p.length]) else if w = 1 then ({ s with second := p }, [int p.length]) else refused s (-2)) = _
  rw [c]
  rfl
theorem step_program {s : State} {w : Int} {l : List Int} {p : Program} (c : whole readProgram l = some p) : step s (.program w l) = if w = 0 then ({ s with first := p }, [int p.length]) else if w = 1 then ({ s with second := p }, [int p.length]) else (s, [-2]) := by
  show (match whole readProgram l with
    | none => refused s (-1)
    | some p => if w = 0 then ({ s with first := p }, [int p.length]) else if w = 1 then ({ s with second := p }, [int p.length]) else refused s (-2)) = _
  rw [c]
  rfl
theorem onTurn_none {s : State} {k : Int} {f : Turn → Answer} (h : turnAt s k = none) : onTurn s k f = (s, [-2]) := by
  unfold onTurn
  rw [h]
  rfl
theorem onTurn_some {s : State} {k : Int} {t : Turn} {f : Turn → Answer} (h : turnAt s k = some t) : onTurn s k f = (s, f t) := by
  unfold onTurn
  rw [h]
theorem step_compose {s : State} {j k : Int} {t u : Turn} (h1 : turnAt s j = some t) (h2 : turnAt s k = some u) : step s (.compose j k) = (s, [number s (after t u)]) := by
  show (match turnAt s j, turnAt s k with
    | some t, some u => (s, [number s (after t u)])
    | _, _ => refused s (-2)) = _
  rw [h1, h2]
theorem step_compose_bad {s : State} {j k : Int} (h : turnAt s j = none ∨ turnAt s k = none) : step s (.compose j k) = (s, [-2]) := by
  show (match turnAt s j, turnAt s k with
    | some t, some u => (s, [number s (after t u)])
    | _, _ => refused s (-2)) = _
  rcases h with h | h
  · rw [h]
    rfl
  · rw [h]
    cases turnAt s j <;> rfl
theorem mapM_turns {s : State} : ∀ (ks : List Int), (∀ k ∈ ks, (turnAt s k).isSome = true) → ∃ gs, ks.mapM (turnAt s) = some gs ∧ gs.length = ks.length ∧ ∀ (i : Nat) (k : Int), ks[i]? = some k → ∃ t, gs[i]? = some t ∧ turnAt s k = some t
  | [], _ => ⟨[], rfl, rfl, by simp⟩
  | k :: ks, h => by
    obtain ⟨t, ht⟩ := Option.isSome_iff_exists.mp (h k List.mem_cons_self)
    obtain ⟨gs, hg, hl, hi⟩ := mapM_turns ks (fun z hz => h z (List.mem_cons_of_mem _ hz))
    refine ⟨t :: gs, by rw [List.mapM_cons, ht, hg]; rfl, by simp [hl], fun i z hz => ?_⟩
    match i, hz with
    | 0, hz =>
      have e : k = z := by simpa using hz
      subst e
      exact ⟨t, rfl, ht⟩
    | i + 1, hz => exact hi i z (by simpa using hz)
theorem mapM_none {s : State} : ∀ (ks : List Int), (∃ k ∈ ks, turnAt s k = none) → ks.mapM (turnAt s) = none
  | [], h => by obtain ⟨_, h, _⟩ := h; simp at h
  | k :: ks, h => by
    rw [List.mapM_cons]
    cases e : turnAt s k with
    | none => rfl
    | some t =>
      obtain ⟨z, hz, hn⟩ := h
      rcases List.mem_cons.mp hz with rfl | hz
      · rw [e] at hn
        cases hn
      · rw [mapM_none ks ⟨z, hz, hn⟩]
        rfl
theorem onTurns_none {s : State} {ks : List Int} {f : List Turn → Answer} (h : ∃ k ∈ ks, turnAt s k = none) : onTurns s ks f = (s, [-2]) := by
  unfold onTurns
  rw [mapM_none ks h]
  rfl
/-- the turns of some numbers: what the program holds of them -/
theorem onTurns_some {s : State} (hn : s.places ≤ 4) {ks : List Int} {f : List Turn → Answer} (h : ∀ k ∈ ks, 0 ≤ k ∧ k < (((allTurns s.places).length : Nat) : Int)) :
    ∃ gs, onTurns s ks f = (s, f gs) ∧ (∀ g ∈ gs, Valid s.places g) ∧ ks.map (turnL s.places) = gs.map held ∧ gs.length = ks.length := by
  obtain ⟨gs, hg, hl, hi⟩ := mapM_turns (s := s) ks (fun k hk => by
    obtain ⟨t, ht, _⟩ := turnAt_of (s := s) (h k hk).1 (h k hk).2
    rw [ht]
    rfl)
  refine ⟨gs, by unfold onTurns; rw [hg], fun g hm => ?_, ?_, hl⟩
  · obtain ⟨i, hx⟩ := List.mem_iff_getElem?.mp hm
    have hlt : i < ks.length := by
      rw [← hl]
      exact (List.getElem?_eq_some_iff.mp hx).1
    obtain ⟨t, h1, h2⟩ := hi i ks[i] (List.getElem?_eq_getElem hlt)
    rw [hx] at h1
    cases h1
    exact (mem_allTurns _ _).mp (List.mem_of_getElem? (turnAt_some h2).2.2)
  · apply List.ext_getElem?
    intro i
    rw [List.getElem?_map, List.getElem?_map]
    by_cases c : i < ks.length
    · obtain ⟨t, h1, h2⟩ := hi i ks[i] (List.getElem?_eq_getElem c)
      obtain ⟨q0, _, q⟩ := turnAt_some h2
      have := (table_at hn q).2.1
      rw [h1, List.getElem?_eq_getElem c]
      have e : ((ks[i].toNat : Nat) : Int) = ks[i] := by omega
      rw [e] at this
      show some (turnL s.places ks[i]) = some (held t)
      rw [this]
    · rw [List.getElem?_eq_none (by omega), List.getElem?_eq_none (by omega)]
      rfl
theorem reach_held {n : Nat} {gs : List Turn} (hg : ∀ g ∈ gs, Valid n g) (y : List Int) : ReachG ((gs.map held).map turnedL) (held (same n)) y ↔ ∃ t, Reach n gs t ∧ y = held t := by
  constructor
  · intro h
    induction h with
    | start => exact ⟨same n, .start, rfl⟩
    | next hf _ ih =>
      rw [List.map_map] at hf
      obtain ⟨g, hm, rfl⟩ := List.mem_map.mp hf
      obtain ⟨t, ht, rfl⟩ := ih
      refine ⟨after g t, .next (List.mem_map.mpr ⟨g, hm, rfl⟩) ht, ?_⟩
      exact turnedL_held (hg g hm) (reach_valid hg ht)
  · rintro ⟨t, ht, rfl⟩
    induction ht with
    | start => exact .start
    | next hf hr ih =>
      obtain ⟨g, hm, rfl⟩ := List.mem_map.mp hf
      rw [← turnedL_held (hg g hm) (reach_valid hg hr)]
      exact .next (by rw [List.map_map]; exact List.mem_map.mpr ⟨g, hm, rfl⟩) ih
theorem acts_rows (gs : List Turn) : (gs.map held).map turnedL = gs.map Vamete.turned := by
  rw [List.map_map]
  refine List.map_congr_left fun g _ => ?_
  funext x
  exact turnedL_row g x
end Vm
set_option Elab.async false
set_option linter.unusedSectionVars false
namespace Vm
open Vamete VametBase
def backOk (n : Nat) : Bool := (allTurns n).all fun t => decide ((Vamete.back t).places.length = n) && decide ((Vamete.back t).signs.length = n) && decide ((Vamete.back t).places.Nodup) && (Vamete.back t).places.all fun p => decide (p < n)
set_option maxRecDepth 100000 in
theorem backAll : ∀ n, n ≤ 4 → backOk n = true := by
  intro n h
  have : n = 0 ∨ n = 1 ∨ n = 2 ∨ n = 3 ∨ n = 4 := by omega
  rcases this with rfl | rfl | rfl | rfl | rfl
  all_goals decide +kernel
theorem valid_back {n : Nat} (h : n ≤ 4) {t : Turn} (v : Valid n t) : Valid n (Vamete.back t) := by
  have B := backAll n h
  unfold backOk at B
  rw [List.all_eq_true] at B
  have q := B t ((mem_allTurns n t).mpr v)
  simp only [Bool.and_eq_true, decide_eq_true_eq, List.all_eq_true] at q
  exact ⟨q.1.1.1, q.1.1.2, q.1.2, q.2⟩
theorem num_pre {n : Nat} {t : Turn} (v : Valid n t) : (sourcesL (held t)).Nodup ∧ ∀ x ∈ sourcesL (held t), x ∈ (List.range (held t).length).map int := by
  rw [sourcesL_held v, held_length v]
  constructor
  · refine List.pairwise_map.mpr (v.nd.imp ?_)
    intro a b hab e
    exact hab (by have : (a : Int) = (b : Int) := e; omega)
  · intro x hx
    obtain ⟨p, hp, rfl⟩ := List.mem_map.mp hx
    exact List.mem_map.mpr ⟨p, List.mem_range.mpr (v.lt p hp), rfl⟩
/-- a turn by its number, as the program has it -/
theorem turnL_of {s : State} (hn : s.places ≤ 4) {k : Int} {t : Turn} (h : turnAt s k = some t) : turnL s.places k = held t ∧ Valid s.places t := by
  obtain ⟨h0, _, hg⟩ := turnAt_some h
  have := (table_at hn hg).2.1
  have e : ((k.toNat : Nat) : Int) = k := by omega
  rw [e] at this
  exact ⟨this, (mem_allTurns _ _).mp (List.mem_of_getElem? hg)⟩
theorem undone_of {n : Nat} (hn : n ≤ 4) {t : Turn} (v : Valid n t) : undoneL (held t) = held (Vamete.back t) :=
  (table_at hn (numberOf_get v)).2.2
end Vm
set_option Elab.async false
set_option linter.unusedSectionVars false
namespace Vm
open Vamete VametBase
/-- the numbers of the turns found, sorted, and how many: what generated tells -/
theorem gen_answer {s : State} (hn : s.places ≤ 4) {gs : List Turn} (hg : ∀ g ∈ gs, Valid s.places g) {ys : List (List Int)} (hnd : ys.Nodup)
    (hm : ∀ y, y ∈ ys ↔ ReachG ((gs.map held).map turnedL) (held (same s.places)) y) {ns : List Int} (hp : ns.Perm (ys.map numberL)) (hs : ns.Pairwise (· ≤ ·)) :
    (ys.length : Int) :: ns = numbersTold s (Vamete.generated s.places gs) := by
  have G := generated_spec hg
  have own : ∀ y ∈ ys, ∃ t, Reach s.places gs t ∧ y = held t ∧ numberL y = ((numberOf s.places t : Nat) : Int) := fun y hy => by
    obtain ⟨t, ht, rfl⟩ := (reach_held hg y).mp ((hm y).mp hy)
    exact ⟨t, ht, rfl, number_eq hn (reach_valid hg ht)⟩
  have nonneg : ∀ v ∈ ns, 0 ≤ v := fun v hv => by
    obtain ⟨y, hy, rfl⟩ := List.mem_map.mp (hp.mem_iff.mp hv)
    obtain ⟨t, _, _, e⟩ := own y hy
    rw [e]
    omega
  have ecast : ns = (ns.map Int.toNat).map fun (i : Nat) => (i : Int) := by
    rw [List.map_map]
    conv => lhs; rw [← List.map_id ns]
    refine List.map_congr_left fun v hv => ?_
    have := nonneg v hv
    simp only [id, Function.comp]
    omega
  have nd : ns.Nodup := by
    rw [hp.nodup_iff]
    refine List.pairwise_map.mpr (List.Pairwise.imp_of_mem ?_ hnd)
    intro a b ha hb hab e
    obtain ⟨t, ht, rfl, e1⟩ := own a ha
    obtain ⟨u, hu, rfl, e2⟩ := own b hb
    have h1 := numberOf_get (reach_valid hg ht)
    have h2 := numberOf_get (reach_valid hg hu)
    have e3 : numberOf s.places t = numberOf s.places u := by
      rw [e1, e2] at e
      omega
    rw [e3, h2] at h1
    cases h1
    exact hab rfl
  have hlt : (ns.map Int.toNat).Pairwise (· < ·) := by
    refine List.pairwise_map.mpr ?_
    refine List.Pairwise.imp_of_mem ?_ (hs.and nd)
    intro a b ha hb hab
    have h1 := nonneg a ha
    have h2 := nonneg b hb
    have h3 : a ≤ b := hab.1
    have h4 : a ≠ b := hab.2
    omega
  have key := numbersTold_eq (s := s) (g := Vamete.generated s.places gs) (l := ns.map Int.toNat) hlt (fun i => ?_)
  · rw [← key, ← ecast]
    congr 1
    rw [List.length_map, hp.length_eq, List.length_map]
  · constructor
    · intro hi
      obtain ⟨v, hv, rfl⟩ := List.mem_map.mp hi
      obtain ⟨y, hy, rfl⟩ := List.mem_map.mp (hp.mem_iff.mp hv)
      obtain ⟨t, ht, rfl, e⟩ := own y hy
      refine ⟨t, ?_, (G.2 t).mpr ht⟩
      rw [e, Int.toNat_natCast]
      exact numberOf_get (reach_valid hg ht)
    · rintro ⟨t, h1, h2⟩
      have hr := (G.2 t).mp h2
      have hy : held t ∈ ys := (hm _).mpr ((reach_held hg _).mpr ⟨t, hr, rfl⟩)
      have e := (table_at hn (k := i) h1).1
      refine List.mem_map.mpr ⟨(i : Int), hp.mem_iff.mpr (List.mem_map.mpr ⟨held t, hy, e⟩), by simp⟩
theorem universe_held {n : Nat} {gs : List Turn} (hg : ∀ g ∈ gs, Valid n g) (y : List Int) (h : ReachG ((gs.map held).map turnedL) (held (same n)) y) : y ∈ (allTurns n).map held := by
  obtain ⟨t, ht, rfl⟩ := (reach_held hg y).mp h
  exact List.mem_map.mpr ⟨t, (mem_allTurns n t).mpr (reach_valid hg ht), rfl⟩
theorem few_turns {n : Nat} (h : n ≤ 4) : (allTurns n).length ≤ 384 := by
  have : n = 0 ∨ n = 1 ∨ n = 2 ∨ n = 3 ∨ n = 4 := by omega
  rcases this with rfl | rfl | rfl | rfl | rfl
  all_goals decide +kernel
theorem pair_lt {ys : List Row} (hs : ys.Pairwise fun x y => rlt y x = false) (hnd : ys.Nodup) : RSorted ys := by
  refine List.Pairwise.imp ?_ (hs.and hnd)
  intro a b h
  cases e : rlt a b with
  | true => rfl
  | false =>
    have := rlt_total a b h.2 e
    rw [h.1] at this
    cases this
theorem step_orbit_bad {s : State} {l r : List Int} (c : rowOf s.places r = none) : step s (.orbit l r) = (s, [-5]) := by
  show (match whole readRow r with
    | none => refused s (-5)
    | some x => if x.length ≠ s.places then refused s (-5) else onTurns s l fun g => let o := Vamete.orbit g x
      int o.length :: o.flatten) = _
  unfold rowOf at c
  cases e : whole readRow r with
  | none => rfl
  | some x =>
    rw [e] at c
    by_cases h : x.length = s.places
    · have c' : (if x.length = s.places then some x else none) = none := c
      rw [if_pos h] at c'
      cases c'
    · show (if x.length ≠ s.places then refused s (-5) else _) = _
      rw [if_pos h]
      rfl
theorem step_orbit {s : State} {l r : List Int} {x : Row} (c : rowOf s.places r = some x) : step s (.orbit l r) = onTurns s l fun g => int (Vamete.orbit g x).length :: (Vamete.orbit g x).flatten := by
  show (match whole readRow r with
    | none => refused s (-5)
    | some x => if x.length ≠ s.places then refused s (-5) else onTurns s l fun g => let o := Vamete.orbit g x
      int o.length :: o.flatten) = _
  unfold rowOf at c
  cases e : whole readRow r with
  | none =>
    rw [e] at c
    cases c
  | some y =>
    rw [e] at c
    have c' : (if y.length = s.places then some y else none) = some x := c
    by_cases h : y.length = s.places
    · rw [if_pos h] at c'
      cases c'
      show (if x.length ≠ s.places then refused s (-5) else _) = _
      rw [if_neg (by simpa using h)]
    · rw [if_neg h] at c'
      cases c'
end Vm
set_option Elab.async false
set_option linter.unusedSectionVars false
namespace Vm
open PyFlat PyVamete
theorem calls_inv {sh : Int → Option (Nat × Nat)} {f : Nat} {l : List Int} {raw : List (List (List Int))} (h : PyFlat.calls sh f l = some raw) :
    (l = [] ∧ raw = []) ∨ ∃ p r c t f' raw', l = p :: r ∧ PyFlat.call sh (p :: r) = some (c, t) ∧ PyFlat.calls sh f' t = some raw' ∧ raw = c :: raw' := by
  match f, l, h with
  | f, [], h =>
    have h' : some ([] : List (List (List Int))) = some raw := by
      cases f <;> exact h
    cases h'
    exact .inl ⟨rfl, rfl⟩
  | 0, _ :: _, h => cases h
  | f + 1, p :: r, h =>
    unfold PyFlat.calls at h
    cases e : PyFlat.call sh (p :: r) with
    | none =>
      rw [e] at h
      cases h
    | some z =>
      obtain ⟨c, t⟩ := z
      rw [e] at h
      dsimp only at h
      cases e2 : PyFlat.calls sh f t with
      | none =>
        rw [e2] at h
        cases h
      | some cs =>
        rw [e2] at h
        cases h
        exact .inr ⟨p, r, c, t, f, cs, rfl, e, e2, rfl⟩
theorem call_shape {sh : Int → Option (Nat × Nat)} {p : Int} {r : List Int} {z : List (List Int) × List Int} (h : PyFlat.call sh (p :: r) = some z) : ∃ n, sh p = some n := by
  unfold PyFlat.call at h
  dsimp only at h
  cases e : sh p with
  | none =>
    rw [e] at h
    cases h
  | some n => exact ⟨n, rfl⟩
theorem shape_some {p : Int} {n : Nat × Nat} (h : shape p = some n) : ∃ k : Nat, p = (k : Int) ∧ k < 13 := by
  have : 0 ≤ p ∧ p < 13 := by
    by_cases c : 0 ≤ p ∧ p < 13
    · exact c
    · unfold shape at h
      rw [if_neg (by omega), if_neg (by omega), if_neg (by omega), if_neg (by omega), if_neg (by omega), if_neg (by omega), if_neg (by omega), if_neg (by omega), if_neg (by omega), if_neg (by omega), if_neg (by omega), if_neg (by omega), if_neg (by omega)] at h
      cases h
  exact ⟨p.toNat, by omega, by omega⟩
theorem rows_len : ∀ (k : Nat) (r : List Int) (xs : List (List Int)) (t : List Int), PyFlat.rows k r = some (xs, t) → t.length ≤ r.length
  | 0, r, xs, t, h => by
    obtain ⟨_, rfl⟩ := rows0_inv h
    exact Nat.le_refl _
  | k + 1, r, xs, t, h => by
    obtain ⟨x, s, ys, h1, h2, _⟩ := rowsS_inv h
    have := rows_len k s ys t h2
    rw [row_inv h1, List.length_cons, List.length_append]
    omega
theorem call_len {sh : Int → Option (Nat × Nat)} {p : Int} {r : List Int} {c : List (List Int)} {t : List Int} (h : PyFlat.call sh (p :: r) = some (c, t)) : t.length ≤ r.length := by
  obtain ⟨⟨n, k⟩, hn⟩ := call_shape h
  obtain ⟨_, xs, h1, _⟩ := call_inv hn h
  have := rows_len k _ _ _ h1
  rw [List.length_drop] at this
  omega
theorem told_cons (a : List Int) (l : List (List Int)) : told (a :: l) = (a.length : Int) :: (a ++ told l) := by
  unfold told
  rw [List.flatMap_cons]
  rfl
theorem asked_inv {ns : List Int} (h : answers_asked ns = true) : ∃ raw, PyFlat.calls shape ns.length ns = some raw ∧ answers ns = told (played VameteNeutral.step VameteNeutral.start (raw.map whole)) ∧ (answers ns).length ≤ 10000000 := by
  unfold answers_asked at h
  cases e : PyFlat.calls shape ns.length ns with
  | none =>
    rw [e] at h
    cases h
  | some raw =>
    rw [e] at h
    simp only [Bool.and_eq_true] at h
    refine ⟨raw, rfl, ?_, of_decide_eq_true h.2⟩
    unfold answers PyVamete.calls
    rw [e]
end Vm
set_option Elab.async false
set_option linter.unusedSectionVars false
namespace Vm
open Vamete VametBase
/-! ## Steps -/
theorem putInt_perm (n : Int) : ∀ l : Row, (putInt n l).Perm (n :: l)
  | [] => .refl _
  | x :: l => by
    unfold putInt
    split
    · exact .refl _
    · exact ((putInt_perm n l).cons x).trans (.swap n x l)
theorem putInt_sorted (n : Int) : ∀ l : Row, l.Pairwise (· ≤ ·) → (putInt n l).Pairwise (· ≤ ·)
  | [], _ => by simp [putInt]
  | x :: l, h => by
    have h' := List.pairwise_cons.mp h
    unfold putInt
    split
    · rename_i c
      refine List.pairwise_cons.mpr ⟨fun y hy => ?_, h⟩
      rcases List.mem_cons.mp hy with rfl | hy
      · omega
      · have := h'.1 y hy
        omega
    · rename_i c
      refine List.pairwise_cons.mpr ⟨fun y hy => ?_, putInt_sorted n l h'.2⟩
      rcases List.mem_cons.mp ((putInt_perm n l).mem_iff.mp hy) with rfl | hy
      · omega
      · exact h'.1 y hy
theorem sortFrom (l : Row) : ∀ k : Row, k.Pairwise (· ≤ ·) → (l.foldl (fun k x => putInt x k) k).Pairwise (· ≤ ·) ∧ (l.foldl (fun k x => putInt x k) k).Perm (l ++ k) := by
  induction l with
  | nil => exact fun k hk => ⟨hk, .refl _⟩
  | cons x l ih =>
    intro k hk
    obtain ⟨h1, h2⟩ := ih (putInt x k) (putInt_sorted x k hk)
    refine ⟨h1, h2.trans ?_⟩
    exact ((putInt_perm x k).append_left l).trans List.perm_middle
theorem sorted_le (l : Row) : (VametBase.sorted l).Pairwise (· ≤ ·) := (sortFrom l [] List.Pairwise.nil).1
theorem sorted_perm (l : Row) : (VametBase.sorted l).Perm l := by
  have := (sortFrom l [] List.Pairwise.nil).2
  rwa [List.append_nil] at this
theorem sorted_uniq {l m : Row} (hp : m.Perm l) (hs : m.Pairwise (· ≤ ·)) : m = VametBase.sorted l :=
  (hp.trans (sorted_perm l).symm).eq_of_pairwise (le := (· ≤ ·)) (fun _ _ _ _ h1 h2 => Int.le_antisymm h1 h2) hs (sorted_le l)
theorem bag_iff (a b : Row) : stands .bag a b = true ↔ a.Perm b := by
  show (VametBase.sorted a == VametBase.sorted b) = true ↔ _
  rw [beq_iff_eq]
  constructor
  · intro h
    exact (sorted_perm a).symm.trans (h ▸ sorted_perm b)
  · intro h
    exact sorted_uniq ((sorted_perm a).trans h) (sorted_le a)
theorem total_sum (l : Row) : total l = l.sum := by
  have : ∀ (l : Row) (a : Int), l.foldl (fun a b => a + b) a = a + l.sum := by
    intro l
    induction l with
    | nil => intro a; simp
    | cons x l ih =>
      intro a
      rw [List.foldl_cons, ih, List.sum_cons]
      omega
  unfold total
  rw [this]
  omega
theorem great_fold : ∀ (l : Row) (x : Int), (l.foldl (fun a b => if a < b then b else a) x ∈ x :: l) ∧ ∀ y ∈ x :: l, y ≤ l.foldl (fun a b => if a < b then b else a) x
  | [], x => by simp
  | z :: l, x => by
    obtain ⟨h1, h2⟩ := great_fold l (if x < z then z else x)
    rw [List.foldl_cons]
    refine ⟨?_, fun y hy => ?_⟩
    · rcases List.mem_cons.mp h1 with e | e
      · rw [e]
        split <;> simp
      · exact List.mem_cons_of_mem _ (List.mem_cons_of_mem _ e)
    · have h3 := h2 _ List.mem_cons_self
      rcases List.mem_cons.mp hy with rfl | hy
      · split at h3 <;> (rename_i c; split <;> omega)
      · rcases List.mem_cons.mp hy with rfl | hy
        · split at h3 <;> (rename_i c; split <;> omega)
        · exact h2 y (List.mem_cons_of_mem _ hy)
theorem greatestOf_eq {l : Row} {m : Int} (hm : m ∈ l) (hl : ∀ y ∈ l, y ≤ m) : greatestOf l = some m := by
  match l, hm, hl with
  | x :: l, hm, hl =>
    obtain ⟨h1, h2⟩ := great_fold l x
    show some _ = some m
    congr 1
    exact Int.le_antisymm (hl _ h1) (h2 m hm)
theorem least_fold : ∀ (l : Row) (x : Int), (l.foldl (fun a b => if b < a then b else a) x ∈ x :: l) ∧ ∀ y ∈ x :: l, l.foldl (fun a b => if b < a then b else a) x ≤ y
  | [], x => by simp
  | z :: l, x => by
    obtain ⟨h1, h2⟩ := least_fold l (if z < x then z else x)
    rw [List.foldl_cons]
    refine ⟨?_, fun y hy => ?_⟩
    · rcases List.mem_cons.mp h1 with e | e
      · rw [e]
        split <;> simp
      · exact List.mem_cons_of_mem _ (List.mem_cons_of_mem _ e)
    · have h3 := h2 _ List.mem_cons_self
      rcases List.mem_cons.mp hy with rfl | hy
      · split at h3 <;> (rename_i c; split <;> omega)
      · rcases List.mem_cons.mp hy with rfl | hy
        · split at h3 <;> (rename_i c; split <;> omega)
        · exact h2 y (List.mem_cons_of_mem _ hy)
theorem leastOf_eq {l : Row} {m : Int} (hm : m ∈ l) (hl : ∀ y ∈ l, m ≤ y) : leastOf l = some m := by
  match l, hm, hl with
  | x :: l, hm, hl =>
    obtain ⟨h1, h2⟩ := least_fold l x
    show some _ = some m
    congr 1
    exact Int.le_antisymm (h2 m hm) (hl _ h1)
/-- each number once: as they first stand -/
def onceStep (k : Row) (x : Int) : Row := if x ∈ k then k else k ++ [x]
theorem onceOnly_eq (l : Row) : onceOnly l = l.foldl onceStep [] := by
  unfold onceOnly
  congr 1
  funext k x
  unfold onceStep
  simp
theorem once_fold : ∀ (l k : Row), k.Nodup → (l.foldl onceStep k).Nodup ∧ ∀ x, x ∈ l.foldl onceStep k ↔ x ∈ k ∨ x ∈ l
  | [], k, hk => ⟨hk, fun x => by simp⟩
  | y :: l, k, hk => by
    have hk' : (onceStep k y).Nodup := by
      unfold onceStep
      split
      · exact hk
      · rename_i c
        rw [List.nodup_append]
        refine ⟨hk, by simp, fun a ha b hb e => ?_⟩
        rw [List.mem_singleton.mp hb] at e
        exact c (e ▸ ha)
    obtain ⟨h1, h2⟩ := once_fold l (onceStep k y) hk'
    refine ⟨h1, fun x => ?_⟩
    rw [List.foldl_cons, h2 x]
    unfold onceStep
    split
    · rename_i c
      constructor
      · rintro (h | h)
        · exact .inl h
        · exact .inr (List.mem_cons_of_mem _ h)
      · rintro (h | h)
        · exact .inl h
        · rcases List.mem_cons.mp h with rfl | h
          · exact .inl c
          · exact .inr h
    · constructor
      · rintro (h | h)
        · rcases List.mem_append.mp h with h | h
          · exact .inl h
          · exact .inr (by rw [List.mem_singleton.mp h]; exact List.mem_cons_self)
        · exact .inr (List.mem_cons_of_mem _ h)
      · rintro (h | h)
        · exact .inl (List.mem_append.mpr (.inl h))
        · rcases List.mem_cons.mp h with rfl | h
          · exact .inl (List.mem_append.mpr (.inr (List.mem_singleton.mpr rfl)))
          · exact .inr h
theorem once_len (l : Row) : onceOnly l = l ∨ (onceOnly l).length < l.length := by
  rw [onceOnly_eq]
  have key : ∀ (l k : Row), l.foldl onceStep k = k ++ l ∨ (l.foldl onceStep k).length < k.length + l.length := by
    intro l
    induction l with
    | nil => intro k; simp
    | cons x l ih =>
      intro k
      have e1 : onceStep k x = if x ∈ k then k else k ++ [x] := rfl
      rw [List.foldl_cons, e1]
      by_cases c : x ∈ k
      · rw [if_pos c]
        rcases ih k with e | e
        · right
          have := congrArg List.length e
          rw [List.length_append] at this
          rw [List.length_cons]
          omega
        · right
          rw [List.length_cons]
          omega
      · rw [if_neg c]
        rcases ih (k ++ [x]) with e | e
        · left
          rw [e]
          simp
        · right
          rw [List.length_append] at e
          simp only [List.length_cons, List.length_nil] at e ⊢
          omega
  have := key l []
  simpa using this
theorem unlike_iff (l : Row) : fitsCond .unlike l = true ↔ l.Nodup := by
  show ((onceOnly l).length == l.length) = true ↔ _
  rw [beq_iff_eq]
  have hn : (onceOnly l).Nodup := by
    rw [onceOnly_eq]
    exact (once_fold l [] List.nodup_nil).1
  constructor
  · intro h
    rcases once_len l with e | e
    · rw [e] at hn
      exact hn
    · omega
  · intro h
    have h1 := nodup_len_le l (onceOnly l) h (fun x hx => by
      rw [onceOnly_eq]
      exact ((once_fold l [] List.nodup_nil).2 x).mpr (.inr hx))
    have h2 := nodup_len_le (onceOnly l) l hn (fun x hx => by
      rw [onceOnly_eq] at hx
      rcases ((once_fold l [] List.nodup_nil).2 x).mp hx with h | h
      · simp at h
      · exact h)
    omega
theorem numbers_iff (a b : Row) : stands .numbers a b = true ↔ ∀ x, x ∈ a ↔ x ∈ b := by
  show (a.all b.contains && b.all a.contains) = true ↔ _
  rw [Bool.and_eq_true, List.all_eq_true, List.all_eq_true]
  constructor
  · rintro ⟨h1, h2⟩ x
    exact ⟨fun h => by simpa using h1 x h, fun h => by simpa using h2 x h⟩
  · intro h
    exact ⟨fun x hx => by simpa using (h x).mp hx, fun x hx => by simpa using (h x).mpr hx⟩
end Vm
set_option Elab.async false
set_option linter.unusedSectionVars false
namespace Vm
open Vamete VametBase
/-! ## Rows of a size -/
theorem mem_rowsOf : ∀ (n h : Nat) (x : Row), x ∈ rowsOf n h ↔ x.length = n ∧ ∀ v ∈ x, -(h : Int) ≤ v ∧ v ≤ (h : Int)
  | 0, h, x => by
    show x ∈ [[]] ↔ _
    rw [List.mem_singleton]
    constructor
    · rintro rfl
      simp
    · rintro ⟨e, _⟩
      exact List.length_eq_zero_iff.mp e
  | n + 1, h, x => by
    show x ∈ (List.range (2 * h + 1)).flatMap (fun d => (rowsOf n h).map fun r => (int d - int h) :: r) ↔ _
    rw [List.mem_flatMap]
    constructor
    · rintro ⟨d, hd, hx⟩
      obtain ⟨r, hr, rfl⟩ := List.mem_map.mp hx
      obtain ⟨h1, h2⟩ := (mem_rowsOf n h r).mp hr
      have hd' := List.mem_range.mp hd
      refine ⟨by simp [h1], fun v hv => ?_⟩
      rcases List.mem_cons.mp hv with rfl | hv
      · show -(h : Int) ≤ (d : Int) - (h : Int) ∧ (d : Int) - (h : Int) ≤ (h : Int)
        omega
      · exact h2 v hv
    · rintro ⟨h1, h2⟩
      match x, h1 with
      | v :: r, h1 =>
        obtain ⟨b1, b2⟩ := h2 v List.mem_cons_self
        refine ⟨(v + (h : Int)).toNat, List.mem_range.mpr (by omega), List.mem_map.mpr ⟨r, (mem_rowsOf n h r).mpr ⟨by simpa using h1, fun u hu => h2 u (List.mem_cons_of_mem _ hu)⟩, ?_⟩⟩
        congr 1
        show (((v + (h : Int)).toNat : Nat) : Int) - (h : Int) = v
        omega
theorem rowsOf_sorted : ∀ (n h : Nat), RSorted (rowsOf n h)
  | 0, h => List.pairwise_singleton _ _
  | n + 1, h => by
    show RSorted ((List.range (2 * h + 1)).flatMap fun d => (rowsOf n h).map fun r => (int d - int h) :: r)
    unfold RSorted
    rw [List.pairwise_flatMap]
    constructor
    · intro d _
      refine List.pairwise_map.mpr ((rowsOf_sorted n h).imp ?_)
      intro a b hab
      show (if int d - int h = int d - int h then rlt a b else decide (int d - int h < int d - int h)) = true
      rw [if_pos rfl]
      exact hab
    · refine List.pairwise_lt_range.imp ?_
      intro a b hab x hx y hy
      obtain ⟨r, _, rfl⟩ := List.mem_map.mp hx
      obtain ⟨r', _, rfl⟩ := List.mem_map.mp hy
      show (if int a - int h = int b - int h then rlt r r' else decide (int a - int h < int b - int h)) = true
      have : (a : Int) - (h : Int) < (b : Int) - (h : Int) := by omega
      rw [if_neg (show ¬ (int a - int h = int b - int h) from fun e => by have e' : (a : Int) - (h : Int) = (b : Int) - (h : Int) := e; omega)]
      exact decide_eq_true this
theorem rowsOf_length : ∀ (n h : Nat), (rowsOf n h).length = countOf n h
  | 0, h => rfl
  | n + 1, h => by
    show ((List.range (2 * h + 1)).flatMap fun d => (rowsOf n h).map fun r => (int d - int h) :: r).length = (2 * h + 1) ^ (n + 1)
    rw [List.length_flatMap]
    have e : (List.range (2 * h + 1)).map (fun d => ((rowsOf n h).map fun r => (int d - int h) :: r).length) = List.replicate (2 * h + 1) (countOf n h) := by
      rw [List.eq_replicate_iff]
      refine ⟨by simp, fun b hb => ?_⟩
      obtain ⟨d, _, rfl⟩ := List.mem_map.mp hb
      rw [List.length_map, rowsOf_length n h]
    rw [e, List.sum_replicate_nat]
    show (2 * h + 1) * (2 * h + 1) ^ n = _
    rw [Nat.pow_succ, Nat.mul_comm]
theorem turned_rowsOf {n h : Nat} {t : Turn} (v : Valid n t) {x : Row} (hx : x ∈ rowsOf n h) : Vamete.turned t x ∈ rowsOf n h := by
  obtain ⟨h1, h2⟩ := (mem_rowsOf n h x).mp hx
  refine (mem_rowsOf n h _).mpr ⟨turned_length v x, fun u hu => ?_⟩
  obtain ⟨⟨p, s⟩, hp, rfl⟩ := List.mem_map.mp hu
  have hlt : p < x.length := by
    rw [h1]
    exact v.lt p (List.of_mem_zip hp).1
  have := h2 x[p] (List.getElem_mem hlt)
  rw [List.getElem?_eq_getElem hlt]
  cases s
  · exact this
  · show -(h : Int) ≤ 0 - x[p] ∧ 0 - x[p] ≤ (h : Int)
    omega
theorem reach_rowsOf {n h : Nat} {gs : List Turn} (hg : ∀ g ∈ gs, Valid n g) {x y : Row} (hx : x ∈ rowsOf n h) (r : ReachG (gs.map Vamete.turned) x y) : y ∈ rowsOf n h := by
  obtain ⟨t, ht, rfl⟩ := (reach_rows hg ((mem_rowsOf n h x).mp hx).1 y).mp r
  exact turned_rowsOf (reach_valid hg ht) hx

/-! ## What is reached reaches back -/
theorem turned_inj {n : Nat} {g : Turn} (v : Valid n g) {x y : Row} (hx : x.length = n) (hy : y.length = n) (e : Vamete.turned g x = Vamete.turned g y) : x = y := by
  have hp : g.places.Perm (List.range n) := perm_of_sub _ _ v.nd (fun q hq => by simpa using v.lt q hq) (by simp [v.lp])
  apply List.ext_getElem?
  intro p
  by_cases c : p < n
  · have hm : p ∈ g.places := hp.mem_iff.mpr (by simpa using c)
    obtain ⟨i, hi⟩ := List.mem_iff_getElem?.mp hm
    have hin : i < n := by
      rw [← v.lp]
      exact (List.getElem?_eq_some_iff.mp hi).1
    have e1 := turned_at v x hin
    have e2 := turned_at v y hin
    rw [e, e2, hi] at e1
    have e3 := Option.some.inj e1
    have hxp : p < x.length := by omega
    have hyp : p < y.length := by omega
    rw [Option.getD_some, List.getElem?_eq_getElem hxp, List.getElem?_eq_getElem hyp] at e3
    rw [List.getElem?_eq_getElem hxp, List.getElem?_eq_getElem hyp]
    congr 1
    cases hs : (g.signs[i]?).getD false
    · rw [hs] at e3
      exact e3.symm
    · rw [hs] at e3
      have e4 : 0 - y[p] = 0 - x[p] := e3
      omega
  · rw [List.getElem?_eq_none (by omega), List.getElem?_eq_none (by omega)]
def iter {α : Type} (f : α → α) : Nat → α → α
  | 0, x => x
  | k + 1, x => f (iter f k x)
theorem iter_reach {α : Type} {acts : List (α → α)} {f : α → α} (hf : f ∈ acts) (x : α) : ∀ k, ReachG acts x (iter f k x)
  | 0 => .start
  | k + 1 => ReachG.next (f := f) (t := iter f k x) hf (iter_reach hf x k)
theorem iter_add {α : Type} (f : α → α) (x : α) : ∀ i k, iter f (i + k) x = iter f i (iter f k x)
  | 0, k => by rw [Nat.zero_add]; rfl
  | i + 1, k => by
    rw [Nat.succ_add]
    show f (iter f (i + k) x) = f (iter f i (iter f k x))
    rw [iter_add f x i k]
theorem reachG_trans {α : Type} {acts : List (α → α)} {x y z : α} (h1 : ReachG acts x y) (h2 : ReachG acts y z) : ReachG acts x z := by
  induction h2 with
  | start => exact h1
  | next hf _ ih => exact .next hf ih
theorem step_back {n : Nat} {gs : List Turn} (hg : ∀ g ∈ gs, Valid n g) {x : Row} (hx : x.length = n) {g : Turn} (hm : g ∈ gs) : ReachG (gs.map Vamete.turned) (Vamete.turned g x) x := by
  have hf : Vamete.turned g ∈ gs.map Vamete.turned := List.mem_map.mpr ⟨g, hm, rfl⟩
  have v := hg g hm
  have hlen : ∀ k, (iter (Vamete.turned g) k x).length = n := fun k => by
    cases k with
    | zero => exact hx
    | succ k => exact turned_length v _
  have inj : ∀ i k, iter (Vamete.turned g) i x = iter (Vamete.turned g) (i + k) x → x = iter (Vamete.turned g) k x := by
    intro i
    induction i with
    | zero =>
      intro k e
      rw [Nat.zero_add] at e
      exact e
    | succ i ih =>
      intro k e
      refine ih k ?_
      rw [Nat.succ_add] at e
      exact turned_inj v (hlen i) (hlen (i + k)) e
  -- somewhere the iterates meet
  have pig : ∃ i k, iter (Vamete.turned g) i x = iter (Vamete.turned g) (i + (k + 1)) x := by
    refine Classical.byContradiction fun hno => ?_
    have nd : ((List.range (((allTurns n).map fun t => Vamete.turned t x).length + 1)).map fun k => iter (Vamete.turned g) k x).Nodup := by
      refine List.pairwise_map.mpr (List.pairwise_lt_range.imp ?_)
      intro a b hab e
      refine hno ⟨a, b - a - 1, ?_⟩
      rw [e]
      congr 1
      omega
    have := nodup_len_le _ ((allTurns n).map fun t => Vamete.turned t x) nd (fun y hy => by
      obtain ⟨k, _, rfl⟩ := List.mem_map.mp hy
      exact reach_rows_in hg hx _ (iter_reach hf x k))
    rw [List.length_map, List.length_range] at this
    omega
  obtain ⟨i, k, e⟩ := pig
  have e2 := inj i (k + 1) e
  have e3 : iter (Vamete.turned g) (k + 1) x = iter (Vamete.turned g) k (Vamete.turned g x) := iter_add (Vamete.turned g) x k 1
  rw [e3] at e2
  have := iter_reach hf (Vamete.turned g x) k
  rw [← e2] at this
  exact this
theorem reach_symm {n : Nat} {gs : List Turn} (hg : ∀ g ∈ gs, Valid n g) {x y : Row} (hx : x.length = n) (h : ReachG (gs.map Vamete.turned) x y) : ReachG (gs.map Vamete.turned) y x := by
  induction h with
  | start => exact .start
  | next hf hr ih =>
    obtain ⟨g, hm, rfl⟩ := List.mem_map.mp hf
    have hl : ∀ z, ReachG (gs.map Vamete.turned) x z → z.length = n := fun z hz => by
      obtain ⟨t, ht, rfl⟩ := (reach_rows hg hx z).mp hz
      exact turned_length (reach_valid hg ht) x
    exact reachG_trans (step_back hg (hl _ hr) hm) ih

/-! ## How many orbits -/
/-- the least of its orbit -/
def leastB (gs : List Turn) (x : Row) : Bool := (Vamete.orbit gs x).head? == some x
theorem leastB_iff {n : Nat} {gs : List Turn} (hg : ∀ g ∈ gs, Valid n g) {x : Row} (hx : x.length = n) : leastB gs x = true ↔ ∀ y, ReachG (gs.map Vamete.turned) x y → rlt y x = false := by
  obtain ⟨hs, hm⟩ := orbit_spec hg hx
  have hself := (hm x).mpr .start
  unfold leastB
  rw [beq_iff_eq]
  cases e : Vamete.orbit gs x with
  | nil =>
    rw [e] at hself
    simp at hself
  | cons z l =>
    rw [e] at hs hm hself
    have hs' := List.pairwise_cons.mp hs
    show some z = some x ↔ _
    constructor
    · intro q y hy
      have q' := Option.some.inj q
      subst q'
      rcases List.mem_cons.mp ((hm y).mpr hy) with rfl | h
      · exact rlt_irr _
      · cases e2 : rlt y z with
        | false => rfl
        | true => exact (rlt_asy _ _ (hs'.1 y h) e2).elim
    · intro q
      rcases List.mem_cons.mp hself with h | h
      · rw [h]
      · have h1 := hs'.1 x h
        rw [q z ((hm z).mp List.mem_cons_self)] at h1
        cases h1
theorem orbitCount_eq {n h : Nat} {gs : List Turn} : orbitCount n gs (rowsOf n h) = ((rowsOf n h).filter (leastB gs)).length := by
  show ((rowsOf n h).filter fun x => ((Vamete.generated n gs).foldl (fun l t => putRow (Vamete.turned t x) l) []).head? == some x).length = _
  refine congrArg List.length (List.filter_congr fun x hx => ?_)
  have hl := ((mem_rowsOf n h x).mp hx).1
  unfold leastB Vamete.orbit
  rw [hl]
/-- one that was reached from one ahead of it is not the least of its orbit, and the other way round -/
theorem seen_iff {n h : Nat} {gs : List Turn} (hg : ∀ g ∈ gs, Valid n g) {i : Nat} {x : Row} (hx : (rowsOf n h)[i]? = some x) :
    (∃ (j : Nat) (y : Row), j < i ∧ (rowsOf n h)[j]? = some y ∧ ReachG (gs.map Vamete.turned) y x) ↔ leastB gs x = false := by
  have hmem := List.mem_of_getElem? hx
  have hl := ((mem_rowsOf n h x).mp hmem).1
  have L := leastB_iff hg hl
  have S := rowsOf_sorted n h
  have ord : ∀ (j k : Nat) (y z : Row), j < k → (rowsOf n h)[j]? = some y → (rowsOf n h)[k]? = some z → rlt y z = true := fun j k y z hjk hy hz => by
    obtain ⟨h1, e1⟩ := List.getElem?_eq_some_iff.mp hy
    obtain ⟨h2, e2⟩ := List.getElem?_eq_some_iff.mp hz
    have := List.pairwise_iff_getElem.mp S j k h1 h2 hjk
    rw [e1, e2] at this
    exact this
  constructor
  · rintro ⟨j, y, hj, hy, hr⟩
    cases e : leastB gs x with
    | false => rfl
    | true =>
      have hyl := ((mem_rowsOf n h y).mp (List.mem_of_getElem? hy)).1
      have h1 := L.mp e y (reach_symm hg hyl hr)
      rw [ord j i y x hj hy hx] at h1
      cases h1
  · intro e
    refine Classical.byContradiction fun hno => ?_
    have : leastB gs x = true := L.mpr fun y hy => by
      cases q : rlt y x with
      | false => rfl
      | true =>
        obtain ⟨j, hj⟩ := List.mem_iff_getElem?.mp (reach_rowsOf hg hmem hy)
        refine (hno ⟨j, y, ?_, hj, reach_symm hg hl hy⟩).elim
        rcases Nat.lt_trichotomy j i with c | c | c
        · exact c
        · subst c
          rw [hx] at hj
          cases hj
          rw [rlt_irr] at q
          cases q
        · exact (rlt_asy _ _ q (ord i j x y c hx hj)).elim
    rw [e] at this
    cases this
theorem count_step {p : Row → Bool} {xs : List Row} {i : Nat} {x : Row} (hx : xs[i]? = some x) : ((xs.take (i + 1)).filter p).length = ((xs.take i).filter p).length + (if p x = true then 1 else 0) := by
  have e : xs.take (i + 1) = xs.take i ++ [x] := by
    obtain ⟨h1, h2⟩ := List.getElem?_eq_some_iff.mp hx
    rw [List.take_add_one, hx]
    rfl
  rw [e, List.filter_append, List.length_append]
  congr 1
  cases hp : p x <;> simp [hp]
end Vm
set_option Elab.async false
set_option linter.unusedSectionVars false
namespace Vm
open Vamete VametBase
/-! ## Runs -/
def runStep (o : Option Row) (s : Step) : Option Row := o.bind fun l => if within (done s l) then some (done s l) else none
theorem runStep_none (p : Program) : p.foldl runStep none = none := by
  induction p with
  | nil => rfl
  | cons s p ih => exact ih
theorem run_fold : ∀ (p : Program) (l : Row), run p l = p.foldl runStep (some l)
  | [], _ => rfl
  | s :: p, l => by
    show (if within (done s l) then run p (done s l) else none) = p.foldl runStep (if within (done s l) then some (done s l) else none)
    by_cases c : within (done s l) = true
    · rw [if_pos c, if_pos c]
      exact run_fold p _
    · rw [if_neg c, if_neg c, runStep_none]
theorem run_append (p q : Program) (l : Row) : run (p ++ q) l = (run p l).bind (run q) := by
  rw [run_fold, List.foldl_append, ← run_fold]
  cases e : run p l with
  | none => exact runStep_none q
  | some m => exact (run_fold q m).symm
/-- after i steps -/
theorem run_take {p : Program} {l : Row} {i : Nat} {s : Step} (h : p[i]? = some s) : run (p.take (i + 1)) l = (run (p.take i) l).bind fun m => if within (done s m) then some (done s m) else none := by
  have e : p.take (i + 1) = p.take i ++ [s] := by
    rw [List.take_add_one, h]
    rfl
  rw [e, run_append]
  rfl
/-- once beyond, beyond for good -/
theorem run_beyond {p : Program} {l : Row} {i : Nat} (h : run (p.take i) l = none) : run p l = none := by
  have e : p = p.take i ++ p.drop i := (List.take_append_drop i p).symm
  rw [e, run_append, h]
  rfl
theorem within_iff (l : Row) : within l = true ↔ l.length ≤ 40 ∧ ∀ x ∈ l, -1000000 ≤ x ∧ x ≤ 1000000 := by
  unfold within
  rw [Bool.and_eq_true, decide_eq_true_eq, List.all_eq_true]
  refine and_congr Iff.rfl ?_
  constructor
  · intro h x hx
    have := h x hx
    rw [Bool.and_eq_true, decide_eq_true_eq, decide_eq_true_eq] at this
    exact ⟨by have := this.1; show (-1000000 : Int) ≤ x; exact this, this.2⟩
  · intro h x hx
    rw [Bool.and_eq_true, decide_eq_true_eq, decide_eq_true_eq]
    exact ⟨(h x hx).1, (h x hx).2⟩
theorem restOf_eq {m : Nat} (h : 1 ≤ m) (x : Int) : restOf m x = x % (m : Int) := by
  unfold restOf
  rw [if_neg (by omega)]

/-! ## Alike, the greatest group -/
theorem unlike_none {f : Program} {xs : List Row} {t : Turn} : unlikeAt f xs t = none ↔ ∀ x ∈ xs, run f (Vamete.turned t x) = run f x := by
  unfold unlikeAt
  rw [List.findIdx?_eq_none_iff]
  constructor
  · intro h x hx
    have := h x hx
    simpa using this
  · intro h x hx
    simpa using h x hx
theorem unlike_some {f : Program} {xs : List Row} {t : Turn} {i : Nat} {x : Row} (hx : xs[i]? = some x) (hne : run f (Vamete.turned t x) ≠ run f x) (hb : ∀ (j : Nat) (y : Row), j < i → xs[j]? = some y → run f (Vamete.turned t y) = run f y) : unlikeAt f xs t = some i := by
  unfold unlikeAt
  rw [List.findIdx?_eq_some_iff_getElem]
  obtain ⟨h1, e1⟩ := List.getElem?_eq_some_iff.mp hx
  refine ⟨h1, by rw [e1]; simpa using hne, fun j hj => ?_⟩
  have := hb j xs[j] hj (List.getElem?_eq_getElem (by omega))
  simpa using this
theorem group_answer {s : State} {l : List Nat} (hs : l.Pairwise (· < ·)) (hm : ∀ i, i ∈ l ↔ ∃ t, (allTurns s.places)[i]? = some t ∧ unlikeAt s.first (rows s) t = none) :
    (l.length : Int) :: l.map (fun (i : Nat) => (i : Int)) = numbersTold s (groupOf s.first s.places (rows s)) := by
  refine numbersTold_eq hs fun i => (hm i).trans ?_
  constructor
  · rintro ⟨t, h1, h2⟩
    refine ⟨t, h1, ?_⟩
    unfold groupOf
    rw [List.mem_filter]
    exact ⟨List.mem_of_getElem? h1, by rw [h2]; rfl⟩
  · rintro ⟨t, h1, h2⟩
    refine ⟨t, h1, ?_⟩
    unfold groupOf at h2
    rw [List.mem_filter] at h2
    have := h2.2
    cases e : unlikeAt s.first (rows s) t with
    | none => rfl
    | some z =>
      rw [e] at this
      cases this

/-! ## Partners -/
theorem mapM_some {f : Program} : ∀ {xs : List Row} {ys : List Row}, xs.mapM (run f) = some ys ↔ xs.map (run f) = ys.map some
  | [], ys => by
    show some [] = some ys ↔ [] = ys.map some
    constructor
    · intro h
      cases h
      rfl
    · intro h
      cases ys with
      | nil => rfl
      | cons => simp at h
  | x :: xs, ys => by
    rw [List.mapM_cons, List.map_cons]
    cases e : run f x with
    | none =>
      constructor
      · intro h
        cases h
      · intro h
        cases ys with
        | nil => simp at h
        | cons y ys => simp at h
    | some z =>
      constructor
      · intro h
        have h' : (xs.mapM (run f)).bind (fun r => some (z :: r)) = some ys := h
        obtain ⟨r, h1, h2⟩ := Option.bind_eq_some_iff.mp h'
        cases h2
        rw [List.map_cons, mapM_some.mp h1]
      · intro h
        cases ys with
        | nil => simp at h
        | cons y ys =>
          simp only [List.map_cons, List.cons.injEq, Option.some.injEq] at h
          obtain ⟨rfl, h2⟩ := h
          have := mapM_some.mpr h2
          show (xs.mapM (run f)).bind (fun r => some (z :: r)) = some (z :: ys)
          rw [this]
          rfl
theorem mapM_none' {f : Program} {xs : List Row} : xs.mapM (run f) = none ↔ ∃ x ∈ xs, run f x = none := by
  induction xs with
  | nil =>
    constructor
    · intro h
      cases h
    · rintro ⟨x, hx, _⟩
      simp at hx
  | cons x xs ih =>
    rw [List.mapM_cons]
    cases e : run f x with
    | none =>
      constructor
      · intro _
        exact ⟨x, List.mem_cons_self, e⟩
      · intro _
        rfl
    | some z =>
      constructor
      · intro h
        have h' : (xs.mapM (run f)).bind (fun r => some (z :: r)) = none := h
        cases e2 : xs.mapM (run f) with
        | none =>
          obtain ⟨y, hy, hn⟩ := ih.mp e2
          exact ⟨y, List.mem_cons_of_mem _ hy, hn⟩
        | some r =>
          rw [e2] at h'
          cases h'
      · rintro ⟨y, hy, hn⟩
        have : xs.mapM (run f) = none := by
          refine ih.mpr ?_
          rcases List.mem_cons.mp hy with rfl | hy
          · rw [e] at hn
            cases hn
          · exact ⟨y, hy, hn⟩
        show (xs.mapM (run f)).bind (fun r => some (z :: r)) = none
        rw [this]
        rfl
/-- all have outcomes, all of one length -/
theorem lengthOf_some {f : Program} {xs : List Row} {m : Nat} (hne : xs ≠ []) (h : ∀ x ∈ xs, ∃ y, run f x = some y ∧ y.length = m) : lengthOf f xs = some m := by
  unfold lengthOf
  cases e : xs.mapM (run f) with
  | none =>
    obtain ⟨x, hx, hn⟩ := mapM_none'.mp e
    obtain ⟨y, hy, _⟩ := h x hx
    rw [hn] at hy
    cases hy
  | some ys =>
    have hm := mapM_some.mp e
    have all : ∀ y ∈ ys, y.length = m := fun y hy => by
      have : some y ∈ xs.map (run f) := by
        rw [hm]
        exact List.mem_map.mpr ⟨y, hy, rfl⟩
      obtain ⟨x, hx, hr⟩ := List.mem_map.mp this
      obtain ⟨y', h1, h2⟩ := h x hx
      rw [hr] at h1
      cases h1
      exact h2
    match ys, hm, all with
    | [], hm, _ =>
      have := congrArg List.length hm
      simp at this
      exact absurd this hne
    | y :: l, _, all =>
      show (if l.all (fun z => z.length == y.length) then some y.length else none) = some m
      have hy := all y List.mem_cons_self
      rw [if_pos, hy]
      rw [List.all_eq_true]
      intro z hz
      rw [hy, all z (List.mem_cons_of_mem _ hz)]
      simp
theorem lengthOf_beyond {f : Program} {xs : List Row} (h : ∃ x ∈ xs, run f x = none) : lengthOf f xs = none := by
  unfold lengthOf
  rw [mapM_none'.mpr h]
theorem lengthOf_differ {f : Program} {xs : List Row} {x x' y y' : Row} (hx : x ∈ xs) (hx' : x' ∈ xs) (hy : run f x = some y) (hy' : run f x' = some y') (hne : y.length ≠ y'.length) : lengthOf f xs = none := by
  unfold lengthOf
  cases e : xs.mapM (run f) with
  | none => rfl
  | some ys =>
    have hm := mapM_some.mp e
    have mem : ∀ z w, z ∈ xs → run f z = some w → w ∈ ys := fun z w hz hw => by
      have : some w ∈ ys.map some := by
        rw [← hm, ← hw]
        exact List.mem_map.mpr ⟨z, hz, rfl⟩
      obtain ⟨w', h1, h2⟩ := List.mem_map.mp this
      cases h2
      exact h1
    have m1 := mem x y hx hy
    have m2 := mem x' y' hx' hy'
    match ys, m1, m2 with
    | w :: l, m1, m2 =>
      show (if l.all (fun z => z.length == w.length) then some w.length else none) = none
      rw [if_neg]
      intro hall
      rw [List.all_eq_true] at hall
      have len : ∀ u ∈ w :: l, u.length = w.length := fun u hu => by
        rcases List.mem_cons.mp hu with rfl | hu
        · rfl
        · simpa using hall u hu
      exact hne ((len y m1).trans (len y' m2).symm)
theorem goesWith_iff {f : Program} {xs : List Row} {t u : Turn} : goesWith f xs t u = true ↔ ∀ x ∈ xs, run f (Vamete.turned t x) = (run f x).map (Vamete.turned u) := by
  unfold goesWith
  rw [List.all_eq_true]
  constructor
  · intro h x hx
    simpa using h x hx
  · intro h x hx
    simpa using h x hx
theorem partner_some {f : Program} {xs : List Row} {t u : Turn} {m i : Nat} (hl : lengthOf f xs = some m) (hm : m ≤ 4) (hu : (allTurns m)[i]? = some u) (hg : goesWith f xs t u = true) (hb : ∀ (j : Nat) (v : Turn), j < i → (allTurns m)[j]? = some v → goesWith f xs t v = false) :
    Vamete.partner f xs t = some (m, u) := by
  unfold Vamete.partner
  rw [hl]
  show (if PLACES < m then none else ((allTurns m).find? (goesWith f xs t)).map fun u => (m, u)) = _
  rw [if_neg (show ¬ PLACES < m from fun q => by have q2 : 4 < m := q; omega)]
  have : (allTurns m).find? (goesWith f xs t) = some u := by
    rw [List.find?_eq_some_iff_getElem]
    obtain ⟨h1, e1⟩ := List.getElem?_eq_some_iff.mp hu
    refine ⟨hg, i, h1, e1, fun j hj => ?_⟩
    have := hb j (allTurns m)[j] hj (List.getElem?_eq_getElem (by omega))
    simpa using this
  rw [this]
  rfl
theorem partner_none {f : Program} {xs : List Row} {t : Turn} {m : Nat} (hl : lengthOf f xs = some m) (h : 4 < m ∨ ∀ u ∈ allTurns m, goesWith f xs t u = false) : Vamete.partner f xs t = none := by
  unfold Vamete.partner
  rw [hl]
  show (if PLACES < m then none else ((allTurns m).find? (goesWith f xs t)).map fun u => (m, u)) = _
  by_cases c : 4 < m
  · rw [if_pos (show PLACES < m from c)]
  · rw [if_neg (show ¬ PLACES < m from c)]
    have : (allTurns m).find? (goesWith f xs t) = none := by
      rw [List.find?_eq_none]
      intro u hu
      rcases h with h | h
      · exact absurd h c
      · rw [h u hu]
        exact Bool.false_ne_true
    rw [this]
    rfl
theorem partner_off {f : Program} {xs : List Row} {t : Turn} (hl : lengthOf f xs = none) : Vamete.partner f xs t = none := by
  unfold Vamete.partner
  rw [hl]
  rfl
/-- the first turn's number in the list is its own -/
theorem numberOf_first {m i : Nat} (h : m ≤ 4) {u : Turn} (hu : (allTurns m)[i]? = some u) : numberOf m u = i := by
  have v := (mem_allTurns m u).mp (List.mem_of_getElem? hu)
  have e1 := (table_at h hu).1
  have e2 := number_eq h v
  omega
end Vm
set_option Elab.async false
set_option linter.unusedSectionVars false
namespace Vm
open Vamete VametBase
/-! ## Steps within their bounds -/
def okStep : Step → Prop
  | .add c => -99 ≤ c ∧ c ≤ 99
  | .times c => -99 ≤ c ∧ c ≤ 99
  | .rest m => 1 ≤ m ∧ m ≤ 9
  | .rotate k => k ≤ 9
  | .take k => k ≤ 9
  | .drop k => k ≤ 9
  | .above c => -99 ≤ c ∧ c ≤ 99
  | _ => True
theorem readInt_ok {m : Int} {x r : List Int} {c : Int} (h : readInt m x = some (c, r)) : 0 - m ≤ c ∧ c ≤ m := by
  match x, h with
  | z :: x, h =>
    rw [readInt_cons] at h
    split at h
    · rename_i q
      cases h
      exact q
    · cases h
theorem readNat_ok {lo hi : Nat} {x r : List Int} {c : Nat} (h : readNat lo hi x = some (c, r)) : lo ≤ c ∧ c ≤ hi := by
  match x, h with
  | z :: x, h =>
    rw [readNat_cons] at h
    split at h
    · rename_i q
      cases h
      have q1 : (lo : Int) ≤ z := q.1
      have q2 : z ≤ (hi : Int) := q.2
      omega
    · cases h
theorem map_fst {A B : Type} {o : Option (A × List Int)} {f : A → B} {s : B} {r : List Int} (h : (o.map fun u => (f u.1, u.2)) = some (s, r)) : ∃ c, o = some (c, r) ∧ s = f c := by
  cases o with
  | none => cases h
  | some u =>
    cases h
    exact ⟨u.1, rfl, rfl⟩
theorem readStep_ok {x r : List Int} {s : Step} (h : readStep x = some (s, r)) : okStep s := by
  unfold readStep at h
  split at h
  all_goals first
    | (obtain ⟨c, h1, rfl⟩ := map_fst (f := Step.add) h; exact readInt_ok (m := 99) h1)
    | (obtain ⟨c, h1, rfl⟩ := map_fst (f := Step.times) h; exact readInt_ok (m := 99) h1)
    | (obtain ⟨c, h1, rfl⟩ := map_fst (f := Step.above) h; exact readInt_ok (m := 99) h1)
    | (obtain ⟨c, h1, rfl⟩ := map_fst (f := Step.rest) h; exact readNat_ok h1)
    | (obtain ⟨c, h1, rfl⟩ := map_fst (f := Step.rotate) h; exact (readNat_ok h1).2)
    | (obtain ⟨c, h1, rfl⟩ := map_fst (f := Step.take) h; exact (readNat_ok h1).2)
    | (obtain ⟨c, h1, rfl⟩ := map_fst (f := Step.drop) h; exact (readNat_ok h1).2)
    | (cases h; exact trivial)
    | cases h
theorem readTimes_ok : ∀ {n : Nat} {x r : List Int} {p : Program}, readTimes readStep n x = some (p, r) → p.length = n ∧ ∀ s ∈ p, okStep s
  | 0, x, r, p, h => by
    cases h
    exact ⟨rfl, by simp⟩
  | n + 1, x, r, p, h => by
    have h' : ((readStep x).bind fun u => (readTimes readStep n u.2).map fun v => (u.1 :: v.1, v.2)) = some (p, r) := h
    obtain ⟨u, h1, h2⟩ := Option.bind_eq_some_iff.mp h'
    obtain ⟨v, h3, h4⟩ := Option.map_eq_some_iff.mp h2
    cases h4
    obtain ⟨e1, e2⟩ := readTimes_ok (p := v.1) (r := v.2) h3
    refine ⟨by rw [List.length_cons, e1], fun s hs => ?_⟩
    rcases List.mem_cons.mp hs with rfl | hs
    · exact readStep_ok (s := u.1) (r := u.2) h1
    · exact e2 s hs
theorem readProgram_ok {x r : List Int} {p : Program} (h : readProgram x = some (p, r)) : p.length ≤ 8 ∧ ∀ s ∈ p, okStep s := by
  have h' : ((readNat 0 STEPS x).bind fun n => readTimes readStep n.1 n.2) = some (p, r) := h
  obtain ⟨u, h1, h2⟩ := Option.bind_eq_some_iff.mp h'
  obtain ⟨e1, e2⟩ := readTimes_ok h2
  have e3 := readNat_ok (c := u.1) (r := u.2) h1
  exact ⟨by rw [e1]; exact e3.2, e2⟩
/-! ## Rows of a size, grown at their end -/
def span (h : Nat) : List Int := (List.range (2 * h + 1)).map fun d => int d - int h
theorem rowsOf_cons (n h : Nat) : rowsOf (n + 1) h = (span h).flatMap fun v => (rowsOf n h).map fun r => v :: r := by
  show (List.range (2 * h + 1)).flatMap (fun d => (rowsOf n h).map fun r => (int d - int h) :: r) = _
  unfold span
  rw [List.flatMap_map]
theorem rowsOf_snoc : ∀ (n h : Nat), rowsOf (n + 1) h = (rowsOf n h).flatMap fun r => (span h).map fun v => r ++ [v]
  | 0, h => by
    rw [rowsOf_cons]
    show (span h).flatMap (fun v => [[v]]) = [[]].flatMap fun r => (span h).map fun v => r ++ [v]
    simp [List.flatMap_singleton']
    induction span h with
    | nil => rfl
    | cons a l ih => simp [ih]
  | n + 1, h => by
    rw [rowsOf_cons (n + 1)]
    conv => lhs; rw [rowsOf_snoc n h]
    conv => rhs; rw [rowsOf_cons n h]
    rw [List.flatMap_assoc]
    congr 1
    funext v
    rw [List.map_flatMap, List.flatMap_map]
    congr 1
    funext r
    rw [List.map_map]
    rfl
theorem rowsOf_within {n h : Nat} (hn : n ≤ 4) (hh : h ≤ 9) {x : Row} (hx : x ∈ rowsOf n h) : within x = true := by
  obtain ⟨h1, h2⟩ := (mem_rowsOf n h x).mp hx
  refine (within_iff x).mpr ⟨by omega, fun v hv => ?_⟩
  have := h2 v hv
  omega
theorem rowsOf_nodup (n h : Nat) : (rowsOf n h).Nodup := by
  refine (rowsOf_sorted n h).imp ?_
  intro a b hab e
  rw [e, rlt_irr] at hab
  cases hab
theorem rowsOf_ne (n h : Nat) : rowsOf n h ≠ [] := by
  intro e
  have := rowsOf_length n h
  rw [e] at this
  have h2 : 0 < (2 * h + 1) ^ n := Nat.pow_pos (by omega)
  have h3 : countOf n h = (2 * h + 1) ^ n := rfl
  simp at this
  omega
theorem countOf_mono {i n h : Nat} (hi : i ≤ n) : countOf i h ≤ countOf n h := Nat.pow_le_pow_right (by omega) hi
end Vm
set_option Elab.async false
set_option linter.unusedSectionVars false
namespace Vm
open Vamete VametBase
/-! ## Relations read -/
def condNum : Cond → Int × Int
  | .any => (0, 0)
  | .some => (1, 0)
  | .rising => (2, 0)
  | .plus => (3, 0)
  | .unlike => (4, 0)
  | .atLeast k => (5, int k)
theorem drop_at {ns : List Int} {p : Nat} {v : Int} (h : ns[p]? = some v) : ns.drop p = v :: ns.drop (p + 1) := by
  obtain ⟨hl, he⟩ := List.getElem?_eq_some_iff.mp h
  rw [List.drop_eq_getElem_cons hl, he]
theorem drop_off {ns : List Int} {p : Nat} (h : ns[p]? = none) : ns.drop p = [] := List.drop_eq_nil_of_le (List.getElem?_eq_none_iff.mp h)
theorem readCond_plain {v : Int} {r : List Int} (h0 : 0 ≤ v) (h1 : v < 5) : ∃ c, readCond (v :: r) = some (c, r) ∧ condNum c = (v, 0) := by
  have : v = 0 ∨ v = 1 ∨ v = 2 ∨ v = 3 ∨ v = 4 := by omega
  rcases this with rfl | rfl | rfl | rfl | rfl
  all_goals exact ⟨_, rfl, rfl⟩
theorem readCond_five (r : List Int) : readCond (5 :: r) = (readNat 0 SMALL r).map fun u => (.atLeast u.1, u.2) := rfl
theorem readCond_five_yes {w : Int} {r : List Int} (h0 : 0 ≤ w) (h1 : w ≤ 9) : ∃ c, readCond (5 :: w :: r) = some (c, r) ∧ condNum c = (5, w) := by
  refine ⟨.atLeast w.toNat, ?_, ?_⟩
  · rw [readCond_five, readNat_cons, if_pos (by show (0 : Int) ≤ w ∧ w ≤ (9 : Int); omega)]
    rfl
  · show ((5 : Int), ((w.toNat : Nat) : Int)) = (5, w)
    rw [show ((w.toNat : Nat) : Int) = w by omega]
theorem readCond_five_no {r : List Int} (h : ∀ w, r[0]? = some w → ¬ (0 ≤ w ∧ w ≤ 9)) : readCond (5 :: r) = none := by
  rw [readCond_five]
  match r with
  | [] => rfl
  | w :: r =>
    rw [readNat_cons, if_neg (show ¬ (int 0 ≤ w ∧ w ≤ int SMALL) from h w rfl)]
    rfl
theorem readCond_out {x : List Int} (h : ∀ v, x[0]? = some v → ¬ (0 ≤ v ∧ v ≤ 5)) : readCond x = none := by
  match x with
  | [] => rfl
  | v :: r =>
    have h1 := h v rfl
    unfold readCond
    split
    all_goals first
      | rfl
      | (rename_i e; cases e; exact absurd ⟨by decide, by decide⟩ h1)
theorem readRel_yes {v : Int} {r : List Int} (h0 : 0 ≤ v) (h1 : v ≤ 6) : ∃ c, readRel (v :: r) = some (c, r) ∧ relNumber c = v := by
  have : v = 0 ∨ v = 1 ∨ v = 2 ∨ v = 3 ∨ v = 4 ∨ v = 5 ∨ v = 6 := by omega
  rcases this with rfl | rfl | rfl | rfl | rfl | rfl | rfl
  all_goals exact ⟨_, rfl, rfl⟩
theorem readRel_out {x : List Int} (h : ∀ v, x[0]? = some v → ¬ (0 ≤ v ∧ v ≤ 6)) : readRel x = none := by
  match x with
  | [] => rfl
  | v :: r =>
    have h1 := h v rfl
    unfold readRel
    split
    all_goals first
      | rfl
      | (rename_i e; cases e; exact absurd ⟨by decide, by decide⟩ h1)
theorem readRelation_eq (x : List Int) : readRelation x = (readCond x).bind fun c => (readProgram c.2).bind fun i => (readRel i.2).bind fun s => (readProgram s.2).map fun o => (⟨c.1, i.1, s.1, o.1⟩, o.2) := by
  unfold readRelation readPair
  cases readCond x with
  | none => rfl
  | some c =>
    simp only [Option.bind_some]
    cases readProgram c.2 with
    | none => rfl
    | some i =>
      simp only [Option.bind_some]
      cases readRel i.2 with
      | none => rfl
      | some s =>
        simp only [Option.bind_some]
        cases readProgram s.2 with
        | none => rfl
        | some o => rfl
theorem condNum_inj {c d : Cond} (h : condNum c = condNum d) : c = d := by
  cases c <;> cases d <;> simp_all [condNum, int] <;> omega
theorem condNum_any {c : Cond} : (condNum c).1 = 0 ↔ c = .any := by
  cases c <;> simp [condNum]
theorem relNumber_zero {c : Rel} : relNumber c = 0 ↔ c = .equal := by
  cases c <;> simp [relNumber]
theorem flatCond_eq (c : Cond) : flatCond c = (condNum c).1 :: (if (condNum c).1 = 5 then [(condNum c).2] else []) := by
  cases c <;> rfl
/-! ## Programs told -/
theorem flatStep_eq (s : Step) : flatStep s = (pairOf s).1 :: (if (behind (pairOf s).1.toNat).isSome then [(pairOf s).2] else []) := by
  cases s <;> rfl
theorem pairOf_kind (s : Step) : ∃ k : Nat, (pairOf s).1 = (k : Int) ∧ k ≤ 17 := by
  cases s
  · exact ⟨0, rfl, by decide⟩
  · exact ⟨1, rfl, by decide⟩
  · exact ⟨2, rfl, by decide⟩
  · exact ⟨3, rfl, by decide⟩
  · exact ⟨4, rfl, by decide⟩
  · exact ⟨5, rfl, by decide⟩
  · exact ⟨6, rfl, by decide⟩
  · exact ⟨7, rfl, by decide⟩
  · exact ⟨8, rfl, by decide⟩
  · exact ⟨9, rfl, by decide⟩
  · exact ⟨10, rfl, by decide⟩
  · exact ⟨11, rfl, by decide⟩
  · exact ⟨12, rfl, by decide⟩
  · exact ⟨13, rfl, by decide⟩
  · exact ⟨14, rfl, by decide⟩
  · exact ⟨15, rfl, by decide⟩
  · exact ⟨16, rfl, by decide⟩
  · exact ⟨17, rfl, by decide⟩
theorem flatMap_take {p : Program} {i : Nat} {s : Step} (h : p[i]? = some s) : (p.take (i + 1)).flatMap flatStep = (p.take i).flatMap flatStep ++ flatStep s := by
  rw [List.take_add_one, h, List.flatMap_append]
  simp
theorem flat_length (p : Program) : (p.flatMap flatStep).length ≤ 2 * p.length := by
  induction p with
  | nil => simp
  | cons s p ih =>
    rw [List.flatMap_cons, List.length_append, List.length_cons]
    have : (flatStep s).length ≤ 2 := by cases s <;> simp [flatStep]
    omega
/-! ## Verdicts -/
theorem verdict_eq (f : Program) (r : Relation) (x : Row) : verdict f r x = if fitsCond r.cond x = false then .off else match run (r.input ++ f) x, run (f ++ r.output) x with
    | some l, some m => if stands r.rel l m then .kept else .broken
    | _, _ => .off := by
  unfold verdict sides
  rw [run_append, run_append]
  cases hc : fitsCond r.cond x with
  | false => rfl
  | true =>
    simp only [Bool.not_true, Bool.false_eq_true, if_false, Bool.true_eq_false]
    cases e1 : run f x with
    | none =>
      simp only [Option.bind_none]
      cases e2 : run r.input x with
      | none => rfl
      | some u =>
        simp only [Option.bind_some]
        cases run f u <;> rfl
    | some y =>
      simp only [Option.bind_some]
      cases e2 : run r.input x with
      | none => rfl
      | some u =>
        simp only [Option.bind_some]
        cases e3 : run f u with
        | none => rfl
        | some v =>
          simp only [Option.bind_some]
          cases e4 : run r.output y <;> rfl
theorem step_chain_bad {s : State} {r q : List Int} (h : whole readRelation r = none ∨ whole readRelation q = none) : step s (.chain r q) = (s, [-5]) := by
  show (match whole readRelation r, whole readRelation q with
    | some a, some b => (s, match chained a b with
      | none => [0]
      | some c => 1 :: flatRelation c)
    | _, _ => refused s (-5)) = _
  rcases h with h | h
  · rw [h]
    rfl
  · rw [h]
    cases whole readRelation r <;> rfl
theorem step_chain {s : State} {r q : List Int} {a b : Relation} (h1 : whole readRelation r = some a) (h2 : whole readRelation q = some b) : step s (.chain r q) = (s, match chained a b with
      | none => [0]
      | some c => 1 :: flatRelation c) := by
  show (match whole readRelation r, whole readRelation q with
    | some a, some b => (s, match chained a b with
      | none => [0]
      | some c => 1 :: flatRelation c)
    | _, _ => refused s (-5)) = _
  rw [h1, h2]
theorem chained_yes {a b : Relation} (h : a.rel = .equal ∧ b.rel = .equal ∧ a.output = b.input ∧ b.cond = .any) : chained a b = some ⟨a.cond, a.input, .equal, b.output⟩ := if_pos h
theorem chained_no {a b : Relation} (h : ¬ (a.rel = .equal ∧ b.rel = .equal ∧ a.output = b.input ∧ b.cond = .any)) : chained a b = none := if_neg h
theorem whichOf_none {s : State} {w : Int} (h : ¬ (0 ≤ w ∧ w ≤ 2)) : whichOf s w = none := by
  unfold whichOf
  rw [if_neg (by omega), if_neg (by omega), if_neg (by omega)]
theorem step_kept_which {s : State} {w : Int} {r : List Int} (h : ¬ (0 ≤ w ∧ w ≤ 2)) : step s (.kept w r) = (s, [-2]) := by
  show (match whichOf s w, whole readRelation r with
    | none, _ => refused s (-2)
    | some _, none => refused s (-5)
    | some f, some q => let l := (rows s).map (verdict f q)
      (s, [int (l.countP fun (v : Verdict) => v == Verdict.kept), int (l.countP fun (v : Verdict) => v == Verdict.broken), int (l.countP fun (v : Verdict) => v == Verdict.off)])) = _
  rw [whichOf_none h]
  rfl
theorem step_kept_bad {s : State} {w : Int} {r : List Int} {f : Program} (h : whichOf s w = some f) (h2 : whole readRelation r = none) : step s (.kept w r) = (s, [-5]) := by
  show (match whichOf s w, whole readRelation r with
    | none, _ => refused s (-2)
    | some _, none => refused s (-5)
    | some f, some q => let l := (rows s).map (verdict f q)
      (s, [int (l.countP fun (v : Verdict) => v == Verdict.kept), int (l.countP fun (v : Verdict) => v == Verdict.broken), int (l.countP fun (v : Verdict) => v == Verdict.off)])) = _
  rw [h, h2]
  rfl
def tally (f : Program) (q : Relation) (xs : List Row) : List Int := [int ((xs.map (verdict f q)).countP fun (v : Verdict) => v == Verdict.kept), int ((xs.map (verdict f q)).countP fun (v : Verdict) => v == Verdict.broken), int ((xs.map (verdict f q)).countP fun (v : Verdict) => v == Verdict.off)]
theorem step_kept {s : State} {w : Int} {r : List Int} {f : Program} {q : Relation} (h : whichOf s w = some f) (h2 : whole readRelation r = some q) : step s (.kept w r) = (s, tally f q (rows s)) := by
  show (match whichOf s w, whole readRelation r with
    | none, _ => refused s (-2)
    | some _, none => refused s (-5)
    | some f, some q => let l := (rows s).map (verdict f q)
      (s, [int (l.countP fun (v : Verdict) => v == Verdict.kept), int (l.countP fun (v : Verdict) => v == Verdict.broken), int (l.countP fun (v : Verdict) => v == Verdict.off)])) = _
  rw [h, h2]
  rfl
def vNum : Verdict → Nat
  | .kept => 0
  | .broken => 1
  | .off => 2
/-- one row more -/
theorem tally_step {f : Program} {q : Relation} {xs : List Row} {i : Nat} {x : Row} (hx : xs[i]? = some x) :
    tally f q (xs.take (i + 1)) = (tally f q (xs.take i)).set (vNum (verdict f q x)) (((tally f q (xs.take i))[vNum (verdict f q x)]?).getD 0 + 1) := by
  have e : xs.take (i + 1) = xs.take i ++ [x] := by
    rw [List.take_add_one, hx]
    rfl
  unfold tally
  rw [e, List.map_append, List.countP_append, List.countP_append, List.countP_append, List.map_cons, List.map_nil]
  cases verdict f q x
  · rfl
  · rfl
  · rfl
theorem tally_nil (f : Program) (q : Relation) : tally f q [] = [0, 0, 0] := rfl
theorem tally_at (f : Program) (q : Relation) (xs : List Row) (v : Verdict) : ∃ z, (tally f q xs)[vNum v]? = some z ∧ (tally f q xs).length = 3 := by
  cases v
  · exact ⟨_, rfl, rfl⟩
  · exact ⟨_, rfl, rfl⟩
  · exact ⟨_, rfl, rfl⟩
end Vm
set_option Elab.async false
set_option linter.unusedSectionVars false
namespace Vm
open Vamete VametBase
theorem kind0 {s : Step} (h : (pairOf s).1 = ((0 : Nat) : Int)) : ∃ c, s = .add c := by cases s <;> first | exact ⟨_, rfl⟩ | exact absurd h (by simp [pairOf])
theorem kind1 {s : Step} (h : (pairOf s).1 = ((1 : Nat) : Int)) : ∃ c, s = .times c := by cases s <;> first | exact ⟨_, rfl⟩ | exact absurd h (by simp [pairOf])
theorem kind2 {s : Step} (h : (pairOf s).1 = ((2 : Nat) : Int)) : ∃ c, s = .rest c := by cases s <;> first | exact ⟨_, rfl⟩ | exact absurd h (by simp [pairOf])
theorem kind3 {s : Step} (h : (pairOf s).1 = ((3 : Nat) : Int)) : s = .abs := by cases s <;> first | rfl | exact absurd h (by simp [pairOf])
theorem kind4 {s : Step} (h : (pairOf s).1 = ((4 : Nat) : Int)) : s = .sort := by cases s <;> first | rfl | exact absurd h (by simp [pairOf])
theorem kind5 {s : Step} (h : (pairOf s).1 = ((5 : Nat) : Int)) : s = .reverse := by cases s <;> first | rfl | exact absurd h (by simp [pairOf])
theorem kind6 {s : Step} (h : (pairOf s).1 = ((6 : Nat) : Int)) : ∃ c, s = .rotate c := by cases s <;> first | exact ⟨_, rfl⟩ | exact absurd h (by simp [pairOf])
theorem kind7 {s : Step} (h : (pairOf s).1 = ((7 : Nat) : Int)) : ∃ c, s = .take c := by cases s <;> first | exact ⟨_, rfl⟩ | exact absurd h (by simp [pairOf])
theorem kind8 {s : Step} (h : (pairOf s).1 = ((8 : Nat) : Int)) : ∃ c, s = .drop c := by cases s <;> first | exact ⟨_, rfl⟩ | exact absurd h (by simp [pairOf])
theorem kind9 {s : Step} (h : (pairOf s).1 = ((9 : Nat) : Int)) : ∃ c, s = .above c := by cases s <;> first | exact ⟨_, rfl⟩ | exact absurd h (by simp [pairOf])
theorem kind10 {s : Step} (h : (pairOf s).1 = ((10 : Nat) : Int)) : s = .once := by cases s <;> first | rfl | exact absurd h (by simp [pairOf])
theorem kind11 {s : Step} (h : (pairOf s).1 = ((11 : Nat) : Int)) : s = .sum := by cases s <;> first | rfl | exact absurd h (by simp [pairOf])
theorem kind12 {s : Step} (h : (pairOf s).1 = ((12 : Nat) : Int)) : s = .greatest := by cases s <;> first | rfl | exact absurd h (by simp [pairOf])
theorem kind13 {s : Step} (h : (pairOf s).1 = ((13 : Nat) : Int)) : s = .least := by cases s <;> first | rfl | exact absurd h (by simp [pairOf])
theorem kind14 {s : Step} (h : (pairOf s).1 = ((14 : Nat) : Int)) : s = .count := by cases s <;> first | rfl | exact absurd h (by simp [pairOf])
theorem kind15 {s : Step} (h : (pairOf s).1 = ((15 : Nat) : Int)) : s = .steps := by cases s <;> first | rfl | exact absurd h (by simp [pairOf])
theorem kind16 {s : Step} (h : (pairOf s).1 = ((16 : Nat) : Int)) : s = .sums := by cases s <;> first | rfl | exact absurd h (by simp [pairOf])
theorem kind17 {s : Step} (h : (pairOf s).1 = ((17 : Nat) : Int)) : s = .twice := by cases s <;> first | rfl | exact absurd h (by simp [pairOf])
theorem fmod_rest {m : Nat} (h : 1 ≤ m) (x : Int) : x.fmod (m : Int) = restOf m x := by
  rw [restOf_eq h, Int.fmod_eq_emod_of_nonneg _ (by omega)]
/-- running sums, one further -/
theorem running_snoc (x : Int) : ∀ (l : Row) (a : Int), runningFrom a (l ++ [x]) = runningFrom a l ++ [a + l.sum + x]
  | [], a => by simp [runningFrom]
  | y :: l, a => by
    show (a + y) :: runningFrom (a + y) (l ++ [x]) = ((a + y) :: runningFrom (a + y) l) ++ [a + (y :: l).sum + x]
    rw [running_snoc x l (a + y), List.sum_cons]
    show (a + y) :: (runningFrom (a + y) l ++ [a + y + l.sum + x]) = (a + y) :: (runningFrom (a + y) l ++ [a + (y + l.sum) + x])
    rw [Int.add_assoc a y]
theorem running_length : ∀ (l : Row) (a : Int), (runningFrom a l).length = l.length
  | [], _ => rfl
  | x :: l, a => by
    show (runningFrom (a + x) l).length + 1 = l.length + 1
    rw [running_length l]
theorem once_take {x : Row} {i : Nat} {e : Int} (h : x[i]? = some e) : (x.take (i + 1)).foldl onceStep [] = onceStep ((x.take i).foldl onceStep []) e := by
  rw [List.take_add_one, h, List.foldl_append]
  rfl
theorem filter_take {x : Row} {p : Int → Bool} {i : Nat} {e : Int} (h : x[i]? = some e) : (x.take (i + 1)).filter p = (x.take i).filter p ++ (if p e = true then [e] else []) := by
  rw [List.take_add_one, h, List.filter_append]
  congr 1
  cases hp : p e <;> simp [hp]
theorem rotate_eq {k : Nat} {x : Row} (h : x ≠ []) : done (.rotate k) x = x.drop (k % x.length) ++ x.take (k % x.length) := by
  have hl : 0 < x.length := List.length_pos_iff.mpr h
  have e : Nat.max 1 x.length = x.length := Nat.max_eq_right hl
  show x.drop (k % Nat.max 1 x.length) ++ x.take (k % Nat.max 1 x.length) = _
  rw [e]
theorem rotate_nil {k : Nat} : done (.rotate k) [] = [] := by
  show List.drop _ [] ++ List.take _ [] = []
  simp
end Vm
set_option Elab.async false
set_option linter.unusedSectionVars false
namespace Vm
open Vamete VametBase
theorem fm_le {f : Program} : ∀ xs : List Row, (xs.filterMap (run f)).length ≤ xs.length
  | [] => Nat.le_refl _
  | x :: xs => by
    rw [List.filterMap_cons]
    have := fm_le (f := f) xs
    cases run f x <;> simp only [List.length_cons] <;> omega
theorem fm_short {f : Program} : ∀ {xs : List Row}, (xs.filterMap (run f)).length < xs.length → ∃ x ∈ xs, run f x = none
  | [], h => by simp at h
  | x :: xs, h => by
    cases e : run f x with
    | none => exact ⟨x, List.mem_cons_self, e⟩
    | some y =>
      rw [List.filterMap_cons, e] at h
      simp only [List.length_cons] at h
      obtain ⟨z, h1, h2⟩ := fm_short (f := f) (xs := xs) (by omega)
      exact ⟨z, List.mem_cons_of_mem _ h1, h2⟩
theorem fm_full {f : Program} : ∀ {xs : List Row}, ¬ (xs.filterMap (run f)).length < xs.length → ∀ x ∈ xs, ∃ y, run f x = some y ∧ y ∈ xs.filterMap (run f)
  | [], _, x, hx => by simp at hx
  | x :: xs, h, z, hz => by
    cases e : run f x with
    | none =>
      rw [List.filterMap_cons, e] at h
      have := fm_le (f := f) xs
      simp only [List.length_cons] at h
      omega
    | some y =>
      rw [List.filterMap_cons, e] at h ⊢
      simp only [List.length_cons] at h
      rcases List.mem_cons.mp hz with rfl | hz
      · exact ⟨y, e, List.mem_cons_self⟩
      · obtain ⟨w, h1, h2⟩ := fm_full (f := f) (xs := xs) (by omega) z hz
        exact ⟨w, h1, List.mem_cons_of_mem _ h2⟩
theorem fm_take {f : Program} {xs : List Row} {i : Nat} {x : Row} (h : xs[i]? = some x) : (xs.take (i + 1)).filterMap (run f) = (xs.take i).filterMap (run f) ++ (run f x).toList := by
  rw [List.take_add_one, h, List.filterMap_append]
  cases e : run f x <;> simp [e]
/-- the length of all outcomes, if it is at most 4 -/
def common (f : Program) (xs : List Row) : Option Nat := (lengthOf f xs).bind fun m => if 4 < m then none else some m
theorem common_none {f : Program} {xs : List Row} (h : lengthOf f xs = none) : common f xs = none := by
  unfold common
  rw [h]
  rfl
theorem lengthOf_is {f : Program} {xs : List Row} {m : Nat} (h : lengthOf f xs = some m) : ∀ x ∈ xs, ∃ y, run f x = some y ∧ y.length = m := by
  intro x hx
  have hno : ¬ ∃ x ∈ xs, run f x = none := fun q => by
    rw [lengthOf_beyond q] at h
    cases h
  cases e : run f x with
  | none => exact absurd ⟨x, hx, e⟩ hno
  | some y =>
    refine ⟨y, rfl, ?_⟩
    by_cases c : ∀ x' ∈ xs, ∃ y', run f x' = some y' ∧ y'.length = y.length
    · rw [lengthOf_some (fun q => by rw [q] at hx; simp at hx) c] at h
      exact Option.some.inj h
    · refine absurd ?_ c
      intro x' hx'
      cases e' : run f x' with
      | none => exact absurd ⟨x', hx', e'⟩ hno
      | some y' =>
        refine ⟨y', rfl, ?_⟩
        by_cases d : y'.length = y.length
        · exact d
        · rw [lengthOf_differ hx' hx e' e d] at h
          cases h
theorem common_some {f : Program} {xs : List Row} {m : Nat} (hne : xs ≠ []) (h : ∀ x ∈ xs, ∃ y, run f x = some y ∧ y.length = m) (hm : m ≤ 4) : common f xs = some m := by
  unfold common
  rw [lengthOf_some hne h]
  show (if 4 < m then none else some m) = some m
  rw [if_neg (by omega)]
theorem common_long {f : Program} {xs : List Row} {x y : Row} (hx : x ∈ xs) (hy : run f x = some y) (hl : 4 < y.length) : common f xs = none := by
  unfold common
  cases e : lengthOf f xs with
  | none => rfl
  | some m =>
    obtain ⟨y', h1, h2⟩ := lengthOf_is e x hx
    rw [hy] at h1
    cases h1
    show (if 4 < m then none else some m) = none
    rw [if_pos (by omega)]
theorem common_inv {f : Program} {xs : List Row} {m : Nat} (h : common f xs = some m) : lengthOf f xs = some m ∧ m ≤ 4 := by
  unfold common at h
  cases e : lengthOf f xs with
  | none => rw [e] at h; cases h
  | some k =>
    rw [e] at h
    have h' : (if 4 < k then none else some k) = some m := h
    by_cases c : 4 < k
    · rw [if_pos c] at h'; cases h'
    · rw [if_neg c] at h'
      cases h'
      exact ⟨rfl, by omega⟩
theorem common_partner {f : Program} {xs : List Row} {t : Turn} (h : common f xs = none) : Vamete.partner f xs t = none := by
  unfold common at h
  cases e : lengthOf f xs with
  | none => exact partner_off e
  | some k =>
    rw [e] at h
    have h' : (if 4 < k then none else some k) = none := h
    by_cases c : 4 < k
    · exact partner_none e (.inl c)
    · rw [if_neg c] at h'; cases h'
/-- the outcomes in pairs: of a row, of the row turned -/
def pairsOf (f : Program) (t : Turn) (xs : List Row) : List (Row × Row) := xs.map fun x => ((run f x).getD [], (run f (Vamete.turned t x)).getD [])
theorem goes_pairs {f : Program} {t u : Turn} {xs : List Row} (h1 : ∀ x ∈ xs, (run f x).isSome = true) (h2 : ∀ x ∈ xs, (run f (Vamete.turned t x)).isSome = true) : goesWith f xs t u = (pairsOf f t xs).all fun p => decide (Vamete.turned u p.1 = p.2) := by
  unfold goesWith pairsOf
  rw [List.all_map]
  rw [Bool.eq_iff_iff, List.all_eq_true, List.all_eq_true]
  refine ⟨fun h x hx => ?_, fun h x hx => ?_⟩
  · have := h x hx
    obtain ⟨a, ea⟩ := Option.isSome_iff_exists.mp (h1 x hx)
    obtain ⟨b, eb⟩ := Option.isSome_iff_exists.mp (h2 x hx)
    rw [ea, eb] at this
    have e : b = Vamete.turned u a := by simpa using this
    refine decide_eq_true ?_
    show Vamete.turned u ((run f x).getD []) = (run f (Vamete.turned t x)).getD []
    rw [ea, eb]
    exact e.symm
  · have := h x hx
    obtain ⟨a, ea⟩ := Option.isSome_iff_exists.mp (h1 x hx)
    obtain ⟨b, eb⟩ := Option.isSome_iff_exists.mp (h2 x hx)
    have e : Vamete.turned u ((run f x).getD []) = (run f (Vamete.turned t x)).getD [] := of_decide_eq_true this
    rw [ea, eb] at e ⊢
    have e2 : Vamete.turned u a = b := e
    rw [← e2]
    simp
end Vm
set_option Elab.async false
set_option linter.unusedSectionVars false
namespace Vm
open Vamete VametBase
theorem rises_zip : ∀ x : Row, rises x = (x.zip (x.drop 1)).all fun z => decide (z.1 ≤ z.2)
  | [] => rfl
  | [a] => rfl
  | a :: b :: l => by
    show (decide (a ≤ b) && rises (b :: l)) = _
    rw [rises_zip (b :: l)]
    rfl
theorem unlike_len {x L : Row} (nd : L.Nodup) (hm : ∀ k, k ∈ L ↔ k ∈ x) : fitsCond .unlike x = decide (L.length = x.length) := by
  rw [Bool.eq_iff_iff, unlike_iff, decide_eq_true_iff]
  constructor
  · intro h
    have h1 := nodup_len_le L x nd fun k hk => (hm k).mp hk
    have h2 := nodup_len_le x L h fun k hk => (hm k).mpr hk
    omega
  · intro h
    exact (perm_of_sub L x nd (fun k hk => (hm k).mp hk) (by omega)).nodup nd
theorem begins_take (a b : Row) : stands .begins a b = decide (b.take a.length = a) := by
  show a.isPrefixOf b = _
  rw [Bool.eq_iff_iff, decide_eq_true_iff, List.isPrefixOf_iff_prefix, List.prefix_iff_eq_take]
  exact ⟨fun h => h.symm, fun h => h.symm⟩
theorem numbers_eq (a b : Row) {r : Bool} (h : r = true ↔ ∀ k : Int, decide (k ∈ a) = decide (k ∈ b)) : stands .numbers a b = r := by
  rw [Bool.eq_iff_iff, numbers_iff, h]
  exact ⟨fun q k => decide_eq_decide.mpr (q k), fun q k => decide_eq_decide.mp (q k)⟩
theorem bag_eq {a b a' b' : Row} (ha : a'.Perm a) (sa : a'.Pairwise (· ≤ ·)) (hb : b'.Perm b) (sb : b'.Pairwise (· ≤ ·)) : stands .bag a b = decide (a' = b') := by
  show (VametBase.sorted a == VametBase.sorted b) = _
  rw [sorted_uniq ha sa, sorted_uniq hb sb]
  rw [Bool.eq_iff_iff, beq_iff_eq, decide_eq_true_iff]
theorem most_eq (a b : Row) : stands .most a b = (decide (a.length = b.length) && (a.zip b).all fun x => decide (x.1 ≤ x.2)) := by
  show (a.length == b.length && _) = _
  congr 1
theorem least_eq (a b : Row) : stands .least a b = stands .most b a := by
  show (a.length == b.length && (a.zip b).all fun x => decide (x.2 ≤ x.1)) = (b.length == a.length && (b.zip a).all fun x => decide (x.1 ≤ x.2))
  have e1 : (a.length == b.length) = (b.length == a.length) := by
    rw [Bool.eq_iff_iff, beq_iff_eq, beq_iff_eq]
    exact eq_comm
  have e2 : ∀ a b : Row, ((a.zip b).all fun x => decide (x.2 ≤ x.1)) = ((b.zip a).all fun x => decide (x.1 ≤ x.2)) := by
    intro a
    induction a with
    | nil => intro b; cases b <;> rfl
    | cons x a ih =>
      intro b
      cases b with
      | nil => rfl
      | cons y b =>
        exact congrArg (fun z => decide (y ≤ x) && z) (ih b)
  rw [e1, e2]
theorem cond0 {c : Cond} {k : Int} (h : condNum c = (((0 : Nat) : Int), k)) : c = .any := by cases c <;> first | rfl | exact absurd (congrArg Prod.fst h) (by simp [condNum])
theorem cond1 {c : Cond} {k : Int} (h : condNum c = (((1 : Nat) : Int), k)) : c = .some := by cases c <;> first | rfl | exact absurd (congrArg Prod.fst h) (by simp [condNum])
theorem cond2 {c : Cond} {k : Int} (h : condNum c = (((2 : Nat) : Int), k)) : c = .rising := by cases c <;> first | rfl | exact absurd (congrArg Prod.fst h) (by simp [condNum])
theorem cond3 {c : Cond} {k : Int} (h : condNum c = (((3 : Nat) : Int), k)) : c = .plus := by cases c <;> first | rfl | exact absurd (congrArg Prod.fst h) (by simp [condNum])
theorem cond4 {c : Cond} {k : Int} (h : condNum c = (((4 : Nat) : Int), k)) : c = .unlike := by cases c <;> first | rfl | exact absurd (congrArg Prod.fst h) (by simp [condNum])
theorem cond5 {c : Cond} {k : Int} (h : condNum c = (((5 : Nat) : Int), k)) : ∃ n : Nat, c = .atLeast n ∧ k = (n : Int) := by
  cases c
  case atLeast n => exact ⟨n, rfl, (congrArg Prod.snd h).symm⟩
  all_goals exact absurd (congrArg Prod.fst h) (by simp [condNum])
theorem rel0 {c : Rel} (h : relNumber c = ((0 : Nat) : Int)) : c = .equal := by cases c <;> first | rfl | exact absurd h (by simp [relNumber])
theorem rel1 {c : Rel} (h : relNumber c = ((1 : Nat) : Int)) : c = .bag := by cases c <;> first | rfl | exact absurd h (by simp [relNumber])
theorem rel2 {c : Rel} (h : relNumber c = ((2 : Nat) : Int)) : c = .numbers := by cases c <;> first | rfl | exact absurd h (by simp [relNumber])
theorem rel3 {c : Rel} (h : relNumber c = ((3 : Nat) : Int)) : c = .most := by cases c <;> first | rfl | exact absurd h (by simp [relNumber])
theorem rel4 {c : Rel} (h : relNumber c = ((4 : Nat) : Int)) : c = .least := by cases c <;> first | rfl | exact absurd h (by simp [relNumber])
theorem rel5 {c : Rel} (h : relNumber c = ((5 : Nat) : Int)) : c = .begins := by cases c <;> first | rfl | exact absurd h (by simp [relNumber])
theorem rel6 {c : Rel} (h : relNumber c = ((6 : Nat) : Int)) : c = .long := by cases c <;> first | rfl | exact absurd h (by simp [relNumber])
theorem condNum_kind (c : Cond) : ∃ j : Nat, (condNum c).1 = (j : Int) ∧ j ≤ 5 := by
  cases c
  · exact ⟨0, rfl, by decide⟩
  · exact ⟨1, rfl, by decide⟩
  · exact ⟨2, rfl, by decide⟩
  · exact ⟨3, rfl, by decide⟩
  · exact ⟨4, rfl, by decide⟩
  · exact ⟨5, rfl, by decide⟩
theorem relNumber_kind (c : Rel) : ∃ j : Nat, relNumber c = (j : Int) ∧ j ≤ 6 := by
  cases c
  · exact ⟨0, rfl, by decide⟩
  · exact ⟨1, rfl, by decide⟩
  · exact ⟨2, rfl, by decide⟩
  · exact ⟨3, rfl, by decide⟩
  · exact ⟨4, rfl, by decide⟩
  · exact ⟨5, rfl, by decide⟩
  · exact ⟨6, rfl, by decide⟩
end Vm
set_option Elab.async false
set_option linter.unusedSectionVars false
namespace Vm
open Vamete VametBase
theorem run_within {p : Program} : ∀ {x y : Row}, within x = true → run p x = some y → within y = true := by
  induction p with
  | nil =>
    intro x y hx h
    cases h
    exact hx
  | cons s p ih =>
    intro x y hx h
    have h' : (if within (done s x) then run p (done s x) else none) = some y := h
    split at h'
    · rename_i q
      exact ih q h'
    · cases h'
theorem rr0 {x : List Int} (h : readCond x = none) : readRelation x = none := by rw [readRelation_eq, h]; rfl
theorem rr1 {x r1 : List Int} {c : Cond} (h1 : readCond x = some (c, r1)) (h : readProgram r1 = none) : readRelation x = none := by
  rw [readRelation_eq, h1]
  show ((readProgram r1).bind _) = none
  rw [h]
  rfl
theorem rr2 {x r1 r2 : List Int} {c : Cond} {i : Program} (h1 : readCond x = some (c, r1)) (h2 : readProgram r1 = some (i, r2)) (h : readRel r2 = none) : readRelation x = none := by
  rw [readRelation_eq, h1]
  show ((readProgram r1).bind _) = none
  rw [h2]
  show ((readRel r2).bind _) = none
  rw [h]
  rfl
theorem rr3 {x r1 r2 r3 : List Int} {c : Cond} {i : Program} {s : Rel} (h1 : readCond x = some (c, r1)) (h2 : readProgram r1 = some (i, r2)) (h3 : readRel r2 = some (s, r3)) (h : readProgram r3 = none) : readRelation x = none := by
  rw [readRelation_eq, h1]
  show ((readProgram r1).bind _) = none
  rw [h2]
  show ((readRel r2).bind _) = none
  rw [h3]
  show ((readProgram r3).map _) = none
  rw [h]
  rfl
theorem rr4 {x r1 r2 r3 r4 : List Int} {c : Cond} {i o : Program} {s : Rel} (h1 : readCond x = some (c, r1)) (h2 : readProgram r1 = some (i, r2)) (h3 : readRel r2 = some (s, r3)) (h4 : readProgram r3 = some (o, r4)) : readRelation x = some (⟨c, i, s, o⟩, r4) := by
  rw [readRelation_eq, h1]
  show ((readProgram r1).bind _) = _
  rw [h2]
  show ((readRel r2).bind _) = _
  rw [h3]
  show ((readProgram r3).map _) = _
  rw [h4]
  rfl
theorem whole_no {A : Type} {a : Reader A} {x : List Int} (h : a x = none) : whole a x = none := by
  unfold whole
  rw [h]
theorem whole_more {A : Type} {a : Reader A} {x r : List Int} {u : A} (h : a x = some (u, r)) (hr : r ≠ []) : whole a x = none := by
  unfold whole
  rw [h]
  cases r with
  | nil => exact absurd rfl hr
  | cons z r => rfl
theorem whole_all {A : Type} {a : Reader A} {x r : List Int} {u : A} (h : a x = some (u, r)) (hr : r = []) : whole a x = some u := by
  unfold whole
  rw [h, hr]
theorem chained_iff {a b : Relation} : (relNumber a.rel = 0 ∧ relNumber b.rel = 0 ∧ a.output = b.input ∧ (condNum b.cond).1 = 0) ↔ (a.rel = .equal ∧ b.rel = .equal ∧ a.output = b.input ∧ b.cond = .any) := by
  rw [relNumber_zero, relNumber_zero, condNum_any]
/-- whether two relations are chained -/
def areChained (a b : Relation) : Bool := decide (a.rel = .equal ∧ b.rel = .equal ∧ a.output = b.input ∧ b.cond = .any)
theorem verdict_off {f : Program} {r : Relation} {x : Row} (h : fitsCond r.cond x = false) : verdict f r x = .off := by rw [verdict_eq, if_pos h]
theorem verdict_none {f : Program} {r : Relation} {x : Row} (h : run (r.input ++ f) x = none ∨ run (f ++ r.output) x = none) : verdict f r x = .off := by
  rw [verdict_eq]
  split
  · rfl
  · rcases h with h | h
    · rw [h]
    · rw [h]
      cases run (r.input ++ f) x <;> rfl
theorem verdict_both {f : Program} {r : Relation} {x l m : Row} (h : fitsCond r.cond x = true) (h1 : run (r.input ++ f) x = some l) (h2 : run (f ++ r.output) x = some m) : verdict f r x = if stands r.rel l m then .kept else .broken := by
  rw [verdict_eq, if_neg (by rw [h]; exact fun z => nomatch z), h1, h2]
theorem vNum_kind (v : Verdict) : vNum v < 3 := by cases v <;> decide
end Vm
set_option Elab.async false
set_option linter.all false
set_option maxRecDepth 100000
set_option maxHeartbeats 4000000
/-! enumerate(a tuple), walked -/
namespace Tg
open PySem PySem.Spec PyProof.Rows L2
open AutoSeq1 (wpAny_loadPart')
theorem meetsEnumT {v : Value} {u : Obj} {G : Heap → Prop} (B : Begins v u G) :
    Meets (Builtin.«enumerate.__new__» ⟨[.type "enumerate", v], []⟩) (fun _ Z s => G s.heap ∧ Z (.ok (.ret (.ref (s.heap.push u).objs.size)))
      { s with heap := (s.heap.push u).push { cls := .type "enumerate", data := .fields #[.none, .bool false, .ref s.heap.objs.size, rawInt 0, .none, .none] } }) := by
  refine .of_wp fun prog w A Z s h => ?_
  obtain ⟨hp, gg, dd, tk, os⟩ := s
  obtain ⟨hg, hz⟩ := h
  have hsub := sub_enumerate
  have it1 : ∀ {A' : Around} {E : Value → Shared → Prop} {Q : Value → Shared → Prop}, Q (.ref hp.objs.size) ⟨hp.push u, gg, dd, tk, os⟩ → wpAny (model prog w) A' (pyIter v) Q E ⟨hp, gg, dd, tk, os⟩ :=
    fun q => B.iter prog w _ _ ⟨hp, gg, dd, tk, os⟩ _ hg q
  wp_walk using it1
  refine wpAny_stack_any fun st => wpAny_pure ?_
  split
  · rename_i k _ _ _ _ _
    cases (k == Value.type "enumerate") <;> (wp_walk using it1; exact ⟨_, rfl, hz⟩)
  · wp_walk using it1
    exact ⟨_, rfl, hz⟩
theorem callEnumT {prog : Program} {w : World} {A : Around} {E : Value → Shared → Prop} {s : Shared} {v : Value} {u : Obj} {G : Heap → Prop} {Q : Value → Shared → Prop} (B : Begins v u G) (hg : G s.heap)
    (h : ∀ h', IsEnum h' (s.heap.objs.size + 1) s.heap.objs.size 0 .none → h'.get? s.heap.objs.size = some u → (∀ b o, s.heap.get? b = some o → h'.get? b = some o) → Q (.ref (s.heap.objs.size + 1)) { s with heap := h' }) :
    wpAny (model prog w) A (call (.type "enumerate") [v]) Q E s := by
  refine callType_new F.called_enumerate (by decide) (F.typeCall_enumerate_1 _) (F.newCall_enumerate_1 _) (fun ob => F.args_object_init_2 ob _) F.entry_enumerate_new (meetsEnumT B) ⟨hg, ?_⟩
  have e1 : (s.heap.push u).objs.size = s.heap.objs.size + 1 := Heap.size_push ..
  show _ ∧ _
  rw [e1]
  have e2 : IsEnum ((s.heap.push u).push { cls := .type "enumerate", data := .fields #[.none, .bool false, .ref s.heap.objs.size, rawInt 0, .none, .none] }) (s.heap.objs.size + 1) s.heap.objs.size 0 .none := by
    have q := Heap.get?_push_size (s.heap.push u) (o := { cls := .type "enumerate", data := .fields #[.none, .bool false, .ref s.heap.objs.size, rawInt 0, .none, .none] }) rfl
    rw [e1] at q
    exact q
  exact ⟨⟨_, e2, rfl⟩, h _ e2 (Heap.get?_push_of_some _ (Heap.get?_push_size _ B.free)) fun b o q => Heap.get?_push_of_some _ (Heap.get?_push_of_some _ q)⟩
/-- the tuple at a, each item in a new pair with its place -/
def IteT (K : PySem.W.Frag) (a : Addr) : It where
  go := fun i H => ∃ (xs : List V) (x : V), SqT K H a xs ∧ xs[i]? = some x
  yld := fun i H v H' => ∃ T x, v = .ref T ∧ H T = none ∧ H' = upd H T (.tup [.int (i : Nat), x]) ∧ ∀ xs, SqT K H a xs → xs[i]? = some x
  stop := fun i H => ∃ xs : List V, SqT K H a xs ∧ xs.length ≤ i
theorem turnEnumT {P : Program} {w : World} {K : PySem.W.Frag} {elts : List Expr} {kk : Nat} {tpos : Pos} (a e it : Addr) :
    Turn P w K (.Tuple elts kk tpos) (IteT K a) [e, it] e (fun i h => (∃ old, IsEnum h e it ((i : Nat) : Int) old) ∧ h.IsTupleIter it a i ∧ e ≠ it) where
  mem := by simp
  obj := fun i h st b hb => by
    obtain ⟨⟨old, he⟩, ⟨o, ho, hc, hd⟩, _⟩ := st
    rcases (show b = e ∨ b = it by simpa using hb) with rfl | rfl
    · exact ⟨_, he, fun v q => nomatch q⟩
    · exact ⟨o, ho, fun v q => by rw [hd] at q; cases q⟩
  keep := fun i h h' st k => by
    obtain ⟨⟨old, he⟩, hi, hne⟩ := st
    exact ⟨⟨old, k e (by simp) _ he⟩, hi.at fun o q => k it (by simp) o q, hne⟩
  item := by
    intro X hP hw hK hc i pins s σ H E I hf st hg
    subst hP hw hK
    obtain ⟨⟨old, he⟩, hit, hne⟩ := st
    obtain ⟨xs, x, hq, hx⟩ := hg
    obtain ⟨its, rv, p, hz⟩ := I.tuple hq
    obtain ⟨u, hu, ru⟩ := rv.get hx
    have pt : s.heap.IsTuple a its.toArray := p
    have hel : e < s.heap.objs.size := Heap.lt_size he
    have hil : it < s.heap.objs.size := by
      obtain ⟨_, q, _⟩ := hit
      exact Heap.lt_size q
    have hai : a ≠ it := fun z => by
      obtain ⟨o1, q1, c1, _⟩ := pt
      obtain ⟨o2, q2, c2, _⟩ := hit
      rw [z, q2] at q1
      cases q1
      rw [c2] at c1
      simp at c1
    have hea : e ≠ a := fun z => by
      obtain ⟨o1, q1, c1, _⟩ := pt
      have q2 : s.heap.get? e = some _ := he
      rw [z, q1] at q2
      cases q2
      simp at c1
    have hh : X.A.in1.handled = none := I.ok.hd hc
    have D := Draws.tuple (prog := X.prog) (w := X.w) (A := X.A.in1) hh it a hai its.toArray
    have hlt : i < its.toArray.size := by
      have := (List.getElem?_eq_some_iff.mp hu).1
      simpa using this
    refine wpAny_pyNext_enum_itemD D he ⟨hit, pt⟩ hlt hne (by simp [hne, hea]) fun y h' tk hy ho hst hT hsz hk => ?_
    have ey : y = u := by
      have : its[i]? = some y := by simpa using hy
      rw [hu] at this
      cases this
      rfl
    subst ey
    refine ⟨_, rfl, wpAny_letOwnedTupleGo_enum (s := { s with heap := h', toks := tk + 1 }) ho fun h2 he2 sb => ?_⟩
    have hT2 : h2.get? s.heap.objs.size = some { cls := .type "tuple", data := .seq #[.int i tk, y] } := (sb.2 _ (Nat.ne_of_gt hel)).trans hT
    have new : ObjOk X.prog X.w (upd H s.heap.objs.size (.tup [.int (i : Nat), x])) h2 s.heap.objs.size (.tup [.int (i : Nat), x]) :=
      ⟨by show 2 ≤ sizeLine; decide, [.int i tk, y], .cons ⟨_, rfl⟩ (.cons ru .nil), ⟨_, hT2, rfl, _, rfl⟩⟩
    have I1 : Inv X pins σ (upd H s.heap.objs.size (.tup [.int (i : Nat), x])) { s with heap := h2, toks := tk + 1 } :=
      I.turnedNew (ch := [e, it]) (fun b ob hb q => (sb.2 b (fun z => hb (by simp [z]))).trans (hk b ob (fun z => hb (by simp [z])) (fun z => hb (by simp [z])) q)) hf (Nat.le_refl _) new
    refine ⟨.ref s.heap.objs.size, _, I1, rfl, ⟨_, x, rfl, I.hok.fresh (Nat.le_refl _), rfl, fun ys hy => by rw [I.tuple_inj hy hq]; exact hx⟩, ⟨⟨y, ?_⟩, hst.1.at fun o q => (sb.2 it (Ne.symm hne)).trans q, hne⟩, fun b hb => ?_⟩
    · rw [show ((i + 1 : Nat) : Int) = (i : Int) + 1 by omega]
      exact he2
    · have hb' : b < s.heap.objs.size := by
        rcases (show b = e ∨ b = it by simpa using hb) with z | z
        · rw [z]; exact hel
        · rw [z]; exact hil
      rw [upd_ne (Nat.ne_of_lt hb')]
      exact (hf b hb).1
  done := by
    intro X hP hw hK hc i pins s σ H E I hf st hg
    subst hP hw hK
    obtain ⟨⟨old, he⟩, hit, hne⟩ := st
    obtain ⟨xs, hq, hx⟩ := hg
    obtain ⟨its, rv, p, hz⟩ := I.tuple hq
    obtain ⟨f0, f1, f2, f3, f4, f5⟩ := hf it (by simp)
    have pt : s.heap.IsTuple a its.toArray := p
    have hT : s.TypeIs (.ref e) "enumerate" := ⟨_, he, rfl⟩
    unfold pyNext
    refine wpAny_bind (wpAny_attempt (wpAny_callSpecial?_slot (name := Str.ofString "__next__") hT F.slot_enumerate_next (wpAny_call_entry F.slot_enumerate_next hT F.entry_enumerate_next ?_ (F.args_enumerate_next_1 _))))
    show wpAny _ _ (field (.ref e) 2 >>= _) _ _ _
    refine wpAny_bind (wpAny_field he rfl (x := .ref it) rfl ?_)
    have hl := rv.length
    refine wpAny_bind (wpAny_nextOf_tuple_end (I.ok.hd hc) hit pt (by simp; omega) fun h' x he' hx' => ?_)
    obtain ⟨o, ho, hcl⟩ := hx'
    refine wpAny_bind (wpAny_isInstance (T := "StopIteration") (b := true) ⟨o, ho, hcl⟩ isSubtype_stop ?_)
    exact wpAny_pure ⟨rfl, I.turned (t' := s.toks) (fun b o hb q => he' b o hb q) f0 f1 f3 f4 f5⟩
  self := fun A i s Q E st h => let ⟨⟨_, he⟩, _⟩ := st; wpAny_pyIter_enum he h
def iEnumT (K : PySem.W.Frag) (ta : TA) : TI := fun σ H R => ta σ H fun vs H1 => ∃ a xs, vs = [.ref a] ∧ SqT K H1 a xs ∧ R (IteT K a) H1
theorem pi_enumT {X : Cx} {e : Expr} {ta : TA} {p pos tpos : Pos} {elts : List Expr} {kk : Nat} (hg : Gl X "enumerate") (hm : X.mg "enumerate" = none) (ha : PA X [e] ta) (hs : starEach [e] X.env = [(false, eval e X.env)] := by rfl) :
    PI X (.Tuple elts kk tpos) (.Call (.Name "enumerate" p) [e] [] pos) (iEnumT X.K ta) := by
  refine ⟨fun pins s σ H R I h => ?_⟩
  refine Call_ (ld_blt I hg hm boot_enumerate (PyProof.Rows.callWith_type1 (thn (ha.run pos pins s σ H _ I h) fun us s1 ⟨vs, H1, I1, r1, q1⟩ => ?_) hs rfl))
  obtain ⟨a, xs, ex, hq, q⟩ := q1
  subst ex
  cases r1 with
  | cons r rr =>
    cases rr
    cases r
    obtain ⟨its, rv, p', hz⟩ := I1.tuple hq
    have pt : s1.heap.IsTuple a its.toArray := p'
    refine callEnumT (begins_tuple a its.toArray) pt fun h' he hit hk => wpAny_pyIter_enum he ?_
    have I2 : Inv X pins σ H1 { s1 with heap := h' } := I1.kept (t' := s1.toks) hk
    refine ⟨s1.heap.objs.size + 1, [s1.heap.objs.size + 1, s1.heap.objs.size], _, _, H1, rfl, I2, turnEnumT a (s1.heap.objs.size + 1) s1.heap.objs.size, ⟨⟨.none, he⟩, ⟨_, hit, rfl, rfl⟩, Nat.succ_ne_self _⟩, fun b hb => ?_, q⟩
    have hle : s1.heap.objs.size ≤ b := by
      rcases (show b = s1.heap.objs.size + 1 ∨ b = s1.heap.objs.size by simpa using hb) with z | z
      · rw [z]; exact Nat.le_add_right _ _
      · rw [z]; exact Nat.le_refl _
    exact I1.fpOk hle (I1.hok.fresh hle)
theorem walk_enumT {K : PySem.W.Frag} {a : Addr} {xs : List V} : Walk (IteT K a) xs.length (fun H => SqT K H a xs) (YPair (fun i => some (.int (i : Nat))) (fun i => xs[i]?)) := by
  refine ⟨fun i _ hi q => ⟨xs, xs[i], q, by simp [hi]⟩, fun _ q => ⟨xs, q, Nat.le_refl _⟩, fun i H v H' _ q y => ?_⟩
  obtain ⟨T, x, e1, e2, e3, e4⟩ := y
  exact ⟨T, .int (i : Nat), x, e1, e2, e3, rfl, e4 xs q⟩
end Tg
set_option Elab.async false
set_option linter.all false
set_option maxRecDepth 100000
set_option maxHeartbeats 4000000
/-! {k: v}, k a tuple -/
namespace Tg
open PySem PySem.Spec PyProof.Rows L2
def tDispT (tk tv : TE) : TE := fun σ H Q => ∀ p, H p = none → tk σ (upd H p (.dT [])) fun x H1 => tv σ H1 fun y H2 => H2 p = some (.dT []) ∧ ∃ b ks, x = .ref b ∧ H2 b = some (.tup (ks.map kV)) ∧ Q (.ref p) (upd H2 p (.dT [(ks, y)]))
theorem pe_dispT {X : Cx} {pos : Pos} {k v : Expr} {tk tv : TE} (hu : X.A.units + 1 < cLine) (hk : PE X k tk) (hv : PE X v tv) : PE X (.Dict [some k] [v] pos) (tDispT tk tv) := by
  refine ⟨fun pins s σ H Q I q => ?_⟩
  rw [arm_eval_Dict, zip_pairTrees [some k] [v] X.env pos rfl rfl, dictDisplay_pairs _ (by intro z; cases z) (by show 1 < 17; decide)]
  refine wpAny_bind (wpAny_standAt (wpAny_bind ?_))
  have hn := I.hok.fresh (Nat.le_refl s.heap.objs.size)
  have I1 := I.laid (a := s.heap.objs.size) (o := .dT []) (h' := s.heap.push { cls := .type "dict", data := .dict #[] }) (t' := s.toks) (fun _ _ z => Heap.get?_push_of_some _ z) (Nat.le_refl _) (dt_empty s.heap I.big)
  unfold subDict
  refine wpAny_bind (wpAny_alloc (wpAny_bind (wpAny_holding ?_)))
  rw [if_pos (show (pairTrees [some k] [v] X.env pos).length ≤ 15 by show 1 ≤ 15; decide)]
  refine wpAny_bind (pairTrees_cons_walk (thn (hk.run pins _ σ _ _ I1 (q _ hn)) fun u s1 ⟨x, H1, J1, rx, q1⟩ => thn (hv.run pins s1 σ H1 _ J1 q1) fun u2 s2 ⟨y, H2, J2, ry, e2, b, ks, ex, eb, q2⟩ => pairTrees_nil_walk ?_))
  subst ex
  obtain rfl : u = Value.ref b := rx
  refine wpAny_holding (wpAny_bind ?_)
  rw [List.forIn_cons]
  obtain ⟨z, hd, xs, rel, dd⟩ := dt_of J2.hok e2
  cases rel
  refine wpAny_bind (wpAny_bind (wpAny_dictSet_heap (hsz := Nat.zero_le _) (k := ks) (Nat.lt_of_succ_lt hu) (key_of J2.hok eb) dd fun h' dd' hs => wpAny_pure ?_))
  dsimp only
  rw [List.forIn_nil]
  refine wpAny_pure (wpAny_pure (wpAny_pure (wpAny_pure ⟨.ref s.heap.objs.size, _, ?_, rfl, q2⟩)))
  obtain ⟨o, es, ep, ho, g2, g3, g4, _, g5⟩ := dd'
  have rl : KT H2 (putK [] ks y) _ := KT.put .nil ks eb ry
  refine d_write J2 (by rw [e2]; exact True.intro) hs ⟨o, ho⟩ ⟨by show 1 ≤ sizeLine; decide, hd, _, rl.keeps fun c ys ec => ?_, o, es, ep, ho, g2, g3, g4, g5⟩
  rw [upd_ne (ne_of ec e2 (fun z => nomatch z))]
  exact ec
end Tg
set_option Elab.async false
set_option linter.all false
set_option maxRecDepth 100000
set_option maxHeartbeats 4000000
/-! xs.extend(a tuple) -/
namespace PySem
open Sem (wp)
open AutoSeq1 (wpAny_loadPart')
open AutoSeq1
theorem meetsExtT (l b : Addr) (its its2 : Array Value) (n n2 : Nat) (d2 : Option Addr) (sl2 : Array (Option Value)) (h0 : ¬(!its.isEmpty && Builtin.List.listTooLong (its.size + its2.size)) = true) (h1 : its.size ≤ sizeLine) (h2 : its.size + its2.size ≤ sizeLine + 1) :
    Meets (Builtin.«list.extend» ⟨[.ref l, .ref b], []⟩) (fun _ Z s => s.heap.get? l = some { cls := .type "list", dict := none, data := .seq its n, slots := #[] } ∧ s.heap.get? b = some { cls := .type "tuple", dict := d2, data := .seq its2 n2, slots := sl2 } ∧
      Z (.ok (.ret Value.none)) { s with heap := s.heap.update l (Obj.mapSeq fun x => x ++ its2), toks := s.toks }) := by
  refine .of_wp fun prog w A Z s h => ?_
  obtain ⟨hp, g, d, tk, os⟩ := s
  obtain ⟨hl, hb, hz⟩ := h
  have f1 := idx_int
  have f2 := sub_tuple_tuple
  have f3 := sub_list_list
  have f4 := sub_tuple_list
  have f5 := sub_list_tuple
  have hz' : (its ++ its2).size ≤ sizeLine + 1 := by
    rw [Array.size_append]
    exact h2
  wp_walk using (wpAny_updateSeq hl rfl (hz := h1) (_hz' := hz')), wpAny_loadPart' hl, wpAny_loadPart' hb
  exact ⟨_, rfl, hz⟩
end PySem
namespace Tg
open PySem PySem.Spec PyProof.Rows L2
def rExtendT : V → List V → Hp → VK → Prop := fun x vs H Q => ∃ l b xs zs, x = .ref l ∧ vs = [.ref b] ∧ H l = some (.lst xs) ∧ H b = some (.tup zs) ∧ xs.length + zs.length ≤ sizeLine ∧ Q .non (upd H l (.lst (xs ++ zs)))
theorem mt_extendT {X : Cx} : MtM X "list.extend" rExtendT := by
  intro pins s σ H x vs v us Q I rx rv h
  obtain ⟨l, b, xs, zs, rfl, rfl, hH, hB, hz, q⟩ := h
  cases rx
  obtain ⟨u, rfl, ru⟩ := rv.one
  cases ru
  obtain ⟨z, its, n, r, hl, e⟩ := I.lstM hH
  obtain ⟨z2, its2, r2, ⟨oc, od, odt, osl⟩, e2, hc2, n2, hd2⟩ := I.hok b _ hB
  replace hc2 : oc = .type "tuple" := hc2
  replace hd2 : odt = .seq its2.toArray n2 := hd2
  subst hc2 hd2
  have hl2 := r2.length
  have hsz : its.toArray.size + its2.toArray.size ≤ sizeLine := by
    rw [List.size_toArray, List.size_toArray]
    omega
  have hlong : ¬ (!its.toArray.isEmpty && Builtin.List.listTooLong (its.toArray.size + its2.toArray.size)) = true := by
    rw [notLongL hsz, Bool.and_false]
    exact Bool.false_ne_true
  refine call_meets F.slot_list_extend ⟨_, e, rfl⟩ F.entry_list_extend (F.args_list_extend_2 _ _) (meetsExtT l b its.toArray its2.toArray n n2 od osl hlong (by rw [List.size_toArray]; omega) (by omega)) ⟨e, e2, ?_⟩
  refine ⟨.non, _, I.lset (its' := its ++ its2) hH e (by simp) (r.append r2) ?_, rfl, q⟩
  rw [List.length_append]
  omega
end Tg
set_option Elab.async false
set_option linter.all false
set_option maxRecDepth 100000
set_option maxHeartbeats 4000000
/-! sum, max, min, sorted of a tuple of whole numbers -/
namespace PySem
section
variable {prog : Program} {w : World} {A : Around} {E : Value → Shared → Prop} {s : Shared} {l : Addr} {xs : Array (Int × Tok)}
theorem iter_intTup {Q : Value → Shared → Prop} (hl : s.heap.IsTuple l (intItems xs))
    (h : ∀ s₂ : Shared, s₂ = { s with heap := s.heap.push { cls := .type "tuple_iterator", data := .fields #[.ref l, .int 0 0] } } →
      (s₂.heap.IsTupleIter s.heap.objs.size l 0 ∧ s₂.heap.IsTuple l (intItems xs)) → (∀ b ∈ [s.heap.objs.size, l], b < s₂.heap.objs.size) → l ≠ s.heap.objs.size → Q (.ref s.heap.objs.size) s₂) :
    wpAny (model prog w) A (pyIter (.ref l)) Q E s := by
  have hlt : l < s.heap.objs.size := by obtain ⟨_, e, _⟩ := hl; exact Heap.lt_size e
  refine wpAny_pyIter_tuple hl (h _ rfl ⟨⟨_, Heap.get?_push_size _ rfl, rfl, rfl⟩, hl.push _⟩ (fun b hb => ?_) (Nat.ne_of_lt hlt))
  show b < (s.heap.push _).objs.size
  rw [Heap.size_push]
  rcases List.mem_cons.mp hb with rfl | hb
  · exact Nat.lt_succ_self _
  · rcases List.mem_cons.mp hb with rfl | hb
    · exact Nat.lt_succ_of_lt hlt
    · cases hb
theorem old_keptT {u : Obj} {h' : Heap} (hk : ∀ b o, b ∉ [s.heap.objs.size] → (s.heap.push u).get? b = some o → h'.get? b = some o) :
    ∀ b o, s.heap.get? b = some o → h'.get? b = some o := fun b o e => by
  refine hk b o (fun hm => ?_) (Heap.get?_push_of_some _ e)
  rcases List.mem_cons.mp hm with e1 | hm
  · exact absurd (e1 ▸ Heap.lt_size e) (Nat.lt_irrefl _)
  · cases hm
theorem sum_intTup {Q : Value → Shared → Prop} (hh : A.handled = none) (hl : s.heap.IsTuple l (intItems xs))
    (h : ∀ h' tk t', (∀ b o, s.heap.get? b = some o → h'.get? b = some o) → Q (.int (preSum (numAt xs) xs.size) t') { s with heap := h', toks := tk }) :
    wpAny (model prog w) A (call (.builtin "sum") [.ref l]) Q E s := by
  refine call_sum_walkG (iter_intTup hl fun s₂ e st hfp hlI => ?_)
  subst e
  refine ⟨_, _, _, _, _, _, numAt xs, rfl, Walks.tuple (A := A.in1) hh _ l hlI (intItems xs), st, hfp, (fun _ _ => intItems_at), fun h' tk t' hk => ?_⟩
  have := h h' tk t' (old_keptT hk)
  simpa [intItems] using this
theorem max_intTup {Q : Value → Shared → Prop} (hh : A.handled = none) (hl : s.heap.IsTuple l (intItems xs)) (hne : 0 < xs.size)
    (h : ∀ v h' tk, (intItems xs)[argBest (fun i j => decide (numAt xs i > numAt xs j)) (xs.size - 1)]? = some v → (∀ b o, s.heap.get? b = some o → h'.get? b = some o) → Q v { s with heap := h', toks := tk }) :
    wpAny (model prog w) A (call (.builtin "max") [.ref l]) Q E s := by
  refine call_max_walk (iter_intTup hl fun s₂ e st hfp hlI => ?_)
  subst e
  refine ⟨_, _, _, _, _, _, _, rfl, Walks.tuple (A := A.in1) hh _ l hlI (intItems xs), st, hfp, by simpa [intItems] using hne, CmpOf.ints_gt (numAt xs) (fun _ _ => intItems_at), fun v h' tk hP hk => ?_⟩
  exact h v h' tk (by simpa [intItems] using hP) (old_keptT hk)
theorem min_intTup {Q : Value → Shared → Prop} (hh : A.handled = none) (hl : s.heap.IsTuple l (intItems xs)) (hne : 0 < xs.size)
    (h : ∀ v h' tk, (intItems xs)[argBest (fun i j => decide (numAt xs i < numAt xs j)) (xs.size - 1)]? = some v → (∀ b o, s.heap.get? b = some o → h'.get? b = some o) → Q v { s with heap := h', toks := tk }) :
    wpAny (model prog w) A (call (.builtin "min") [.ref l]) Q E s := by
  refine call_min_walk (iter_intTup hl fun s₂ e st hfp hlI => ?_)
  subst e
  refine ⟨_, _, _, _, _, _, _, rfl, Walks.tuple (A := A.in1) hh _ l hlI (intItems xs), st, hfp, by simpa [intItems] using hne, CmpOf.ints_lt (numAt xs) (fun _ _ => intItems_at), fun v h' tk hP hk => ?_⟩
  exact h v h' tk (by simpa [intItems] using hP) (old_keptT hk)
end
end PySem
namespace Tg
open PySem PySem.Spec PyProof.Rows L2
section
variable {prog : Program} {w : World} {A : Around} {E : Value → Shared → Prop} {s : Shared} {l : Addr} {its : List Value} {ns : List Int} {Q : Value → Shared → Prop}
theorem sumT_raw (hh : A.handled = none) (hl : s.heap.IsTuple l its.toArray) (hi : IntsAre its ns)
    (h : ∀ h' tk t', (∀ b o, s.heap.get? b = some o → h'.get? b = some o) → Q (.int ns.sum t') { s with heap := h', toks := tk }) : wpAny (model prog w) A (call (.builtin "sum") [.ref l]) Q E s := by
  obtain ⟨xs, e⟩ := hi.allInts.items
  have hn : numsOf (intItems xs).toList = ns := by rw [← e]; exact hi.numsOf
  rw [nums_intItems] at hn
  rw [e] at hl
  refine PySem.sum_intTup hh hl fun h' tk t' hk => ?_
  have := h h' tk t' hk
  rw [preSum_eq, List.take_of_length_le (by simp), hn]; exact this
theorem maxT_raw (hh : A.handled = none) (hl : s.heap.IsTuple l its.toArray) (hi : IntsAre its ns) (hne : 0 < ns.length)
    (h : ∀ h' tk M t', (∀ b o, s.heap.get? b = some o → h'.get? b = some o) → M ∈ ns → (∀ a, a ∈ ns → a ≤ M) → Q (.int M t') { s with heap := h', toks := tk }) : wpAny (model prog w) A (call (.builtin "max") [.ref l]) Q E s := by
  obtain ⟨xs, e⟩ := hi.allInts.items
  have hn : numsOf (intItems xs).toList = ns := by rw [← e]; exact hi.numsOf
  rw [nums_intItems] at hn
  subst hn
  rw [e] at hl
  have hsz : 0 < xs.size := by simpa using hne
  refine PySem.max_intTup hh hl hsz fun v h' tk hv hk => ?_
  obtain ⟨t, rfl⟩ := intItems_at hv
  obtain ⟨h1, h2⟩ := argBest_gt (numAt xs) (xs.size - 1)
  refine h h' tk _ t hk ?_ fun a ha => ?_
  · rw [numAt_eq]; exact PySem.getD_mem (by rw [List.length_map, Array.length_toList]; omega)
  · obtain ⟨j, hj, rfl⟩ := mem_getD ha
    rw [List.length_map, Array.length_toList] at hj
    rw [← numAt_eq]; exact h2 j (by omega)
theorem minT_raw (hh : A.handled = none) (hl : s.heap.IsTuple l its.toArray) (hi : IntsAre its ns) (hne : 0 < ns.length)
    (h : ∀ h' tk M t', (∀ b o, s.heap.get? b = some o → h'.get? b = some o) → M ∈ ns → (∀ a, a ∈ ns → M ≤ a) → Q (.int M t') { s with heap := h', toks := tk }) : wpAny (model prog w) A (call (.builtin "min") [.ref l]) Q E s := by
  obtain ⟨xs, e⟩ := hi.allInts.items
  have hn : numsOf (intItems xs).toList = ns := by rw [← e]; exact hi.numsOf
  rw [nums_intItems] at hn
  subst hn
  rw [e] at hl
  have hsz : 0 < xs.size := by simpa using hne
  refine PySem.min_intTup hh hl hsz fun v h' tk hv hk => ?_
  obtain ⟨t, rfl⟩ := intItems_at hv
  obtain ⟨h1, h2⟩ := argBest_lt (numAt xs) (xs.size - 1)
  refine h h' tk _ t hk ?_ fun a ha => ?_
  · rw [numAt_eq]; exact PySem.getD_mem (by rw [List.length_map, Array.length_toList]; omega)
  · obtain ⟨j, hj, rfl⟩ := mem_getD ha
    rw [List.length_map, Array.length_toList] at hj
    rw [← numAt_eq]; exact h2 j (by omega)
end
section
variable {X : Cx}
def rSumT (K : PySem.W.Frag) : List V → Hp → VK → Prop := fun vs H Q => ∃ (a : Addr) (ns : List Int), vs = [V.ref a] ∧ SqT K H a (ns.map V.int) ∧ Q (.int ns.sum) H
def rMaxT (K : PySem.W.Frag) : List V → Hp → VK → Prop := fun vs H Q => ∃ (a : Addr) (ns : List Int), vs = [V.ref a] ∧ SqT K H a (ns.map V.int) ∧ 0 < ns.length ∧ ∀ m, m ∈ ns → (∀ y, y ∈ ns → y ≤ m) → Q (.int m) H
def rMinT (K : PySem.W.Frag) : List V → Hp → VK → Prop := fun vs H Q => ∃ (a : Addr) (ns : List Int), vs = [V.ref a] ∧ SqT K H a (ns.map V.int) ∧ 0 < ns.length ∧ ∀ m, m ∈ ns → (∀ y, y ∈ ns → m ≤ y) → Q (.int m) H
theorem cr_sumT (hc : X.calm = true) : CallR X (.builtin "sum") (rSumT X.K) := by
  intro pins s σ H vs us Q I r h
  obtain ⟨a, ns, rfl, hs, q⟩ := h
  obtain ⟨its, rv, hl, _⟩ := I.tuple hs
  rw [Vals.ref1 r]
  exact sumT_raw (I.ok.hd hc) hl rv.ints fun h' tk t' hk => ⟨.int _, H, I.kept hk, ⟨_, rfl⟩, q⟩
theorem cr_maxT (hc : X.calm = true) : CallR X (.builtin "max") (rMaxT X.K) := by
  intro pins s σ H vs us Q I r h
  obtain ⟨a, ns, rfl, hs, hne, q⟩ := h
  obtain ⟨its, rv, hl, _⟩ := I.tuple hs
  rw [Vals.ref1 r]
  exact maxT_raw (I.ok.hd hc) hl rv.ints hne fun h' tk m t' hk h1 h2 => ⟨.int _, H, I.kept hk, ⟨_, rfl⟩, q m h1 h2⟩
theorem cr_minT (hc : X.calm = true) : CallR X (.builtin "min") (rMinT X.K) := by
  intro pins s σ H vs us Q I r h
  obtain ⟨a, ns, rfl, hs, hne, q⟩ := h
  obtain ⟨its, rv, hl, _⟩ := I.tuple hs
  rw [Vals.ref1 r]
  exact minT_raw (I.ok.hd hc) hl rv.ints hne fun h' tk m t' hk h1 h2 => ⟨.int _, H, I.kept hk, ⟨_, rfl⟩, q m h1 h2⟩
end
end Tg
set_option Elab.async false
set_option linter.all false
set_option maxRecDepth 100000
set_option maxHeartbeats 4000000
/-! t[::-1] of a tuple; sorted(a tuple); zip of two tuples walked -/
namespace PyProof.Rows
open PySem
section
variable {prog : Program} {w : World} {A : Around} {E : Value → Shared → Prop} {s : Shared}
theorem collect_tup {l : Addr} {vs : List Value} {Q : List Value → Shared → Prop} (hl : s.heap.IsTuple l vs.toArray)
    (h : Q vs { s with heap := (s.heap.push (seqObj "list" #[] 0)).update s.heap.objs.size (Obj.mapSeq (· ++ vs.toArray)) }) (hsz : vs.length ≤ sizeLine) :
    wpAny (model prog w) A (collect (.ref l)) Q E s := by
  obtain ⟨o, ho, hc, n, hd⟩ := id hl
  unfold collect
  refine wpAny_bind (wpAny_runValue (codeAny_builtin entry_proto_collect' ?_))
  show wpAny _ _ (do again (.builtin "list.__iadd__" ⟨[← newList [], .ref l], []⟩)) _ _ s
  refine wpAny_bind (wpAny_newList (wpAny_pure ⟨Code.quiet_builtin _ (by decide +kernel), codeAny_builtin entry_list_iadd' ?_⟩))
  show wpAny _ _ (Builtin.List.listExtendWith (.ref s.heap.objs.size) (.ref l) (.ref s.heap.objs.size)) _ _ { s with heap := s.heap.push (seqObj "list" #[] 0) }
  unfold Builtin.List.listExtendWith
  have ho' : (s.heap.push (seqObj "list" #[] 0)).get? l = some o := Heap.get?_push_of_some _ ho
  refine wpAny_bind (wpAny_typeOf (T := "tuple") ⟨o, ho', hc⟩ ?_)
  have ht : (Value.type "tuple" == Value.type "tuple") = true := by rfl
  rw [if_pos (by rw [ht]; simp)]
  refine wpAny_bind (listItems_at ho' hd ?_)
  refine wpAny_bind (listItems_at (xs := #[]) (n := 0) (Heap.get?_push_size _ rfl) rfl ?_)
  rw [if_neg (by simp)]
  refine wpAny_bind (listUpdate_at (xs := #[]) (n := 0) (Heap.get?_push_size _ rfl) rfl ?_ (Nat.zero_le _) (by show (#[] ++ vs.toArray).size ≤ sizeLine + 1; simp only [Array.size_append, List.size_toArray, List.length_nil]; omega))
  refine wpAny_pure ?_
  show wpAny (model prog w) A (do
      let o ← load s.heap.objs.size
      match o.data with
      | .seq xs _ => pure xs.toList
      | _ => unsupported "internal:collect") Q E { s with heap := (s.heap.push (seqObj "list" #[] 0)).update s.heap.objs.size (Obj.mapSeq (· ++ vs.toArray)) }
  refine wpAny_bind (wpAny_load (get?_update_seq (Heap.get?_push_size _ rfl) _) ?_)
  show wpAny _ _ (pure ((#[] : Array Value) ++ vs.toArray).toList) Q E _
  rw [show ((#[] : Array Value) ++ vs.toArray).toList = vs by simp]
  exact wpAny_pure h
end
end PyProof.Rows
namespace SrtO
open PySem PySem.Spec PyProof.Rows
section
variable {prog : Program} {w : World} {A : Around} {E : Value → Shared → Prop} {s : Shared}
theorem sorted_ordT {l : Addr} {vs : List Value} {ltv : Value → Value → Bool} {Q : Value → Shared → Prop} (O : Swo ltv) (hl : s.heap.IsTuple l vs.toArray) (hz : vs.length ≤ sizeLine)
    (hS : 2 ≤ vs.length → ∀ (h₁ : Heap) (a : Addr), h₁.get? a = some (seqObj "list" vs.toArray 0) → (∀ b o, s.heap.get? b = some o → b ≠ a ∧ h₁.get? b = some o) → SortableO prog w A.in1.in1 { s with heap := h₁ } a vs ltv)
    (h : ∀ out : List Value, Srtd ltv out → Stb ltv out vs → Q (.ref (s.heap.objs.size + 1)) { s with heap := sortedAll s.heap vs out.toArray }) :
    wpAny (model prog w) A (call (.builtin "sorted") [.ref l]) Q E s := by
  refine Calls.call_function_entry kind_sorted plain_sorted entry_sorted (args_sorted1 _) ?_
  unfold Builtin.«sorted»
  refine wpAny_bind (m := checkCount "sorted" 1 1 _) (wpAny_pure ?_)
  refine wpAny_bind (collect_tup hl ?_ hz)
  refine wpAny_bind (wpAny_newList ?_ hz)
  have hsz : ((s.heap.push (seqObj "list" #[] 0)).update s.heap.objs.size (Obj.mapSeq (· ++ vs.toArray))).objs.size = s.heap.objs.size + 1 := by
    rw [Heap.size_update, size_push']
  have hoL : (((s.heap.push (seqObj "list" #[] 0)).update s.heap.objs.size (Obj.mapSeq (· ++ vs.toArray))).push (seqObj "list" vs.toArray 0)).get? (s.heap.objs.size + 1) = some (seqObj "list" vs.toArray 0) := by
    rw [← hsz]; exact Heap.get?_push_size _ rfl
  have keep : ∀ b o, s.heap.get? b = some o → b ≠ s.heap.objs.size + 1 ∧ (((s.heap.push (seqObj "list" #[] 0)).update s.heap.objs.size (Obj.mapSeq (· ++ vs.toArray))).push (seqObj "list" vs.toArray 0)).get? b = some o := fun b o q => by
    have hlt : b < s.heap.objs.size := Heap.lt_size q
    refine ⟨Nat.ne_of_lt (Nat.lt_succ_of_lt hlt), Heap.get?_push_of_some _ ?_⟩
    rw [Heap.get?_update_ne _ _ _ _ (Nat.ne_of_lt hlt)]
    exact Heap.get?_push_of_some _ q
  show wpAny _ _ _ _ _ { s with heap := ((s.heap.push (seqObj "list" #[] 0)).update s.heap.objs.size (Obj.mapSeq (· ++ vs.toArray))).push (seqObj "list" vs.toArray 0) }
  rw [hsz]
  refine wpAny_bind (wpAny_holding (wpAny_call_entry slot_list_sort ⟨_, hoL, rfl⟩ entry_list_sort (list_sort_ord O hoL hz (fun h2 => hS h2 _ _ hoL keep) fun out hs hb => ⟨_, rfl, ?_⟩) (args_list_sort _)))
  exact wpAny_pure ⟨_, rfl, h out hs hb⟩
end
end SrtO
namespace Tg
open PySem PySem.Spec PyProof.Rows L2
section
variable {X : Cx}
def rSortedTI (K : PySem.W.Frag) : List V → Hp → VK → Prop := fun vs H Q => ∃ (a : Addr) (ns : List Int), vs = [V.ref a] ∧ SqT K H a (ns.map V.int) ∧
  ∀ (ns' : List Int) (p : Addr), ns'.Perm ns → ns'.Pairwise (· ≤ ·) → H p = none → Q (.ref p) (upd H p (.lst (ns'.map V.int)))
theorem cr_sortedTI : CallR X (.builtin "sorted") (rSortedTI X.K) := by
  intro pins s σ H vs us Q I r h
  obtain ⟨a, ns, rfl, hs, q⟩ := h
  obtain ⟨its, rv, hl, hz⟩ := I.tuple hs
  rw [Vals.ref1 r]
  have hi := rv.ints
  refine SrtO.sorted_ordT SrtO.swo_int hl (by rw [← rv.length]; exact hz) (fun h2 h₁ a' _ _ => SrtO.ints_sortable hi h2) fun out h1 h2 => ?_
  obtain ⟨k1, k2, k3⟩ := SrtO.ints_out hi h1 h2
  obtain ⟨ep, he'⟩ := PyProof.Rows.sortedAll_at s.heap its out.toArray
  have hlen : ((out.map SrtO.iv).map V.int).length ≤ sizeLine := by
    rw [List.length_map, k2.length_eq]
    rw [List.length_map] at hz
    exact hz
  exact ⟨.ref _, upd H (s.heap.objs.size + 1) (.lst ((out.map SrtO.iv).map V.int)), I.laid (t' := s.toks) (fun _ _ => PyProof.Rows.sortedAll_old) (Nat.le_succ _) ⟨hlen, out, ep, vals_of_ints k1, he'⟩, rfl, q _ _ k2 k3 (I.hok.fresh (Nat.le_succ _))⟩
end
/-! ### t[::-1] -/
theorem rev_pick {α : Type} (xs : Array α) : ((List.range xs.size).filterMap fun (m : Nat) => xs[(((xs.size : Int) - 1) + (m : Int) * (-1)).toNat]?) = xs.toList.reverse := by
  have key : ∀ (l : List α) (k : Nat), k ≤ l.length → ((List.range k).filterMap fun (m : Nat) => l[l.length - 1 - m]?) = l.reverse.take k := by
    intro l k
    induction k with
    | zero => intro _; simp
    | succ k ih =>
      intro hk
      rw [List.range_succ, List.filterMap_append, ih (by omega), List.take_add_one]
      congr 1
      have e : l.reverse[k]? = l[l.length - 1 - k]? := List.getElem?_reverse (by omega)
      rw [e]
      have hlt : l.length - 1 - k < l.length := by omega
      rw [List.filterMap_cons, List.getElem?_eq_getElem hlt]
      rfl
  have := key xs.toList xs.toList.length (Nat.le_refl _)
  rw [List.take_of_length_le (by simp)] at this
  rw [← this, Array.length_toList]
  have hext : ∀ m ∈ List.range xs.size, xs[(((xs.size : Int) - 1) + (m : Int) * (-1)).toNat]? = xs.toList[xs.size - 1 - m]? := fun m hm => by
    have hm' := List.mem_range.mp hm
    rw [Array.getElem?_toList]
    have : (((xs.size : Int) - 1) + (m : Int) * (-1)).toNat = xs.size - 1 - m := by omega
    rw [this]
  have cg : ∀ (l : List Nat) (f g : Nat → Option α), (∀ m ∈ l, f m = g m) → l.filterMap f = l.filterMap g := by
    intro l f g
    induction l with
    | nil => intro _; rfl
    | cons a l ih =>
      intro h
      rw [List.filterMap_cons, List.filterMap_cons, h a List.mem_cons_self, ih fun m hm => h m (List.mem_cons_of_mem _ hm)]
  exact cg _ _ _ hext
section
variable {prog : Program} {w : World} {A : Around} {E : Value → Shared → Prop} {s : Shared}
theorem sliceApplied_rev {sl : Addr} {n : Nat} {u : Tok} {Q : Int × Int × Nat → Shared → Prop} (hs : s.heap.IsSliceOf sl .none .none (.int (-1) u))
    (h : Q ((n : Int) - 1, -1, n) s) : wpAny (model prog w) A (Builtin.Slice.sliceApplied (.ref sl) (pure (n : Int))) Q E s := by
  obtain ⟨os, hos, hcs, hds⟩ := id hs
  unfold Builtin.Slice.sliceApplied Builtin.Slice.sliceFields
  refine wpAny_bind (wpAny_bind (wpAny_field hos hds (x := .none) rfl (wpAny_bind (wpAny_field hos hds (x := .none) rfl (wpAny_bind (wpAny_field hos hds (x := .int (-1) u) rfl (wpAny_pure ?_)))))))
  refine wpAny_bind (HT.slicePart_ (.int (-1) u) ?_)
  show wpAny _ _ (if ((-1 : Int) == 0) = true then _ else _) _ _ s
  rw [if_neg (by decide)]
  refine wpAny_bind (slicePart_none (wpAny_bind (slicePart_none (wpAny_bind (wpAny_pure ?_)))))
  show wpAny _ _ (match Builtin.Slice.sliceAdjust none none (-1) (n : Int) with | (lo, hi) => pure (lo, (-1 : Int), Builtin.Slice.slicePlaces lo hi (-1))) _ _ s
  have e : Builtin.Slice.sliceAdjust none none (-1) (n : Int) = ((n : Int) - 1, -1) := rfl
  rw [e]
  show wpAny _ _ (pure ((n : Int) - 1, (-1 : Int), Builtin.Slice.slicePlaces ((n : Int) - 1) (-1) (-1))) _ _ s
  have e2 : Builtin.Slice.slicePlaces ((n : Int) - 1) (-1) (-1) = n := by
    unfold Builtin.Slice.slicePlaces
    rw [if_neg (by decide)]
    split
    · have : ((n : Int) - 1 - -1 - 1) / - -1 = (n : Int) - 1 := by
        rw [show - -(1 : Int) = 1 by decide, Int.ediv_one]
        omega
      rw [this]
      omega
    · omega
  rw [e2]
  exact wpAny_pure h
theorem getItem_tuple_rev {t sl : Addr} {items : Array Value} {u : Tok} {Q : Value → Shared → Prop} (ht : IsTup s.heap t items) (hs : s.heap.IsSliceOf sl .none .none (.int (-1) u))
    (h : Q (.ref s.heap.objs.size) { s with heap := s.heap.push { cls := .type "tuple", data := .seq items.toList.reverse.toArray } })
    (hsz : items.size ≤ sizeLine) : wpAny (model prog w) A (getItem (.ref t) (.ref sl)) Q E s := by
  have htake : sizeOk (.seq items.toList.reverse.toArray) := by
    show items.toList.reverse.toArray.size ≤ sizeLine
    rw [List.size_toArray, List.length_reverse, Array.length_toList]
    exact hsz
  obtain ⟨os, hos, hcs, hds⟩ := id hs
  have hTs : s.TypeIs (.ref sl) "slice" := ⟨os, hos, hcs⟩
  unfold getItem
  try with_reducible refine wpAny_holding ?_
  first | refine wpAny_bind (wpAny_pure ?_) | skip
  refine wpAny_bind (wpAny_sequenceKey ht.typeIs (by decide) ?_)
  refine wpAny_bind (wpAny_callSpecial?_slot (name := Str.ofString "__getitem__") ht.typeIs PyProof.Rows.slot_tuple_getitem
    (wpAny_call_entry PyProof.Rows.slot_tuple_getitem ht.typeIs entry_tuple_getitem ?_ (args_tuple_getitem _ _)))
  show wpAny _ _ (Builtin.Tuple.tupleItemsOf (.ref t) >>= _) _ _ s
  refine wpAny_bind (tupleItemsOf_ ht ?_)
  refine wpAny_bind (wpAny_typeOf hTs ?_)
  rw [if_pos (by decide)]
  refine wpAny_bind (sliceApplied_rev hs ?_)
  have hno : ¬ ((((items.size : Int) - 1) == 0 && (-1 : Int) == 1 && items.size == items.size) = true) := by
    rw [show ((-1 : Int) == 1) = false from rfl, Bool.and_false, Bool.false_and]
    exact Bool.false_ne_true
  show wpAny _ _ (if (((items.size : Int) - 1) == 0 && (-1 : Int) == 1 && items.size == items.size) = true then _ else _) _ _ s
  rw [if_neg hno, rev_pick]
  first
    | exact wpAny_bind (m := Builtin.Tuple.tupleExact _) (wpAny_newObj_type (wpAny_pure ⟨_, rfl, wpAny_pure h⟩) htake)
    | exact wpAny_bind (m := Builtin.Tuple.tupleExact _) (wpAny_newObj_type (wpAny_bind (wpAny_pure (wpAny_pure ⟨_, rfl, wpAny_pure h⟩))) htake)
    | exact wpAny_bind (wpAny_bind (m := Builtin.Tuple.tupleExact _) (wpAny_newObj_type (wpAny_pure (wpAny_pure ⟨_, rfl, wpAny_pure h⟩)) htake))
    | exact wpAny_bind (wpAny_bind (m := Builtin.Tuple.tupleExact _) (wpAny_newObj_type (wpAny_pure ⟨_, rfl, wpAny_pure h⟩) htake))
end
section
variable {X : Cx}
def tRevT (K : PySem.W.Frag) (te : TE) : TE := fun σ H Q => te σ H fun x H1 => ∃ a xs, x = .ref a ∧ SqT K H1 a xs ∧ ∀ p, H1 p = none → Q (.ref p) (upd H1 p (.tup xs.reverse))
theorem pe_revT {e : Expr} {te : TE} {k : Nat} {p1 p2 p3 pos : Pos} (he : PE X e te) : PE X (.Subscript e (.Slice none none (some (.UnaryOp .USub (.Constant (.int 1) k p1) p2)) p3) pos) (tRevT X.K te) := by
  refine ⟨fun pins s σ H Q I h => ?_⟩
  refine Subscript_ (thn (he.run pins s σ H _ I h) fun v s1 ⟨x, H1, I1, r1, q1⟩ => ?_)
  obtain ⟨a, xs, ex, hx, q⟩ := q1
  subst ex
  cases r1
  have hst : PO X (some (.UnaryOp .USub (.Constant (.int 1) k p1) p2)) (tPart (tUn (rU fun i => .int (-i)) (tC (.int 1)))) := po_some (pe_un un_neg pe_int)
  refine wpAny_Slice (thn (po_none.run pins s1 σ H1 (fun o H2 => o = none ∧ H2 = H1) I1 ⟨rfl, rfl⟩) fun vl s2 ⟨l, H2, I2, pl, el, e2⟩ => ?_)
  subst el e2
  refine thn (po_none.run pins s2 σ H2 (fun o H3 => o = none ∧ H3 = H2) I2 ⟨rfl, rfl⟩) fun vu s3 ⟨u, H3, I3, pu, eu, e3⟩ => ?_
  subst eu e3
  refine thn (hst.run pins s3 σ H3 (fun o H4 => o = some (-1) ∧ H4 = H3) I3 ⟨1, rfl, -1, rfl, rfl, rfl⟩) fun vs s4 ⟨o, H4, I4, ps, eo, e4⟩ => ?_
  subst eo e4
  have I5 : Inv X pins σ H4 { s4 with heap := s4.heap.push { cls := .type "slice", data := .fields #[vl, vu, vs] } } := I4.kept (t' := s4.toks) fun b ob q => Heap.get?_push_of_some _ q
  obtain ⟨its, r, ht, hz⟩ := I5.tuple hx
  have hlen := r.length
  show wpAny (model X.prog X.w) X.A (subscriptTail e (.Slice none none (some (.UnaryOp .USub (.Constant (.int 1) k p1) p2)) p3) (.ref a) (.ref s4.heap.objs.size)) (EP X pins σ Q) X.xe { s4 with heap := s4.heap.push { cls := .type "slice", data := .fields #[vl, vu, vs] } }
  refine tail_any (ops := [.ref a, .ref s4.heap.objs.size]) ht.typeIs (PyProof.Rows.slot_tuple_getitem.lookup) ?_ (by with_unfolding_all rfl)
  cases pl
  cases pu
  cases ps with
  | int i t =>
    refine getItem_tuple_rev ht (Heap.IsSliceOf.new _ _ _ _) ?_ (by rw [List.size_toArray]; omega)
    refine ⟨.ref _, _, I5.laid (t' := s4.toks) (o := .tup xs.reverse) (fun b ob q => Heap.get?_push_of_some _ q) (Nat.le_refl _) ?_, rfl, q _ (I5.hok.fresh (Nat.le_refl _))⟩
    exact ⟨by rw [List.length_reverse]; exact hz, _, r.reverse, ⟨_, Heap.get?_push_size _ rfl, rfl, 0, rfl⟩⟩
end
/-! ### zip of two tuples -/
theorem walk_zipT {K : PySem.W.Frag} {a b : Addr} {xs ys : List V} {n : Nat} (hn : n = min xs.length ys.length) : Walk (RZ.ItzT K a b) n (fun H => SqT K H a xs ∧ SqT K H b ys) (YPair (fun i => xs[i]?) (fun i => ys[i]?)) := by
  refine ⟨fun i H hi q => ⟨xs, ys, xs[i]'(by omega), ys[i]'(by omega), q.1, q.2, List.getElem?_eq_getElem _, List.getElem?_eq_getElem _⟩, fun H q => ⟨xs, ys, q.1, q.2, by omega⟩, fun i H v H' _ q y => ?_⟩
  obtain ⟨T, x, y', e1, e2, e3, f1, f2⟩ := y
  exact ⟨T, x, y', e1, e2, e3, f1 xs q.1, f2 ys q.2⟩
end Tg
set_option Elab.async false
set_option linter.all false
set_option maxRecDepth 100000
set_option maxHeartbeats 4000000
/-! enumerate(a dict with tuple keys), walked; its values, walked -/
namespace Tg
open PySem PySem.Spec PyProof.Rows L2
section
variable {prog : Program} {w : World} {A : Around} {E : Value → Shared → Prop} {s : Shared}
theorem nextOf_key_item {it d : Addr} {i n ep : Nat} {od : Obj} {es : Array DictEntry} {en : DictEntry} {Q : Value → Shared → Prop} (hit : s.heap.IsKeyIter it d i n ep) (hod : s.heap.get? d = some od) (hdd : od.data = .dict es ep)
    (hsz : es.size = n) (hx : es[i]? = some en) (hQ : ∀ h', h'.IsKeyIter it d (i + 1) n ep → Heap.SameBut it s.heap h' → Q en.key { s with heap := h' }) : wpAny (model prog w) A (Builtin.SmallTypes.nextOf (.ref it)) Q E s := by
  obtain ⟨o, ho, hc, hd⟩ := id hit
  unfold Builtin.SmallTypes.nextOf
  refine wpAny_bind (wpAny_callSpecial?_slot (name := Str.ofString "__next__") hit.typeIs F.slot_dict_keyiterator_next
    (wpAny_call_entry F.slot_dict_keyiterator_next hit.typeIs F.entry_dict_keyiterator_next ?_ (F.args_dict_keyiterator_next_1 _)))
  refine wpAny_bind (wpAny_pure ?_)
  refine wpAny_bind ?_
  refine wpAny_bind ?_
  first | refine wpAny_bind (wpAny_typeNameOfWhole_keyiter hit.typeIs (wpAny_pure ?_)) | refine wpAny_bind (wpAny_typeNameOf_keyiter hit.typeIs (wpAny_pure ?_))
  refine wpAny_bind (wpAny_fieldsOf ho hd ?_)
  have hown : Builtin.Dict_items.ownsTuple "dict_keyiterator" = false := by decide
  simp only [hown, Bool.false_eq_true, if_false]
  show wpAny _ _ (if (Value.ref d == Value.none) = true then _ else _) _ _ s
  rw [if_neg (show ¬ ((Value.ref d == Value.none) = true) from Bool.false_ne_true)]
  refine wpAny_bind (wpAny_pure ?_)
  refine wpAny_bind (wpAny_dictEntries hod hdd ?_)
  rw [if_neg (by rw [hsz]; simp)]
  refine wpAny_bind (wpAny_pure ?_)
  refine wpAny_bind (wpAny_dictEpoch hod hdd ?_)
  rw [if_neg (by simp)]
  refine wpAny_pure ?_
  obtain ⟨hlt', hen⟩ := Array.getElem?_eq_some_iff.mp hx
  simp only [show ¬ ((i : Int) < 0) from by omega, if_false, Int.toNat_natCast, Array.getElem?_eq_getElem hlt']
  refine wpAny_bind ?_
  first | refine wpAny_bind (wpAny_typeNameOfWhole_keyiter hit.typeIs (wpAny_pure ?_)) | refine wpAny_bind (wpAny_typeNameOf_keyiter hit.typeIs (wpAny_pure ?_))
  refine wpAny_bind (wpAny_isOneOf_keyiter hit.typeIs ?_)
  show wpAny _ _ (setField (.ref it) 1 (rawInt ((i : Int) + 1)) >>= _) _ _ s
  refine wpAny_bind (wpAny_setField ho hd (by simp) ?_)
  have hit' : (s.heap.update it (Obj.mapFields (·.setIfInBounds 1 (rawInt ((i : Int) + 1))))).IsKeyIter it d (i + 1) n ep :=
    ⟨_, Heap.get?_update_self _ ho (Obj.isFreed_of_fields (Obj.data_mapFields hd _)), (Obj.cls_mapFields ..).trans hc, by rw [Obj.data_mapFields hd]; simp [rawInt]⟩
  refine wpAny_bind (wpAny_holding ?_)
  refine wpAny_bind (wpAny_isOneOf_keyiter (s := { s with heap := s.heap.update it (Obj.mapFields (·.setIfInBounds 1 (rawInt ((i : Int) + 1)))) }) hit'.typeIs ?_)
  show wpAny _ _ (pure es[i].key) _ _ _
  rw [hen]
  exact wpAny_pure (wpAny_pure ⟨_, rfl, wpAny_pure (hQ _ hit' (Heap.SameBut.update ..))⟩)
theorem nextOf_key_end {it d : Addr} {i n ep : Nat} {od : Obj} {es : Array DictEntry} {Q : Value → Shared → Prop} (hh : A.handled = none) (hit : s.heap.IsKeyIter it d i n ep) (hod : s.heap.get? d = some od) (hdd : od.data = .dict es ep)
    (hsz : es.size = n) (hge : n ≤ i) (hE : ∀ h' e, Heap.ExtBut it s.heap h' → (∃ o, h'.get? e = some o ∧ o.cls = .type "StopIteration") → E (.ref e) { s with heap := h' }) : wpAny (model prog w) A (Builtin.SmallTypes.nextOf (.ref it)) Q E s := by
  obtain ⟨o, ho, hc, hd⟩ := id hit
  unfold Builtin.SmallTypes.nextOf
  refine wpAny_bind (wpAny_callSpecial?_slot (name := Str.ofString "__next__") hit.typeIs F.slot_dict_keyiterator_next
    (wpAny_call_entry F.slot_dict_keyiterator_next hit.typeIs F.entry_dict_keyiterator_next ?_ (F.args_dict_keyiterator_next_1 _)))
  refine wpAny_bind (wpAny_pure ?_)
  refine wpAny_bind ?_
  refine wpAny_bind ?_
  first | refine wpAny_bind (wpAny_typeNameOfWhole_keyiter hit.typeIs (wpAny_pure ?_)) | refine wpAny_bind (wpAny_typeNameOf_keyiter hit.typeIs (wpAny_pure ?_))
  refine wpAny_bind (wpAny_fieldsOf ho hd ?_)
  have hown : Builtin.Dict_items.ownsTuple "dict_keyiterator" = false := by decide
  simp only [hown, Bool.false_eq_true, if_false]
  show wpAny _ _ (if (Value.ref d == Value.none) = true then _ else _) _ _ s
  rw [if_neg (show ¬ ((Value.ref d == Value.none) = true) from Bool.false_ne_true)]
  refine wpAny_bind (wpAny_pure ?_)
  refine wpAny_bind (wpAny_dictEntries hod hdd ?_)
  rw [if_neg (by rw [hsz]; simp)]
  refine wpAny_bind (wpAny_pure ?_)
  refine wpAny_bind (wpAny_dictEpoch hod hdd ?_)
  rw [if_neg (by simp)]
  refine wpAny_pure ?_
  have hge' : es.size ≤ i := by rw [hsz]; exact hge
  simp only [show ¬ ((i : Int) < 0) from by omega, if_false, Int.toNat_natCast, Array.getElem?_eq_none hge']
  refine wpAny_bind ?_
  first | refine wpAny_bind (wpAny_typeNameOfWhole_keyiter hit.typeIs (wpAny_pure ?_)) | refine wpAny_bind (wpAny_typeNameOf_keyiter hit.typeIs (wpAny_pure ?_))
  show wpAny _ _ (setField (.ref it) 0 .none >>= _) _ _ s
  refine wpAny_bind (wpAny_setField ho hd (by simp) ?_)
  show wpAny _ _ (newExc (.type "StopIteration") [] >>= _) _ _ _
  refine wpAny_bind ?_
  simp only [newExc, newTuple]
  refine wpAny_bind (wpAny_newObj_type ?_ (by size_fits))
  refine wpAny_bind (m := firstArgMember _ _) (wpAny_of_eq (a := Value.none) (by first | rfl | (simp only [firstArgMember]; rfl)) ?_)
  refine wpAny_newObj_type ?_ (by size_fits)
  simp only [raiseNew]
  refine wpAny_bind (wpAny_handled ?_)
  first | rw [show A.in1.handled = none from hh] | rw [hh]
  refine wpAny_bind (wpAny_pure (wpAny_throw ?_))
  exact hE _ _ (((Heap.SameBut.update ..).extBut.push _).push _) ⟨_, Heap.get?_push_size _ rfl, rfl⟩
end
/-- what stands at d is a dict of these entries, no other one's -/
def RawD (d : Addr) (es : Array DictEntry) (ep : Nat) (h : Heap) : Prop := (d == sysModules) = false ∧ ∃ o, h.get? d = some o ∧ o.ExactDict ∧ o.data = .dict es ep
theorem RawD.at {d : Addr} {es : Array DictEntry} {ep : Nat} {h h' : Heap} (r : RawD d es ep h) (k : ∀ o, h.get? d = some o → h'.get? d = some o) : RawD d es ep h' := by
  obtain ⟨z, o, ho, hc, hd⟩ := r
  exact ⟨z, o, k o ho, hc, hd⟩
theorem begins_dict (d : Addr) (es : Array DictEntry) (ep : Nat) : Begins (.ref d) { cls := .type "dict_keyiterator", data := .fields #[.ref d, .int 0 0, .int es.size 0, .int ep 0] } (RawD d es ep) where
  iter := fun prog w A E s Q hl h => by
    obtain ⟨z, o, ho, hc, hd⟩ := hl
    exact iter_keys z ho hc hd h
  keeps := fun h h' x hk => x.at fun o e => hk d o e
  free := rfl
theorem Draws.keysD {prog : Program} {w : World} {A : Around} (hh : A.handled = none) (it d : Addr) (hne : d ≠ it) (es : Array DictEntry) (ep : Nat) :
    Draws prog w A it [it, d] es.size (fun i v => ∃ en, es[i]? = some en ∧ v = en.key) (fun i h => h.IsKeyIter it d i es.size ep ∧ RawD d es ep h) where
  live := fun _ _ st => let ⟨o, ho, _⟩ := st.1; ⟨o, ho⟩
  frame := fun _ _ _ st hk => ⟨st.1.at fun o e => hk it (by simp) o e, st.2.at fun o e => hk d (by simp) o e⟩
  item := fun i s Q E hi st hQ => by
    obtain ⟨st1, z, o, ho, hc, hd⟩ := st
    refine nextOf_key_item st1 ho hd rfl (Array.getElem?_eq_getElem hi) fun h' hit' hs' => ?_
    exact hQ _ h' s.toks ⟨_, Array.getElem?_eq_getElem hi, rfl⟩ ⟨hit', z, o, hs'.extBut d o hne ho, hc, hd⟩ hs'
  done := fun s Q E st hE => by
    obtain ⟨st1, z, o, ho, hc, hd⟩ := st
    exact nextOf_key_end hh st1 ho hd rfl (Nat.le_refl _) hE
/-- the keys of the locked dict at d, each in a new pair with its place -/
def IteD (d : Addr) (o : Obj) (kvs : List (List Key × V)) : It where
  go := fun i H => H d = some (.frz o (.dT kvs)) ∧ i < kvs.length
  yld := fun i H v H' => ∃ (T : Addr) (k : List Key) (u : V) (q : Addr), v = .ref T ∧ H T = none ∧ H' = upd H T (.tup [.int (i : Nat), .ref q]) ∧ kvs[i]? = some (k, u) ∧ H q = some (.tup (k.map kV))
  stop := fun i H => H d = some (.frz o (.dT kvs)) ∧ kvs.length ≤ i
theorem turnEnumD {P : Program} {w : World} {K : PySem.W.Frag} {elts : List Expr} {kk : Nat} {tpos : Pos} {kvs : List (List Key × V)} {o : Obj} {es : Array DictEntry} {ep : Nat} (d e it : Addr) (hod : o.data = .dict es ep) (hse : es.size = kvs.length) :
    Turn P w K (.Tuple elts kk tpos) (IteD d o kvs) [e, it] e (fun i h => (∃ old, IsEnum h e it ((i : Nat) : Int) old) ∧ h.IsKeyIter it d i kvs.length ep ∧ e ≠ it) where
  mem := by simp
  obj := fun i h st b hb => by
    obtain ⟨⟨old, he⟩, ⟨o, ho, hc, hd⟩, _⟩ := st
    rcases (show b = e ∨ b = it by simpa using hb) with rfl | rfl
    · exact ⟨_, he, fun v q => nomatch q⟩
    · exact ⟨o, ho, fun v q => by rw [hd] at q; cases q⟩
  keep := fun i h h' st k => by
    obtain ⟨⟨old, he⟩, hi, hne⟩ := st
    exact ⟨⟨old, k e (by simp) _ he⟩, hi.at fun o q => k it (by simp) o q, hne⟩
  item := by
    intro X hP hw hK hc i pins s σ H E I hf st hg
    subst hP hw hK
    obtain ⟨⟨old, he⟩, hit, hne⟩ := st
    obtain ⟨hd, hi⟩ := hg
    obtain ⟨hs, hgd, hx, es', ep', hdt, hsz, ent⟩ := I.frzT hd
    obtain ⟨rfl, rfl⟩ := dict_ep hod hdt
    obtain ⟨⟨k, v⟩, hkv⟩ : ∃ p, kvs[i]? = some p := ⟨kvs[i], List.getElem?_eq_getElem hi⟩
    obtain ⟨en, q, hen, hkey, hq⟩ := ent i k v hkv
    have hel : e < s.heap.objs.size := Heap.lt_size he
    have hil : it < s.heap.objs.size := by
      obtain ⟨_, q, _⟩ := hit
      exact Heap.lt_size q
    have hai : d ≠ it := fun z => by
      obtain ⟨o2, q2, c2, d2⟩ := hit
      rw [← z, hgd] at q2
      cases q2
      rw [d2] at hdt
      cases hdt
    have hea : e ≠ d := fun z => by
      have q2 : s.heap.get? e = some _ := he
      rw [z, hgd] at q2
      cases q2
      cases hdt
    have hh : X.A.in1.handled = none := I.ok.hd hc
    have D := Draws.keysD (prog := X.prog) (w := X.w) (A := X.A.in1) hh it d hai es' ep'
    rw [← hsz] at hit
    refine wpAny_pyNext_enum_itemD D he ⟨hit, hs, o, hgd, hx, hdt⟩ (by rw [hsz]; exact hi) hne (by simp [hne, hea]) fun y h' tk hy ho hst hT hsz' hk => ?_
    obtain ⟨en', hen', ey⟩ := hy
    rw [hen] at hen'
    cases hen'
    rw [hkey] at ey
    subst ey
    refine ⟨_, rfl, wpAny_letOwnedTupleGo_enum (s := { s with heap := h', toks := tk + 1 }) ho fun h2 he2 sb => ?_⟩
    have hT2 : h2.get? s.heap.objs.size = some { cls := .type "tuple", data := .seq #[.int i tk, .ref q] } := (sb.2 _ (Nat.ne_of_gt hel)).trans hT
    have new : ObjOk X.prog X.w (upd H s.heap.objs.size (.tup [.int (i : Nat), .ref q])) h2 s.heap.objs.size (.tup [.int (i : Nat), .ref q]) :=
      ⟨by show 2 ≤ sizeLine; decide, [.int i tk, .ref q], .cons ⟨_, rfl⟩ (.cons rfl .nil), ⟨_, hT2, rfl, _, rfl⟩⟩
    have I1 : Inv X pins σ (upd H s.heap.objs.size (.tup [.int (i : Nat), .ref q])) { s with heap := h2, toks := tk + 1 } :=
      I.turnedNew (ch := [e, it]) (fun b ob hb q => (sb.2 b (fun z => hb (by simp [z]))).trans (hk b ob (fun z => hb (by simp [z])) (fun z => hb (by simp [z])) q)) hf (Nat.le_refl _) new
    refine ⟨.ref s.heap.objs.size, _, I1, rfl, ⟨_, k, v, q, rfl, I.hok.fresh (Nat.le_refl _), rfl, hkv, hq⟩, ⟨⟨.ref q, ?_⟩, ?_, hne⟩, fun b hb => ?_⟩
    · rw [show ((i + 1 : Nat) : Int) = (i : Int) + 1 by omega]
      exact he2
    · rw [← hsz]
      exact hst.1.at fun o q => (sb.2 it (Ne.symm hne)).trans q
    · have hb' : b < s.heap.objs.size := by
        rcases (show b = e ∨ b = it by simpa using hb) with z | z
        · rw [z]; exact hel
        · rw [z]; exact hil
      rw [upd_ne (Nat.ne_of_lt hb')]
      exact (hf b hb).1
  done := by
    intro X hP hw hK hc i pins s σ H E I hf st hg
    subst hP hw hK
    obtain ⟨⟨old, he⟩, hit, hne⟩ := st
    obtain ⟨hd, hi⟩ := hg
    obtain ⟨hs, hgd, hx, es', ep', hdt, hsz, ent⟩ := I.frzT hd
    obtain ⟨rfl, rfl⟩ := dict_ep hod hdt
    obtain ⟨f0, f1, f2, f3, f4, f5⟩ := hf it (by simp)
    have hT : s.TypeIs (.ref e) "enumerate" := ⟨_, he, rfl⟩
    unfold pyNext
    refine wpAny_bind (wpAny_attempt (wpAny_callSpecial?_slot (name := Str.ofString "__next__") hT F.slot_enumerate_next (wpAny_call_entry F.slot_enumerate_next hT F.entry_enumerate_next ?_ (F.args_enumerate_next_1 _))))
    show wpAny _ _ (field (.ref e) 2 >>= _) _ _ _
    refine wpAny_bind (wpAny_field he rfl (x := .ref it) rfl ?_)
    refine wpAny_bind (nextOf_key_end (I.ok.hd hc) hit hgd hdt hsz hi fun h' x he' hx' => ?_)
    obtain ⟨o, ho, hcl⟩ := hx'
    refine wpAny_bind (wpAny_isInstance (T := "StopIteration") (b := true) ⟨o, ho, hcl⟩ isSubtype_stop ?_)
    exact wpAny_pure ⟨rfl, I.turned (t' := s.toks) (fun b o hb q => he' b o hb q) f0 f1 f3 f4 f5⟩
  self := fun A i s Q E st h => let ⟨⟨_, he⟩, _⟩ := st; wpAny_pyIter_enum he h
def iEnumD (ta : TA) : TI := fun σ H R => ta σ H fun vs H1 => ∃ d o kvs, vs = [.ref d] ∧ H1 d = some (.frz o (.dT kvs)) ∧ R (IteD d o kvs) H1
theorem pi_enumD {X : Cx} {e : Expr} {ta : TA} {p pos tpos : Pos} {elts : List Expr} {kk : Nat} (hg : Gl X "enumerate") (hm : X.mg "enumerate" = none) (ha : PA X [e] ta) (hs : starEach [e] X.env = [(false, eval e X.env)] := by rfl) :
    PI X (.Tuple elts kk tpos) (.Call (.Name "enumerate" p) [e] [] pos) (iEnumD ta) := by
  refine ⟨fun pins s σ H R I h => ?_⟩
  refine Call_ (ld_blt I hg hm boot_enumerate (PyProof.Rows.callWith_type1 (thn (ha.run pos pins s σ H _ I h) fun us s1 ⟨vs, H1, I1, r1, q1⟩ => ?_) hs rfl))
  obtain ⟨d, o, kvs, ex, hd, q⟩ := q1
  subst ex
  cases r1 with
  | cons r rr =>
    cases rr
    cases r
    obtain ⟨hs, hgd, hx, es, ep, hdt, hsz, ent⟩ := I1.frzT hd
    refine callEnumT (begins_dict d es ep) ⟨hs, o, hgd, hx, hdt⟩ fun h' he hit hk => wpAny_pyIter_enum he ?_
    have I2 : Inv X pins σ H1 { s1 with heap := h' } := I1.kept (t' := s1.toks) hk
    refine ⟨s1.heap.objs.size + 1, [s1.heap.objs.size + 1, s1.heap.objs.size], _, _, H1, rfl, I2, turnEnumD d (s1.heap.objs.size + 1) s1.heap.objs.size hdt hsz, ⟨⟨.none, he⟩, ⟨_, hit, rfl, by rw [hsz] <;> rfl⟩, Nat.succ_ne_self _⟩, fun b hb => ?_, q⟩
    have hle : s1.heap.objs.size ≤ b := by
      rcases (show b = s1.heap.objs.size + 1 ∨ b = s1.heap.objs.size by simpa using hb) with z | z
      · rw [z]; exact Nat.le_add_right _ _
      · rw [z]; exact Nat.le_refl _
    exact I1.fpOk hle (I1.hok.fresh hle)
/-- a new pair (place, key) each -/
def YKey (kvs : List (List Key × V)) : Nat → Hp → V → Hp → Prop := fun i H v H' => ∃ (T : Addr) (k : List Key) (u : V) (q : Addr), v = .ref T ∧ H T = none ∧ H' = upd H T (.tup [.int (i : Nat), .ref q]) ∧ kvs[i]? = some (k, u) ∧ H q = some (.tup (k.map kV))
theorem walk_enumD {d : Addr} {o : Obj} {kvs : List (List Key × V)} : Walk (IteD d o kvs) kvs.length (fun H => H d = some (.frz o (.dT kvs))) (YKey kvs) :=
  ⟨fun i _ hi q => ⟨q, hi⟩, fun _ q => ⟨q, Nat.le_refl _⟩, fun i H v H' _ q y => y⟩
end Tg
set_option Elab.async false
set_option linter.all false
set_option maxRecDepth 100000
set_option maxHeartbeats 4000000
/-! the values of a dict with tuple keys, walked -/
namespace Tg
open PySem PySem.Spec PyProof.Rows L2
section
variable {X : Cx} {pins : List (Addr × Obj)} {σ : L2.St} {H : Hp} {s : Shared} {d : Addr} {o : Obj}
theorem frzTv {kvs : List (List Key × V)} (I : Inv X pins σ H s) (h : H d = some (.frz o (.dT kvs))) :
    (d == sysModules) = false ∧ s.heap.get? d = some o ∧ o.ExactDict ∧ ∃ (es : Array DictEntry) (ep : Nat), o.data = .dict es ep ∧ es.size = kvs.length ∧
      ∀ (i : Nat) (k : List Key) (v : V), kvs[i]? = some (k, v) → ∃ (en : DictEntry), es[i]? = some en ∧ RelV v en.val := by
  obtain ⟨hd, z, hs, xs, pr, o', es, ep, ho, hx, hdt, he, _⟩ := I.hok d _ h
  rw [hd] at ho
  cases ho
  refine ⟨hs, hd, hx, es, ep, hdt, ?_, fun i k v e => ?_⟩
  · have l1 : es.size = xs.length := size_of_entries he
    have l2 : kvs.length = xs.length := Paired.length pr
    omega
  · obtain ⟨b, hb, e1, e2, e3⟩ := paired_get pr e
    have q := entry_at he i
    rw [hb] at q
    exact ⟨_, q, e3⟩
end
def ItdT (d : Addr) (o : Obj) (kvs : List (List Key × V)) : It :=
  ⟨fun i H => H d = some (.frz o (.dT kvs)) ∧ i < kvs.length, fun i H x H' => H' = H ∧ ∃ k, kvs[i]? = some (k, x), fun i H => H d = some (.frz o (.dT kvs)) ∧ kvs.length ≤ i⟩
theorem turn_valsT {P : Program} {w : World} {K : PySem.W.Frag} {tg : Expr} {d : Addr} {o : Obj} {es : Array DictEntry} {ep : Nat} {kvs : List (List Key × V)} (it : Addr) (hod : o.data = .dict es ep) :
    Turn P w K tg (ItdT d o kvs) [it] it (fun i h => h.IsValIter it d i kvs.length ep) where
  mem := by simp
  obj := fun i h st b hb => by
    have e : b = it := by simpa using hb
    subst e
    obtain ⟨oi, e, c, dd⟩ := st
    exact ⟨oi, e, fun v z => by rw [dd] at z; cases z⟩
  keep := fun i h h' st k => by
    obtain ⟨oi, e, r⟩ := st
    exact ⟨oi, k it (by simp) oi e, r⟩
  item := by
    intro X hP hw hK hc i pins s σ H E I hf st hg
    subst hP hw hK
    obtain ⟨hd, hi⟩ := hg
    obtain ⟨f0, f1, f2, f3, f4, f5⟩ := hf it (by simp)
    obtain ⟨hs, hgd, hx, es', ep', hdt, hsz, ent⟩ := frzTv I hd
    obtain ⟨rfl, rfl⟩ := dict_ep hod hdt
    obtain ⟨⟨k, v⟩, hkv⟩ : ∃ p, kvs[i]? = some p := ⟨kvs[i], List.getElem?_eq_getElem hi⟩
    obtain ⟨en, hen, rv⟩ := ent i k v hkv
    rw [← hsz] at st
    obtain ⟨hlt, een⟩ := Array.getElem?_eq_some_iff.mp hen
    refine wpAny_pyNext_values_item_raw st ⟨o, hgd, hx, hdt⟩ hlt fun h' st' sb => ?_
    have I1 : Inv X pins σ H { s with heap := h' } := I.turned (t' := s.toks) (fun b ob hb e => (sb.2 b hb).trans e) f0 f1 f3 f4 f5
    obtain ⟨oi, e, c, dd⟩ := id st'
    rw [een]
    refine ⟨en.val, rfl, go_of (s := { s with heap := h' }) e c dd (by decide) ⟨v, H, I1, rv, ⟨rfl, k, hkv⟩, ?_, fun b hb => (hf b hb).1⟩⟩
    show h'.IsValIter it d (i + 1) kvs.length _
    rw [← hsz]
    exact st'
  done := by
    intro X hP hw hK hc i pins s σ H E I hf st hg
    subst hP hw hK
    obtain ⟨hd, hi⟩ := hg
    obtain ⟨f0, f1, f2, f3, f4, f5⟩ := hf it (by simp)
    obtain ⟨hs, hgd, hx, es', ep', hdt, hsz, ent⟩ := frzTv I hd
    obtain ⟨rfl, rfl⟩ := dict_ep hod hdt
    rw [← hsz] at st hi
    exact wpAny_pyNext_values_end_raw (I.ok.hd hc) st ⟨o, hgd, hx, hdt⟩ hi fun h' eb => ⟨rfl, I.turned (t' := s.toks) (fun b ob hb e => eb b ob hb e) f0 f1 f3 f4 f5⟩
  self := fun A i s Q E st h => wpAny_pyIter_valiter st h
def iValsT (td : TE) : TI := fun σ H R => td σ H fun x H1 => ∃ d o kvs, x = .ref d ∧ H1 d = some (.frz o (.dT kvs)) ∧ R (ItdT d o kvs) H1
theorem pi_valuesT {X : Cx} {tg e : Expr} {td : TE} {apos cpos : Pos} (he : PE X e td) (hbase : attributeBase e "values" X.env (eval e X.env) = eval e X.env := by rfl) (hline : (apos.endLine == cpos.line) = true := by rfl) : PI X tg (.Call (.Attribute e "values" apos) [] [] cpos) (iValsT td) := by
  refine ⟨fun pins s σ H R I h => ?_⟩
  refine wpAny_Call_method (T := "dict") (id := "dict.values") hbase rfl hline F.plainAttrs_dict F.slot_dict_values F.type_dict_values (thn (he.run pins s σ H _ I h) fun u s1 ⟨x, H1, I1, rx, d, o, kvs, ex, hd, q⟩ => ?_)
  subst ex
  obtain rfl : u = Value.ref d := rx
  obtain ⟨hs, hgd, hx, es, ep, hdt, hsz, ent⟩ := frzTv I1 hd
  have hraw : s1.heap.DictRaw d es ep := ⟨o, hgd, hx, hdt⟩
  refine ⟨⟨o, hgd, hx.1⟩, fun b e => by cases e; exact ⟨o, hgd, hx.2.1⟩, ?_⟩
  have I2 : Inv X pins σ H1 { s1 with heap := s1.heap.push { cls := .type "dict_values", data := .fields #[.ref d] } } := I1.kept (t' := s1.toks) fun b ob q => Heap.get?_push_of_some _ q
  have fin : wpAny (model X.prog X.w) X.A (pyIter (.ref s1.heap.objs.size)) (PIE X pins σ tg R) X.xe { s1 with heap := s1.heap.push { cls := .type "dict_values", data := .fields #[.ref d] } } := by
    refine wpAny_pyIter_values_raw (d := d) (es := es) (ep := ep) ⟨_, Heap.get?_push_size _ rfl, rfl, rfl⟩ ⟨o, Heap.get?_push_of_some _ hgd, hx, hdt⟩ (pi_one (tk := s1.toks) I2 _ (turn_valsT _ hdt) ⟨_, Heap.get?_push_size _ rfl, rfl, ?_⟩ q)
    rw [hsz] <;> rfl
  show wpAny _ _ (callWith cpos (.builtin "dict.values") [.ref d] [] []) _ X.xe s1
  exact method_meetsIn F.slot_dict_values F.entry_dict_values rfl (PySem.evalArgs_none ⟨rfl, ⟨o, hgd, hx.1⟩, F.args_dict_values_1 _, _, meets_dict_values_raw d hs, ⟨es, ep, hraw⟩, fin⟩)
theorem walk_valsT {d : Addr} {o : Obj} {kvs : List (List Key × V)} : Walk (ItdT d o kvs) kvs.length (fun H => H d = some (.frz o (.dT kvs))) (fun i H x H' => H' = H ∧ ∃ k, kvs[i]? = some (k, x)) :=
  ⟨fun i _ hi q => ⟨q, hi⟩, fun _ q => ⟨q, Nat.le_refl _⟩, fun i H v H' _ q y => y⟩
end Tg
set_option Elab.async false
set_option linter.all false
set_option maxRecDepth 100000
set_option maxHeartbeats 4000000
/-! set(a tuple of ints), its length, two of them compared -/
namespace PySem
open Sem (wp)
theorem entry_set_eq : entryFor table "set.__eq__" = some Builtin.«frozenset.__eq__» :=
  entryFor_alias (id' := "frozenset.__eq__") (by kernel_rfl) rfl (by decide +kernel) (by kernel_rfl)
section
variable {prog : Program} {w : World} {A : Around} {E : Value → Shared → Prop} {s : Shared}
theorem wp_forIn_all {α β : Type} {init d : β} {f : α → β → Sem (ForInStep β)} {p : α → Bool} : ∀ (l : List α) {Q : β → Shared → Prop}
    (_ : ∀ x ∈ l, p x = true → ∀ Q' : ForInStep β → Shared → Prop, Q' (.yield init) s → wpAny (model prog w) A (f x init) Q' E s)
    (_ : ∀ x ∈ l, p x = false → ∀ Q' : ForInStep β → Shared → Prop, Q' (.done d) s → wpAny (model prog w) A (f x init) Q' E s)
    (_ : l.all p = true → Q init s) (_ : l.all p = false → Q d s), wpAny (model prog w) A (forIn l init f) Q E s
  | [], Q, _, _, h1, _ => by
    rw [List.forIn_nil]
    exact wpAny_pure (h1 rfl)
  | x :: l, Q, hy, hn, h1, h2 => by
    rw [List.forIn_cons]
    cases e : p x with
    | true =>
      refine wpAny_bind (hy x List.mem_cons_self e _ ?_)
      dsimp only
      exact wp_forIn_all l (fun y hy' => hy y (List.mem_cons_of_mem _ hy')) (fun y hy' => hn y (List.mem_cons_of_mem _ hy')) (fun q => h1 (by rw [List.all_cons, e, q]; rfl)) (fun q => h2 (by rw [List.all_cons, e, q]; rfl))
    | false =>
      refine wpAny_bind (hn x List.mem_cons_self e _ ?_)
      dsimp only
      exact wpAny_pure (h2 (by rw [List.all_cons, e]; rfl))
end
end PySem
namespace Tg
open PySem PySem.Spec PyProof.Rows L2
section
variable {prog : Program} {w : World} {A : Around} {E : Value → Shared → Prop} {s : Shared}
theorem walkUnseen_ints {a b : Addr} {oa ob : Obj} {ea eb : Array (Int × Value)} {pa pb : Nat} {ta tb : SetTable} {Q : List (Int × Value) → Shared → Prop} (ha : s.heap.get? a = some oa) (da : oa.data = .set ea pa ta) (fa : ta.fits ea.size = true)
    (hb : s.heap.get? b = some ob) (db : ob.data = .set eb pb tb) (fb : tb.fits eb.size = true) (ga : ∀ e ∈ ea.toList, GoodE e) (gb : ∀ e ∈ eb.toList, GoodE e) (h : Q ea.toList s) :
    wpAny (model prog w) A (Builtin.Frozenset.walkUnseen a b) Q E s := by
  unfold Builtin.Frozenset.walkUnseen
  refine wpAny_bind (wpAny_setEntries_of ha da fa (wpAny_bind (wpAny_setEntries_of hb db fb ?_)))
  refine wpAny_bind (wp_forIn_all (p := fun _ => true) (d := ⟨some ea.toList, PUnit.unit⟩) _ ?_ ?_ ?_ ?_)
  · rintro ⟨hh, x⟩ hx _ Q' hq
    have g : GoodE (hh, x) := by
      rcases List.mem_append.mp hx with hx | hx
      · exact ga _ hx
      · exact gb _ hx
    obtain ⟨k, tk, e1, e2⟩ := g
    have e1' : x = Value.int k tk := e1
    subst e1'
    dsimp only
    unfold Builtin.Frozenset.quietEq
    refine wpAny_bind (wpAny_pure ?_)
    exact wpAny_pure hq
  · intro x _ e
    cases e
  · intro _
    exact wpAny_pure h
  · intro q
    rw [List.all_eq_false] at q
    obtain ⟨_, _, q⟩ := q
    exact absurd rfl q
theorem subset_ints {a b : Addr} {nm : String} {Sa Sb : Int → Bool} {n m : Nat} {Q : Bool → Shared → Prop} (Ra : SetR w s.heap a Sa n) (Rb : SetR w s.heap b Sb m) (hnm : n = m)
    (h : ∀ r : Bool, (r = true ↔ ∀ k, Sa k = true → Sb k = true) → Q r s) : wpAny (model prog w) A (Builtin.Frozenset.subsetOf nm a b) Q E s := by
  obtain ⟨oa, ea, pa, ta, ha, xa, da, ga, nda, ma, ba, fa, na, _⟩ := id Ra
  obtain ⟨ob, eb, pb, tb, hb, xb, db, gb, ndb, mb, bb, fb, nb, _⟩ := id Rb
  unfold Builtin.Frozenset.subsetOf Builtin.Frozenset.sizeOf
  refine wpAny_bind (wpAny_bind (wpAny_setEntries_of ha da fa (wpAny_pure ?_)))
  refine wpAny_bind (wpAny_bind (wpAny_setEntries_of hb db fb (wpAny_pure ?_)))
  rw [if_neg (by omega)]
  refine wpAny_bind (wpAny_setEpoch_of ha da fa ?_)
  refine wpAny_bind (walkUnseen_ints ha da fa hb db fb ga gb ?_)
  refine wpAny_bind (wp_forIn_all (p := fun e => Sb (L2.keyOf e)) (d := ⟨some false, PUnit.unit⟩) _ ?_ ?_ ?_ ?_)
  · rintro ⟨hh, x⟩ hx hp Q' hq
    obtain ⟨k, tk, e1, e2⟩ := ga _ hx
    have e1' : x = Value.int k tk := e1
    have e2' : hh = hashInt k := e2
    subst e1' e2'
    dsimp only
    refine wpAny_bind (wpAny_holding (wpAny_setFind_of (knd := intKind prog w) (intKind_is _ _ k tk) rfl Rb.setOf fun r hr => ?_))
    have hs : r.isSome = true := hr.trans hp
    cases r with
    | none => cases hs
    | some j =>
      simp only [Option.isNone_some, Bool.false_eq_true, if_false]
      unfold Builtin.Frozenset.unchanged
      refine wpAny_bind (wpAny_bind (wpAny_setEpoch_of ha da fa ?_))
      simp only [bne_self_eq_false, Bool.false_eq_true, if_false]
      exact wpAny_pure (wpAny_pure hq)
  · rintro ⟨hh, x⟩ hx hp Q' hq
    obtain ⟨k, tk, e1, e2⟩ := ga _ hx
    have e1' : x = Value.int k tk := e1
    have e2' : hh = hashInt k := e2
    subst e1' e2'
    dsimp only
    refine wpAny_bind (wpAny_holding (wpAny_setFind_of (knd := intKind prog w) (intKind_is _ _ k tk) rfl Rb.setOf fun r hr => ?_))
    have hs : r.isSome = false := hr.trans hp
    cases r with
    | some j => cases hs
    | none =>
      simp only [Option.isNone_none, if_true]
      exact wpAny_pure hq
  · intro q
    refine wpAny_pure (h true ⟨fun _ k hk => ?_, fun _ => rfl⟩)
    obtain ⟨e, he, ek⟩ := List.mem_map.mp ((ma k).mp hk)
    have := List.all_eq_true.mp q e he
    rw [← ek]
    exact this
  · intro q
    refine wpAny_pure (h false ⟨fun z => (nomatch z), fun hall => ?_⟩)
    obtain ⟨e, he, hz⟩ := List.all_eq_false.mp q
    exact absurd (hall (L2.keyOf e) ((ma _).mpr (List.mem_map.mpr ⟨e, he, rfl⟩))) hz
theorem eq_sets {a b : Addr} {Sa Sb : Int → Bool} {n m : Nat} {Q : Value → Shared → Prop} (Ra : SetR w s.heap a Sa n) (Rb : SetR w s.heap b Sb m) (hu : A.units < cLine)
    (h : ∀ r : Bool, (r = true ↔ ∀ k, Sa k = Sb k) → Q (.bool r) s) : wpAny (model prog w) A (compareOp .Eq (.ref a) (.ref b)) Q E s := by
  obtain ⟨oa, ea, pa, ta, ha, xa, da, ga, nda, ma, ba, fa, na, _⟩ := id Ra
  obtain ⟨ob, eb, pb, tb, hb, xb, db, gb, ndb, mb, bb, fb, nb, _⟩ := id Rb
  have hTa : s.TypeIs (.ref a) "set" := ⟨oa, ha, xa.1⟩
  have hTb : s.TypeIs (.ref b) "set" := ⟨ob, hb, xb.1⟩
  have key : n = m → ((∀ k, Sa k = true → Sb k = true) ↔ ∀ k, Sa k = Sb k) := fun hnm => by
    constructor
    · intro hall k
      have hp := Vm.perm_of_sub (ea.toList.map L2.keyOf) (eb.toList.map L2.keyOf) nda (fun z hz => (mb z).mp (hall z ((ma z).mpr hz))) (by rw [List.length_map, List.length_map, Array.length_toList, Array.length_toList]; omega)
      rw [Bool.eq_iff_iff, ma k, mb k]
      exact hp.mem_iff
    · intro hall k hk
      rw [← hall k]
      exact hk
  have sizes : (∀ k, Sa k = Sb k) → n = m := fun hall => by
    have h1 := Vm.nodup_len_le (ea.toList.map L2.keyOf) (eb.toList.map L2.keyOf) nda (fun z hz => (mb z).mp (by rw [← hall z]; exact (ma z).mpr hz))
    have h2 := Vm.nodup_len_le (eb.toList.map L2.keyOf) (ea.toList.map L2.keyOf) ndb (fun z hz => (ma z).mp (by rw [hall z]; exact (mb z).mpr hz))
    rw [List.length_map, List.length_map, Array.length_toList, Array.length_toList] at h1 h2
    omega
  show wpAny _ _ (richCompare .Eq (.ref a) (.ref b)) _ _ _
  refine wpAny_richCompare_same_room hTa hTb F.slot_set_eq (wpAny_call_entry F.slot_set_eq hTa entry_set_eq ?_ (F.args_set_eq_2 _ _)) hu
  show wpAny _ _ (Builtin.Frozenset.slot1 "__eq__" ⟨[.ref a, .ref b], []⟩ >>= _) _ _ _
  refine wpAny_bind (wpAny_pure ?_)
  refine wpAny_bind ?_
  unfold Builtin.Frozenset.isAnySet
  refine wpAny_bind (wpAny_isInstance hTb sub_set_self (wpAny_pure ?_))
  show wpAny _ _ (Builtin.Frozenset.addrOf (.ref a) >>= _) _ _ _
  refine wpAny_bind (wpAny_pure ?_)
  refine wpAny_bind (wpAny_pure ?_)
  unfold Builtin.Frozenset.sizeOf
  refine wpAny_bind (wpAny_bind (wpAny_setEntries_of ha da fa (wpAny_pure ?_)))
  refine wpAny_bind (wpAny_bind (wpAny_setEntries_of hb db fb (wpAny_pure ?_)))
  refine wpAny_bind ?_
  by_cases c : n = m
  · rw [if_neg (by simp; omega)]
    refine wpAny_bind ?_
    refine wpAny_bind (wpAny_isInstance hTa F.sub_set_frozenset (wpAny_pure ?_))
    exact subset_ints Ra Rb c fun r hr => wpAny_pure ⟨_, rfl, fun z => (nomatch z), h r (hr.trans (key c))⟩
  · rw [if_pos (by simp; omega)]
    exact wpAny_pure (wpAny_pure ⟨_, rfl, fun z => (nomatch z), h false ⟨fun z => (nomatch z), fun q => absurd (sizes q) c⟩⟩)
end
section
variable {X : Cx}
/-- set(t), t a tuple of ints -/
def rSetT (K : PySem.W.Frag) (w : World) : List V → Hp → VK → Prop := fun vs H Q => ∃ (a : Addr) (ns : List Int), vs = [.ref a] ∧ SqT K H a (ns.map V.int) ∧ ns.length ≤ 1000 ∧ ∀ (p : Addr) (n : Nat), H p = none → (∃ L : List Int, L.Nodup ∧ (∀ k, k ∈ L ↔ k ∈ ns) ∧ L.length = n) → Q (.ref p) (upd H p (SetO w p (fun j => decide (j ∈ ns)) n))
theorem cr_setT (hc : X.calm = true) : CallR X (.type "set") (rSetT X.K X.w) := by
  intro pins s σ H vs us Q I r h
  obtain ⟨a, ns, rfl, hs, hl, q⟩ := h
  obtain ⟨its, rv, ht, hz⟩ := I.tuple hs
  rw [Vals.ref1 r]
  refine call_set_tupI ns (I.ok.hd hc) ht rv.ints (by unfold scanBound; omega) fun h' tk c R hcl hk => ?_
  refine ⟨.ref s.heap.objs.size, _, I.laid (t' := tk) hk (Nat.le_refl _) (setO_new R), rfl, q _ c (I.hok.fresh (Nat.le_refl _)) ?_⟩
  obtain ⟨o, es, ep, t, ho, hx, hd, g, nd, hm, hb, hf, hn, _⟩ := R
  exact ⟨es.toList.map L2.keyOf, nd, fun k => (hm k).symm.trans decide_eq_true_iff, by rw [List.length_map, Array.length_toList, hn]⟩
def rLenS (w : World) : List V → Hp → VK → Prop := fun vs H Q => ∃ (a : Addr) (S : Int → Bool) (n : Nat), vs = [.ref a] ∧ H a = some (SetO w a S n) ∧ n ≤ 1000 ∧ Q (.int (n : Int)) H
theorem cr_lenS : CallR X (.builtin "len") (rLenS X.w) := by
  intro pins s σ H vs us Q I r h
  obtain ⟨a, S, n, rfl, ha, hl, q⟩ := h
  rw [Vals.ref1 r]
  obtain ⟨o, es, ep, t, ho, hx, hd, g, nd, hm, hb, hf, hn, _⟩ := setO_get I ha
  exact call_len_set ho hx hd hf (by rw [hn]; omega) ⟨.int (n : Int), H, I.tok _, ⟨_, by rw [hn]⟩, q⟩
def rEqS (w : World) : R2 := fun x y H Q => ∃ (a b : Addr) (S T : Int → Bool) (n m : Nat), x = .ref a ∧ y = .ref b ∧ H a = some (SetO w a S n) ∧ H b = some (SetO w b T m) ∧ ∀ r : Bool, (r = true ↔ ∀ k, S k = T k) → Q (.bl r) H
theorem op_eqS (hu : X.A.units < cLine) : OpR X (compareOp .Eq) (rEqS X.w) := by
  intro pins s σ H x y v u Q I rx ry h
  obtain ⟨a, b, S, T, n, m, rfl, rfl, ha, hb, q⟩ := h
  cases rx
  cases ry
  exact eq_sets (setO_get I ha) (setO_get I hb) hu fun r hr => ⟨.bl r, H, I, rfl, q r hr⟩
end
end Tg
set_option Elab.async false
set_option linter.all false
set_option maxRecDepth 100000
set_option maxHeartbeats 4000000
namespace Tg
open PySem PySem.Spec PyProof.Rows L2
/-- the i-th statement of the program -/
def top (i : Nat) : Stmt := PySem.Challenge.pw_turngroups_s01_answers.main.body.getD i (.Pass ⟨0, 0, 0, 0⟩)
/-- an if whose test is known -/
theorem if_t {c : Bool} {A B : Prop} (hc : c = true) (h : A) : if c = true then A else B := by
  rw [if_pos hc]
  exact h
theorem if_f {c : Bool} {A B : Prop} (hc : c = false) (h : B) : if c = true then A else B := by
  rw [hc, if_neg Bool.false_ne_true]
  exact h
/-- both ways of a test -/
theorem if_2 {c : Bool} {A B : Prop} (h1 : c = true → A) (h2 : c = false → B) : if c = true then A else B := by
  cases c with
  | true => rw [if_pos rfl]; exact h1 rfl
  | false => rw [if_neg Bool.false_ne_true]; exact h2 rfl
theorem lk_here {k : Str} {v : V} {r : List (Str × V)} : List.lookup k ((k, v) :: r) = some v := by
  have e : (k == k) = true := beq_self_eq_true k
  simp only [List.lookup, e]
theorem lk_past {k g : Str} {v : V} {r : List (Str × V)} (h : (k == g) = false) : List.lookup k ((g, v) :: r) = List.lookup k r := by
  simp only [List.lookup, h]
theorem put_here {f : Str} {v x : V} {r : List (Str × V)} : putF f v ((f, x) :: r) = (f, v) :: r := if_pos rfl
theorem put_past {f g : Str} {v x : V} {r : List (Str × V)} (h : ¬ g = f) : putF f v ((g, x) :: r) = (g, x) :: putF f v r := if_neg h
/-- all that was tracked, but what stands at L, is as it was -/
def Chg (L : List Addr) (H H' : Hp) : Prop := ∀ b o, b ∉ L → H b = some o → H' b = some o
theorem Chg.refl {L : List Addr} {H : Hp} : Chg L H H := fun _ _ _ h => h
theorem Chg.trans {L : List Addr} {H H1 H2 : Hp} (a : Chg L H H1) (b : Chg L H1 H2) : Chg L H H2 := fun c o n h => b c o n (a c o n h)
theorem Chg.mono {L M : List Addr} {H H1 : Hp} (a : Chg L H H1) (h : ∀ b ∈ L, b ∈ M) : Chg M H H1 := fun c o n e => a c o (fun z => n (h c z)) e
theorem Chg.same {H H1 : Hp} (a : Chg [] H H1) : Same H H1 := fun c o e => a c o (by simp) e
theorem Chg.of {L : List Addr} {H H1 : Hp} (a : Same H H1) : Chg L H H1 := fun c o _ e => a c o e
theorem Chg.new {L : List Addr} {H : Hp} {p : Addr} {o : HO} (n : H p = none) : Chg L H (upd H p o) := fun c u _ e => by
  rw [upd_ne (ne_of_none e n)]
  exact e
theorem Chg.put {L : List Addr} {H : Hp} {p : Addr} {o : HO} (m : p ∈ L) : Chg L H (upd H p o) := fun c u n e => by
  rw [upd_ne (show c ≠ p from fun z => n (z.symm ▸ m))]
  exact e
theorem Chg.seq {L : List Addr} {K : PySem.W.Frag} {H H' : Hp} {a : Addr} {xs : List V} (e : Chg L H H') (n : a ∉ L) (h : SqL K H a xs) : SqL K H' a xs := by
  rcases h with (h | ⟨o, h⟩) | h
  · exact .inl (.inl (e _ _ n h))
  · exact .inl (.inr ⟨o, e _ _ n h⟩)
  · exact .inr h
theorem Chg.tup {L : List Addr} {K : PySem.W.Frag} {H H' : Hp} {a : Addr} {xs : List V} (e : Chg L H H') (n : a ∉ L) (h : SqT K H a xs) : SqT K H' a xs := by
  rcases h with (h | ⟨o, h⟩) | h
  · exact .inl (.inl (e _ _ n h))
  · exact .inl (.inr ⟨o, e _ _ n h⟩)
  · exact .inr h
/-- a list stands where instances alone are changed -/
theorem Chg.sqI {L : List Addr} {K : PySem.W.Frag} {H H' : Hp} {a : Addr} {xs : List V} (e : Chg L H H') (n : ∀ b ∈ L, ∃ C dx fs, H b = some (.ins C dx fs)) (h : SqL K H a xs) : SqL K H' a xs := by
  rcases h with (h | ⟨o, h⟩) | h
  · exact .inl (.inl (e _ _ (fun z => by obtain ⟨_, _, _, q⟩ := n a z; rw [h] at q; cases q) h))
  · exact .inl (.inr ⟨o, e _ _ (fun z => by obtain ⟨_, _, _, q⟩ := n a z; rw [h] at q; cases q) h⟩)
  · exact .inr h
theorem Chg.sqTI {L : List Addr} {K : PySem.W.Frag} {H H' : Hp} {a : Addr} {xs : List V} (e : Chg L H H') (n : ∀ b ∈ L, ∃ C dx fs, H b = some (.ins C dx fs)) (h : SqT K H a xs) : SqT K H' a xs := by
  rcases h with (h | ⟨o, h⟩) | h
  · exact .inl (.inl (e _ _ (fun z => by obtain ⟨_, _, _, q⟩ := n a z; rw [h] at q; cases q) h))
  · exact .inl (.inr ⟨o, e _ _ (fun z => by obtain ⟨_, _, _, q⟩ := n a z; rw [h] at q; cases q) h⟩)
  · exact .inr h
/-- what is new behind a change was new ahead of it -/
theorem Chg.free {L : List Addr} {H H' : Hp} {r : Addr} (c : Chg L H H') (n : ∀ b ∈ L, H' b ≠ none) (h : H' r = none) : H r = none := by
  cases q : H r with
  | none => rfl
  | some o =>
    by_cases z : r ∈ L
    · exact absurd h (n r z)
    · rw [c r o z q] at h
      cases h
/-- a store to what was not there at the entry -/
theorem Chg.at_new {L : List Addr} {H H' : Hp} {r : Addr} {o : HO} (c : Chg L H H') (h : H r = none) : Chg L H (upd H' r o) := fun b u nb q => by
  rw [upd_ne (fun z => by rw [z, h] at q; cases q)]
  exact c b u nb q
theorem SqL.same {K : PySem.W.Frag} {H H' : Hp} {a : Addr} {xs : List V} (h : SqL K H a xs) (e : Same H H') : SqL K H' a xs := e.seq h
theorem Same.tupS {K : PySem.W.Frag} {H H' : Hp} {a : Addr} {xs : List V} (e : Same H H') (h : SqT K H a xs) : SqT K H' a xs := (Chg.of (L := []) e).tup (by simp) h
theorem Same.new {H : Hp} {p : Addr} {o : HO} (n : H p = none) : Same H (upd H p o) := (Chg.new (L := []) n).same
theorem Same.at_new {H H' : Hp} {r : Addr} {o : HO} (c : Same H H') (h : H r = none) : Same H (upd H' r o) := ((Chg.of (L := []) c).at_new h).same
end Tg
set_option Elab.async false
set_option linter.all false
set_option maxRecDepth 100000
set_option maxHeartbeats 4000000
namespace Tg
open PySem PySem.Spec PyProof.Rows L2
abbrev sRInit : Stmt := inClass (top 46) 0
abbrev sMore : Stmt := inClass (top 46) 1
abbrev sTaken : Stmt := inClass (top 46) 2
abbrev sBetween : Stmt := inClass (top 46) 3
abbrev sCounted : Stmt := inClass (top 46) 4
abbrev sMustEnd : Stmt := inClass (top 46) 5
/-! ### The Reader in the heap -/
def rF (l : Addr) (p : Nat) : List (Str × V) := [("numbers", .ref l), ("position", .int (p : Int))]
def RdAt (CR : Addr) (H : Hp) (a l : Addr) (p : Nat) : Prop := ∃ dx, H a = some (.ins CR dx (rF l p))
theorem rF_num (l : Addr) (p : Nat) : (rF l p).lookup ("numbers" : Str) = some (.ref l) := lk_here
theorem rF_pos (l : Addr) (p : Nat) : (rF l p).lookup ("position" : Str) = some (.int (p : Int)) := (lk_past (by decide +kernel)).trans lk_here
theorem rF_m (l : Addr) (p : Nat) {m : Str} (h1 : (m == ("numbers" : Str)) = false) (h2 : (m == ("position" : Str)) = false) : (rF l p).lookup m = none := (lk_past h1).trans ((lk_past h2).trans rfl)
theorem rF_more (l : Addr) (p : Nat) : (rF l p).lookup ("has_more" : Str) = none := rF_m l p (by decide +kernel) (by decide +kernel)
theorem rF_taken (l : Addr) (p : Nat) : (rF l p).lookup ("taken" : Str) = none := rF_m l p (by decide +kernel) (by decide +kernel)
theorem rF_between (l : Addr) (p : Nat) : (rF l p).lookup ("taken_between" : Str) = none := rF_m l p (by decide +kernel) (by decide +kernel)
theorem rF_counted (l : Addr) (p : Nat) : (rF l p).lookup ("taken_counted" : Str) = none := rF_m l p (by decide +kernel) (by decide +kernel)
theorem rF_mustEnd (l : Addr) (p : Nat) : (rF l p).lookup ("must_end" : Str) = none := rF_m l p (by decide +kernel) (by decide +kernel)
theorem rF_put (l : Addr) (p : Nat) : putF "position" (.int ((p : Int) + 1)) (rF l p) = rF l (p + 1) := (put_past (by decide +kernel)).trans (congrArg _ (put_here.trans (by rw [show ((p : Int) + 1) = ((p + 1 : Nat) : Int) from rfl])))
theorem rF_new (l : Addr) : putF "position" (.int 0) (putF "numbers" (.ref l) []) = rF l 0 := (put_past (by decide +kernel)).trans rfl
/-! ### What the top has written of them -/
structure TxR (K : PySem.W.Frag) (mg : Str → Option Value) (CR CN : Addr) : Prop where
  cl : Cls K CR
  nN : NoAttr K CR "numbers"
  nP : NoAttr K CR "position"
  gR : mg "Reader" = some (.ref CR)
  gN : mg "NotWhole" = some (.ref CN)
  xN : PySem.W.excIn K CN [.type "ValueError", .type "Exception", .type "BaseException", .type "object"] "ValueError.__new__" = true
  kN : PySem.W.keepIn K (.ref CN) = true
  bN : PySem.W.subIn K (.ref CN) (.type "BaseException") = some true
  tN : PySem.W.typeIn K (.ref CN) = some (.type "type")
  eN : PySem.W.exmOne K (.ref CN) (.ref CN) = some true
  len : mg "len" = none
  range : mg "range" = none
/-! ### Promises -/
def spRInit (CR : Addr) : Sp := fun vs H Q _ => ∃ (p dx l : Addr), vs = [.ref p, .ref l] ∧ H p = some (.ins CR dx []) ∧
  ∀ H' : Hp, RdAt CR H' p l 0 → Chg [p] H H' → Q .non H'
/-- the reader at a, over the numbers ns at l, p of them taken -/
structure Rdr (K : PySem.W.Frag) (CR : Addr) (H : Hp) (a l : Addr) (ns : List Int) (p : Nat) : Prop where
  at_ : RdAt CR H a l p
  sq : SqL K H l (ns.map V.int)
  le : p ≤ ns.length
theorem Rdr.chg {K : PySem.W.Frag} {CR : Addr} {H H' : Hp} {a l : Addr} {ns : List Int} {p q : Nat} (r : Rdr K CR H a l ns p) (c : Chg [a] H H') (h : RdAt CR H' a l q) (hq : q ≤ ns.length) : Rdr K CR H' a l ns q := by
  obtain ⟨dx, e⟩ := r.at_
  exact ⟨h, c.sqI (fun b hb => ⟨CR, dx, rF l p, by rw [List.mem_singleton.mp hb]; exact e⟩) r.sq, hq⟩
theorem Rdr.same {K : PySem.W.Frag} {CR : Addr} {H H' : Hp} {a l : Addr} {ns : List Int} {p : Nat} (r : Rdr K CR H a l ns p) (c : Same H H') : Rdr K CR H' a l ns p := by
  obtain ⟨dx, e⟩ := r.at_
  exact ⟨⟨dx, c _ _ e⟩, c.seq r.sq, r.le⟩
theorem RdAt.same {CR : Addr} {H H' : Hp} {a l : Addr} {p : Nat} (r : RdAt CR H a l p) (c : Same H H') : RdAt CR H' a l p := by
  obtain ⟨dx, e⟩ := r
  exact ⟨dx, c _ _ e⟩
def spMore (K : PySem.W.Frag) (CR : Addr) : Sp := fun vs H Q _ => ∃ (a l : Addr) (ns : List Int) (p : Nat), vs = [.ref a] ∧ Rdr K CR H a l ns p ∧ Q (.bl (decide (p < ns.length))) H
def spTaken (K : PySem.W.Frag) (CR CN : Addr) : Sp := fun vs H Q E => ∃ (a l : Addr) (ns : List Int) (p : Nat), vs = [.ref a] ∧ Rdr K CR H a l ns p ∧
  (∀ v, ns[p]? = some v → ∀ H', Rdr K CR H' a l ns (p + 1) → Chg [a] H H' → Q (.int v) H') ∧ (ns[p]? = none → E (.ref CN) none H)
def spBetween (K : PySem.W.Frag) (CR CN : Addr) : Sp := fun vs H Q E => ∃ (a l : Addr) (ns : List Int) (p : Nat) (lo hi : Int), vs = [.ref a, .int lo, .int hi] ∧ Rdr K CR H a l ns p ∧
  (∀ v, ns[p]? = some v → lo ≤ v → v ≤ hi → ∀ H', Rdr K CR H' a l ns (p + 1) → Chg [a] H H' → Q (.int v) H') ∧
  ((∀ v, ns[p]? = some v → ¬ (lo ≤ v ∧ v ≤ hi)) → ∀ H', Chg [a] H H' → (∃ q, Rdr K CR H' a l ns q) → E (.ref CN) none H')
/-- so many numbers and they, as a new list: here they are there -/
def spCounted (K : PySem.W.Frag) (CR CN : Addr) : Sp := fun vs H Q _ => ∃ (a l : Addr) (ns : List Int) (p : Nat) (n : Nat), vs = [.ref a] ∧ Rdr K CR H a l ns p ∧ ns[p]? = some (n : Int) ∧ p + 1 + n ≤ ns.length ∧ ns.length ≤ 2000 ∧
  ∀ H' r, H r = none → Rdr K CR H' a l ns (p + 1 + n) → Chg [a] H H' → H' r = some (.lst (((ns.drop (p + 1)).take n).map V.int)) → Q (.ref r) H'
def spMustEnd (K : PySem.W.Frag) (CR CN : Addr) : Sp := fun vs H Q E => ∃ (a l : Addr) (ns : List Int) (p : Nat), vs = [.ref a] ∧ Rdr K CR H a l ns p ∧ (p = ns.length → Q .non H) ∧ (p < ns.length → E (.ref CN) none H)
section
variable {P : Program} {w : World} {K : PySem.W.Frag} {mg : Str → Option Value} {base : Heap} {CR CN : Addr}
theorem scRI : FnScope ["self", "numbers"] ["self", "numbers"] (defScope sRInit) := ⟨rfl, rfl, rfl, by decide +kernel, rfl, by decide +kernel, by decide +kernel⟩
theorem ok_rinit {f : Addr} {fd : FuncData} (F : Fun K "__init__" "Reader.__init__" sRInit f fd) (T : TxR K mg CR CN) : FnOk P w K mg base CX0 1 f fd ["self", "numbers"] (spRInit CR) := by
  refine F.ok scRI (fun vs H Q E h => ?_) (fun cdv A outer s H vs Q E hr h => ⟨_, pss_cons (ps_fld (pv 0) (pv 1) rfl) (pss_one (ps_fld (pv 0) pe_int rfl)), ?_⟩)
  · obtain ⟨p, dx, l, rfl, _⟩ := h
    rfl
  · obtain ⟨p, dx, l, rfl, hp, k⟩ := h
    refine ⟨_, rfl, _, rfl, p, CR, dx, [], rfl, hp, T.cl, T.nN, (by show 0 < 1000; decide), ?_⟩
    refine ⟨_, rfl, p, CR, dx, _, rfl, upd_same, T.cl, T.nP, (by show 1 < 1000; decide), ?_⟩
    exact k _ ⟨dx, Eq.trans upd_same (congrArg (fun q => some (HO.ins CR dx q)) (rF_new l))⟩ ((Chg.put (by simp)).trans (Chg.put (by simp)))
theorem scMo : FnScope ["self"] ["self"] (defScope sMore) := ⟨rfl, rfl, rfl, by decide +kernel, rfl, by decide +kernel, by decide +kernel⟩
theorem ok_more {f : Addr} {fd : FuncData} (F : Fun K "has_more" "Reader.has_more" sMore f fd) (T : TxR K mg CR CN) : FnOk P w K mg base CX0 1 f fd ["self"] (spMore K CR) := by
  refine F.ok scMo (fun vs H Q E h => ?_) (fun cdv A outer s H vs Q E hr h => ⟨_, pss_one (ps_ret (pe_cmpR op_lt (pe_fld (pv 0) rfl) (pe_callB call_len_seq (by rfl) T.len PySem.boot_len (pa_cons (pe_fld (pv 0) rfl) pa_nil)) (nomark _))), ?_⟩)
  · obtain ⟨a, l, ns, p, rfl, _⟩ := h
    rfl
  · obtain ⟨a, l, ns, p, rfl, R, k⟩ := h
    obtain ⟨dx, e⟩ := R.at_
    refine ⟨_, rfl, a, CR, dx, _, _, rfl, e, T.cl, T.nP, rF_pos l p, _, rfl, a, CR, dx, _, _, rfl, e, T.cl, T.nN, rF_num l p, l, _, rfl, .inl R.sq, _, _, rfl, rfl, ?_⟩
    have : (decide ((p : Int) < (((ns.map V.int).length : Nat) : Int))) = decide (p < ns.length) := by
      rw [List.length_map]
      exact decide_eq_decide.mpr Int.ofNat_lt
    show Q (.bl (decide ((p : Int) < (((ns.map V.int).length : Nat) : Int)))) H
    rw [this]
    exact k
theorem scTk : FnScope ["self", "number"] ["self"] (defScope sTaken) := ⟨rfl, rfl, rfl, by decide +kernel, rfl, by decide +kernel, by decide +kernel⟩
theorem ok_taken {f fM : Addr} {fd fdM : FuncData} (F : Fun K "taken" "Reader.taken" sTaken f fd) (T : TxR K mg CR CN) (FM : Fun K "has_more" "Reader.has_more" sMore fM fdM) (bM : Binds K fdM ["self"] []) (mM : Meth K CR "has_more" fM) :
    FnOk P w K mg base (L2.CX P w) 2 f fd ["self"] (spTaken K CR CN) := by
  have GM : FnOk P w K mg base CX0 1 fM fdM ["self"] (spMore K CR) := ok_more FM T
  refine F.okX scTk (fun vs H Q E h => ?_) (fun cdv A outer s H vs Q E hr h => ⟨_, pss_cons (ps_if (pt_not (pt_val (pe_meth0 (pv 0) T.cl mM GM hr bM .nil pass0)))
      (pss_one (ps_raise rfl (takes_of rfl rfl rfl rfl) (pmk_own PySem.F.excBase_ValueError T.xN T.gN T.kN (raises_own T.bN T.tN) (by exact rfl)))) pss_nil)
    (pss_cons (ps_set (i := 1) scTk.nd rfl (Or.inl rfl) (pe_ix ix_list (pe_fld (pv 0) rfl) (pe_fld (pv 0) rfl) (fun _ _ => rfl)))
    (pss_cons (ps_fld (pv 0) (pe_op op_add (pe_fld (pv 0) rfl) pe_int) rfl)
    (pss_one (ps_ret (pv 1))))), ?_⟩)
  · obtain ⟨a, l, ns, p, rfl, _⟩ := h
    rfl
  · obtain ⟨a, l, ns, p, rfl, R, kS, kN⟩ := h
    obtain ⟨dx, e⟩ := id R.at_
    refine ⟨_, rfl, a, dx, _, rfl, e, rF_more l p, a, l, ns, p, rfl, R, _, rfl, ?_⟩
    by_cases c : p < ns.length
    · refine if_f (by simp [c]) ?_
      obtain ⟨v, hv⟩ : ∃ v, ns[p]? = some v := ⟨ns[p], List.getElem?_eq_getElem c⟩
      refine ⟨_, rfl, a, CR, dx, _, _, rfl, e, T.cl, T.nN, rF_num l p, _, rfl, a, CR, dx, _, _, rfl, e, T.cl, T.nP, rF_pos l p, l, _, _, .int v, rfl, rfl, R.sq, atI_nat (by simp [hv]), ?_⟩
      refine ⟨_, rfl, a, CR, dx, _, _, rfl, e, T.cl, T.nP, rF_pos l p, _, _, rfl, rfl, _, rfl, a, CR, dx, _, rfl, e, T.cl, T.nP, (by show 2 < 1000; decide), ?_⟩
      refine ⟨_, rfl, ?_⟩
      have c1 : Chg [a] H (upd H a (.ins CR dx (putF "position" (.int ((p : Int) + 1)) (rF l p)))) := Chg.put (by simp)
      exact kS v hv _ (R.chg c1 ⟨dx, Eq.trans upd_same (congrArg (fun q => some (HO.ins CR dx q)) (rF_put l p))⟩ c) c1
    · refine if_t (by simp [c]) ?_
      exact kN (List.getElem?_eq_none (by omega))
end
end Tg
set_option Elab.async false
set_option linter.all false
set_option maxRecDepth 100000
set_option maxHeartbeats 4000000
namespace Tg
open PySem PySem.Spec PyProof.Rows L2
theorem take_more {α : Type} : ∀ {l : List α} {i : Nat} {x : α}, l[i]? = some x → l.take (i + 1) = l.take i ++ [x]
  | [], i, x, h => by simp at h
  | a :: l, 0, x, h => by
    have e : a = x := Option.some.inj h
    subst e
    rfl
  | a :: l, i + 1, x, h => by
    have ih := take_more (l := l) (i := i) (x := x) h
    show a :: l.take (i + 1) = a :: l.take i ++ [x]
    rw [ih]
    rfl
theorem small1000' {n : Nat} (h : n ≤ 100000) : n < sizeLine := Nat.lt_of_le_of_lt h (by decide)
section
variable {P : Program} {w : World} {K : PySem.W.Frag} {mg : Str → Option Value} {base : Heap} {CR CN : Addr}
theorem scBt : FnScope ["self", "low", "high", "number"] ["self", "low", "high"] (defScope sBetween) := ⟨rfl, rfl, rfl, by decide +kernel, rfl, by decide +kernel, by decide +kernel⟩
theorem ok_between {f fT : Addr} {fd fdT : FuncData} (F : Fun K "taken_between" "Reader.taken_between" sBetween f fd) (T : TxR K mg CR CN)
    (GT : FnOk P w K mg base (L2.CX P w) 2 fT fdT ["self"] (spTaken K CR CN)) (bT : Binds K fdT ["self"] []) (mT : Meth K CR "taken" fT) :
    FnOk P w K mg base (L2.CX P w) 3 f fd ["self", "low", "high"] (spBetween K CR CN) := by
  refine F.okX scBt (fun vs H Q E h => ?_) (fun cdv A outer s H vs Q E hr h => ⟨_, pss_cons (ps_set (i := 3) scBt.nd rfl (Or.inl rfl) (pe_meth0 (pv 0) T.cl mT GT hr bT .nil (passes_call (takes_of rfl rfl rfl rfl) (fun _ _ _ _ h => h))))
    (pss_cons (ps_if (PW.pt (pw_or (pt_cmpR op_lt (pv 3) (pv 1) (nomark _)) (pw_or1 (pt_cmpR op_gt (pv 3) (pv 2) (nomark _)))))
      (pss_one (ps_raise rfl (takes_of rfl rfl rfl rfl) (pmk_own PySem.F.excBase_ValueError T.xN T.gN T.kN (raises_own T.bN T.tN) (by exact rfl)))) pss_nil)
    (pss_one (ps_ret (pv 3)))), ?_⟩)
  · obtain ⟨a, l, ns, p, lo, hi, rfl, _⟩ := h
    rfl
  · obtain ⟨a, l, ns, p, lo, hi, rfl, R, kS, kN⟩ := h
    obtain ⟨dx, e⟩ := id R.at_
    refine ⟨_, rfl, a, dx, _, rfl, e, rF_taken l p, a, l, ns, p, rfl, R, fun v hv H' R' c' => ?_, fun hn => ?_⟩
    · refine ⟨_, rfl, _, rfl, _, _, rfl, rfl, _, rfl, ?_⟩
      by_cases c : v < lo
      · refine if_t (decide_eq_true c) (if_t rfl ?_)
        exact kN (fun v' hv' => by rw [hv] at hv'; cases hv'; omega) _ c' ⟨_, R'⟩
      · refine if_f (decide_eq_false c) ?_
        refine ⟨_, rfl, _, rfl, _, _, rfl, rfl, _, rfl, ?_⟩
        by_cases c2 : hi < v
        · refine if_t (decide_eq_true c2) ?_
          exact kN (fun v' hv' => by rw [hv] at hv'; cases hv'; omega) _ c' ⟨_, R'⟩
        · refine if_f (decide_eq_false c2) ?_
          exact ⟨_, rfl, kS v hv (by omega) (by omega) _ R' c'⟩
    · exact kN (fun v hv => by rw [hn] at hv; cases hv) _ Chg.refl ⟨_, R⟩
theorem scCo : FnScope ["self", "count", "counted", "place"] ["self"] (defScope sCounted) := ⟨rfl, rfl, rfl, by decide +kernel, rfl, by decide +kernel, by decide +kernel⟩
theorem ok_counted {f fT : Addr} {fd fdT : FuncData} (F : Fun K "taken_counted" "Reader.taken_counted" sCounted f fd) (T : TxR K mg CR CN)
    (GT : FnOk P w K mg base (L2.CX P w) 2 fT fdT ["self"] (spTaken K CR CN)) (bT : Binds K fdT ["self"] []) (mT : Meth K CR "taken" fT) :
    FnOk P w K mg base CX0 3 f fd ["self"] (spCounted K CR CN) := by
  refine F.ok scCo (fun vs H Q E h => ?_) (fun cdv A outer s H vs Q E hr h => ⟨_, pss_cons (ps_set (i := 1) scCo.nd rfl (Or.inl rfl) (pe_meth0 (pv 0) T.cl mT GT hr bT .nil passL))
    (pss_cons (ps_set (i := 2) scCo.nd rfl (Or.inl rfl) (pe_lst pa_nil))
    (pss_cons (ps_for PassesOwn.never rfl (pi_range1 rfl T.range (pa_cons (pv 1) pa_nil)) (pg_name (i := 3) scCo.nd rfl (Or.inl rfl))
      (pss_one (ps_expr (pe_bm PySem.F.plainAttrs_list PySem.F.slot_list_append PySem.F.type_list_append mt_append (pv 2) (pa_cons (pe_meth0 (pv 0) T.cl mT GT hr bT .nil passL) pa_nil)))))
    (pss_one (ps_ret (pv 2))))), ?_⟩)
  · obtain ⟨a, l, ns, p, n, rfl, _⟩ := h
    rfl
  · obtain ⟨a, l, ns, p, n, rfl, R, hn, hle, hlen, k⟩ := h
    obtain ⟨dx, e⟩ := id R.at_
    refine ⟨_, rfl, a, dx, _, rfl, e, rF_taken l p, a, l, ns, p, rfl, R, fun v hv H1 R1 c1 => ?_, fun hx => absurd (hn.symm.trans hx) (by simp)⟩
    rw [hn] at hv
    cases hv
    refine ⟨by show 0 ≤ sizeLine; exact Nat.zero_le _, fun r hr1 => ?_⟩
    have na1 : ∀ b ∈ [a], H1 b ≠ none := fun b hb => by
      obtain ⟨dx1, e1⟩ := R1.at_
      rw [List.mem_singleton.mp hb, e1]
      exact Option.some_ne_none _
    have hrn : H r = none := c1.free na1 hr1
    have hra : a ≠ r := ne_of_none e hrn
    refine ⟨_, rfl, (n : Int), rfl, by omega, by omega, for_range (lo := 0) (n := (n : Int).toNat) (fun i σ H' => ∃ x : Option V, σ = [some (.ref a), some (.int (n : Int)), some (.ref r), x] ∧ RdAt CR H' a l (p + 1 + i) ∧ Chg [a] H H' ∧
      H' r = some (.lst (((ns.drop (p + 1)).take i).map V.int))) ⟨none, rfl, RdAt.same R1.at_ (Same.new hr1), c1.at_new hrn, upd_same⟩ ?_ ?_⟩
    · rintro i σ H2 hi ⟨x, rfl, A2, c2, r2⟩
      have hi' : i < n := by simpa using hi
      have R2 := R.chg c2 A2 (by omega)
      obtain ⟨dx2, e2⟩ := id A2
      have hget : ns[p + 1 + i]? = some ns[p + 1 + i] := List.getElem?_eq_getElem (by omega)
      refine ⟨_, rfl, .inl ⟨rfl, _, SqL.of r2⟩, _, rfl, a, dx2, _, rfl, e2, rF_taken l _, a, l, ns, p + 1 + i, rfl, R2, fun v hv H3 R3 c3 => ?_, fun hx => absurd (hget.symm.trans hx) (by simp)⟩
      have r3 : H3 r = some (.lst (((ns.drop (p + 1)).take i).map V.int)) := c3 r _ (by simpa using hra.symm) r2
      refine ⟨r, _, _, rfl, rfl, r3, ?_, ?_⟩
      · rw [List.length_map, List.length_take]
        exact Nat.lt_of_le_of_lt (Nat.min_le_left _ _) (small1000' (by omega))
      · refine ⟨some (.int (0 + (i : Int))), rfl, ?_, (c2.trans c3).at_new hrn, ?_⟩
        · obtain ⟨dx3, e3⟩ := R3.at_
          exact ⟨dx3, by rw [upd_ne hra]; exact e3⟩
        · rw [upd_same]
          have : (ns.drop (p + 1))[i]? = some v := by rw [List.getElem?_drop]; exact hv
          rw [take_more this, List.map_append]
          rfl
    · rintro σ H2 ⟨x, rfl, A2, c2, r2⟩
      have en : (n : Int).toNat = n := by simp
      rw [en] at A2 r2
      exact ⟨_, rfl, k H2 r hrn (R.chg c2 A2 hle) c2 r2⟩
theorem scMu : FnScope ["self"] ["self"] (defScope sMustEnd) := ⟨rfl, rfl, rfl, by decide +kernel, rfl, by decide +kernel, by decide +kernel⟩
theorem ok_mustEnd {f fM : Addr} {fd fdM : FuncData} (F : Fun K "must_end" "Reader.must_end" sMustEnd f fd) (T : TxR K mg CR CN) (GM : FnOk P w K mg base CX0 1 fM fdM ["self"] (spMore K CR)) (bM : Binds K fdM ["self"] []) (mM : Meth K CR "has_more" fM) :
    FnOk P w K mg base (L2.CX P w) 2 f fd ["self"] (spMustEnd K CR CN) := by
  refine F.okX scMu (fun vs H Q E h => ?_) (fun cdv A outer s H vs Q E hr h => ⟨_, pss_one (ps_if (pt_val (pe_meth0 (pv 0) T.cl mM GM hr bM .nil pass0))
      (pss_one (ps_raise rfl (takes_of rfl rfl rfl rfl) (pmk_own PySem.F.excBase_ValueError T.xN T.gN T.kN (raises_own T.bN T.tN) (by exact rfl)))) pss_nil), ?_⟩)
  · obtain ⟨a, l, ns, p, rfl, _⟩ := h
    rfl
  · obtain ⟨a, l, ns, p, rfl, R, kS, kN⟩ := h
    obtain ⟨dx, e⟩ := id R.at_
    refine ⟨_, rfl, a, dx, _, rfl, e, rF_more l p, a, l, ns, p, rfl, R, _, rfl, ?_⟩
    by_cases c : p < ns.length
    · exact if_t (decide_eq_true c) (kN c)
    · exact if_f (decide_eq_false c) (kS (by have := R.le; omega))
end
end Tg
set_option Elab.async false
set_option linter.all false
set_option maxRecDepth 100000
set_option maxHeartbeats 4000000
namespace Tg
open PySem PySem.Spec PyProof.Rows L2
abbrev sRowCount : Stmt := top 83
abbrev sWholeRow : Stmt := top 85
/-- a class that is made with its numbers -/
structure MkR (K : PySem.W.Frag) (P : Program) (w : World) (mg : Str → Option Value) (base : Heap) (CR CN : Addr) : Prop where
  T : TxR K mg CR CN
  init : ∃ (f : Addr) (fd : FuncData), Mk K CR f ∧ FnOk P w K mg base CX0 1 f fd ["self", "numbers"] (spRInit CR) ∧ Binds K fd ["self", "numbers"] []
  more : ∃ (f : Addr) (fd : FuncData), FnOk P w K mg base CX0 1 f fd ["self"] (spMore K CR) ∧ Binds K fd ["self"] [] ∧ Meth K CR "has_more" f
  taken : ∃ (f : Addr) (fd : FuncData), FnOk P w K mg base (L2.CX P w) 2 f fd ["self"] (spTaken K CR CN) ∧ Binds K fd ["self"] [] ∧ Meth K CR "taken" f
  between : ∃ (f : Addr) (fd : FuncData), FnOk P w K mg base (L2.CX P w) 3 f fd ["self", "low", "high"] (spBetween K CR CN) ∧ Binds K fd ["self", "low", "high"] [] ∧ Meth K CR "taken_between" f
  counted : ∃ (f : Addr) (fd : FuncData), FnOk P w K mg base CX0 3 f fd ["self"] (spCounted K CR CN) ∧ Binds K fd ["self"] [] ∧ Meth K CR "taken_counted" f
  mustEnd : ∃ (f : Addr) (fd : FuncData), FnOk P w K mg base (L2.CX P w) 2 f fd ["self"] (spMustEnd K CR CN) ∧ Binds K fd ["self"] [] ∧ Meth K CR "must_end" f
/-- the slot of a loop's own name is whatever; a new instance's start -/
theorem same_made {H H1 : Hp} {x dx : Addr} {o u : HO} (nx : H x = none) (nd : H dx = none) (c : Chg [x] (upd (upd H dx o) x u) H1) : Same H H1 := fun b v q => by
  have h1 : b ≠ x := fun z => by rw [z, nx] at q; cases q
  have h2 : b ≠ dx := fun z => by rw [z, nd] at q; cases q
  exact c b v (by simpa using h1) (by rw [upd_ne h1, upd_ne h2]; exact q)
def spWholeRow (K : PySem.W.Frag) (CN : Addr) : Sp := fun vs H Q E => ∃ (l : Addr) (ns : List Int) (n : Nat), vs = [.ref l, .int (n : Int)] ∧ n ≤ 4 ∧ SqL K H l (ns.map V.int) ∧
  (∀ x, Vm.rowOf n ns = some x → ∀ H' t, H t = none → Same H H' → H' t = some (.tup (x.map V.int)) → Q (.ref t) H') ∧ (Vm.rowOf n ns = none → ∀ H', Same H H' → E (.ref CN) none H')
section
variable {P : Program} {w : World} {K : PySem.W.Frag} {mg : Str → Option Value} {base : Heap} {CR CN : Addr}
theorem scWR : FnScope ["numbers", "places", "reader", "row", "place"] ["numbers", "places"] (defScope sWholeRow) := ⟨rfl, rfl, rfl, by decide +kernel, rfl, by decide +kernel, by decide +kernel⟩
theorem ok_wholeRow {f : Addr} {fd : FuncData} (F : Fun K "whole_row" "whole_row" sWholeRow f fd) (M : MkR K P w mg base CR CN) (gTuple : mg "tuple" = none) :
    FnOk P w K mg base (L2.CX P w) 4 f fd ["numbers", "places"] (spWholeRow K CN) := by
  have T := M.T
  obtain ⟨fI, fdI, mkI, GI, bI⟩ := M.init
  obtain ⟨fB, fdB, GB, bB, mB⟩ := M.between
  obtain ⟨fE, fdE, GE, bE, mE⟩ := M.mustEnd
  refine F.okX scWR (fun vs H Q E h => ?_) (fun cdv A outer s H vs Q E hr h => ⟨_, pss_cons (ps_set (i := 2) scWR.nd rfl (Or.inl rfl) (pe_make mkI GI (hr.mono (by decide)) rfl T.gR bI .nil pass0 (pa_cons (pv 0) pa_nil)))
    (pss_cons (ps_expr (pe_meth (pv 2) T.cl mB GB hr bB .nil (passes_call (takes_of rfl rfl rfl rfl) (fun _ _ _ _ h => h)) (pa_cons (pv 1) (pa_cons (pv 1) pa_nil))))
    (pss_cons (ps_set (i := 3) scWR.nd rfl (Or.inl rfl) (pe_lst pa_nil))
    (pss_cons (ps_for (passes_of rfl) rfl (pi_range1 rfl T.range (pa_cons (pv 1) pa_nil)) (pg_name (i := 4) scWR.nd rfl (Or.inl rfl))
      (pss_one (ps_expr (pe_bm PySem.F.plainAttrs_list PySem.F.slot_list_append PySem.F.type_list_append mt_append (pv 3) (pa_cons
        (pe_meth (pv 2) T.cl mB GB hr bB .nil (passes_call (takes_of rfl rfl rfl rfl) (fun _ _ _ _ h => h)) (pa_cons (pe_un un_neg pe_int) (pa_cons pe_int pa_nil))) pa_nil)))))
    (pss_cons (ps_expr (pe_meth0 (pv 2) T.cl mE GE (hr.mono (by decide)) bE .nil (passes_call (takes_of rfl rfl rfl rfl) (fun _ _ _ _ h => h))))
    (pss_one (ps_ret (pe_callTy call_tuple_of (by rfl) gTuple (by decide +kernel) (pa_cons (pv 3) pa_nil)))))))), ?_⟩)
  · obtain ⟨l, ns, n, rfl, _⟩ := h
    rfl
  · obtain ⟨l, ns, n, rfl, hn, hS, kS, kN⟩ := h
    refine ⟨_, rfl, fun x dx nx nd ne => ⟨x, dx, l, rfl, upd_same, fun H1 A1 c1 => ⟨rfl, ?_⟩⟩⟩
    have s1 : Same H H1 := same_made nx nd c1
    have R1 : Rdr K CR H1 x l ns 0 := ⟨A1, s1.seq hS, Nat.zero_le _⟩
    obtain ⟨dx1, e1⟩ := id A1
    -- reader.taken_between(places, places)
    refine ⟨_, rfl, x, dx1, _, rfl, e1, rF_between l _, _, rfl, _, rfl, x, l, ns, 0, _, _, rfl, R1, fun v hv hlo hhi H2 R2 c2 => ?_, fun hno H2 c2 _ => ?_⟩
    · obtain ⟨xs, rfl⟩ : ∃ xs, ns = (n : Int) :: xs := by
        match ns, hv with
        | y :: xs, hv =>
          have : y = v := by simpa using hv
          exact ⟨xs, by rw [this]; congr 1; omega⟩
      have s2 : Same H H2 := fun b o q => c2 b o (by simpa using (fun z : b = x => by rw [z, nx] at q; cases q)) (s1 b o q)
      refine ⟨Nat.zero_le _, fun r hr2 => ?_⟩
      have hrn : H r = none := s2.free hr2
      have hxr : x ≠ r := by
        obtain ⟨d, e⟩ := R2.at_
        exact ne_of_none e hr2
      -- the loop
      refine ⟨_, rfl, (n : Int), rfl, by omega, by omega, for_range (lo := 0) (n := (n : Int).toNat) (fun i σ H' => ∃ y : Option V, σ = [some (.ref l), some (.int (n : Int)), some (.ref x), some (.ref r), y] ∧ RdAt CR H' x l (1 + i) ∧ Same H H' ∧ i ≤ xs.length ∧
        (∀ u ∈ xs.take i, -99 ≤ u ∧ u ≤ 99) ∧ H' r = some (.lst ((xs.take i).map V.int))) ⟨none, rfl, RdAt.same R2.at_ (Same.new hr2), Same.at_new s2 hrn, Nat.zero_le _, (by simp), upd_same⟩ ?_ ?_⟩
      · rintro i σ H3 hi ⟨y, rfl, A3, s3, hi3, h3, r3⟩
        have R3 : Rdr K CR H3 x l ((n : Int) :: xs) (1 + i) := ⟨A3, s3.seq hS, by rw [List.length_cons]; omega⟩
        obtain ⟨dx3, e3⟩ := id A3
        have hix : ((n : Int) :: xs)[1 + i]? = xs[i]? := by rw [Nat.add_comm]; rfl
        refine ⟨_, rfl, .inl ⟨rfl, _, SqL.of r3⟩, _, rfl, x, dx3, _, rfl, e3, rF_between l _, _, rfl, x, l, _, 1 + i, _, _, rfl, R3, fun u hu hlo hhi H4 R4 c4 => ?_, fun hno H4 c4 _ => ?_⟩
        · rw [hix] at hu
          have r4 : H4 r = some (.lst ((xs.take i).map V.int)) := c4 r _ (by simpa using hxr.symm) r3
          refine ⟨r, _, _, rfl, rfl, r4, ?_, ?_⟩
          · rw [List.length_map, List.length_take]
            exact Nat.lt_of_le_of_lt (Nat.min_le_left _ _) (small1000' (by have : i < n := by simpa using hi
                                                                           omega))
          · refine ⟨some (.int (0 + (i : Int))), rfl, ?_, ?_, ?_, ?_, ?_⟩
            · obtain ⟨dx4, e4⟩ := R4.at_
              exact ⟨dx4, by rw [upd_ne hxr]; exact e4⟩
            · exact Same.at_new (fun b o q => c4 b o (by simpa using (fun z : b = x => by rw [z, nx] at q; cases q)) (s3 b o q)) hrn
            · have := (List.getElem?_eq_some_iff.mp hu).1
              omega
            · rw [take_more hu]
              intro z hz
              rcases List.mem_append.mp hz with hz | hz
              · exact h3 z hz
              · rw [List.mem_singleton.mp hz]
                exact ⟨hlo, hhi⟩
            · rw [upd_same, take_more hu, List.map_append]
              rfl
        · refine kN ?_ H4 (fun b o q => c4 b o (by simpa using (fun z : b = x => by rw [z, nx] at q; cases q)) (s3 b o q))
          cases q : Vm.rowOf n ((n : Int) :: xs) with
          | none => rfl
          | some x' =>
            obtain ⟨q1, q2, q3⟩ := (Vm.rowOf_iff (by omega) _ _).mp q
            have q1' : xs = x' := by simpa using q1
            subst q1'
            have hi' : i < xs.length := by rw [q2]; simpa using hi
            exact absurd (q3 _ (List.getElem_mem hi')) (hno _ (by rw [hix]; exact List.getElem?_eq_getElem hi'))
      · rintro σ H3 ⟨y, rfl, A3, s3, hi3, h3, r3⟩
        have en : (n : Int).toNat = n := by simp
        rw [en] at A3 hi3 h3 r3
        have R3 : Rdr K CR H3 x l ((n : Int) :: xs) (1 + n) := ⟨A3, s3.seq hS, by rw [List.length_cons]; omega⟩
        obtain ⟨dx3, e3⟩ := id A3
        refine ⟨_, rfl, x, dx3, _, rfl, e3, rF_mustEnd l _, x, l, _, 1 + n, rfl, R3, fun hq => ?_, fun hq => ?_⟩
        · have hlen : xs.length = n := by rw [List.length_cons] at hq; omega
          have ht : xs.take n = xs := List.take_of_length_le (by omega)
          rw [ht] at h3 r3
          refine ⟨_, rfl, r, _, rfl, .inl ⟨SqL.of r3, fun t ht => ?_⟩⟩
          exact kS xs ((Vm.rowOf_iff (by omega) _ _).mpr ⟨rfl, hlen, h3⟩) _ t (s3.free ht) (s3.trans (Same.new ht)) upd_same
        · refine kN ?_ H3 s3
          cases q : Vm.rowOf n ((n : Int) :: xs) with
          | none => rfl
          | some x' =>
            obtain ⟨q1, q2, q3⟩ := (Vm.rowOf_iff (by omega) _ _).mp q
            have q1' : xs = x' := by simpa using q1
            subst q1'
            rw [List.length_cons] at hq
            omega
    · refine kN ?_ H2 (fun b o q => c2 b o (by simpa using (fun z : b = x => by rw [z, nx] at q; cases q)) (s1 b o q))
      cases q : Vm.rowOf n ns with
      | none => rfl
      | some x' =>
        obtain ⟨q1, q2, q3⟩ := (Vm.rowOf_iff (by omega) _ _).mp q
        exact absurd ⟨Int.le_refl _, Int.le_refl _⟩ (hno (n : Int) (by rw [q1]; rfl))
end
end Tg
set_option Elab.async false
set_option linter.all false
set_option maxRecDepth 100000
set_option maxHeartbeats 4000000
namespace Tg
open PySem PySem.Spec PyProof.Rows L2
abbrev sAmount : Stmt := top 49
abbrev sStep : Stmt := top 50
abbrev sProgram : Stmt := top 51
abbrev sWholeProgram : Stmt := top 52
theorem Chg.tupI {L : List Addr} {H H' : Hp} {u : Addr} {xs : List V} (e : Chg L H H') (n : ∀ b ∈ L, ∃ C dx fs, H b = some (.ins C dx fs)) (h : H u = some (.tup xs)) : H' u = some (.tup xs) :=
  e _ _ (fun z => by obtain ⟨_, _, _, q⟩ := n u z; rw [h] at q; cases q) h
theorem Rdr.ins {K : PySem.W.Frag} {CR : Addr} {H : Hp} {a l : Addr} {ns : List Int} {p : Nat} (r : Rdr K CR H a l ns p) : ∀ b ∈ [a], ∃ C dx fs, H b = some (.ins C dx fs) := fun b hb => by
  obtain ⟨dx, e⟩ := r.at_
  exact ⟨CR, dx, rF l p, by rw [List.mem_singleton.mp hb]; exact e⟩
theorem Rdr.some {K : PySem.W.Frag} {CR : Addr} {H : Hp} {a l : Addr} {ns : List Int} {p : Nat} (r : Rdr K CR H a l ns p) : ∀ b ∈ [a], H b ≠ none := fun b hb => by
  obtain ⟨C, dx, fs, e⟩ := r.ins b hb
  rw [e]
  exact Option.some_ne_none _
/-! ### How many rows a size has -/
def spRowCount : Sp := fun vs H Q _ => ∃ (n h : Nat), vs = [.int (n : Int), .int (h : Int)] ∧ n ≤ 4 ∧ h ≤ 9 ∧ Q (.int (((2 * h + 1) ^ n : Nat) : Int)) H
section
variable {P : Program} {w : World} {K : PySem.W.Frag} {mg : Str → Option Value} {base : Heap} {CR CN : Addr}
theorem scRC : FnScope ["places", "height", "count", "place"] ["places", "height"] (defScope sRowCount) := ⟨rfl, rfl, rfl, by decide +kernel, rfl, by decide +kernel, by decide +kernel⟩
theorem ok_rowCount {f : Addr} {fd : FuncData} (F : Fun K "row_count" "row_count" sRowCount f fd) (gRange : mg "range" = none) : FnOk P w K mg base CX0 1 f fd ["places", "height"] spRowCount := by
  refine F.ok scRC (fun vs H Q E h => ?_) (fun cdv A outer s H vs Q E hr h => ⟨_, pss_cons (ps_set (i := 2) scRC.nd rfl (Or.inl rfl) pe_int)
    (pss_cons (ps_for PassesOwn.never rfl (pi_range1 rfl gRange (pa_cons (pv 0) pa_nil)) (pg_name (i := 3) scRC.nd rfl (Or.inl rfl))
      (pss_one (ps_set (i := 2) scRC.nd rfl (Or.inl rfl) (pe_op op_mul (pv 2) (pe_op op_add (pe_op op_mul pe_int (pv 1)) pe_int)))))
    (pss_one (ps_ret (pv 2)))), ?_⟩)
  · obtain ⟨n, h, rfl, _⟩ := h
    rfl
  · obtain ⟨n, h, rfl, hn, hh, k⟩ := h
    refine ⟨_, rfl, (n : Int), rfl, by omega, by omega, for_range (lo := 0) (n := (n : Int).toNat) (fun i σ H' => ∃ y : Option V, σ = [some (.int (n : Int)), some (.int (h : Int)), some (.int (((2 * h + 1) ^ i : Nat) : Int)), y] ∧ H' = H) ⟨none, rfl, rfl⟩ ?_ ?_⟩
    · rintro i σ H2 hi ⟨y, rfl, rfl⟩
      have hi' : i < 4 := by
        have : i < n := by simpa using hi
        omega
      have hb : (2 * h + 1) ^ i ≤ 19 ^ 4 := Nat.le_trans (Nat.pow_le_pow_left (by omega) i) (Nat.pow_le_pow_right (by decide) (by omega))
      refine ⟨_, rfl, _, rfl, _, _, rfl, rfl, .inl ⟨by decide, by decide⟩, _, _, rfl, rfl, _, _, rfl, rfl, .inl ⟨by omega, by omega⟩, ?_⟩
      refine ⟨some (.int (0 + (i : Int))), ?_, rfl⟩
      have e : (((2 * h + 1) ^ i : Nat) : Int) * (2 * (h : Int) + 1) = (((2 * h + 1) ^ (i + 1) : Nat) : Int) := by
        rw [Nat.pow_succ, Int.natCast_mul]
        rfl
      rw [← e]
      rfl
    · rintro σ H2 ⟨y, rfl, rfl⟩
      have en : (n : Int).toNat = n := by simp
      rw [en]
      exact ⟨_, rfl, k⟩
/-! ### A step's number behind it -/
/-- the letters of the table -/
def bnd (z : Str) (ob : Option (Int × Int)) : Prop := (z = "c" ∧ ob = some (-99, 99)) ∨ (z = "m" ∧ ob = some (1, 9)) ∨ (z = "k" ∧ ob = some (0, 9)) ∨ (z = "" ∧ ob = none)
/-- what is wanted of a number within its bounds, or none -/
structure Btw (K : PySem.W.Frag) (CR CN : Addr) (H : Hp) (a l : Addr) (ns : List Int) (p : Nat) (lo hi : Int) (Q : VK) (E : XK) : Prop where
  yes : ∀ v, ns[p]? = some v → lo ≤ v → v ≤ hi → ∀ H', Rdr K CR H' a l ns (p + 1) → Chg [a] H H' → Q (.int v) H'
  no : (∀ v, ns[p]? = some v → ¬ (lo ≤ v ∧ v ≤ hi)) → ∀ H', Chg [a] H H' → (∃ q, Rdr K CR H' a l ns q) → E (.ref CN) none H'
def spAmount (K : PySem.W.Frag) (CR CN : Addr) : Sp := fun vs H Q E => ∃ (a l : Addr) (ns : List Int) (p : Nat) (z : Str) (ob : Option (Int × Int)), vs = [.ref a, .str z] ∧ Rdr K CR H a l ns p ∧ bnd z ob ∧
  (ob = none → Q (.int 0) H) ∧ ∀ lo hi, ob = some (lo, hi) → Btw K CR CN H a l ns p lo hi Q E
theorem scAm : FnScope ["reader", "letter"] ["reader", "letter"] (defScope sAmount) := ⟨rfl, rfl, rfl, by decide +kernel, rfl, by decide +kernel, by decide +kernel⟩
theorem ok_amount {f : Addr} {fd : FuncData} (F : Fun K "taken_amount" "taken_amount" sAmount f fd) (M : MkR K P w mg base CR CN) : FnOk P w K mg base (L2.CX P w) 4 f fd ["reader", "letter"] (spAmount K CR CN) := by
  have T := M.T
  obtain ⟨fB, fdB, GB, bB, mB⟩ := M.between
  refine F.okX scAm (fun vs H Q E h => ?_) (fun cdv A outer s H vs Q E hr h => ⟨_, pss_cons (ps_if (pt_cmpR op_eq (pv 1) pe_str (nomark _)) (pss_one (ps_ret
        (pe_meth (pv 0) T.cl mB GB hr bB .nil (passes_call (takes_of rfl rfl rfl rfl) (fun _ _ _ _ h => h)) (pa_cons (pe_un un_neg pe_int) (pa_cons pe_int pa_nil))))) pss_nil)
    (pss_cons (ps_if (pt_cmpR op_eq (pv 1) pe_str (nomark _)) (pss_one (ps_ret
        (pe_meth (pv 0) T.cl mB GB hr bB .nil (passes_call (takes_of rfl rfl rfl rfl) (fun _ _ _ _ h => h)) (pa_cons pe_int (pa_cons pe_int pa_nil))))) pss_nil)
    (pss_cons (ps_if (pt_cmpR op_eq (pv 1) pe_str (nomark _)) (pss_one (ps_ret
        (pe_meth (pv 0) T.cl mB GB hr bB .nil (passes_call (takes_of rfl rfl rfl rfl) (fun _ _ _ _ h => h)) (pa_cons pe_int (pa_cons pe_int pa_nil))))) pss_nil)
    (pss_one (ps_ret pe_int)))), ?_⟩)
  · obtain ⟨a, l, ns, p, z, ob, rfl, _⟩ := h
    rfl
  · obtain ⟨a, l, ns, p, z, ob, rfl, R, hz, kN, kS⟩ := h
    obtain ⟨dx, e⟩ := id R.at_
    refine ⟨_, rfl, rfl, _, rfl, ?_⟩
    rcases hz with ⟨rfl, rfl⟩ | ⟨rfl, rfl⟩ | ⟨rfl, rfl⟩ | ⟨rfl, rfl⟩
    · have B := kS _ _ rfl
      refine if_t (by decide +kernel) ?_
      exact ⟨_, rfl, a, dx, _, rfl, e, rF_between l _, _, rfl, a, l, ns, p, _, _, rfl, R, B.yes, B.no⟩
    · have B := kS _ _ rfl
      refine if_f (by decide +kernel) ⟨_, rfl, rfl, _, rfl, if_t (by decide +kernel) ?_⟩
      exact ⟨_, rfl, a, dx, _, rfl, e, rF_between l _, a, l, ns, p, _, _, rfl, R, B.yes, B.no⟩
    · have B := kS _ _ rfl
      refine if_f (by decide +kernel) ⟨_, rfl, rfl, _, rfl, if_f (by decide +kernel) ⟨_, rfl, rfl, _, rfl, if_t (by decide +kernel) ?_⟩⟩
      exact ⟨_, rfl, a, dx, _, rfl, e, rF_between l _, a, l, ns, p, _, _, rfl, R, B.yes, B.no⟩
    · refine if_f (by decide +kernel) ⟨_, rfl, rfl, _, rfl, if_f (by decide +kernel) ⟨_, rfl, rfl, _, rfl, if_f (by decide +kernel) ?_⟩⟩
      exact kN rfl
end
end Tg
set_option Elab.async false
set_option linter.all false
set_option maxRecDepth 100000
set_option maxHeartbeats 4000000
namespace Tg
open PySem PySem.Spec PyProof.Rows L2
def letters : List Str := ["c", "c", "m", "", "", "", "k", "k", "k", "c", "", "", "", "", "", "", "", ""]
theorem letters_at {k : Nat} (h : k ≤ 17) : ∃ z, letters[k]? = some z ∧ bnd z (Vm.behind k) := by
  have : k = 0 ∨ k = 1 ∨ k = 2 ∨ k = 3 ∨ k = 4 ∨ k = 5 ∨ k = 6 ∨ k = 7 ∨ k = 8 ∨ k = 9 ∨ k = 10 ∨ k = 11 ∨ k = 12 ∨ k = 13 ∨ k = 14 ∨ k = 15 ∨ k = 16 ∨ k = 17 := by omega
  rcases this with rfl | rfl | rfl | rfl | rfl | rfl | rfl | rfl | rfl | rfl | rfl | rfl | rfl | rfl | rfl | rfl | rfl | rfl
  all_goals first
    | exact ⟨_, rfl, .inl ⟨rfl, rfl⟩⟩
    | exact ⟨_, rfl, .inr (.inl ⟨rfl, rfl⟩)⟩
    | exact ⟨_, rfl, .inr (.inr (.inl ⟨rfl, rfl⟩))⟩
    | exact ⟨_, rfl, .inr (.inr (.inr ⟨rfl, rfl⟩))⟩
/-- the table of the module -/
structure TxL (K : PySem.W.Frag) (mg : Str → Option Value) (S : Addr) : Prop where
  gS : mg "STEP_LETTERS" = some (.ref S)
  sq : ∀ H, SqT K H S (letters.map V.str)
def pairT (s : VametBase.Step) : HO := .tup [.int (Vm.pairOf s).1, .int (Vm.pairOf s).2]
def spStep (K : PySem.W.Frag) (CR CN : Addr) : Sp := fun vs H Q E => ∃ (a l : Addr) (ns : List Int) (p : Nat), vs = [.ref a] ∧ Rdr K CR H a l ns p ∧
  (∀ s r, VametBase.readStep (ns.drop p) = some (s, r) → ∀ H' t q, H t = none → Chg [a] H H' → Rdr K CR H' a l ns q → ns.drop q = r → H' t = some (pairT s) → Q (.ref t) H') ∧
  (VametBase.readStep (ns.drop p) = none → ∀ H', Chg [a] H H' → (∃ q, Rdr K CR H' a l ns q) → E (.ref CN) none H')
section
variable {P : Program} {w : World} {K : PySem.W.Frag} {mg : Str → Option Value} {base : Heap} {CR CN S : Addr}
theorem scSt : FnScope ["reader", "kind", "amount"] ["reader"] (defScope sStep) := ⟨rfl, rfl, rfl, by decide +kernel, rfl, by decide +kernel, by decide +kernel⟩
theorem ok_step {f fA : Addr} {fd fdA : FuncData} (F : Fun K "taken_step" "taken_step" sStep f fd) (M : MkR K P w mg base CR CN) (TL : TxL K mg S)
    (GA : FnOk P w K mg base (L2.CX P w) 4 fA fdA ["reader", "letter"] (spAmount K CR CN)) (bA : Binds K fdA ["reader", "letter"] []) (gA : mg "taken_amount" = some (.ref fA)) (kA : PySem.W.keepIn K (.ref fA) = true) :
    FnOk P w K mg base (L2.CX P w) 5 f fd ["reader"] (spStep K CR CN) := by
  have T := M.T
  obtain ⟨fB, fdB, GB, bB, mB⟩ := M.between
  refine F.okX scSt (fun vs H Q E h => ?_) (fun cdv A outer s H vs Q E hr h => ⟨_, pss_cons (ps_set (i := 1) scSt.nd rfl (Or.inl rfl)
      (pe_meth (pv 0) T.cl mB GB (hr.mono (by decide)) bB .nil (passes_call (takes_of rfl rfl rfl rfl) (fun _ _ _ _ h => h)) (pa_cons pe_int (pa_cons (pe_op op_sub (pe_callB call_len_seq (by rfl) T.len PySem.boot_len (pa_cons (pe_glob (v := .ref S) rfl TL.gS rfl) pa_nil)) pe_int) pa_nil))))
    (pss_cons (ps_set (i := 2) scSt.nd rfl (Or.inl rfl) (pe_call GA hr rfl gA kA bA .nil (passes_call (takes_of rfl rfl rfl rfl) (fun _ _ _ _ h => h)) (pa_cons (pv 0) (pa_cons (pe_ix ix_tup (pe_glob (v := .ref S) rfl TL.gS rfl) (pv 1) (fun _ _ => rfl)) pa_nil))))
    (pss_one (ps_ret (pe_tup (pa_cons (pv 1) (pa_cons (pv 2) pa_nil)))))), ?_⟩)
  · obtain ⟨a, l, ns, p, rfl, _⟩ := h
    rfl
  · obtain ⟨a, l, ns, p, rfl, R, kS, kN⟩ := h
    obtain ⟨dx, e⟩ := id R.at_
    refine ⟨_, rfl, a, dx, _, rfl, e, rF_between l p, S, _, rfl, .inr (TL.sq H), _, _, rfl, rfl, a, l, ns, p, _, _, rfl, R, fun v hv hlo hhi H1 R1 c1 => ?_, fun hno H1 c1 r1 => ?_⟩
    · have hhi' : v ≤ 17 := hhi
      obtain ⟨k, rfl⟩ : ∃ k : Nat, v = (k : Int) := ⟨v.toNat, by omega⟩
      obtain ⟨z, hz, hbz⟩ := letters_at (k := k) (by omega)
      have hd : ns.drop p = (k : Int) :: ns.drop (p + 1) := by
        obtain ⟨hl, he⟩ := List.getElem?_eq_some_iff.mp hv
        rw [List.drop_eq_getElem_cons hl, he]
      refine ⟨_, rfl, _, rfl, S, _, _, .str z, rfl, rfl, TL.sq H1, atI_nat (by simp [hz]), a, l, ns, p + 1, z, _, rfl, R1, hbz, fun hb => ?_, fun lo hi hb => ⟨fun v2 hv2 h2 h3 H2 R2 c2 => ?_, fun hno H2 c2 r2 => ?_⟩⟩
      · refine ⟨_, rfl, _, rfl, by show 2 ≤ sizeLine; decide, fun t ht => ?_⟩
        obtain ⟨s, hs, hp⟩ := Vm.readStep_plain (k := k) (by omega) hb (ns.drop (p + 1))
        refine kS s _ (by rw [hd]; exact hs) _ t (p + 1) (c1.free R1.some ht) (c1.trans (Chg.new ht)) (R1.same (Same.new ht)) rfl ?_
        rw [upd_same]
        unfold pairT
        rw [hp]
      · refine ⟨_, rfl, _, rfl, by show 2 ≤ sizeLine; decide, fun t ht => ?_⟩
        have hd2 : ns.drop (p + 1) = v2 :: ns.drop (p + 2) := by
          obtain ⟨hl, he⟩ := List.getElem?_eq_some_iff.mp hv2
          rw [List.drop_eq_getElem_cons hl, he]
        obtain ⟨s, hs, hp⟩ := Vm.readStep_more hb v2 (ns.drop (p + 2)) h2 h3
        refine kS s _ (by rw [hd, hd2]; exact hs) _ t (p + 2) ((c1.trans c2).free R2.some ht) ((c1.trans c2).trans (Chg.new ht)) (R2.same (Same.new ht)) rfl ?_
        rw [upd_same]
        unfold pairT
        rw [hp]
      · refine kN ?_ H2 (c1.trans c2) r2
        rw [hd]
        refine Vm.readStep_bad hb _ fun v2 r' e2 => hno v2 ?_
        have := congrArg (fun x => x[0]?) e2
        simpa [List.getElem?_drop] using this
    · refine kN ?_ H1 c1 r1
      cases e2 : ns[p]? with
      | none =>
        rw [List.drop_eq_nil_of_le (List.getElem?_eq_none_iff.mp e2)]
        rfl
      | some v =>
        obtain ⟨hl, he⟩ := List.getElem?_eq_some_iff.mp e2
        rw [List.drop_eq_getElem_cons hl, he]
        exact Vm.readStep_out v _ (hno v e2)
end
end Tg
set_option Elab.async false
set_option linter.all false
set_option maxRecDepth 100000
set_option maxHeartbeats 4000000
namespace Vm
open VametBase
theorem readTimes_some {A : Type} {a : Reader A} {n : Nat} {x r : List Int} {u : A} (h : a x = some (u, r)) (done : List A) : ((readTimes a (n + 1) x).map fun v => (done ++ v.1, v.2)) = (readTimes a n r).map fun v => ((done ++ [u]) ++ v.1, v.2) := by
  show (((a x).bind fun u => (readTimes a n u.2).map fun v => (u.1 :: v.1, v.2)).map fun v => (done ++ v.1, v.2)) = _
  rw [h]
  show (((readTimes a n r).map fun v => (u :: v.1, v.2)).map fun v => (done ++ v.1, v.2)) = _
  rw [Option.map_map]
  congr 1
  funext v
  simp
theorem readTimes_none {A : Type} {a : Reader A} {n : Nat} {x : List Int} (h : a x = none) : readTimes a (n + 1) x = none := by
  show ((a x).bind fun u => (readTimes a n u.2).map fun v => (u.1 :: v.1, v.2)) = _
  rw [h]
  rfl
theorem readProgram_cons {z : Int} {r : List Int} (h : 0 ≤ z ∧ z ≤ 8) : readProgram (z :: r) = readTimes readStep z.toNat r := by
  show ((if int 0 ≤ z ∧ z ≤ int 8 then some (z.toNat, r) else none : Option (Nat × List Int)).bind fun n => readTimes readStep n.1 n.2) = _
  rw [if_pos (show int 0 ≤ z ∧ z ≤ int 8 from h)]
  rfl
theorem readProgram_out {x : List Int} (h : ∀ z, x[0]? = some z → ¬ (0 ≤ z ∧ z ≤ 8)) : readProgram x = none := by
  match x with
  | [] => rfl
  | z :: r =>
    show ((if int 0 ≤ z ∧ z ≤ int 8 then some (z.toNat, r) else none : Option (Nat × List Int)).bind fun n => readTimes readStep n.1 n.2) = _
    rw [if_neg (show ¬ (int 0 ≤ z ∧ z ≤ int 8) from h z rfl)]
    rfl
theorem whole_none {A : Type} {a : Reader A} {x : List Int} (h : ∀ u, a x ≠ some (u, [])) : whole a x = none := by
  cases e : whole a x with
  | none => rfl
  | some u => exact absurd (whole_eq.mp e) (h u)
end Vm
namespace Tg
open PySem PySem.Spec PyProof.Rows L2
def StepsAt (H : Hp) : List Addr → List VametBase.Step → Prop
  | [], [] => True
  | u :: us, s :: ss => H u = some (pairT s) ∧ StepsAt H us ss
  | _, _ => False
theorem StepsAt.length {H : Hp} : ∀ {us : List Addr} {ss : List VametBase.Step}, StepsAt H us ss → us.length = ss.length
  | [], [], _ => rfl
  | _ :: us, _ :: ss, h => by simp [StepsAt.length h.2]
  | [], _ :: _, h => h.elim
  | _ :: _, [], h => h.elim
theorem StepsAt.map {H H' : Hp} (k : ∀ u xs, H u = some (.tup xs) → H' u = some (.tup xs)) : ∀ {us : List Addr} {ss : List VametBase.Step}, StepsAt H us ss → StepsAt H' us ss
  | [], [], _ => trivial
  | _ :: us, _ :: ss, h => ⟨k _ _ h.1, StepsAt.map k h.2⟩
  | [], _ :: _, h => h.elim
  | _ :: _, [], h => h.elim
theorem StepsAt.snoc {H : Hp} {u : Addr} {s : VametBase.Step} (h : H u = some (pairT s)) : ∀ {us : List Addr} {ss : List VametBase.Step}, StepsAt H us ss → StepsAt H (us ++ [u]) (ss ++ [s])
  | [], [], _ => ⟨h, trivial⟩
  | _ :: us, _ :: ss, q => ⟨q.1, StepsAt.snoc h q.2⟩
  | [], _ :: _, q => q.elim
  | _ :: _, [], q => q.elim
/-- a program as it is held: a tuple of its steps, at most n of them, each with its number within its bounds -/
def ProgAtN (n : Nat) (H : Hp) (t : Addr) (pr : List VametBase.Step) : Prop := ∃ us : List Addr, H t = some (.tup (us.map V.ref)) ∧ StepsAt H us pr ∧ pr.length ≤ n ∧ ∀ s ∈ pr, Vm.okStep s
abbrev ProgAt (H : Hp) (t : Addr) (pr : List VametBase.Step) : Prop := ProgAtN 8 H t pr
theorem ProgAtN.map {n : Nat} {H H' : Hp} (k : ∀ u xs, H u = some (.tup xs) → H' u = some (.tup xs)) {t : Addr} {pr : List VametBase.Step} (h : ProgAtN n H t pr) : ProgAtN n H' t pr := by
  obtain ⟨us, h1, h2, h3⟩ := h
  exact ⟨us, k _ _ h1, h2.map k, h3⟩
theorem ProgAtN.same {n : Nat} {H H' : Hp} {t : Addr} {pr : List VametBase.Step} (h : ProgAtN n H t pr) (e : Same H H') : ProgAtN n H' t pr := h.map fun u xs z => e _ _ z
theorem ProgAtN.mono {n m : Nat} {H : Hp} {t : Addr} {pr : List VametBase.Step} (h : ProgAtN n H t pr) (e : n ≤ m) : ProgAtN m H t pr := by
  obtain ⟨us, h1, h2, h3, h4⟩ := h
  exact ⟨us, h1, h2, Nat.le_trans h3 e, h4⟩
def spProg (K : PySem.W.Frag) (CR CN : Addr) : Sp := fun vs H Q E => ∃ (a l : Addr) (ns : List Int) (p : Nat), vs = [.ref a] ∧ Rdr K CR H a l ns p ∧
  (∀ pr r, VametBase.readProgram (ns.drop p) = some (pr, r) → ∀ H' t q, H t = none → Chg [a] H H' → Rdr K CR H' a l ns q → ns.drop q = r → ProgAt H' t pr → Q (.ref t) H') ∧
  (VametBase.readProgram (ns.drop p) = none → ∀ H', Chg [a] H H' → (∃ q, Rdr K CR H' a l ns q) → E (.ref CN) none H')
def spWholeProg (K : PySem.W.Frag) (CN : Addr) : Sp := fun vs H Q E => ∃ (l : Addr) (ns : List Int), vs = [.ref l] ∧ SqL K H l (ns.map V.int) ∧
  (∀ pr, VametBase.whole VametBase.readProgram ns = some pr → ∀ H' t, H t = none → Same H H' → ProgAt H' t pr → Q (.ref t) H') ∧
  (VametBase.whole VametBase.readProgram ns = none → ∀ H', Same H H' → E (.ref CN) none H')
section
variable {P : Program} {w : World} {K : PySem.W.Frag} {mg : Str → Option Value} {base : Heap} {CR CN S : Addr}
theorem scPr : FnScope ["reader", "count", "program", "place"] ["reader"] (defScope sProgram) := ⟨rfl, rfl, rfl, by decide +kernel, rfl, by decide +kernel, by decide +kernel⟩
theorem ok_program {f fS : Addr} {fd fdS : FuncData} (F : Fun K "taken_program" "taken_program" sProgram f fd) (M : MkR K P w mg base CR CN) (gTuple : mg "tuple" = none)
    (GS : FnOk P w K mg base (L2.CX P w) 5 fS fdS ["reader"] (spStep K CR CN)) (bS : Binds K fdS ["reader"] []) (gS : mg "taken_step" = some (.ref fS)) (kS : PySem.W.keepIn K (.ref fS) = true) :
    FnOk P w K mg base (L2.CX P w) 6 f fd ["reader"] (spProg K CR CN) := by
  have T := M.T
  obtain ⟨fB, fdB, GB, bB, mB⟩ := M.between
  refine F.okX scPr (fun vs H Q E h => ?_) (fun cdv A outer s H vs Q E hr h => ⟨_, pss_cons (ps_set (i := 1) scPr.nd rfl (Or.inl rfl)
      (pe_meth (pv 0) T.cl mB GB (hr.mono (by decide)) bB .nil (passes_call (takes_of rfl rfl rfl rfl) (fun _ _ _ _ h => h)) (pa_cons pe_int (pa_cons pe_int pa_nil))))
    (pss_cons (ps_set (i := 2) scPr.nd rfl (Or.inl rfl) (pe_lst pa_nil))
    (pss_cons (ps_for (passes_of rfl) rfl (pi_range1 rfl T.range (pa_cons (pv 1) pa_nil)) (pg_name (i := 3) scPr.nd rfl (Or.inl rfl))
      (pss_one (ps_expr (pe_bm PySem.F.plainAttrs_list PySem.F.slot_list_append PySem.F.type_list_append mt_append (pv 2) (pa_cons
        (pe_call GS hr rfl gS kS bS .nil (passes_call (takes_of rfl rfl rfl rfl) (fun _ _ _ _ h => h)) (pa_cons (pv 0) pa_nil)) pa_nil)))))
    (pss_one (ps_ret (pe_callTy call_tuple_of (by rfl) gTuple (by decide +kernel) (pa_cons (pv 2) pa_nil)))))), ?_⟩)
  · obtain ⟨a, l, ns, p, rfl, _⟩ := h
    rfl
  · obtain ⟨a, l, ns, p, rfl, R, kY, kN⟩ := h
    obtain ⟨dx, e⟩ := id R.at_
    refine ⟨_, rfl, a, dx, _, rfl, e, rF_between l p, a, l, ns, p, _, _, rfl, R, fun v hv hlo hhi H1 R1 c1 => ?_, fun hno H1 c1 r1 => ?_⟩
    · obtain ⟨n, rfl⟩ : ∃ n : Nat, v = (n : Int) := ⟨v.toNat, by omega⟩
      have hd : ns.drop p = (n : Int) :: ns.drop (p + 1) := by
        obtain ⟨hl, he⟩ := List.getElem?_eq_some_iff.mp hv
        rw [List.drop_eq_getElem_cons hl, he]
      have hrp : VametBase.readProgram (ns.drop p) = VametBase.readTimes VametBase.readStep n (ns.drop (p + 1)) := by
        rw [hd, Vm.readProgram_cons ⟨hlo, hhi⟩]
        rfl
      refine ⟨Nat.zero_le _, fun r hr1 => ?_⟩
      have hrn : H r = none := c1.free R1.some hr1
      have hra : a ≠ r := ne_of_none e hrn
      refine ⟨_, rfl, (n : Int), rfl, by omega, by omega, for_range (lo := 0) (n := (n : Int).toNat) (fun i σ H' => ∃ (y : Option V) (us : List Addr) (done : List VametBase.Step) (q : Nat), σ = [some (.ref a), some (.int (n : Int)), some (.ref r), y] ∧ Rdr K CR H' a l ns q ∧ Chg [a] H H' ∧
        i ≤ n ∧ us.length = i ∧ StepsAt H' us done ∧ H' r = some (.lst (us.map V.ref)) ∧
        VametBase.readProgram (ns.drop p) = (VametBase.readTimes VametBase.readStep (n - i) (ns.drop q)).map fun v => (done ++ v.1, v.2))
        ⟨none, [], [], p + 1, rfl, R1.same (Same.new hr1), c1.at_new hrn, Nat.zero_le _, rfl, trivial, upd_same, ?_⟩ ?_ ?_⟩
      · rw [hrp]
        simp
      · rintro i σ H2 hi ⟨y, us, done, q, rfl, R2, c2, hin, hus, S2, r2, er⟩
        have hi' : i < n := by simpa using hi
        obtain ⟨m, hm⟩ : ∃ m, n - i = m + 1 := ⟨n - i - 1, by omega⟩
        refine ⟨_, rfl, .inl ⟨rfl, _, SqL.of r2⟩, _, rfl, a, l, ns, q, rfl, R2, fun s' rs hs H3 t q3 ht c3 R3 hq3 h3 => ?_, fun hno H3 c3 r3 => ?_⟩
        · have r3 : H3 r = some (.lst (us.map V.ref)) := c3 r _ (by simpa using hra.symm) r2
          refine ⟨r, _, _, rfl, rfl, r3, ?_, ?_⟩
          · rw [List.length_map, hus]
            exact small1000' (by omega)
          · have kt : ∀ u xs, H3 u = some (.tup xs) → (upd H3 r (.lst (us.map V.ref ++ [V.ref t]))) u = some (.tup xs) := fun u xs hu => by
              rw [upd_ne (fun z => by rw [z, r3] at hu; cases hu)]
              exact hu
            refine ⟨some (.int (0 + (i : Int))), us ++ [t], done ++ [s'], q3, rfl, ⟨?_, ?_, R3.le⟩, (c2.trans c3).at_new hrn, by omega, by simp [hus], ?_, by rw [upd_same, List.map_append]; rfl, ?_⟩
            · obtain ⟨d3, e3⟩ := R3.at_
              exact ⟨d3, by rw [upd_ne hra]; exact e3⟩
            · exact ((c2.trans c3).at_new hrn).sqI R.ins R.sq
            · refine StepsAt.snoc (kt _ _ h3) ?_
              exact (S2.map fun u xs hu => kt u xs (c3.tupI R2.ins hu))
            · rw [er, hm, Vm.readTimes_some hs done, hq3]
              have : n - (i + 1) = m := by omega
              rw [this]
        · refine kN ?_ H3 (c2.trans c3) r3
          rw [er, hm, Vm.readTimes_none hno]
          rfl
      · rintro σ H2 ⟨y, us, done, q, rfl, R2, c2, hin, hus, S2, r2, er⟩
        have en : (n : Int).toNat = n := by simp
        rw [en] at hus er
        refine ⟨_, rfl, r, _, rfl, .inl ⟨SqL.of r2, fun t ht => ?_⟩⟩
        have hrd : VametBase.readProgram (ns.drop p) = some (done, ns.drop q) := by
          rw [er, Nat.sub_self]
          show (some ([], ns.drop q)).map (fun v => (done ++ v.1, v.2)) = _
          simp
        exact kY done (ns.drop q) hrd _ t q (c2.free R2.some ht) (c2.trans (Chg.new ht)) (R2.same (Same.new ht)) rfl ⟨us, upd_same, S2.map fun u xs hu => Same.new ht u _ hu, Vm.readProgram_ok hrd⟩
    · refine kN (Vm.readProgram_out fun z hz => ?_) H1 c1 r1
      rw [List.getElem?_drop] at hz
      exact hno z hz
theorem scWP : FnScope ["numbers", "reader", "program"] ["numbers"] (defScope sWholeProgram) := ⟨rfl, rfl, rfl, by decide +kernel, rfl, by decide +kernel, by decide +kernel⟩
theorem ok_wholeProgram {f fS : Addr} {fd fdS : FuncData} (F : Fun K "whole_program" "whole_program" sWholeProgram f fd) (M : MkR K P w mg base CR CN)
    (GS : FnOk P w K mg base (L2.CX P w) 6 fS fdS ["reader"] (spProg K CR CN)) (bS : Binds K fdS ["reader"] []) (gS : mg "taken_program" = some (.ref fS)) (kS : PySem.W.keepIn K (.ref fS) = true) :
    FnOk P w K mg base (L2.CX P w) 7 f fd ["numbers"] (spWholeProg K CN) := by
  have T := M.T
  obtain ⟨fI, fdI, mkI, GI, bI⟩ := M.init
  obtain ⟨fE, fdE, GE, bE, mE⟩ := M.mustEnd
  refine F.okX scWP (fun vs H Q E h => ?_) (fun cdv A outer s H vs Q E hr h => ⟨_, pss_cons (ps_set (i := 1) scWP.nd rfl (Or.inl rfl) (pe_make mkI GI (hr.mono (by decide)) rfl T.gR bI .nil pass0 (pa_cons (pv 0) pa_nil)))
    (pss_cons (ps_set (i := 2) scWP.nd rfl (Or.inl rfl) (pe_call GS hr rfl gS kS bS .nil (passes_call (takes_of rfl rfl rfl rfl) (fun _ _ _ _ h => h)) (pa_cons (pv 1) pa_nil)))
    (pss_cons (ps_expr (pe_meth0 (pv 1) T.cl mE GE (hr.mono (by decide)) bE .nil (passes_call (takes_of rfl rfl rfl rfl) (fun _ _ _ _ h => h))))
    (pss_one (ps_ret (pv 2))))), ?_⟩)
  · obtain ⟨l, ns, rfl, _⟩ := h
    rfl
  · obtain ⟨l, ns, rfl, hS, kY, kN⟩ := h
    refine ⟨_, rfl, fun x dx nx nd ne => ⟨x, dx, l, rfl, upd_same, fun H1 A1 c1 => ⟨rfl, ?_⟩⟩⟩
    have s1 : Same H H1 := same_made nx nd c1
    have R1 : Rdr K CR H1 x l ns 0 := ⟨A1, s1.seq hS, Nat.zero_le _⟩
    refine ⟨_, rfl, x, l, ns, 0, rfl, R1, fun pr r hpr H2 t q ht c2 R2 hq P2 => ?_, fun hno H2 c2 _ => ?_⟩
    · have s2 : Same H H2 := fun b o z => c2 b o (by simpa using (fun y : b = x => by rw [y, nx] at z; cases z)) (s1 b o z)
      obtain ⟨d2, e2⟩ := id R2.at_
      refine ⟨_, rfl, x, d2, _, rfl, e2, rF_mustEnd l _, x, l, ns, q, rfl, R2, fun hq2 => ?_, fun hq2 => ?_⟩
      · refine ⟨_, rfl, kY pr (Vm.whole_eq.mpr ?_) H2 t (s1.free ht) s2 P2⟩
        rw [List.drop_zero] at hpr
        rw [hpr, ← hq, hq2, List.drop_length]
      · refine kN (Vm.whole_none fun u hu => ?_) H2 s2
        rw [List.drop_zero] at hpr
        rw [hpr] at hu
        cases hu
        have := congrArg List.length hq
        rw [List.length_drop] at this
        simp at this
        omega
    · refine kN (Vm.whole_none fun u hu => ?_) H2 (fun b o z => c2 b o (by simpa using (fun y : b = x => by rw [y, nx] at z; cases z)) (s1 b o z))
      rw [List.drop_zero] at hno
      rw [hno] at hu
      cases hu
end
end Tg
set_option Elab.async false
set_option linter.all false
set_option maxRecDepth 100000
set_option maxHeartbeats 4000000
namespace Tg
open PySem PySem.Spec PyProof.Rows L2
abbrev sTurnCount : Stmt := top 25
abbrev sIsTurn : Stmt := top 26
abbrev sIdle : Stmt := top 27
abbrev sTurned : Stmt := top 28
abbrev sUndone : Stmt := top 29
abbrev sSources : Stmt := top 30
abbrev sSigns : Stmt := top 31
abbrev sNumberOf : Stmt := top 32
abbrev sRanked : Stmt := top 33
abbrev sTurnOf : Stmt := top 34
abbrev sReached : Stmt := top 35
theorem vget {ns : List Int} {i : Nat} {y : V} (h : (ns.map V.int)[i]? = some y) : ∃ z, ns[i]? = some z ∧ y = V.int z := by
  rw [List.getElem?_map] at h
  cases e : ns[i]? with
  | none =>
    rw [e] at h
    cases h
  | some z =>
    rw [e] at h
    exact ⟨z, rfl, (Option.some.inj h).symm⟩
theorem atI_int {xs : List Int} {i v : Int} (h0 : 0 ≤ i) (h : xs[i.toNat]? = some v) : atI (xs.map V.int) i = some (.int v) := by
  obtain ⟨k, rfl⟩ : ∃ k : Nat, i = (k : Int) := ⟨i.toNat, by omega⟩
  exact atI_nat (by rw [List.getElem?_map]; rw [Int.toNat_natCast] at h; rw [h]; rfl)
/-- within a comprehension's block: the written part by its own name -/
theorem ixT {X : Cx} (K : PySem.W.Frag) (h : X.K = K := by rfl) : IxR X (rIxT K) := h ▸ ix_tup
theorem ixL {X : Cx} (K : PySem.W.Frag) (h : X.K = K := by rfl) : IxR X (rIxL K) := h ▸ ix_list
/-- a new tuple of whole numbers, all else as it was -/
def NewT (H : Hp) (Q : VK) (x : List Int) : Prop := ∀ H' t, H t = none → Same H H' → H' t = some (.tup (x.map V.int)) → Q (.ref t) H'
def NewL (H : Hp) (Q : VK) (x : List Int) : Prop := ∀ H' t, H t = none → Same H H' → H' t = some (.lst (x.map V.int)) → Q (.ref t) H'
def spTurned (K : PySem.W.Frag) : Sp := fun vs H Q _ => ∃ (t r : Addr) (c x : List Int), vs = [.ref t, .ref r] ∧ SqT K H t (c.map V.int) ∧ SqT K H r (x.map V.int) ∧ (∀ e ∈ c, Vm.okAt x.length e) ∧ c.length ≤ 100 ∧ NewT H Q (Vm.turnedL c x)
section
variable {P : Program} {w : World} {K : PySem.W.Frag} {mg : Str → Option Value} {base : Heap}
theorem scTd : FnScope ["turn", "row", "come"] ["turn", "row"] (defScope sTurned) := ⟨rfl, rfl, rfl, by decide +kernel, rfl, by decide +kernel, by decide +kernel⟩
theorem ok_turned {f : Addr} {fd : FuncData} (F : Fun K "turned" "turned" sTurned f fd) (gTuple : mg "tuple" = none) : FnOk P w K mg base CX0 1 f fd ["turn", "row"] (spTurned K) := by
  refine F.ok scTd (fun vs H Q E h => ?_) (fun cdv A outer s H vs Q E hr h => ⟨_, pss_one (ps_ret (pe_callTy call_tuple_of (by rfl) gTuple (by decide +kernel) (pa_cons
      (pe_lc (own := [("come", 2)]) (g := gName 2) (tt := tYes) rfl scTd.nd (pi_tup (pv 0)) (blkOk_by (N := ["turn", "row", "come"]) (sc := defScope sTurned) (by decide +kernel)) (fun _ _ _ _ _ => pg_name (i := 2) scTd.nd rfl (Or.inl rfl)) (fun _ _ _ _ _ => pts_nil)
        (fun _ _ _ _ _ => pe_ifExp (pt_cmpR op_gt (pv 2) pe_int (nomark _)) (pe_ix (ixT K) (pv 1) (pe_op op_sub (pv 2) pe_int) (fun _ _ => rfl)) (pe_un un_neg (pe_ix (ixT K) (pv 1) (pe_op op_sub (pe_un un_neg (pv 2)) pe_int) (fun _ _ => rfl))))) pa_nil))), ?_⟩)
  · obtain ⟨t, r, c, x, rfl, _⟩ := h
    rfl
  · obtain ⟨t, r, c, x, rfl, ht, hx, hc, hlen, k⟩ := h
    refine ⟨_, rfl, t, rfl, ⟨_, ht⟩, fun D hD => lc_tup (K := K) (a := t) (xs := c.map V.int) (fun i H' => Same H H' ∧ H' D = some (.lst ((Vm.turnedL (c.take i) x).map V.int)))
      ⟨Same.new hD, upd_same⟩ (fun i H' _ h => Same.tupS h.1 ht) ?_ ?_⟩
    · rintro i y H2 hy ⟨s2, d2⟩
      obtain ⟨e, he, rfl⟩ := vget hy
      have ok := hc e (List.mem_of_getElem? he)
      have fin : ∀ v : Int, v = Vm.pickL x e → ∃ acc, H2 D = some (.lst acc) ∧ acc.length < sizeLine ∧ Same H (upd H2 D (.lst (acc ++ [.int v]))) ∧ (upd H2 D (.lst (acc ++ [.int v]))) D = some (.lst ((Vm.turnedL (c.take (i + 1)) x).map V.int)) := fun v hv => by
        refine ⟨_, d2, ?_, Same.at_new s2 hD, ?_⟩
        · rw [List.length_map, Vm.turnedL, List.length_map, List.length_take]
          exact small1000' (by omega)
        · rw [upd_same, take_more he]
          unfold Vm.turnedL
          rw [List.map_append, List.map_append, hv]
          rfl
      refine ⟨rfl, _, rfl, _, _, rfl, rfl, _, rfl, ?_⟩
      rcases ok with ⟨h1, h2⟩ | ⟨h1, h2⟩
      · refine if_t (decide_eq_true h1) ?_
        have hn : (e - 1 : Int) = (((e - 1).toNat : Nat) : Int) := by omega
        have hl : (e - 1).toNat < x.length := by omega
        refine ⟨_, rfl, _, rfl, _, _, rfl, rfl, r, _, _, .int (x[(e - 1).toNat]), rfl, rfl, Same.tupS s2 hx, ?_, fin _ ?_⟩
        · exact atI_int (by omega) (List.getElem?_eq_getElem hl)
        · unfold Vm.pickL
          rw [if_pos h1, List.getElem?_eq_getElem hl]
          rfl
      · refine if_f (decide_eq_false (by omega)) ?_
        have hn : (-e - 1 : Int) = (((-e - 1).toNat : Nat) : Int) := by omega
        have hl : (-e - 1).toNat < x.length := by omega
        refine ⟨_, rfl, _, rfl, _, rfl, _, _, rfl, rfl, r, _, _, .int (x[(-e - 1).toNat]), rfl, rfl, Same.tupS s2 hx, ?_, _, rfl, fin _ ?_⟩
        · exact atI_int (by omega) (List.getElem?_eq_getElem hl)
        · unfold Vm.pickL
          rw [if_neg (by omega), List.getElem?_eq_getElem hl]
          rfl
    · rintro H2 ⟨s2, d2⟩
      rw [List.length_map, List.take_length] at d2
      exact ⟨D, _, rfl, .inl ⟨SqL.of d2, fun u hu => k _ u (s2.free hu) (s2.trans (Same.new hu)) upd_same⟩⟩
end
end Tg
set_option Elab.async false
set_option linter.all false
set_option maxRecDepth 100000
set_option maxHeartbeats 4000000
namespace Vm
open Vamete
def tc : Nat → Nat
  | 0 => 1
  | i + 1 => tc i * 2 * (i + 1)
theorem tc_eq {n : Nat} (h : n ≤ 4) : tc n = (allTurns n).length := by
  have : n = 0 ∨ n = 1 ∨ n = 2 ∨ n = 3 ∨ n = 4 := by omega
  rcases this with rfl | rfl | rfl | rfl | rfl
  all_goals decide +kernel
theorem tc_le {n : Nat} (h : n ≤ 4) : tc n ≤ 384 := by
  have : n = 0 ∨ n = 1 ∨ n = 2 ∨ n = 3 ∨ n = 4 := by omega
  rcases this with rfl | rfl | rfl | rfl | rfl
  all_goals decide +kernel
end Vm
namespace Tg
open PySem PySem.Spec PyProof.Rows L2
def spTurnCount : Sp := fun vs H Q _ => ∃ n : Nat, vs = [.int (n : Int)] ∧ n ≤ 4 ∧ Q (.int (((Vamete.allTurns n).length : Nat) : Int)) H
def spIsTurn : Sp := fun vs H Q _ => ∃ (n : Nat) (k : Int), vs = [.int (n : Int), .int k] ∧ n ≤ 4 ∧ Q (.bl (decide (0 ≤ k ∧ k < (((Vamete.allTurns n).length : Nat) : Int)))) H
def spIdle : Sp := fun vs H Q _ => ∃ n : Nat, vs = [.int (n : Int)] ∧ n ≤ 4 ∧ NewT H Q (Vm.held (Vamete.same n))
def spSources (K : PySem.W.Frag) : Sp := fun vs H Q _ => ∃ (t : Addr) (c : List Int), vs = [.ref t] ∧ SqT K H t (c.map V.int) ∧ c.length ≤ 100 ∧ NewL H Q (Vm.sourcesL c)
def spSigns (K : PySem.W.Frag) : Sp := fun vs H Q _ => ∃ (t : Addr) (c : List Int), vs = [.ref t] ∧ SqT K H t (c.map V.int) ∧ c.length ≤ 100 ∧ NewL H Q (Vm.signsL c)
section
variable {P : Program} {w : World} {K : PySem.W.Frag} {mg : Str → Option Value} {base : Heap}
theorem scTc : FnScope ["places", "count", "place"] ["places"] (defScope sTurnCount) := ⟨rfl, rfl, rfl, by decide +kernel, rfl, by decide +kernel, by decide +kernel⟩
theorem ok_turnCount {f : Addr} {fd : FuncData} (F : Fun K "turn_count" "turn_count" sTurnCount f fd) (gRange : mg "range" = none) : FnOk P w K mg base CX0 1 f fd ["places"] spTurnCount := by
  refine F.ok scTc (fun vs H Q E h => ?_) (fun cdv A outer s H vs Q E hr h => ⟨_, pss_cons (ps_set (i := 1) scTc.nd rfl (Or.inl rfl) pe_int)
    (pss_cons (ps_for PassesOwn.never rfl (pi_range1 rfl gRange (pa_cons (pv 0) pa_nil)) (pg_name (i := 2) scTc.nd rfl (Or.inl rfl))
      (pss_one (ps_set (i := 1) scTc.nd rfl (Or.inl rfl) (pe_op op_mul (pe_op op_mul (pv 1) pe_int) (pe_op op_add (pv 2) pe_int)))))
    (pss_one (ps_ret (pv 1)))), ?_⟩)
  · obtain ⟨n, rfl, _⟩ := h
    rfl
  · obtain ⟨n, rfl, hn, k⟩ := h
    refine ⟨_, rfl, (n : Int), rfl, by omega, by omega, for_range (lo := 0) (n := (n : Int).toNat) (fun i σ H' => ∃ y : Option V, σ = [some (.int (n : Int)), some (.int ((Vm.tc i : Nat) : Int)), y] ∧ H' = H) ⟨none, rfl, rfl⟩ ?_ ?_⟩
    · rintro i σ H2 hi ⟨y, rfl, rfl⟩
      have hi' : i ≤ 4 := by
        have : i < n := by simpa using hi
        omega
      have hb := Vm.tc_le hi'
      refine ⟨_, rfl, _, _, rfl, rfl, .inl ⟨by omega, by omega⟩, _, rfl, _, _, rfl, rfl, _, _, rfl, rfl, .inl ⟨by omega, by omega⟩, ?_⟩
      refine ⟨some (.int (0 + (i : Int))), ?_, rfl⟩
      have e : ((Vm.tc i : Nat) : Int) * 2 * (0 + (i : Int) + 1) = ((Vm.tc (i + 1) : Nat) : Int) := by
        rw [Int.zero_add]
        show _ = ((Vm.tc i * 2 * (i + 1) : Nat) : Int)
        rw [Int.natCast_mul, Int.natCast_mul]
        rfl
      rw [← e]
      rfl
    · rintro σ H2 ⟨y, rfl, rfl⟩
      have en : (n : Int).toNat = n := by simp
      rw [en, Vm.tc_eq hn]
      exact ⟨_, rfl, k⟩
theorem scIt : FnScope ["places", "number"] ["places", "number"] (defScope sIsTurn) := ⟨rfl, rfl, rfl, by decide +kernel, rfl, by decide +kernel, by decide +kernel⟩
theorem ok_isTurn {f fC : Addr} {fd fdC : FuncData} (F : Fun K "is_turn" "is_turn" sIsTurn f fd) (GC : FnOk P w K mg base CX0 1 fC fdC ["places"] spTurnCount) (bC : Binds K fdC ["places"] []) (gC : mg "turn_count" = some (.ref fC)) (kC : PySem.W.keepIn K (.ref fC) = true) :
    FnOk P w K mg base CX0 2 f fd ["places", "number"] spIsTurn := by
  refine F.ok scIt (fun vs H Q E h => ?_) (fun cdv A outer s H vs Q E hr h => ⟨_, pss_one (ps_ret (pe_chain op_le op_lt pe_int (pv 1) (pe_call GC hr rfl gC kC bC .nil pass0 (pa_cons (pv 0) pa_nil)))), ?_⟩)
  · obtain ⟨n, k, rfl, _⟩ := h
    rfl
  · obtain ⟨n, k, rfl, hn, q⟩ := h
    refine ⟨_, rfl, _, _, rfl, rfl, _, rfl, ?_⟩
    by_cases c : 0 ≤ k
    · refine if_t (decide_eq_true c) ?_
      refine ⟨_, rfl, n, rfl, hn, _, _, rfl, rfl, ?_⟩
      have e : decide (0 ≤ k ∧ k < (((Vamete.allTurns n).length : Nat) : Int)) = decide (k < (((Vamete.allTurns n).length : Nat) : Int)) := decide_eq_decide.mpr ⟨fun h => h.2, fun h => ⟨c, h⟩⟩
      rw [e] at q
      exact q
    · refine if_f (decide_eq_false c) ?_
      have e : decide (0 ≤ k ∧ k < (((Vamete.allTurns n).length : Nat) : Int)) = false := decide_eq_false fun h => c h.1
      rw [e] at q
      exact q
theorem scId : FnScope ["places"] ["places"] (defScope sIdle) := ⟨rfl, rfl, rfl, by decide +kernel, rfl, by decide +kernel, by decide +kernel⟩
theorem ok_idle {f : Addr} {fd : FuncData} (F : Fun K "idle_turn" "idle_turn" sIdle f fd) (gRange : mg "range" = none) (gTuple : mg "tuple" = none) : FnOk P w K mg base CX0 1 f fd ["places"] spIdle := by
  refine F.ok scId (fun vs H Q E h => ?_) (fun cdv A outer s H vs Q E hr h => ⟨_, pss_one (ps_ret (pe_tupRg rfl rfl gTuple (prg_2 rfl gRange pe_int (pe_op op_add (pv 0) pe_int)))), ?_⟩)
  · obtain ⟨n, rfl, _⟩ := h
    rfl
  · obtain ⟨n, rfl, hn, k⟩ := h
    refine ⟨_, rfl, _, _, rfl, rfl, _, _, rfl, rfl, RgOk.of_le (by omega) (by omega) (by omega) (by omega), fun q hq => k _ q hq (Same.new hq) ?_⟩
    rw [upd_same, Vm.held_same]
    unfold rgV
    have e : (((n : Int) + 1 - 1).toNat) = n := by omega
    rw [e, List.map_map]
    refine congrArg (fun z => some (HO.tup z)) (List.map_congr_left fun i _ => ?_)
    simp only [Function.comp]
    rw [Int.add_comm]
theorem scSo : FnScope ["turn", "come"] ["turn"] (defScope sSources) := ⟨rfl, rfl, rfl, by decide +kernel, rfl, by decide +kernel, by decide +kernel⟩
theorem ok_sources {f : Addr} {fd : FuncData} (F : Fun K "sources_of" "sources_of" sSources f fd) (gAbs : mg "abs" = none) : FnOk P w K mg base CX0 1 f fd ["turn"] (spSources K) := by
  refine F.ok scSo (fun vs H Q E h => ?_) (fun cdv A outer s H vs Q E hr h => ⟨_, pss_one (ps_ret
      (pe_lc (own := [("come", 1)]) (g := gName 1) (tt := tYes) rfl scSo.nd (pi_tup (pv 0)) (blkOk_by (N := ["turn", "come"]) (sc := defScope sSources) (by decide +kernel)) (fun _ _ _ _ _ => pg_name (i := 1) scSo.nd rfl (Or.inl rfl)) (fun _ _ _ _ _ => pts_nil)
        (fun _ _ _ _ _ => pe_op op_sub (pe_callB call_abs (by rfl) gAbs (by decide +kernel) (pa_cons (pv 1) pa_nil)) pe_int))), ?_⟩)
  · obtain ⟨t, c, rfl, _⟩ := h
    rfl
  · obtain ⟨t, c, rfl, ht, hlen, k⟩ := h
    refine ⟨_, rfl, t, rfl, ⟨_, ht⟩, fun D hD => lc_tup (K := K) (a := t) (xs := c.map V.int) (fun i H' => Same H H' ∧ H' D = some (.lst ((Vm.sourcesL (c.take i)).map V.int)))
      ⟨Same.new hD, upd_same⟩ (fun i H' _ h => Same.tupS h.1 ht) ?_ ?_⟩
    · rintro i y H2 hy ⟨s2, d2⟩
      obtain ⟨e, he, rfl⟩ := vget hy
      refine ⟨rfl, _, rfl, _, rfl, _, _, rfl, rfl, _, d2, ?_, Same.at_new s2 hD, ?_⟩
      · rw [List.length_map, Vm.sourcesL, List.length_map, List.length_take]
        exact small1000' (by omega)
      · rw [upd_same, take_more he]
        unfold Vm.sourcesL
        rw [List.map_append, List.map_append]
        rfl
    · rintro H2 ⟨s2, d2⟩
      rw [List.length_map, List.take_length] at d2
      exact k _ D hD s2 d2
theorem scSg : FnScope ["turn", "come"] ["turn"] (defScope sSigns) := ⟨rfl, rfl, rfl, by decide +kernel, rfl, by decide +kernel, by decide +kernel⟩
theorem ok_signs {f : Addr} {fd : FuncData} (F : Fun K "signs_of" "signs_of" sSigns f fd) : FnOk P w K mg base CX0 1 f fd ["turn"] (spSigns K) := by
  refine F.ok scSg (fun vs H Q E h => ?_) (fun cdv A outer s H vs Q E hr h => ⟨_, pss_one (ps_ret
      (pe_lc (own := [("come", 1)]) (g := gName 1) (tt := tYes) rfl scSg.nd (pi_tup (pv 0)) (blkOk_by (N := ["turn", "come"]) (sc := defScope sSigns) (by decide +kernel)) (fun _ _ _ _ _ => pg_name (i := 1) scSg.nd rfl (Or.inl rfl)) (fun _ _ _ _ _ => pts_nil)
        (fun _ _ _ _ _ => pe_ifExp (pt_cmpR op_lt (pv 1) pe_int (nomark _)) pe_int pe_int))), ?_⟩)
  · obtain ⟨t, c, rfl, _⟩ := h
    rfl
  · obtain ⟨t, c, rfl, ht, hlen, k⟩ := h
    refine ⟨_, rfl, t, rfl, ⟨_, ht⟩, fun D hD => lc_tup (K := K) (a := t) (xs := c.map V.int) (fun i H' => Same H H' ∧ H' D = some (.lst ((Vm.signsL (c.take i)).map V.int)))
      ⟨Same.new hD, upd_same⟩ (fun i H' _ h => Same.tupS h.1 ht) ?_ ?_⟩
    · rintro i y H2 hy ⟨s2, d2⟩
      obtain ⟨e, he, rfl⟩ := vget hy
      have fin : ∀ v : Int, v = (if e < 0 then 1 else 0) → ∃ acc, H2 D = some (.lst acc) ∧ acc.length < sizeLine ∧ Same H (upd H2 D (.lst (acc ++ [.int v]))) ∧ (upd H2 D (.lst (acc ++ [.int v]))) D = some (.lst ((Vm.signsL (c.take (i + 1))).map V.int)) := fun v hv => by
        refine ⟨_, d2, ?_, Same.at_new s2 hD, ?_⟩
        · rw [List.length_map, Vm.signsL, List.length_map, List.length_take]
          exact small1000' (by omega)
        · rw [upd_same, take_more he]
          unfold Vm.signsL
          rw [List.map_append, List.map_append, hv]
          rfl
      refine ⟨rfl, _, rfl, _, _, rfl, rfl, _, rfl, ?_⟩
      by_cases c0 : e < 0
      · exact if_t (decide_eq_true c0) (fin 1 (by rw [if_pos c0]))
      · exact if_f (decide_eq_false c0) (fin 0 (by rw [if_neg c0]))
    · rintro H2 ⟨s2, d2⟩
      rw [List.length_map, List.take_length] at d2
      exact k _ D hD s2 d2
end
end Tg
set_option Elab.async false
set_option linter.all false
set_option maxRecDepth 100000
set_option maxHeartbeats 4000000
namespace Vm
theorem idx_spec (k : Int) : ∀ ns : List Int, k ∈ ns → ns[ns.idxOf k]? = some k ∧ ∀ m, m < ns.idxOf k → ns[m]? ≠ some k
  | [], h => by simp at h
  | x :: ns, h => by
    by_cases e : x = k
    · subst e
      rw [List.idxOf_cons_self]
      exact ⟨rfl, fun m hm => absurd hm (Nat.not_lt_zero _)⟩
    · have hk : k ∈ ns := by
        rcases List.mem_cons.mp h with h | h
        · exact absurd h.symm e
        · exact h
      obtain ⟨h1, h2⟩ := idx_spec k ns hk
      have ei : (x :: ns).idxOf k = ns.idxOf k + 1 := by
        have eb : (x == k) = false := by simpa using e
        rw [List.idxOf_cons, eb]
        rfl
      rw [ei]
      refine ⟨h1, fun m hm => ?_⟩
      match m with
      | 0 => simpa using e
      | m + 1 => exact h2 m (by omega)
theorem mem_eraseIdx_ne {k y : Int} : ∀ {ns : List Int} {j : Nat}, ns[j]? = some k → y ≠ k → y ∈ ns → y ∈ ns.eraseIdx j
  | x :: ns, 0, h, hy, hm => by
    have e : x = k := by simpa using h
    rcases List.mem_cons.mp hm with h' | h'
    · exact absurd (h'.trans e) hy
    · exact h'
  | x :: ns, j + 1, h, hy, hm => by
    rw [List.eraseIdx_cons_succ]
    rcases List.mem_cons.mp hm with h' | h'
    · rw [h']
      exact List.mem_cons_self
    · exact List.mem_cons_of_mem _ (mem_eraseIdx_ne (by simpa using h) hy h')
theorem foldl_take {α β : Type} (f : β → α → β) (b : β) {l : List α} {i : Nat} {x : α} (h : l[i]? = some x) : (l.take (i + 1)).foldl f b = f ((l.take i).foldl f b) x := by
  rw [Tg.take_more h, List.foldl_append]
  rfl
end Vm
namespace Tg
open PySem PySem.Spec PyProof.Rows L2
/-- a number, the heap as it was but for what is new -/
def NewI (H : Hp) (Q : VK) (v : Int) : Prop := ∀ H', Same H H' → Q (.int v) H'
/-- held in the heap -/
def spNumberOf (K : PySem.W.Frag) : Sp := fun vs H Q _ => ∃ (t : Addr) (c : List Int), vs = [.ref t] ∧ SqT K H t (c.map V.int) ∧ c.length ≤ 100 ∧ (Vm.sourcesL c).Nodup ∧ (∀ x ∈ Vm.sourcesL c, x ∈ (List.range c.length).map VametBase.int) ∧ NewI H Q (Vm.numberL c)
section
variable {P : Program} {w : World} {K : PySem.W.Frag} {mg : Str → Option Value} {base : Heap}
theorem scNo : FnScope ["turn", "left", "number", "source", "sign"] ["turn"] (defScope sNumberOf) := ⟨rfl, rfl, rfl, by decide +kernel, rfl, by decide +kernel, by decide +kernel⟩
theorem ok_numberOf {f fS fG : Addr} {fd fdS fdG : FuncData} (F : Fun K "number_of" "number_of" sNumberOf f fd) (gList : mg "list" = none) (gRange : mg "range" = none) (gLen : mg "len" = none)
    (GS : FnOk P w K mg base CX0 1 fS fdS ["turn"] (spSources K)) (bS : Binds K fdS ["turn"] []) (gS : mg "sources_of" = some (.ref fS)) (kS : PySem.W.keepIn K (.ref fS) = true)
    (GG : FnOk P w K mg base CX0 1 fG fdG ["turn"] (spSigns K)) (bG : Binds K fdG ["turn"] []) (gG : mg "signs_of" = some (.ref fG)) (kG : PySem.W.keepIn K (.ref fG) = true) :
    FnOk P w K mg base CX0 2 f fd ["turn"] (spNumberOf K) := by
  refine F.ok scNo (fun vs H Q E h => ?_) (fun cdv A outer s H vs Q E hr h => ⟨_, pss_cons (ps_set (i := 1) scNo.nd rfl (Or.inl rfl) (pe_listRg rfl rfl gList (prg_1 rfl gRange (pe_callB call_len_seq (by rfl) gLen PySem.boot_len (pa_cons (pv 0) pa_nil)))))
    (pss_cons (ps_set (i := 2) scNo.nd rfl (Or.inl rfl) pe_int)
    (pss_cons (ps_for PassesOwn.never rfl (pi_list (pe_call GS hr rfl gS kS bS .nil pass0 (pa_cons (pv 0) pa_nil))) (pg_name (i := 3) scNo.nd rfl (Or.inl rfl))
      (pss_cons (ps_set (i := 2) scNo.nd rfl (Or.inl rfl) (pe_op op_add (pe_op op_mul (pv 2) (pe_callB call_len_seq (by rfl) gLen PySem.boot_len (pa_cons (pv 1) pa_nil)))
          (pe_bm PySem.F.plainAttrs_list PySem.F.slot_list_index PySem.F.type_list_index mt_index (pv 1) (pa_cons (pv 3) pa_nil))))
        (pss_one (ps_expr (pe_bm PySem.F.plainAttrs_list PySem.F.slot_list_remove PySem.F.type_list_remove mt_remove (pv 1) (pa_cons (pv 3) pa_nil))))))
    (pss_cons (ps_for PassesOwn.never rfl (pi_list (pe_call GG hr rfl gG kG bG .nil pass0 (pa_cons (pv 0) pa_nil))) (pg_name (i := 4) scNo.nd rfl (Or.inl rfl))
      (pss_one (ps_set (i := 2) scNo.nd rfl (Or.inl rfl) (pe_op op_add (pe_op op_mul (pv 2) pe_int) (pv 4)))))
    (pss_one (ps_ret (pv 2)))))), ?_⟩)
  · obtain ⟨t, c, rfl, _⟩ := h
    rfl
  · obtain ⟨t, c, rfl, ht, hlen, hnd, hin, k⟩ := h
    refine ⟨_, rfl, t, _, rfl, .inr ht, _, rfl, RgOk.of_le (by omega) (by rw [List.length_map]; omega) (by omega) (by omega), fun L hL => ?_⟩
    have eR : rgV 0 (((c.map V.int).length : Nat) : Int) = ((List.range c.length).map VametBase.int).map V.int := by
      unfold rgV
      rw [List.map_map, List.length_map]
      have : ((c.length : Int) - 0).toNat = c.length := by omega
      rw [this]
      refine List.map_congr_left fun i _ => ?_
      simp only [Function.comp, VametBase.int]
      rw [Int.zero_add]
    rw [eR]
    have s1 : Same H (upd H L (.lst (((List.range c.length).map VametBase.int).map V.int))) := Same.new hL
    refine ⟨_, rfl, t, c, rfl, Same.tupS s1 ht, hlen, fun H2 a ha s2 h2 => ⟨a, rfl, ⟨_, SqL.of h2⟩, ?_⟩⟩
    have haL : a ≠ L := fun z => by rw [z, upd_same] at ha; cases ha
    have haN : H a = none := s1.free ha
    refine for_list (K := K) (a := a) (xs := (Vm.sourcesL c).map V.int) (fun i σ H' => ∃ (y : Option V) (st : Int × List Int), σ = [some (.ref t), some (.ref L), some (.int st.1), y, none] ∧ Same H H' ∧ H' a = some (.lst ((Vm.sourcesL c).map V.int)) ∧
      st = ((Vm.sourcesL c).take i).foldl Vm.numStep (0, (List.range c.length).map VametBase.int) ∧ H' L = some (.lst (st.2.map V.int)) ∧ (∀ x ∈ (Vm.sourcesL c).drop i, x ∈ st.2) ∧ st.2.length ≤ 100)
      ⟨none, (0, (List.range c.length).map VametBase.int), rfl, s1.trans s2, h2, rfl, s2 _ _ upd_same, hin, by simpa using hlen⟩ (fun i σ H' _ h => by obtain ⟨_, _, _, _, q, _⟩ := h; exact SqL.of q) ?_ ?_
    · rintro i y σ H3 hy ⟨x0, st, rfl, s3, a3, est, l3, hd3, hl3⟩
      obtain ⟨e, he, rfl⟩ := vget hy
      have hdr : (Vm.sourcesL c).drop i = e :: (Vm.sourcesL c).drop (i + 1) := by
        obtain ⟨hl, hh⟩ := List.getElem?_eq_some_iff.mp he
        rw [List.drop_eq_getElem_cons hl, hh]
      have hmem : e ∈ st.2 := hd3 e (by rw [hdr]; exact List.mem_cons_self)
      obtain ⟨i1, i2⟩ := Vm.idx_spec e st.2 hmem
      refine ⟨_, rfl, _, rfl, L, _, rfl, .inl (SqL.of l3), _, _, rfl, rfl, .inr ⟨by rw [List.length_map]; omega, by rw [List.length_map]; omega⟩, _, rfl, .inl ⟨rfl, _, SqL.of l3⟩, _, rfl,
        L, _, _, st.2.idxOf e, .int e, rfl, rfl, SqL.of l3, rfl, ?_, by rw [List.getElem?_map, i1]; rfl, by simp [eqV], fun m z' hm hz => ?_, _, _, rfl, rfl, ?_⟩
      · rw [List.all_map, List.all_eq_true]
        intro v _
        rfl
      · obtain ⟨v, hv, rfl⟩ := vget hz
        have : v ≠ e := fun q => i2 m hm (by rw [hv, q])
        simpa [eqV] using this
      · refine ⟨_, rfl, .inl ⟨rfl, _, SqL.of l3⟩, _, rfl, L, st.2, e, st.2.idxOf e, rfl, rfl, l3, i1, i2, ?_⟩
        refine ⟨some (.int e), Vm.numStep st e, ?_, Same.at_new s3 hL, ?_, ?_, upd_same, ?_, ?_⟩
        · rw [List.length_map]
          rfl
        · rw [upd_ne haL]
          exact a3
        · rw [Vm.foldl_take _ _ he, est]
        · intro x hx
          have hne : x ≠ e := fun q => by
            have : ((Vm.sourcesL c).drop i).Nodup := hnd.sublist (List.drop_sublist _ _)
            rw [hdr] at this
            exact (List.nodup_cons.mp this).1 (q ▸ hx)
          exact Vm.mem_eraseIdx_ne i1 hne (hd3 x (by rw [hdr]; exact List.mem_cons_of_mem _ hx))
        · show (st.2.eraseIdx _).length ≤ 100
          rw [List.length_eraseIdx]
          split <;> omega
    · rintro σ H3 ⟨x0, st, rfl, s3, a3, est, l3, hd3, hl3⟩
      rw [List.length_map, List.take_length] at est
      refine ⟨_, rfl, t, c, rfl, Same.tupS s3 ht, hlen, fun H4 b hb s4 h4 => ⟨b, rfl, ⟨_, SqL.of h4⟩, ?_⟩⟩
      refine for_list (K := K) (a := b) (xs := (Vm.signsL c).map V.int) (fun i σ H' => ∃ (y z : Option V), σ = [some (.ref t), some (.ref L), some (.int (((Vm.signsL c).take i).foldl (fun n g => n * 2 + g) st.1)), y, z] ∧ H' = H4)
        ⟨_, none, rfl, rfl⟩ (fun i σ H' _ h => by obtain ⟨_, _, _, rfl⟩ := h; exact SqL.of h4) ?_ ?_
      · rintro i y σ H5 hy ⟨x1, z, rfl, rfl⟩
        obtain ⟨e, he, rfl⟩ := vget hy
        refine ⟨_, rfl, _, _, rfl, rfl, .inr ⟨by decide, by decide⟩, _, rfl, _, _, rfl, rfl, x1, some (.int e), ?_, rfl⟩
        rw [Vm.foldl_take _ _ he]
        rfl
      · rintro σ H5 ⟨x1, z, rfl, rfl⟩
        refine ⟨_, rfl, ?_⟩
        have := k _ (s3.trans s4)
        unfold Vm.numberL at this
        rw [← est] at this
        rw [List.length_map, List.take_length]
        exact this
end
end Tg
set_option Elab.async false
set_option linter.all false
set_option maxRecDepth 100000
set_option maxHeartbeats 4000000
namespace Vm
theorem eraseIdx_map' {α β : Type} (f : α → β) : ∀ (l : List α) (i : Nat), (l.map f).eraseIdx i = (l.eraseIdx i).map f
  | [], _ => by simp
  | _ :: _, 0 => rfl
  | x :: l, i + 1 => by
    rw [List.map_cons, List.eraseIdx_cons_succ, List.eraseIdx_cons_succ, List.map_cons, eraseIdx_map' f l i]
end Vm
namespace Tg
open PySem PySem.Spec PyProof.Rows L2
theorem seqIx {k n : Nat} (h : k < n) : seqIndex? (k : Int) n = some k := by
  have e : (if (k : Int) < 0 then (k : Int) + (n : Int) else (k : Int)) = (k : Int) := if_neg (by omega)
  unfold seqIndex?
  rw [e]
  have hk : ((k : Int) < (n : Int)) := by omega
  simp [hk, h]
def spRanked : Sp := fun vs H Q _ => ∃ (n : Nat) (k : Int), vs = [.int (n : Int), .int k] ∧ n ≤ 4 ∧ NewL H Q (Vm.rankedL n k)
section
variable {P : Program} {w : World} {K : PySem.W.Frag} {mg : Str → Option Value} {base : Heap}
theorem scRk : FnScope ["places", "rank", "choices", "left_over", "left", "sources", "choice"] ["places", "rank"] (defScope sRanked) := ⟨rfl, rfl, rfl, by decide +kernel, rfl, by decide +kernel, by decide +kernel⟩
theorem ok_ranked {f : Addr} {fd : FuncData} (F : Fun K "sources_ranked" "sources_ranked" sRanked f fd) (gList : mg "list" = none) (gRange : mg "range" = none) : FnOk P w K mg base CX0 1 f fd ["places", "rank"] spRanked := by
  refine F.ok scRk (fun vs H Q E h => ?_) (fun cdv A outer s H vs Q E hr h => ⟨_, pss_cons (ps_set (i := 2) scRk.nd rfl (Or.inl rfl) (pe_lst pa_nil))
    (pss_cons (ps_for PassesOwn.never rfl (pi_range2 rfl gRange (pa_cons pe_int (pa_cons (pe_op op_add (pv 0) pe_int) pa_nil))) (pg_name (i := 3) scRk.nd rfl (Or.inl rfl))
      (pss_cons (ps_expr (pe_bm PySem.F.plainAttrs_list PySem.F.slot_list_insert PySem.F.type_list_insert mt_insert (pv 2) (pa_cons pe_int (pa_cons (pe_op op_mod (pv 1) (pv 3)) pa_nil))))
        (pss_one (ps_set (i := 1) scRk.nd rfl (Or.inl rfl) (pe_op op_fdiv (pv 1) (pv 3))))))
    (pss_cons (ps_set (i := 4) scRk.nd rfl (Or.inl rfl) (pe_listRg rfl rfl gList (prg_1 rfl gRange (pv 0))))
    (pss_cons (ps_set (i := 5) scRk.nd rfl (Or.inl rfl) (pe_lst pa_nil))
    (pss_cons (ps_for PassesOwn.never rfl (pi_list (pv 2)) (pg_name (i := 6) scRk.nd rfl (Or.inl rfl))
      (pss_one (ps_expr (pe_bm PySem.F.plainAttrs_list PySem.F.slot_list_append PySem.F.type_list_append mt_append (pv 5) (pa_cons
        (pe_bm PySem.F.plainAttrs_list PySem.F.slot_list_pop PySem.F.type_list_pop mt_popAt (pv 4) (pa_cons (pv 6) pa_nil)) pa_nil)))))
    (pss_one (ps_ret (pv 5))))))), ?_⟩)
  · obtain ⟨n, k, rfl, _⟩ := h
    rfl
  · obtain ⟨n, k, rfl, hn, kk⟩ := h
    refine ⟨Nat.zero_le _, fun C hC => ?_⟩
    have eT : ((n : Int) + 1 - 1).toNat = n := by omega
    refine ⟨_, rfl, _, _, rfl, rfl, 1, (n : Int) + 1, rfl, ⟨by omega, by omega, by omega, by omega⟩, for_range (lo := 1) (n := ((n : Int) + 1 - 1).toNat) (fun i σ H' => ∃ (y : Option V) (st : List Int × Int), σ = [some (.int (n : Int)), some (.int st.2), some (.ref C), y, none, none, none] ∧ Same H H' ∧ i ≤ n ∧
      st = Vm.digitsL ((List.range i).map fun (i : Nat) => ((i : Int) + 1)) k ∧ H' C = some (.lst (st.1.map V.int)) ∧ st.1.length = i ∧ (∀ (j : Nat) (v : Int), st.1[j]? = some v → 0 ≤ v ∧ v + (j : Int) < (i : Int)))
      ⟨none, ([], k), rfl, Same.new hC, Nat.zero_le _, rfl, upd_same, rfl, by simp⟩ ?_ ?_⟩
    · rintro i σ H2 hi ⟨y, st, rfl, s2, hin, est, c2, hl2, hb2⟩
      rw [eT] at hi
      refine ⟨_, rfl, .inl ⟨rfl, _, SqL.of c2⟩, _, rfl, _, rfl, _, _, rfl, rfl, (by show (0 : Int) < 1 + (i : Int); omega), C, _, _, _, rfl, rfl, c2, by rw [List.length_map, hl2]; exact small1000' (by omega), by decide, by decide, ?_⟩
      refine ⟨_, rfl, _, rfl, _, _, rfl, rfl, ⟨by show (0 : Int) < 1 + (i : Int); omega, by show 1 + (i : Int) < 1073741824; omega⟩, ?_⟩
      refine ⟨some (.int (1 + (i : Int))), (st.2 % (1 + (i : Int)) :: st.1, st.2 / (1 + (i : Int))), rfl, Same.at_new s2 hC, by omega, ?_, upd_same, by simp [hl2], ?_⟩
      · rw [List.range_succ, List.map_append]
        unfold Vm.digitsL at est ⊢
        rw [List.foldl_append, ← est]
        simp only [List.map_cons, List.map_nil, List.foldl_cons, List.foldl_nil]
        rw [Int.add_comm]
      · intro j v hv
        match j, hv with
        | 0, hv =>
          have e : st.2 % (1 + (i : Int)) = v := by simpa using hv
          have h1 := Int.emod_nonneg st.2 (show (1 + (i : Int)) ≠ 0 by omega)
          have h2 := Int.emod_lt_of_pos st.2 (show 0 < (1 + (i : Int)) by omega)
          omega
        | j + 1, hv =>
          have := hb2 j v (by simpa using hv)
          omega
    · rintro σ H2 ⟨y, st, rfl, s2, hin, est, c2, hl2, hb2⟩
      rw [eT] at est hl2 hb2
      refine ⟨_, rfl, _, rfl, RgOk.of_le (by omega) (by omega) (by omega) (by omega), fun L hL => ⟨Nat.zero_le _, fun D hD => ?_⟩⟩
      have eR : rgV 0 (n : Int) = ((List.range n).map VametBase.int).map V.int := by
        unfold rgV
        rw [List.map_map]
        have : ((n : Int) - 0).toNat = n := by omega
        rw [this]
        refine List.map_congr_left fun i _ => ?_
        simp only [Function.comp, VametBase.int]
        rw [Int.zero_add]
      rw [eR] at hD ⊢
      have hLn : H L = none := s2.free hL
      have s3 := Same.at_new (r := L) (o := .lst (((List.range n).map VametBase.int).map V.int)) s2 hLn
      have hDn : H D = none := s3.free hD
      have hDL : D ≠ L := fun z => by rw [z, upd_same] at hD; cases hD
      have hCL : C ≠ L := ne_of_none c2 hL
      have hCD : C ≠ D := fun z => by
        rw [← z, upd_ne hCL, c2] at hD
        cases hD
      refine ⟨_, rfl, C, rfl, ⟨st.1.map V.int, SqL.of (by rw [upd_ne hCD, upd_ne hCL]; exact c2)⟩, ?_⟩
      refine for_list (K := K) (a := C) (xs := st.1.map V.int) (fun i σ H' => ∃ (z : Option V) (su : List Int × List Int), σ = [some (.int (n : Int)), some (.int st.2), some (.ref C), y, some (.ref L), some (.ref D), z] ∧ Same H H' ∧ H' C = some (.lst (st.1.map V.int)) ∧
        su = (st.1.take i).foldl Vm.popStep ([], (List.range n).map VametBase.int) ∧ H' D = some (.lst (su.1.map V.int)) ∧ H' L = some (.lst (su.2.map V.int)) ∧ su.1.length = i ∧ su.2.length + i = n)
        ⟨none, ([], (List.range n).map VametBase.int), rfl, Same.at_new s3 hDn, by rw [upd_ne hCD, upd_ne hCL]; exact c2, rfl, upd_same, by rw [upd_ne hDL.symm, upd_same], rfl, by simp⟩ (fun i σ H' _ h => by obtain ⟨_, _, _, _, q, _⟩ := h; exact SqL.of q) ?_ ?_
      · rintro i v σ H3 hv ⟨z, su, rfl, s4, c4, esu, d4, l4, hl4, hl5⟩
        obtain ⟨e, he, rfl⟩ := vget hv
        obtain ⟨b1, b2⟩ := hb2 i e he
        obtain ⟨m, rfl⟩ : ∃ m : Nat, e = (m : Int) := ⟨e.toNat, by omega⟩
        have hm : m < su.2.length := by omega
        refine ⟨_, rfl, .inl ⟨rfl, _, SqL.of d4⟩, _, rfl, .inl ⟨rfl, _, SqL.of l4⟩, _, rfl, L, _, (m : Int), m, .int su.2[m], rfl, rfl, l4, by omega, by omega, seqIx (by rw [List.length_map]; exact hm), by rw [List.getElem?_map, List.getElem?_eq_getElem hm]; rfl, ?_⟩
        refine ⟨D, _, _, rfl, rfl, by rw [upd_ne hDL]; exact d4, by rw [List.length_map, hl4]; exact small1000' (by have := hb2 i (m : Int) he; omega), ?_⟩
        refine ⟨some (.int (m : Int)), Vm.popStep su (m : Int), rfl, Same.at_new (Same.at_new s4 hLn) hDn, by rw [upd_ne hCD, upd_ne hCL]; exact c4, by rw [Vm.foldl_take _ _ he, esu], ?_, ?_, ?_, ?_⟩
        · rw [upd_same]
          unfold Vm.popStep
          rw [Int.toNat_natCast, List.getElem?_eq_getElem hm, List.map_append]
          rfl
        · rw [upd_ne hDL.symm, upd_same]
          unfold Vm.popStep
          rw [Int.toNat_natCast, Vm.eraseIdx_map']
        · simp [Vm.popStep, hl4]
        · show (su.2.eraseIdx _).length + (i + 1) = n
          rw [Int.toNat_natCast, List.length_eraseIdx, if_pos hm]
          omega
      · rintro σ H3 ⟨z, su, rfl, s4, c4, esu, d4, l4, hl4, hl5⟩
        rw [List.length_map, List.take_length] at esu
        refine ⟨_, rfl, kk _ D hDn s4 ?_⟩
        rw [d4]
        unfold Vm.rankedL
        rw [← est, ← esu]
end
end Tg
set_option Elab.async false
set_option linter.all false
set_option maxRecDepth 100000
set_option maxHeartbeats 4000000
namespace Tg
open PySem PySem.Spec PyProof.Rows L2
theorem pgT {X : Cx} {pos : Pos} (K : PySem.W.Frag) {es : List Expr} {k : Nat} {t : TGs} {n : Nat} (hc : X.calm = true) (h : PGs X es t) (hK : X.K = K := by rfl)
    (hn : (assignEach es X.env).length = n := by rfl) (hst : (assignEach es X.env).findIdx? (·.1) = none := by rfl) : PG X (.Tuple es k pos) (gTup K n t) := hK ▸ pg_tup hc h hn hst
def pairHeld (z : Int × Int) : Int := if z.2 = 1 then -z.1 - 1 else z.1 + 1
def spTurnOf : Sp := fun vs H Q _ => ∃ (n : Nat) (k : Int), vs = [.int (n : Int), .int k] ∧ n ≤ 4 ∧ NewT H Q (Vm.turnL n k)
theorem ranked_len (n : Nat) (k : Int) : (Vm.rankedL n k).length = n := by
  have h1 : ∀ (bs : List Int) (st : List Int × Int), (bs.foldl (fun st b => (st.2 % b :: st.1, st.2 / b)) st).1.length = st.1.length + bs.length := by
    intro bs
    induction bs with
    | nil => intro st; rfl
    | cons b bs ih =>
      intro st
      rw [List.foldl_cons, ih]
      simp only [List.length_cons]
      omega
  have h2 : ∀ (cs : List Int) (st : List Int × List Int), (cs.foldl Vm.popStep st).1.length = st.1.length + cs.length := by
    intro cs
    induction cs with
    | nil => intro st; rfl
    | cons b bs ih =>
      intro st
      rw [List.foldl_cons, ih]
      simp only [Vm.popStep, List.length_append, List.length_cons, List.length_nil]
      omega
  unfold Vm.rankedL
  rw [h2]
  unfold Vm.digitsL
  rw [h1]
  simp
theorem digits_len (n : Nat) (k : Int) : (Vm.digitsL (List.replicate n 2) k).1.length = n := by
  have h1 : ∀ (bs : List Int) (st : List Int × Int), (bs.foldl (fun st b => (st.2 % b :: st.1, st.2 / b)) st).1.length = st.1.length + bs.length := by
    intro bs
    induction bs with
    | nil => intro st; rfl
    | cons b bs ih =>
      intro st
      rw [List.foldl_cons, ih]
      simp only [List.length_cons]
      omega
  unfold Vm.digitsL
  rw [h1]
  simp
section
variable {P : Program} {w : World} {K : PySem.W.Frag} {mg : Str → Option Value} {base : Heap}
theorem scTo : FnScope ["places", "number", "signs", "rank", "place", "sources", "source", "sign"] ["places", "number"] (defScope sTurnOf) := ⟨rfl, rfl, rfl, by decide +kernel, rfl, by decide +kernel, by decide +kernel⟩
theorem ok_turnOf {f fR : Addr} {fd fdR : FuncData} (F : Fun K "turn_of" "turn_of" sTurnOf f fd) (gRange : mg "range" = none) (gZip : mg "zip" = none) (gTuple : mg "tuple" = none)
    (GR : FnOk P w K mg base CX0 1 fR fdR ["places", "rank"] spRanked) (bR : Binds K fdR ["places", "rank"] []) (gR : mg "sources_ranked" = some (.ref fR)) (kR : PySem.W.keepIn K (.ref fR) = true) :
    FnOk P w K mg base CX0 2 f fd ["places", "number"] spTurnOf := by
  refine F.ok scTo (fun vs H Q E h => ?_) (fun cdv A outer s H vs Q E hr h => ⟨_, pss_cons (ps_set (i := 2) scTo.nd rfl (Or.inl rfl) (pe_lst pa_nil))
    (pss_cons (ps_set (i := 3) scTo.nd rfl (Or.inl rfl) (pv 1))
    (pss_cons (ps_for PassesOwn.never rfl (pi_range1 rfl gRange (pa_cons (pv 0) pa_nil)) (pg_name (i := 4) scTo.nd rfl (Or.inl rfl))
      (pss_cons (ps_expr (pe_bm PySem.F.plainAttrs_list PySem.F.slot_list_insert PySem.F.type_list_insert mt_insert (pv 2) (pa_cons pe_int (pa_cons (pe_op op_mod (pv 3) pe_int) pa_nil))))
        (pss_one (ps_set (i := 3) scTo.nd rfl (Or.inl rfl) (pe_op op_fdiv (pv 3) pe_int)))))
    (pss_cons (ps_set (i := 5) scTo.nd rfl (Or.inl rfl) (pe_call GR hr rfl gR kR bR .nil pass0 (pa_cons (pv 0) (pa_cons (pv 3) pa_nil))))
    (pss_one (ps_ret (pe_callTy call_tuple_of (by rfl) gTuple (by decide +kernel) (pa_cons
      (pe_lc (own := [("source", 6), ("sign", 7)]) (g := gTup K 2 (gCons (gName 6) (gCons (gName 7) gNil))) (tt := tYes) rfl scTo.nd (pi_zip (by rfl) gZip (pa_cons (pv 5) (pa_cons (pv 2) pa_nil)))
        (blkOk_by (N := ["places", "number", "signs", "rank", "place", "sources", "source", "sign"]) (sc := defScope sTurnOf) (by decide +kernel))
        (fun _ _ _ _ _ => pgT K rfl (pgs_cons (pg_name (i := 6) scTo.nd rfl (Or.inl rfl)) (pgs_cons (pg_name (i := 7) scTo.nd rfl (Or.inl rfl)) pgs_nil))) (fun _ _ _ _ _ => pts_nil)
        (fun _ _ _ _ _ => pe_ifExp (pt_cmpR op_eq (pv 7) pe_int (nomark _)) (pe_op op_sub (pe_un un_neg (pv 6)) pe_int) (pe_op op_add (pv 6) pe_int))) pa_nil))))))), ?_⟩)
  · obtain ⟨n, k, rfl, _⟩ := h
    rfl
  · obtain ⟨n, k, rfl, hn, kk⟩ := h
    refine ⟨Nat.zero_le _, fun C hC => ?_⟩
    have eT : ((n : Int)).toNat = n := by omega
    refine ⟨_, rfl, _, rfl, (n : Int), rfl, by omega, by omega, for_range (lo := 0) (n := ((n : Int)).toNat) (fun i σ H' => ∃ (y : Option V) (st : List Int × Int), σ = [some (.int (n : Int)), some (.int k), some (.ref C), some (.int st.2), y, none, none, none] ∧ Same H H' ∧ i ≤ n ∧
      st = Vm.digitsL (List.replicate i 2) k ∧ H' C = some (.lst (st.1.map V.int)) ∧ st.1.length = i)
      ⟨none, ([], k), rfl, Same.new hC, Nat.zero_le _, rfl, upd_same, rfl⟩ ?_ ?_⟩
    · rintro i σ H2 hi ⟨y, st, rfl, s2, hin, est, c2, hl2⟩
      rw [eT] at hi
      refine ⟨_, rfl, .inl ⟨rfl, _, SqL.of c2⟩, _, rfl, _, _, rfl, rfl, (by show (0 : Int) < 2; decide), C, _, _, _, rfl, rfl, c2, by rw [List.length_map, hl2]; exact small1000' (by omega), by decide, by decide, ?_⟩
      refine ⟨_, rfl, _, _, rfl, rfl, ⟨by decide, by decide⟩, ?_⟩
      refine ⟨some (.int (0 + (i : Int))), (st.2 % 2 :: st.1, st.2 / 2), rfl, Same.at_new s2 hC, by omega, ?_, upd_same, by simp [hl2]⟩
      rw [List.replicate_succ']
      unfold Vm.digitsL at est ⊢
      rw [List.foldl_append, ← est]
      rfl
    · rintro σ H2 ⟨y, st, rfl, s2, hin, est, c2, hl2⟩
      rw [eT] at est hl2
      refine ⟨_, rfl, _, rfl, n, st.2, rfl, hn, fun H3 S hS s3 h3 => ?_⟩
      have c3 := s3 _ _ c2
      have hSn : H S = none := s2.free hS
      refine ⟨_, rfl, _, rfl, S, C, _, _, rfl, SqL.of h3, SqL.of c3, fun D hD => ?_⟩
      have hDS : D ≠ S := (ne_of_none h3 hD).symm
      have hDC : D ≠ C := (ne_of_none c3 hD).symm
      have hDn : H D = none := (s2.trans s3).free hD
      have el : (Vm.rankedL n st.2).length = n := ranked_len n st.2
      refine lc_it (walk_zip (K := K) (a := S) (b := C) (xs := (Vm.rankedL n st.2).map V.int) (ys := st.1.map V.int) (n := n) (by rw [List.length_map, List.length_map, el, hl2, Nat.min_self]))
        (fun i H' => Same H H' ∧ H' S = some (.lst ((Vm.rankedL n st.2).map V.int)) ∧ H' C = some (.lst (st.1.map V.int)) ∧ H' D = some (.lst (((((Vm.rankedL n st.2).zip st.1).take i).map pairHeld).map V.int)))
        ⟨Same.at_new (s2.trans s3) hDn, by rw [upd_ne hDS.symm]; exact h3, by rw [upd_ne hDC.symm]; exact c3, upd_same⟩ (fun i H' _ h => ⟨SqL.of h.2.1, SqL.of h.2.2.1⟩) ?_ ?_
      · rintro i v H4 H5 hi ⟨s4, r4, c4, d4⟩ ⟨T, a, b, rfl, hT, rfl, ha, hb⟩
        obtain ⟨x, hx, rfl⟩ := vget ha
        obtain ⟨z, hz, rfl⟩ := vget hb
        have hTn : H T = none := s4.free hT
        have hDT : D ≠ T := ne_of_none d4 hT
        have hST : S ≠ T := ne_of_none r4 hT
        have hCT : C ≠ T := ne_of_none c4 hT
        have hxz : ((Vm.rankedL n st.2).zip st.1)[i]? = some (x, z) := by
          rw [List.getElem?_zip_eq_some]
          exact ⟨hx, hz⟩
        have fin : ∀ u : Int, u = pairHeld (x, z) → ∃ acc, (upd H4 T (.tup [.int x, .int z])) D = some (.lst acc) ∧ acc.length < sizeLine ∧ Same H (upd (upd H4 T (.tup [.int x, .int z])) D (.lst (acc ++ [.int u]))) ∧
            (upd (upd H4 T (.tup [.int x, .int z])) D (.lst (acc ++ [.int u]))) S = some (.lst ((Vm.rankedL n st.2).map V.int)) ∧ (upd (upd H4 T (.tup [.int x, .int z])) D (.lst (acc ++ [.int u]))) C = some (.lst (st.1.map V.int)) ∧
            (upd (upd H4 T (.tup [.int x, .int z])) D (.lst (acc ++ [.int u]))) D = some (.lst (((((Vm.rankedL n st.2).zip st.1).take (i + 1)).map pairHeld).map V.int)) := fun u hu => by
          refine ⟨_, by rw [upd_ne hDT]; exact d4, ?_, Same.at_new (Same.at_new s4 hTn) hDn, by rw [upd_ne hDS.symm, upd_ne hST]; exact r4, by rw [upd_ne hDC.symm, upd_ne hCT]; exact c4, ?_⟩
          · rw [List.length_map, List.length_map, List.length_take]
            exact small1000' (by omega)
          · rw [upd_same, take_more hxz, List.map_append, List.map_append, hu]
            rfl
        refine ⟨T, _, rfl, SqT.of upd_same, rfl, _, _, rfl, _, _, rfl, rfl, ?_⟩
        refine ⟨rfl, _, rfl, rfl, _, rfl, ?_⟩
        by_cases c1 : z = 1
        · refine if_t (decide_eq_true (by rw [c1])) ?_
          exact ⟨_, rfl, _, rfl, _, _, rfl, rfl, fin _ (by unfold pairHeld; rw [if_pos c1])⟩
        · refine if_f (decide_eq_false (fun q => c1 (by cases q; rfl))) ?_
          exact ⟨_, rfl, _, _, rfl, rfl, fin _ (by unfold pairHeld; rw [if_neg c1])⟩
      · rintro H4 ⟨s4, r4, c4, d4⟩
        have et : ((Vm.rankedL n st.2).zip st.1).take n = (Vm.rankedL n st.2).zip st.1 := List.take_of_length_le (by rw [List.length_zip, el, hl2, Nat.min_self]; exact Nat.le_refl _)
        rw [et] at d4
        refine ⟨D, _, rfl, .inl ⟨SqL.of d4, fun u hu => kk _ u (s4.free hu) (s4.trans (Same.new hu)) ?_⟩⟩
        rw [upd_same]
        unfold Vm.turnL
        rw [← est]
        rfl
end
end Tg
set_option Elab.async false
set_option linter.all false
set_option maxRecDepth 100000
set_option maxHeartbeats 4000000
namespace Tg
open PySem PySem.Spec PyProof.Rows L2
theorem ixN_int {n : Nat} {i : Int} (h0 : 0 ≤ i) (h1 : i < (n : Int)) : ixN n i = some i.toNat := by
  unfold ixN
  simp [h0, h1, show ¬ i < 0 by omega]
def spUndone (K : PySem.W.Frag) : Sp := fun vs H Q _ => ∃ (t : Addr) (c : List Int), vs = [.ref t] ∧ SqT K H t (c.map V.int) ∧ (∀ e ∈ c, Vm.okAt c.length e) ∧ c.length ≤ 100 ∧ NewT H Q (Vm.undoneL c)
section
variable {P : Program} {w : World} {K : PySem.W.Frag} {mg : Str → Option Value} {base : Heap}
theorem scUn : FnScope ["turn", "comes", "place", "come"] ["turn"] (defScope sUndone) := ⟨rfl, rfl, rfl, by decide +kernel, rfl, by decide +kernel, by decide +kernel⟩
theorem ok_undone {f : Addr} {fd : FuncData} (F : Fun K "undone" "undone" sUndone f fd) (gList : mg "list" = none) (gTuple : mg "tuple" = none) (gEnum : mg "enumerate" = none) (gAbs : mg "abs" = none) : FnOk P w K mg base CX0 1 f fd ["turn"] (spUndone K) := by
  refine F.ok scUn (fun vs H Q E h => ?_) (fun cdv A outer s H vs Q E hr h => ⟨_, pss_cons (ps_set (i := 1) scUn.nd rfl (Or.inl rfl) (pe_callTy call_list_of (by rfl) gList (by decide +kernel) (pa_cons (pv 0) pa_nil)))
    (pss_cons (ps_for PassesOwn.never rfl (pi_enumT (by rfl) gEnum (pa_cons (pv 0) pa_nil)) (pg_tup rfl (pgs_cons (pg_name (i := 2) scUn.nd rfl (Or.inl rfl)) (pgs_cons (pg_name (i := 3) scUn.nd rfl (Or.inl rfl)) pgs_nil)))
      (pss_one (ps_asg (pe_ifExp (pt_cmpR op_gt (pv 3) pe_int (nomark _)) (pe_op op_add (pv 2) pe_int) (pe_op op_sub (pe_un un_neg (pv 2)) pe_int))
        (pg_sub (pv 1) (pe_op op_sub (pe_callB call_abs (by rfl) gAbs (by decide +kernel) (pa_cons (pv 3) pa_nil)) pe_int) set_list))))
    (pss_one (ps_ret (pe_callTy call_tuple_of (by rfl) gTuple (by decide +kernel) (pa_cons (pv 1) pa_nil))))), ?_⟩)
  · obtain ⟨t, c, rfl, _⟩ := h
    rfl
  · obtain ⟨t, c, rfl, ht, hok, hlen, k⟩ := h
    refine ⟨_, rfl, t, _, rfl, .inr ht, fun C hC => ?_⟩
    have s1 : Same H (upd H C (.lst (c.map V.int))) := Same.new hC
    refine ⟨_, rfl, t, _, rfl, Same.tupS s1 ht, ?_⟩
    refine for_it (walk_enumT (K := K) (a := t) (xs := c.map V.int)) (fun i σ H' => ∃ (y z : Option V) (st : List Int × Int), σ = [some (.ref t), some (.ref C), y, z] ∧ Same H H' ∧ st = (c.take i).foldl Vm.undoStep (c, 0) ∧ st.2 = (i : Int) ∧ st.1.length = c.length ∧ H' C = some (.lst (st.1.map V.int)))
      ⟨none, none, (c, 0), rfl, s1, rfl, rfl, rfl, upd_same⟩ (fun i σ H' _ h => by obtain ⟨_, _, _, _, q, _⟩ := h; exact Same.tupS q ht) ?_ ?_
    · rintro i v σ H2 H3 hi ⟨y, z, st, rfl, s2, est, e2, hl2, c2⟩ ⟨T, a, b, rfl, hT, rfl, ha, hb⟩
      have ea : a = .int (i : Int) := (Option.some.inj ha).symm
      subst ea
      obtain ⟨e, he, rfl⟩ := vget hb
      have ok := hok e (List.mem_of_getElem? he)
      have hTn : H T = none := s2.free hT
      have hCT : C ≠ T := ne_of_none c2 hT
      have key : ∀ v : Int, v = (if 0 < e then st.2 + 1 else -st.2 - 1) → ∃ p ys j n, V.ref C = V.ref p ∧ V.int ((if e < 0 then -e else e) - 1) = V.int j ∧ (upd H2 T (.tup [.int (i : Int), .int e])) p = some (.lst ys) ∧ ixN ys.length j = some n ∧
          (∃ (y z : Option V) (su : List Int × Int), [some (V.ref t), some (V.ref C), some (V.int (i : Int)), some (V.int e)] = [some (.ref t), some (.ref C), y, z] ∧ Same H (upd (upd H2 T (.tup [.int (i : Int), .int e])) p (.lst (ys.set n (.int v)))) ∧
            su = (c.take (i + 1)).foldl Vm.undoStep (c, 0) ∧ su.2 = ((i + 1 : Nat) : Int) ∧ su.1.length = c.length ∧ (upd (upd H2 T (.tup [.int (i : Int), .int e])) p (.lst (ys.set n (.int v)))) C = some (.lst (su.1.map V.int))) := fun v hv => by
        refine ⟨C, _, _, _, rfl, rfl, by rw [upd_ne hCT]; exact c2, ixN_int ?_ ?_, _, _, Vm.undoStep st e, rfl, Same.at_new (Same.at_new s2 hTn) hC, ?_, ?_, ?_, ?_⟩
        · rcases ok with ⟨h1, h2⟩ | ⟨h1, h2⟩
          · rw [if_neg (by omega)]; omega
          · rw [if_pos h1]; omega
        · rw [List.length_map, hl2]
          rcases ok with ⟨h1, h2⟩ | ⟨h1, h2⟩
          · rw [if_neg (by omega)]; omega
          · rw [if_pos h1]; omega
        · rw [Vm.foldl_take _ _ he, est]
        · show st.2 + 1 = _
          rw [e2]
          rfl
        · show (st.1.set _ _).length = _
          rw [List.length_set, hl2]
        · rw [upd_same, hv]
          unfold Vm.undoStep
          rw [List.map_set]
      refine ⟨T, _, rfl, SqT.of upd_same, rfl, _, _, rfl, _, _, rfl, rfl, ?_⟩
      refine ⟨_, rfl, _, _, rfl, rfl, _, rfl, ?_⟩
      by_cases c0 : 0 < e
      · refine if_t (decide_eq_true c0) ?_
        refine ⟨_, rfl, _, _, rfl, rfl, _, rfl, _, rfl, _, rfl, _, _, rfl, rfl, ?_⟩
        exact key _ (by rw [if_pos c0, e2])
      · refine if_f (decide_eq_false c0) ?_
        refine ⟨_, rfl, _, rfl, _, _, rfl, rfl, _, rfl, _, rfl, _, rfl, _, _, rfl, rfl, ?_⟩
        exact key _ (by rw [if_neg c0, e2])
    · rintro σ H2 ⟨y, z, st, rfl, s2, est, e2, hl2, c2⟩
      rw [List.length_map, List.take_length] at est
      refine ⟨_, rfl, C, _, rfl, .inl ⟨SqL.of c2, fun u hu => k _ u (s2.free hu) (s2.trans (Same.new hu)) ?_⟩⟩
      rw [upd_same]
      unfold Vm.undoneL
      rw [← est]
end
end Tg
set_option Elab.async false
set_option linter.all false
set_option maxRecDepth 100000
set_option maxHeartbeats 4000000
namespace Vm
theorem addG_take {α : Type} [DecidableEq α] {acts : List (α → α)} {j : Nat} {f : α → α} (h : acts[j]? = some f) (l : List α) (t : α) :
    addG (acts.take (j + 1)) l t = if f t ∈ addG (acts.take j) l t then addG (acts.take j) l t else addG (acts.take j) l t ++ [f t] := by
  unfold addG
  rw [foldl_take _ _ h]
theorem addG_len {α : Type} [DecidableEq α] : ∀ (acts : List (α → α)) (l : List α) (t : α), (addG acts l t).length ≤ l.length + acts.length
  | [], l, t => Nat.le_refl _
  | f :: acts, l, t => by
    have h := addG_len acts (if f t ∈ l then l else l ++ [f t]) t
    show (addG acts (if f t ∈ l then l else l ++ [f t]) t).length ≤ _
    have e : (if f t ∈ l then l else l ++ [f t]).length ≤ l.length + 1 := by
      split
      · omega
      · simp
    rw [List.length_cons]
    omega
theorem reach_len {n : Nat} {cs : List (List Int)} (hc : ∀ c ∈ cs, c.length = n) {x y : List Int} (hx : x.length = n) (h : ReachG (cs.map turnedL) x y) : y.length = n := by
  cases h with
  | start => exact hx
  | next hf _ =>
    obtain ⟨c, hm, rfl⟩ := List.mem_map.mp hf
    rw [turnedL, List.length_map]
    exact hc c hm
end Vm
namespace Tg
open PySem PySem.Spec PyProof.Rows L2
/-- rows (or held turns) in the heap, each a tuple -/
def RowsAt (H : Hp) : List Addr → List (List Int) → Prop
  | [], [] => True
  | b :: bs, y :: ys => H b = some (.tup (y.map V.int)) ∧ RowsAt H bs ys
  | _, _ => False
theorem RowsAt.length {H : Hp} : ∀ {bs : List Addr} {ys : List (List Int)}, RowsAt H bs ys → bs.length = ys.length
  | [], [], _ => rfl
  | _ :: us, _ :: ss, h => by simp [RowsAt.length h.2]
  | [], _ :: _, h => h.elim
  | _ :: _, [], h => h.elim
theorem RowsAt.map {H H' : Hp} (k : ∀ u xs, H u = some (.tup xs) → H' u = some (.tup xs)) : ∀ {us : List Addr} {ss : List (List Int)}, RowsAt H us ss → RowsAt H' us ss
  | [], [], _ => trivial
  | _ :: us, _ :: ss, h => ⟨k _ _ h.1, RowsAt.map k h.2⟩
  | [], _ :: _, h => h.elim
  | _ :: _, [], h => h.elim
theorem RowsAt.snoc {H : Hp} {u : Addr} {s : List Int} (h : H u = some (.tup (s.map V.int))) : ∀ {us : List Addr} {ss : List (List Int)}, RowsAt H us ss → RowsAt H (us ++ [u]) (ss ++ [s])
  | [], [], _ => ⟨h, trivial⟩
  | _ :: us, _ :: ss, q => ⟨q.1, RowsAt.snoc h q.2⟩
  | [], _ :: _, q => q.elim
  | _ :: _, [], q => q.elim
theorem RowsAt.get {H : Hp} : ∀ {us : List Addr} {ss : List (List Int)} {i : Nat} {u : Addr}, RowsAt H us ss → us[i]? = some u → ∃ s, ss[i]? = some s ∧ H u = some (.tup (s.map V.int))
  | [], [], i, u, _, h => by simp at h
  | a :: us, b :: ss, 0, u, q, h => by
    have e : a = u := by simpa using h
    subst e
    exact ⟨b, rfl, q.1⟩
  | a :: us, b :: ss, i + 1, u, q, h => by
    obtain ⟨s, h1, h2⟩ := RowsAt.get q.2 (i := i) (u := u) (by simpa using h)
    exact ⟨s, by simpa using h1, h2⟩
  | [], _ :: _, _, _, q, _ => q.elim
  | _ :: _, [], _, _, q, _ => q.elim
theorem RowsAt.get' {H : Hp} {us : List Addr} {ss : List (List Int)} {i : Nat} {s : List Int} (q : RowsAt H us ss) (h : ss[i]? = some s) : ∃ u, us[i]? = some u ∧ H u = some (.tup (s.map V.int)) := by
  have hl : i < us.length := by
    rw [q.length]
    exact (List.getElem?_eq_some_iff.mp h).1
  obtain ⟨s', h1, h2⟩ := q.get (List.getElem?_eq_getElem hl)
  rw [h] at h1
  cases h1
  exact ⟨_, List.getElem?_eq_getElem hl, h2⟩
/-- a row as a key -/
def keyOf (y : List Int) : List Key := y.map Sum.inl
theorem keyOf_kV (y : List Int) : (keyOf y).map kV = y.map V.int := by
  unfold keyOf
  rw [List.map_map]
  rfl
theorem keyOf_inj {x y : List Int} (h : keyOf x = keyOf y) : x = y := Vm.map_inj (fun {a b} e => by cases e; rfl) h
theorem key_mem {kvs : List (List Key × V)} {ys : List (List Int)} (h : kvs.map (·.1) = ys.map keyOf) (z : List Int) : (∃ kv ∈ kvs, kv.1 = keyOf z) ↔ z ∈ ys := by
  constructor
  · rintro ⟨kv, hm, e⟩
    have : keyOf z ∈ ys.map keyOf := by
      rw [← h, ← e]
      exact List.mem_map.mpr ⟨kv, hm, rfl⟩
    obtain ⟨y, hy, e2⟩ := List.mem_map.mp this
    exact keyOf_inj e2 ▸ hy
  · intro hz
    have : keyOf z ∈ kvs.map (·.1) := by
      rw [h]
      exact List.mem_map.mpr ⟨z, hz, rfl⟩
    obtain ⟨kv, hm, e⟩ := List.mem_map.mp this
    exact ⟨kv, hm, e⟩
theorem val_some {kvs : List (List Key × V)} {ys : List (List Int)} (h : kvs.map (·.1) = ys.map keyOf) {z : List Int} (hz : z ∈ ys) : (valV kvs (keyOf z)).isSome = true := by
  obtain ⟨kv, hm, e⟩ := (key_mem h z).mpr hz
  unfold valV
  rw [Option.isSome_map]
  exact List.find?_isSome.mpr ⟨kv, hm, decide_eq_true e⟩
theorem val_none {kvs : List (List Key × V)} {ys : List (List Int)} (h : kvs.map (·.1) = ys.map keyOf) {z : List Int} (hz : z ∉ ys) : (valV kvs (keyOf z)).isSome = false := by
  unfold valV
  rw [Option.isSome_map]
  cases e : kvs.find? fun kv => decide (kv.1 = keyOf z) with
  | none => rfl
  | some kv =>
    have h1 := List.mem_of_find?_eq_some e
    have h2 := List.find?_some e
    exact absurd ((key_mem h z).mp ⟨kv, h1, of_decide_eq_true h2⟩) hz
theorem put_new {kvs : List (List Key × V)} {ys : List (List Int)} (h : kvs.map (·.1) = ys.map keyOf) {z : List Int} (hz : z ∉ ys) (v : V) : (putK kvs (keyOf z) v).map (·.1) = (ys ++ [z]).map keyOf ∧ (putK kvs (keyOf z) v).length = kvs.length + 1 := by
  have e : putK kvs (keyOf z) v = kvs ++ [(keyOf z, v)] := by
    unfold putK
    rw [if_neg]
    intro q
    obtain ⟨kv, hm, e⟩ := List.any_eq_true.mp q
    exact hz ((key_mem h z).mp ⟨kv, hm, of_decide_eq_true e⟩)
  rw [e, List.map_append, List.map_append, h]
  exact ⟨rfl, by simp⟩
def spReached (K : PySem.W.Frag) : Sp := fun vs H Q _ => ∃ (tl r : Addr) (ts : List Addr) (cs : List (List Int)) (x : List Int) (n : Nat) (U : List (List Int)), vs = [.ref tl, .ref r] ∧ SqL K H tl (ts.map V.ref) ∧ RowsAt H ts cs ∧ H r = some (.tup (x.map V.int)) ∧ x.length = n ∧ n ≤ 4 ∧
  (∀ c ∈ cs, c.length = n) ∧ (∀ c ∈ cs, ∀ e ∈ c, Vm.okAt n e) ∧ ts.length ≤ 2000 ∧ (∀ y, Vm.ReachG (cs.map Vm.turnedL) x y → y ∈ U) ∧ U.length ≤ 1000 ∧
  ∀ H' F bs ys, H F = none → Same H H' → H' F = some (.lst (bs.map V.ref)) → RowsAt H' bs ys → ys.Nodup → (∀ y, y ∈ ys ↔ Vm.ReachG (cs.map Vm.turnedL) x y) → Q (.ref F) H'
/-- the whole number in the fifth slot -/
def slot4 (σ : List (Option V)) : Nat := match (σ[4]? : Option (Option V)) with
  | some (some (V.int z)) => z.toNat
  | _ => 0
section
variable {P : Program} {w : World} {K : PySem.W.Frag} {mg : Str → Option Value} {base : Heap}
theorem scRe : FnScope ["turns", "row", "found", "seen", "looked", "turn", "other"] ["turns", "row"] (defScope sReached) := ⟨rfl, rfl, rfl, by decide +kernel, rfl, by decide +kernel, by decide +kernel⟩
theorem ok_reached {f fT : Addr} {fd fdT : FuncData} (F : Fun K "reached" "reached" sReached f fd) (gLen : mg "len" = none)
    (GT : FnOk P w K mg base CX0 1 fT fdT ["turn", "row"] (spTurned K)) (bT : Binds K fdT ["turn", "row"] []) (gT : mg "turned" = some (.ref fT)) (kT : PySem.W.keepIn K (.ref fT) = true) :
    FnOk P w K mg base CX0 2 f fd ["turns", "row"] (spReached K) := by
  refine F.ok scRe (fun vs H Q E h => ?_) (fun cdv A outer s H vs Q E hr h => ⟨_, pss_cons (ps_set (i := 2) scRe.nd rfl (Or.inl rfl) (pe_lst (pa_cons (pv 1) pa_nil)))
    (pss_cons (ps_set (i := 3) scRe.nd rfl (Or.inl rfl) (pe_dispT (hu_of hr) (pv 1) pe_bl))
    (pss_cons (ps_set (i := 4) scRe.nd rfl (Or.inl rfl) pe_int)
    (pss_cons (ps_while PassesOwn.never (pt_cmpR op_lt (pv 4) (pe_callB call_len_seq (by rfl) gLen PySem.boot_len (pa_cons (pv 2) pa_nil)) (nomark _))
      (pss_cons (ps_for PassesOwn.never rfl (pi_list (pv 0)) (pg_name (i := 5) scRe.nd rfl (Or.inl rfl))
        (pss_cons (ps_set (i := 6) scRe.nd rfl (Or.inl rfl) (pe_call GT hr rfl gT kT bT .nil pass0 (pa_cons (pv 5) (pa_cons (pe_ix ix_list (pv 2) (pv 4) (fun _ _ => rfl)) pa_nil))))
        (pss_one (ps_if (pt_cmp (pc_dnotin (hu_of hr) (pv 6) (pv 3))) (pss_cons (ps_dput (hu_of hr) (pv 3) (pv 6) pe_bl rfl)
          (pss_one (ps_expr (pe_bm PySem.F.plainAttrs_list PySem.F.slot_list_append PySem.F.type_list_append mt_append (pv 2) (pa_cons (pv 6) pa_nil))))) pss_nil))))
      (pss_one (ps_set (i := 4) scRe.nd rfl (Or.inl rfl) (pe_op op_add (pv 4) pe_int)))))
    (pss_one (ps_ret (pv 2)))))), ?_⟩)
  · obtain ⟨tl, r, ts, cs, x, n, U, rfl, _⟩ := h
    rfl
  · obtain ⟨tl, r, ts, cs, x, n, U, rfl, hT, hR, hr0, hx, hn, hcl, hco, htl, hU, hUl, k⟩ := h
    refine ⟨_, rfl, by show 1 ≤ sizeLine; decide, fun F hF => ?_⟩
    have hrF : r ≠ F := ne_of_none hr0 hF
    intro S hS
    have hSF : S ≠ F := fun z => by rw [z, upd_same] at hS; cases hS
    have hSn : H S = none := by rw [upd_ne hSF] at hS; exact hS
    have hrS : r ≠ S := ne_of_none hr0 hSn
    refine ⟨_, rfl, by rw [upd_same], r, keyOf x, rfl, ?_, ?_⟩
    · rw [keyOf_kV, upd_ne hrS, upd_ne hrF]
      exact hr0
    -- what holds between two turns of the while
    have hlenU : ∀ {i : Nat} {ys : List (List Int)}, Vm.GInv (cs.map Vm.turnedL) x i ys → ys.length ≤ 1000 := fun g => Nat.le_trans (g.bound hU) hUl
    have hmul : ∀ {i : Nat} {ys : List (List Int)}, Vm.GInv (cs.map Vm.turnedL) x i ys → ∀ y ∈ ys, y.length = n := fun g y hy => Vm.reach_len hcl hx (g.rch y hy)
    refine while_by (fun σ H' => ∃ (i : Nat) (bs : List Addr) (ys : List (List Int)) (kvs : List (List Key × V)) (y5 y6 : Option V), σ = [some (.ref tl), some (.ref r), some (.ref F), some (.ref S), some (.int (i : Int)), y5, y6] ∧ Same H H' ∧
      H' F = some (.lst (bs.map V.ref)) ∧ RowsAt H' bs ys ∧ H' S = some (.dT kvs) ∧ kvs.map (·.1) = ys.map keyOf ∧ Vm.GInv (cs.map Vm.turnedL) x i ys) (fun σ _ => U.length + 1 - slot4 σ) ?_ ?_ ?_
    · refine ⟨0, [r], [x], [(keyOf x, .bl true)], none, none, rfl, Same.at_new (Same.at_new (Same.new hF) hSn) hSn, ?_, ⟨?_, trivial⟩, upd_same, rfl, Vm.GInv.first _ _⟩
      · rw [upd_ne hSF.symm, upd_ne hSF.symm, upd_same]
        rfl
      · rw [upd_ne hrS, upd_ne hrS, upd_ne hrF]
        exact hr0
    · rintro σ H1 ⟨i, bs, ys, kvs, y5, y6, rfl, s1, f1, rw1, d1, ek, g⟩
      refine ⟨_, rfl, _, rfl, F, _, rfl, .inl (SqL.of f1), _, _, rfl, rfl, _, rfl, ?_⟩
      by_cases c : i < ys.length
      · refine if_t (decide_eq_true (by rw [List.length_map, rw1.length]; omega)) ?_
        obtain ⟨t, ht⟩ : ∃ t, ys[i]? = some t := ⟨ys[i], List.getElem?_eq_getElem c⟩
        have htl' : t.length = n := hmul g t (List.mem_of_getElem? ht)
        -- the for over the turns
        refine ⟨_, rfl, tl, rfl, ⟨_, s1.seq hT⟩, ?_⟩
        refine for_list (K := K) (a := tl) (xs := ts.map V.ref) (fun j σ H' => ∃ (bs : List Addr) (kvs : List (List Key × V)) (y5 y6 : Option V), σ = [some (.ref tl), some (.ref r), some (.ref F), some (.ref S), some (.int (i : Int)), y5, y6] ∧ Same H H' ∧
          H' F = some (.lst (bs.map V.ref)) ∧ RowsAt H' bs (Vm.addG ((cs.map Vm.turnedL).take j) ys t) ∧ H' S = some (.dT kvs) ∧ kvs.map (·.1) = (Vm.addG ((cs.map Vm.turnedL).take j) ys t).map keyOf)
          ⟨bs, kvs, y5, y6, rfl, s1, f1, rw1, d1, ek⟩ (fun j σ H' _ h => by obtain ⟨_, _, _, _, _, q, _⟩ := h; exact q.seq hT) ?_ ?_
        · rintro j v σ H2 hv ⟨bs2, kvs2, z5, z6, rfl, s2, f2, rw2, d2, ek2⟩
          obtain ⟨u, hu, rfl⟩ : ∃ u, ts[j]? = some u ∧ v = V.ref u := by
            rw [List.getElem?_map] at hv
            cases e : ts[j]? with
            | none => rw [e] at hv; cases hv
            | some u => rw [e] at hv; exact ⟨u, rfl, (Option.some.inj hv).symm⟩
          obtain ⟨cc, hcc, hcu⟩ := hR.get hu
          have hact : (cs.map Vm.turnedL)[j]? = some (Vm.turnedL cc) := by rw [List.getElem?_map, hcc]; rfl
          have hjl : j < ts.length := (List.getElem?_eq_some_iff.mp hu).1
          have hpre : (Vm.addG ((cs.map Vm.turnedL).take j) ys t)[i]? = some t := by
            obtain ⟨w, hw⟩ := Vm.addG_pre ((cs.map Vm.turnedL).take j) ys t
            rw [← hw, List.getElem?_append_left c]
            exact ht
          obtain ⟨bt, hbt, hbh⟩ := rw2.get' hpre
          have hln : (Vm.addG ((cs.map Vm.turnedL).take j) ys t).length ≤ 4000 := by
            have h1 := Vm.addG_len ((cs.map Vm.turnedL).take j) ys t
            have h2 := hlenU g
            rw [List.length_take] at h1
            omega
          refine ⟨_, rfl, _, rfl, _, rfl, F, _, _, .ref bt, rfl, rfl, SqL.of f2, atI_nat (by rw [List.getElem?_map, hbt]; rfl), u, bt, cc, t, rfl, SqT.of (s2 _ _ hcu), SqT.of hbh, ?_, ?_, ?_⟩
          · intro e he
            rw [htl']
            exact hco cc (List.mem_of_getElem? hcc) e he
          · rw [hcl cc (List.mem_of_getElem? hcc)]
            omega
          · intro H3 o ho s3 h3
            have f3 := s3 _ _ f2
            have d3 := s3 _ _ d2
            have rw3 := rw2.map fun a b q => s3 a _ q
            refine ⟨_, rfl, _, rfl, S, _, rfl, DGet.t (k := keyOf (Vm.turnedL cc t)) d3 (by rw [keyOf_kV]; exact h3), _, rfl, ?_⟩
            have hadd := Vm.addG_take hact ys t
            have hSF3 : ∀ a xs, H3 a = some (.tup xs) → a ≠ S ∧ a ≠ F := fun a xs q => ⟨fun z => (by rw [z, d3] at q; cases q), fun z => (by rw [z, f3] at q; cases q)⟩
            by_cases hin : Vm.turnedL cc t ∈ Vm.addG ((cs.map Vm.turnedL).take j) ys t
            · rw [val_some ek2 hin]
              refine ⟨bs2, kvs2, _, _, rfl, s2.trans s3, f3, ?_, d3, ?_⟩
              · rw [hadd, if_pos hin]; exact rw3
              · rw [hadd, if_pos hin]; exact ek2
            · rw [val_none ek2 hin]
              obtain ⟨p1, p2⟩ := put_new ek2 hin (.bl true)
              have hkl : kvs2.length = (Vm.addG ((cs.map Vm.turnedL).take j) ys t).length := by
                have := congrArg List.length ek2
                simpa using this
              refine ⟨_, rfl, _, rfl, S, _, rfl, DPut.t (k := keyOf (Vm.turnedL cc t)) d3 (by rw [keyOf_kV]; exact h3) (small1000' (by omega)), ?_⟩
              refine ⟨_, rfl, .inl ⟨rfl, _, SqL.of (by rw [upd_ne hSF.symm]; exact f3)⟩, _, rfl, F, _, _, rfl, rfl, by rw [upd_ne hSF.symm]; exact f3, by rw [List.length_map, rw3.length]; exact small1000' (by omega), ?_⟩
              refine ⟨bs2 ++ [o], _, _, _, rfl, Same.at_new (Same.at_new (s2.trans s3) hSn) hF, by rw [upd_same, List.map_append]; rfl, ?_, by rw [upd_ne hSF, upd_same], ?_⟩
              · rw [hadd, if_neg hin]
                have kt : ∀ a xs, H3 a = some (.tup xs) → (upd (upd H3 S (.dT (putK kvs2 (keyOf (Vm.turnedL cc t)) (.bl true)))) F (.lst (bs2.map V.ref ++ [V.ref o]))) a = some (.tup xs) := fun a xs q => by
                  rw [upd_ne (hSF3 a xs q).2, upd_ne (hSF3 a xs q).1]
                  exact q
                exact RowsAt.snoc (kt _ _ h3) (rw3.map kt)
              · rw [hadd, if_neg hin]
                exact p1
        · rintro σ H2 ⟨bs2, kvs2, z5, z6, rfl, s2, f2, rw2, d2, ek2⟩
          have hfull : (cs.map Vm.turnedL).take (ts.map V.ref).length = cs.map Vm.turnedL := List.take_of_length_le (by rw [List.length_map, List.length_map, hR.length]; exact Nat.le_refl _)
          rw [hfull] at rw2 ek2
          have g2 := g.next ht
          refine ⟨_, rfl, _, _, rfl, rfl, ⟨i + 1, bs2, _, kvs2, z5, z6, rfl, s2, f2, rw2, d2, ek2, g2⟩, ?_⟩
          have hb := g.bound hU
          show U.length + 1 - ((i : Int) + 1).toNat < U.length + 1 - ((i : Int)).toNat
          omega
      · refine if_f (decide_eq_false (by rw [List.length_map, rw1.length]; omega)) ?_
        refine ⟨_, rfl, k H1 F bs ys hF s1 f1 rw1 g.nd (g.last (by omega))⟩
    · intro σ H1 Q1 Q2 hq h
      obtain ⟨v, hv, v2, hv2, p, xs, e1, hs, a, b, e2, e3, kk, e4, q⟩ := h
      exact ⟨v, hv, v2, hv2, p, xs, e1, hs, a, b, e2, e3, kk, e4, hq _ _ q⟩
end
end Tg
set_option Elab.async false
set_option linter.all false
set_option maxRecDepth 100000
set_option maxHeartbeats 4000000
namespace Tg
open PySem PySem.Spec PyProof.Rows L2
abbrev sSInit : Stmt := inClass (top 87) 0
abbrev sAreTurns : Stmt := top 89
abbrev sTurnsOf : Stmt := top 90
theorem peF {X : Cx} (K : PySem.W.Frag) {o : Expr} {f : Str} {pos : Pos} {ta : TE} (he : PE X o ta) (hf : attributeBase o f X.env (eval o X.env) = eval o X.env) (hK : X.K = K := by rfl) : PE X (.Attribute o f pos) (tFld K ta f) := hK ▸ pe_fld he hf
/-! ### The Setting in the heap -/
def sF (n h : Nat) (pl : Addr) : List (Str × V) := [("places", .int (n : Int)), ("height", .int (h : Int)), ("programs", .ref pl)]
theorem sF_pl (n h : Nat) (pl : Addr) : (sF n h pl).lookup ("places" : Str) = some (.int (n : Int)) := lk_here
theorem sF_hg (n h : Nat) (pl : Addr) : (sF n h pl).lookup ("height" : Str) = some (.int (h : Int)) := (lk_past (by decide +kernel)).trans lk_here
theorem sF_pr (n h : Nat) (pl : Addr) : (sF n h pl).lookup ("programs" : Str) = some (.ref pl) := (lk_past (by decide +kernel)).trans ((lk_past (by decide +kernel)).trans lk_here)
theorem sF_putn (n h m : Nat) (pl : Addr) : putF "places" (.int (m : Int)) (sF n h pl) = sF m h pl := put_here
theorem sF_puth (n h m : Nat) (pl : Addr) : putF "height" (.int (m : Int)) (sF n h pl) = sF n m pl := (put_past (by decide +kernel)).trans (congrArg _ put_here)
theorem sF_new (pl : Addr) : putF "programs" (.ref pl) (putF "height" (.int 0) (putF "places" (.int 0) [])) = sF 0 0 pl := by
  have e1 : putF ("height" : Str) (V.int 0) (putF ("places" : Str) (V.int 0) []) = ([("places", V.int 0), ("height", V.int 0)] : List (Str × V)) := (put_past (by decide +kernel)).trans rfl
  rw [e1]
  exact (put_past (by decide +kernel)).trans (congrArg _ ((put_past (by decide +kernel)).trans rfl))
structure SetAt (CS : Addr) (H : Hp) (s pl : Addr) (st : Vamete.State) : Prop where
  ins : ∃ dx, H s = some (.ins CS dx (sF st.places st.high pl))
  prs : ∃ p0 p1, H pl = some (.lst [.ref p0, .ref p1]) ∧ ProgAt H p0 st.first ∧ ProgAt H p1 st.second
  n4 : st.places ≤ 4
  h9 : st.high ≤ 9
  few : Vamete.countOf st.places st.high ≤ 130
theorem SetAt.same {CS : Addr} {H H' : Hp} {s pl : Addr} {st : Vamete.State} (h : SetAt CS H s pl st) (e : Same H H') : SetAt CS H' s pl st := by
  obtain ⟨dx, q⟩ := h.ins
  obtain ⟨p0, p1, q1, q2, q3⟩ := h.prs
  exact ⟨⟨dx, e _ _ q⟩, ⟨p0, p1, e _ _ q1, q2.map fun u xs z => e _ _ z, q3.map fun u xs z => e _ _ z⟩, h.n4, h.h9, h.few⟩
/-- the reader alone has changed -/
theorem SetAt.chg {CS : Addr} {H H' : Hp} {s pl : Addr} {st : Vamete.State} {a : Addr} (h : SetAt CS H s pl st) (e : Chg [a] H H') (hs : s ≠ a) (ha : ∃ C dx fs, H a = some (.ins C dx fs)) : SetAt CS H' s pl st := by
  obtain ⟨dx, q⟩ := h.ins
  obtain ⟨p0, p1, q1, q2, q3⟩ := h.prs
  obtain ⟨C, dy, fs, qa⟩ := ha
  have n1 : ∀ b ∈ [a], ∃ C dx fs, H b = some (.ins C dx fs) := fun b hb => ⟨C, dy, fs, by rw [List.mem_singleton.mp hb]; exact qa⟩
  refine ⟨⟨dx, e _ _ (by simpa using hs) q⟩, ⟨p0, p1, e _ _ ?_ q1, q2.map fun u xs z => e.tupI n1 z, q3.map fun u xs z => e.tupI n1 z⟩, h.n4, h.h9, h.few⟩
  intro z
  rw [List.mem_singleton.mp z, qa] at q1
  cases q1
structure TxS (K : PySem.W.Frag) (mg : Str → Option Value) (CS : Addr) : Prop where
  cl : Cls K CS
  nN : NoAttr K CS "places"
  nH : NoAttr K CS "height"
  nP : NoAttr K CS "programs"
  gS : mg "Setting" = some (.ref CS)
def spSInit (CS : Addr) : Sp := fun vs H Q _ => ∃ (s dx : Addr), vs = [.ref s] ∧ H s = some (.ins CS dx []) ∧
  ∀ (H' : Hp) (pl : Addr), H pl = none → SetAt CS H' s pl Vamete.start → Chg [s] H H' → Q .non H'
def isT (st : Vamete.State) (k : Int) : Bool := decide (0 ≤ k ∧ k < (((Vamete.allTurns st.places).length : Nat) : Int))
def spAreTurns (K : PySem.W.Frag) (CS : Addr) : Sp := fun vs H Q _ => ∃ (s pl l : Addr) (st : Vamete.State) (ks : List Int), vs = [.ref s, .ref l] ∧ SetAt CS H s pl st ∧ SqL K H l (ks.map V.int) ∧ ks.length ≤ 2000 ∧ ∀ H', Same H H' → Q (.bl (ks.all (isT st))) H'
def spTurnsOf (K : PySem.W.Frag) (CS : Addr) : Sp := fun vs H Q _ => ∃ (s pl l : Addr) (st : Vamete.State) (ks : List Int), vs = [.ref s, .ref l] ∧ SetAt CS H s pl st ∧ SqL K H l (ks.map V.int) ∧ ks.length ≤ 2000 ∧
  ∀ H' r ts, H r = none → Same H H' → H' r = some (.lst (ts.map V.ref)) → RowsAt H' ts (ks.map (Vm.turnL st.places)) → Q (.ref r) H'
section
variable {P : Program} {w : World} {K : PySem.W.Frag} {mg : Str → Option Value} {base : Heap} {CS : Addr}
theorem scSI : FnScope ["self"] ["self"] (defScope sSInit) := ⟨rfl, rfl, rfl, by decide +kernel, rfl, by decide +kernel, by decide +kernel⟩
theorem ok_sinit {f : Addr} {fd : FuncData} (F : Fun K "__init__" "Setting.__init__" sSInit f fd) (T : TxS K mg CS) : FnOk P w K mg base CX0 1 f fd ["self"] (spSInit CS) := by
  refine F.ok scSI (fun vs H Q E h => ?_) (fun cdv A outer s H vs Q E hr h => ⟨_, pss_cons (ps_fld (pv 0) pe_int rfl) (pss_cons (ps_fld (pv 0) pe_int rfl)
    (pss_one (ps_fld (pv 0) (pe_lst (pa_cons (pe_tup pa_nil) (pa_cons (pe_tup pa_nil) pa_nil))) rfl))), ?_⟩)
  · obtain ⟨p, dx, rfl, _⟩ := h
    rfl
  · obtain ⟨p, dx, rfl, hp, k⟩ := h
    refine ⟨_, rfl, p, CS, dx, _, rfl, hp, T.cl, T.nN, (by show 0 < 1000; decide), ?_⟩
    refine ⟨_, rfl, p, CS, dx, _, rfl, upd_same, T.cl, T.nH, (by show 1 < 1000; decide), ?_⟩
    refine ⟨Nat.zero_le _, fun t0 h0 => ⟨Nat.zero_le _, fun t1 h1 => ⟨by show 2 ≤ sizeLine; decide, fun l hl => ?_⟩⟩⟩
    have n0 : t0 ≠ p := fun z => by rw [z, upd_same] at h0; cases h0
    have n1 : t1 ≠ t0 := fun z => by rw [z, upd_same] at h1; cases h1
    have n1p : t1 ≠ p := fun z => by rw [z, upd_ne n0.symm, upd_same] at h1; cases h1
    have nl1 : l ≠ t1 := fun z => by rw [z, upd_same] at hl; cases hl
    have nl0 : l ≠ t0 := fun z => by rw [z, upd_ne n1.symm, upd_same] at hl; cases hl
    have nlp : l ≠ p := fun z => by rw [z, upd_ne n1p.symm, upd_ne n0.symm, upd_same] at hl; cases hl
    have hln : H l = none := by
      rw [upd_ne nl1, upd_ne nl0, upd_ne nlp, upd_ne nlp] at hl
      exact hl
    have h0n : H t0 = none := by
      rw [upd_ne n0, upd_ne n0] at h0
      exact h0
    have h1n : H t1 = none := by
      rw [upd_ne n1, upd_ne n1p, upd_ne n1p] at h1
      exact h1
    refine ⟨_, rfl, p, CS, dx, _, rfl, by rw [upd_ne nlp.symm, upd_ne n1p.symm, upd_ne n0.symm, upd_same], T.cl, T.nP, (by show 2 < 1000; decide), ?_⟩
    refine k _ l hln ⟨⟨dx, ?_⟩, ⟨t0, t1, ?_, ⟨[], ?_, trivial, Nat.zero_le _, fun s hs => by cases hs⟩, ⟨[], ?_, trivial, Nat.zero_le _, fun s hs => by cases hs⟩⟩, by decide, by decide, by decide⟩ ?_
    · rw [upd_same]
      exact congrArg (fun q => some (HO.ins CS dx q)) (sF_new l)
    · rw [upd_ne nlp, upd_same]
    · rw [upd_ne n0, upd_ne nl0.symm, upd_ne n1.symm, upd_same]
      rfl
    · rw [upd_ne n1p, upd_ne nl1.symm, upd_same]
      rfl
    · refine Chg.trans ?_ (Chg.put (by simp))
      intro b o nb q
      have nb' : b ≠ p := by simpa using nb
      rw [upd_ne (ne_of_none q hln), upd_ne (ne_of_none q h1n), upd_ne (ne_of_none q h0n), upd_ne nb', upd_ne nb']
      exact q
theorem scAT : FnScope ["setting", "numbers", "number"] ["setting", "numbers"] (defScope sAreTurns) := ⟨rfl, rfl, rfl, by decide +kernel, rfl, by decide +kernel, by decide +kernel⟩
theorem ok_areTurns {f fI : Addr} {fd fdI : FuncData} (F : Fun K "are_turns" "are_turns" sAreTurns f fd) (T : TxS K mg CS) (gAll : mg "all" = none)
    (GI : FnOk P w K mg base CX0 2 fI fdI ["places", "number"] spIsTurn) (bI : Binds K fdI ["places", "number"] []) (gI : mg "is_turn" = some (.ref fI)) (kI : PySem.W.keepIn K (.ref fI) = true) :
    FnOk P w K mg base CX0 3 f fd ["setting", "numbers"] (spAreTurns K CS) := by
  refine F.ok scAT (fun vs H Q E h => ?_) (fun cdv A outer s H vs Q E hr h => ⟨_, pss_one (ps_ret (pe_callB (cr_all rfl) (by rfl) gAll (by decide +kernel) (pa_cons
      (pe_lc (own := [("number", 2)]) (g := gName 2) (tt := tYes) rfl scAT.nd (pi_list (pv 1)) (blkOk_by (N := ["setting", "numbers", "number"]) (sc := defScope sAreTurns) (by decide +kernel)) (fun _ _ _ _ _ => pg_name (i := 2) scAT.nd rfl (Or.inl rfl)) (fun _ _ _ _ _ => pts_nil)
        (fun _ _ _ _ _ => pe_call GI hr rfl gI kI bI .nil pass0 (pa_cons (peF K (pv 0) rfl) (pa_cons (pv 2) pa_nil)))) pa_nil))), ?_⟩)
  · obtain ⟨s, pl, l, st, ks, rfl, _⟩ := h
    rfl
  · obtain ⟨s, pl, l, st, ks, rfl, hS, hl, hlen, k⟩ := h
    obtain ⟨dx, es⟩ := hS.ins
    refine ⟨_, rfl, l, rfl, ⟨_, hl⟩, fun D hD => lc_list (K := K) (a := l) (xs := ks.map V.int) (fun i H' => Same H H' ∧ H' D = some (.lst (((ks.take i).map (isT st)).map V.bl)))
      ⟨Same.new hD, upd_same⟩ (fun i H' _ h => h.1.seq hl) ?_ ?_⟩
    · rintro i y H2 hy ⟨s2, d2⟩
      obtain ⟨e, he, rfl⟩ := vget hy
      refine ⟨rfl, _, rfl, s, CS, dx, _, _, rfl, s2 _ _ es, T.cl, T.nN, sF_pl _ _ _, _, rfl, st.places, e, rfl, hS.n4, _, d2, ?_, Same.at_new s2 hD, ?_⟩
      · rw [List.length_map, List.length_map, List.length_take]
        exact small1000' (by omega)
      · rw [upd_same, take_more he, List.map_append, List.map_append]
        rfl
    · rintro H2 ⟨s2, d2⟩
      rw [List.length_map, List.take_length] at d2
      refine ⟨D, ks.map (isT st), rfl, SqL.of d2, ?_⟩
      have := k H2 s2
      rw [List.all_map]
      exact this
theorem scTs : FnScope ["setting", "numbers", "number"] ["setting", "numbers"] (defScope sTurnsOf) := ⟨rfl, rfl, rfl, by decide +kernel, rfl, by decide +kernel, by decide +kernel⟩
theorem ok_turnsOf {f fI : Addr} {fd fdI : FuncData} (F : Fun K "turns_of" "turns_of" sTurnsOf f fd) (T : TxS K mg CS)
    (GI : FnOk P w K mg base CX0 2 fI fdI ["places", "number"] spTurnOf) (bI : Binds K fdI ["places", "number"] []) (gI : mg "turn_of" = some (.ref fI)) (kI : PySem.W.keepIn K (.ref fI) = true) :
    FnOk P w K mg base CX0 3 f fd ["setting", "numbers"] (spTurnsOf K CS) := by
  refine F.ok scTs (fun vs H Q E h => ?_) (fun cdv A outer s H vs Q E hr h => ⟨_, pss_one (ps_ret
      (pe_lc (own := [("number", 2)]) (g := gName 2) (tt := tYes) rfl scTs.nd (pi_list (pv 1)) (blkOk_by (N := ["setting", "numbers", "number"]) (sc := defScope sTurnsOf) (by decide +kernel)) (fun _ _ _ _ _ => pg_name (i := 2) scTs.nd rfl (Or.inl rfl)) (fun _ _ _ _ _ => pts_nil)
        (fun _ _ _ _ _ => pe_call GI hr rfl gI kI bI .nil pass0 (pa_cons (peF K (pv 0) rfl) (pa_cons (pv 2) pa_nil))))), ?_⟩)
  · obtain ⟨s, pl, l, st, ks, rfl, _⟩ := h
    rfl
  · obtain ⟨s, pl, l, st, ks, rfl, hS, hl, hlen, k⟩ := h
    obtain ⟨dx, es⟩ := hS.ins
    refine ⟨_, rfl, l, rfl, ⟨_, hl⟩, fun D hD => lc_list (K := K) (a := l) (xs := ks.map V.int) (fun i H' => ∃ ts : List Addr, Same H H' ∧ H' D = some (.lst (ts.map V.ref)) ∧ RowsAt H' ts ((ks.take i).map (Vm.turnL st.places)))
      ⟨[], Same.new hD, upd_same, trivial⟩ (fun i H' _ h => by obtain ⟨_, q, _⟩ := h; exact q.seq hl) ?_ ?_⟩
    · rintro i y H2 hy ⟨ts, s2, d2, r2⟩
      obtain ⟨e, he, rfl⟩ := vget hy
      refine ⟨rfl, _, rfl, s, CS, dx, _, _, rfl, s2 _ _ es, T.cl, T.nN, sF_pl _ _ _, _, rfl, st.places, e, rfl, hS.n4, fun H3 t ht s3 h3 => ?_⟩
      have d3 := s3 _ _ d2
      refine ⟨_, d3, ?_, ts ++ [t], Same.at_new (s2.trans s3) hD, by rw [upd_same, List.map_append]; rfl, ?_⟩
      · rw [List.length_map, r2.length, List.length_map, List.length_take]
        exact small1000' (by omega)
      · have kt : ∀ a xs, H3 a = some (.tup xs) → (upd H3 D (.lst (ts.map V.ref ++ [V.ref t]))) a = some (.tup xs) := fun a xs q => by
          rw [upd_ne (fun z => by rw [z, d3] at q; cases q)]
          exact q
        rw [take_more he, List.map_append]
        exact RowsAt.snoc (kt _ _ h3) (r2.map fun a xs q => kt _ _ (s3 _ _ q))
    · rintro H2 ⟨ts, s2, d2, r2⟩
      rw [List.length_map, List.take_length] at r2
      exact k H2 D ts hD s2 d2 r2
end
end Tg
set_option Elab.async false
set_option linter.all false
set_option maxRecDepth 100000
set_option maxHeartbeats 4000000
namespace Tg
open PySem PySem.Spec PyProof.Rows L2
abbrev sSize : Stmt := top 93
abbrev sPgm : Stmt := top 94
abbrev sTurn : Stmt := top 95
abbrev sCompose : Stmt := top 96
abbrev sBack : Stmt := top 97
abbrev sGenerated : Stmt := top 98
abbrev sOrbit : Stmt := top 99
/-- what the def of the call num does: the call is read off the reader, answered by a new list, the setting is as the specification says -/
def spAns (K : PySem.W.Frag) (CR CS : Addr) (num : Int) : Sp := fun vs H Q _ => ∃ (s pl a l : Addr) (st : Vamete.State) (ns : List Int) (p : Nat) (c : List (List Int)) (rest : List Int), vs = [.ref s, .ref a] ∧ SetAt CS H s pl st ∧ Rdr K CR H a l ns p ∧ ns.length ≤ 2000 ∧
  PyFlat.call PyVamete.shape (num :: ns.drop p) = some (c, rest) ∧
  ∀ (H' : Hp) (r : Addr) (q : Nat), H r = none → SetAt CS H' s pl (VameteNeutral.step st (PyVamete.whole c)).1 → Rdr K CR H' a l ns q → ns.drop q = rest → Chg [s, a, pl] H H' → H' r = some (.lst ((VameteNeutral.step st (PyVamete.whole c)).2.map V.int)) → Q (.ref r) H'
theorem set_ne {K : PySem.W.Frag} {CS CR : Addr} {H : Hp} {s pl a l : Addr} {st : Vamete.State} {ns : List Int} {p : Nat} (h : SetAt CS H s pl st) (r : Rdr K CR H a l ns p) : s ≠ a ∧ pl ≠ a ∧ pl ≠ s := by
  obtain ⟨dx, e⟩ := h.ins
  obtain ⟨_, _, e2, _⟩ := h.prs
  obtain ⟨dy, e3⟩ := r.at_
  refine ⟨fun z => ?_, fun z => ?_, fun z => ?_⟩
  · rw [z, e3] at e
    have h1 := congrArg List.length (HO.ins.inj (Option.some.inj e)).2.2
    simp [rF, sF] at h1
  · rw [z, e3] at e2
    cases e2
  · rw [z, e] at e2
    cases e2
theorem Rdr.insE {K : PySem.W.Frag} {CR : Addr} {H : Hp} {a l : Addr} {ns : List Int} {p : Nat} (r : Rdr K CR H a l ns p) : ∃ C dx fs, H a = Option.some (.ins C dx fs) := r.ins a (by simp)
/-- [v] handed back, as a new list: the last step of a refusal and of many answers -/
theorem Chg.some3 {K : PySem.W.Frag} {CS CR : Addr} {H' : Hp} {s pl a l : Addr} {st : Vamete.State} {ns : List Int} {p : Nat} (h : SetAt CS H' s pl st) (r : Rdr K CR H' a l ns p) : ∀ b ∈ [s, a, pl], H' b ≠ none := by
  obtain ⟨dx, e⟩ := h.ins
  obtain ⟨_, _, e2, _⟩ := h.prs
  obtain ⟨dy, e3⟩ := r.at_
  intro b hb
  rcases (show b = s ∨ b = a ∨ b = pl by simpa using hb) with z | z | z
  · rw [z, e]; exact Option.some_ne_none _
  · rw [z, e3]; exact Option.some_ne_none _
  · rw [z, e2]; exact Option.some_ne_none _
/-- the end of a def of a call: the new list at r -/
theorem ends {K : PySem.W.Frag} {CS CR : Addr} {H H1 : Hp} {s pl a l : Addr} {st : Vamete.State} {ns rest : List Int} {q : Nat} {ans : List Int} {Q : VK}
    (k : ∀ (H' : Hp) (r : Addr) (q : Nat), H r = none → SetAt CS H' s pl st → Rdr K CR H' a l ns q → ns.drop q = rest → Chg [s, a, pl] H H' → H' r = some (.lst (ans.map V.int)) → Q (.ref r) H')
    (hS : SetAt CS H1 s pl st) (R : Rdr K CR H1 a l ns q) (hq : ns.drop q = rest) (c : Chg [s, a, pl] H H1) (r : Addr) (hr : H1 r = none) : Q (.ref r) (upd H1 r (.lst (ans.map V.int))) :=
  k _ r q (c.free (Chg.some3 hS R) hr) (hS.same (Same.new hr)) (R.same (Same.new hr)) hq (c.trans (Chg.new hr)) upd_same
section
variable {P : Program} {w : World} {K : PySem.W.Frag} {mg : Str → Option Value} {base : Heap} {CR CN CS : Addr}
theorem scSz : FnScope ["setting", "reader", "places", "height", "rows"] ["setting", "reader"] (defScope sSize) := ⟨rfl, rfl, rfl, by decide +kernel, rfl, by decide +kernel, by decide +kernel⟩
theorem ok_size {f fR fC : Addr} {fd fdR fdC : FuncData} (F : Fun K "answer_size" "answer_size" sSize f fd) (M : MkR K P w mg base CR CN) (TS : TxS K mg CS)
    (GR : FnOk P w K mg base CX0 1 fR fdR ["places", "height"] spRowCount) (bR : Binds K fdR ["places", "height"] []) (gR : mg "row_count" = some (.ref fR)) (kR : PySem.W.keepIn K (.ref fR) = true)
    (GC : FnOk P w K mg base CX0 1 fC fdC ["places"] spTurnCount) (bC : Binds K fdC ["places"] []) (gC : mg "turn_count" = some (.ref fC)) (kC : PySem.W.keepIn K (.ref fC) = true) :
    FnOk P w K mg base CX0 8 f fd ["setting", "reader"] (spAns K CR CS 0) := by
  have T := M.T
  obtain ⟨fT, fdT, GT, bT, mT⟩ := M.taken
  refine F.ok scSz (fun vs H Q E h => ?_) (fun cdv A outer s H vs Q E hr h => ⟨_, pss_cons (ps_set (i := 2) scSz.nd rfl (Or.inl rfl) (pe_meth0 (pv 1) T.cl mT GT (hr.mono (by decide)) bT .nil passL))
    (pss_cons (ps_set (i := 3) scSz.nd rfl (Or.inl rfl) (pe_meth0 (pv 1) T.cl mT GT (hr.mono (by decide)) bT .nil passL))
    (pss_cons (ps_if (PW.pt (pw_or (pt_cmpR op_lt (pv 2) pe_int (nomark _)) (pw_or (pt_cmpR op_gt (pv 2) pe_int (nomark _)) (pw_or (pt_cmpR op_lt (pv 3) pe_int (nomark _)) (pw_or1 (pt_cmpR op_gt (pv 3) pe_int (nomark _)))))))
      (pss_one (ps_ret (pe_lst (pa_cons (pe_un un_neg pe_int) pa_nil)))) pss_nil)
    (pss_cons (ps_set (i := 4) scSz.nd rfl (Or.inl rfl) (pe_call GR (hr.mono (by decide)) rfl gR kR bR .nil pass0 (pa_cons (pv 2) (pa_cons (pv 3) pa_nil))))
    (pss_cons (ps_if (pt_cmpR op_gt (pv 4) pe_int (nomark _)) (pss_one (ps_ret (pe_lst (pa_cons (pe_un un_neg pe_int) pa_nil)))) pss_nil)
    (pss_cons (ps_fld (pv 0) (pv 2) rfl)
    (pss_cons (ps_fld (pv 0) (pv 3) rfl)
    (pss_one (ps_ret (pe_lst (pa_cons (pv 4) (pa_cons (pe_call GC (hr.mono (by decide)) rfl gC kC bC .nil pass0 (pa_cons (pv 2) pa_nil)) pa_nil))))))))))), ?_⟩)
  · obtain ⟨s, pl, a, l, st, ns, p, c, rest, rfl, _⟩ := h
    rfl
  · obtain ⟨s, pl, a, l, st, ns, p, c, rest, rfl, hS, R, hl, hc, k⟩ := h
    obtain ⟨x, y, hd, rfl⟩ := Vm.call20 rfl hc
    obtain ⟨hx, hd1, _⟩ := Vm.drop_cons hd
    obtain ⟨hy, hd2, hp2⟩ := Vm.drop_cons hd1
    have ew : VameteNeutral.step st (PyVamete.whole [[0, x, y]]) = Vamete.step st (.size x y) := Vm.step_some rfl
    rw [ew] at k
    obtain ⟨nsa, npa, nps⟩ := set_ne hS R
    obtain ⟨dx, e⟩ := id R.at_
    refine ⟨_, rfl, a, dx, _, rfl, e, rF_taken l p, a, l, ns, p, rfl, R, fun v hv H1 R1 c1 => ?_, fun hz => absurd (hx.symm.trans hz) (by simp)⟩
    rw [hx] at hv
    cases hv
    obtain ⟨dx1, e1⟩ := id R1.at_
    refine ⟨_, rfl, a, dx1, _, rfl, e1, rF_taken l _, a, l, ns, p + 1, rfl, R1, fun v hv H2 R2 c2 => ?_, fun hz => absurd (hy.symm.trans hz) (by simp)⟩
    rw [hy] at hv
    cases hv
    have c12 : Chg [a] H H2 := c1.trans c2
    have S2 : SetAt CS H2 s pl st := hS.chg c12 nsa R.insE
    have c3 : Chg [s, a, pl] H H2 := c12.mono (by intro b hb; rw [List.mem_singleton.mp hb]; simp)
    have bad : ¬ (0 ≤ x ∧ x ≤ 4 ∧ 0 ≤ y ∧ y ≤ 9) → ∀ r, H2 r = none → Q (.ref r) (upd H2 r (.lst [.int (-1)])) := fun hb r hr => by
      rw [Vm.step_size_bad hb] at k
      exact ends k S2 R2 hd2 c3 r hr
    refine ⟨_, rfl, _, _, rfl, rfl, _, rfl, ?_⟩
    refine if_2 (fun q => if_t rfl ⟨_, rfl, by show 1 ≤ sizeLine; decide, bad (by have := of_decide_eq_true q; omega)⟩) fun q1 => ?_
    refine ⟨_, rfl, _, _, rfl, rfl, _, rfl, ?_⟩
    refine if_2 (fun q => if_t rfl ⟨_, rfl, by show 1 ≤ sizeLine; decide, bad (by have := of_decide_eq_true q; omega)⟩) fun q2 => ?_
    refine ⟨_, rfl, _, _, rfl, rfl, _, rfl, ?_⟩
    refine if_2 (fun q => if_t rfl ⟨_, rfl, by show 1 ≤ sizeLine; decide, bad (by have := of_decide_eq_true q; omega)⟩) fun q3 => ?_
    refine ⟨_, rfl, _, _, rfl, rfl, _, rfl, ?_⟩
    refine if_2 (fun q => ⟨_, rfl, by show 1 ≤ sizeLine; decide, bad (by have := of_decide_eq_true q; omega)⟩) fun q4 => ?_
    have q1' := of_decide_eq_false q1
    have q2' := of_decide_eq_false q2
    have q3' := of_decide_eq_false q3
    have q4' := of_decide_eq_false q4
    obtain ⟨n, rfl⟩ : ∃ n : Nat, x = (n : Int) := ⟨x.toNat, by omega⟩
    obtain ⟨h, rfl⟩ : ∃ h : Nat, y = (h : Int) := ⟨y.toNat, by omega⟩
    have hn : n ≤ 4 := by omega
    have hh : h ≤ 9 := by omega
    rw [Vm.step_size hn hh] at k
    refine ⟨_, rfl, _, rfl, n, h, rfl, hn, hh, ?_⟩
    refine ⟨_, rfl, _, _, rfl, rfl, _, rfl, ?_⟩
    refine if_2 (fun q => ?_) fun q => ?_
    · have q' : 130 < Vamete.countOf n h := by
        have := of_decide_eq_true q
        show 130 < (2 * h + 1) ^ n
        omega
      rw [if_pos q'] at k
      exact ⟨_, rfl, by show 1 ≤ sizeLine; decide, fun r hr => ends k S2 R2 hd2 c3 r hr⟩
    · have q' : ¬ 130 < Vamete.countOf n h := by
        have := of_decide_eq_false q
        show ¬ 130 < (2 * h + 1) ^ n
        omega
      rw [if_neg q'] at k
      obtain ⟨ds, es⟩ := S2.ins
      obtain ⟨p0, p1, ep, P0, P1⟩ := S2.prs
      refine ⟨_, rfl, _, rfl, s, CS, ds, _, rfl, es, TS.cl, TS.nN, (by show 3 < 1000; decide), ?_⟩
      refine ⟨_, rfl, _, rfl, s, CS, ds, _, rfl, upd_same, TS.cl, TS.nH, (by rw [sF_putn]; show 3 < 1000; decide), ?_⟩
      rw [sF_putn, sF_puth]
      have kt : ∀ u xs, H2 u = some (.tup xs) → (upd (upd H2 s (.ins CS ds (sF n st.high pl))) s (.ins CS ds (sF n h pl))) u = some (.tup xs) := fun u xs z => by
        have : u ≠ s := fun q => by rw [q, es] at z; cases z
        rw [upd_ne this, upd_ne this]
        exact z
      have S3 : SetAt CS (upd (upd H2 s (.ins CS ds (sF n st.high pl))) s (.ins CS ds (sF n h pl))) s pl { st with places := n, high := h } :=
        ⟨⟨ds, upd_same⟩, ⟨p0, p1, by rw [upd_ne nps, upd_ne nps]; exact ep, P0.map kt, P1.map kt⟩, hn, hh, by show Vamete.countOf n h ≤ 130; omega⟩
      have c4 : Chg [s, a, pl] H (upd (upd H2 s (.ins CS ds (sF n st.high pl))) s (.ins CS ds (sF n h pl))) := (c3.trans (Chg.put (by simp))).trans (Chg.put (by simp))
      have R3 : Rdr K CR (upd (upd H2 s (.ins CS ds (sF n st.high pl))) s (.ins CS ds (sF n h pl))) a l ns (p + 1 + 1) := by
        obtain ⟨dr, er⟩ := R2.at_
        have cI : Chg [s] H2 (upd (upd H2 s (.ins CS ds (sF n st.high pl))) s (.ins CS ds (sF n h pl))) := (Chg.put (by simp)).trans (Chg.put (by simp))
        exact ⟨⟨dr, by rw [upd_ne nsa.symm, upd_ne nsa.symm]; exact er⟩, cI.sqI (fun b hb => ⟨CS, ds, sF st.places st.high pl, by rw [List.mem_singleton.mp hb]; exact es⟩) R2.sq, R2.le⟩
      refine ⟨_, rfl, _, rfl, n, rfl, hn, by show 2 ≤ sizeLine; decide, fun r hr => ?_⟩
      exact ends k S3 R3 hd2 c4 r hr
end
end Tg
set_option Elab.async false
set_option linter.all false
set_option maxRecDepth 100000
set_option maxHeartbeats 4000000
namespace Tg
open PySem PySem.Spec PyProof.Rows L2
section
variable {P : Program} {w : World} {K : PySem.W.Frag} {mg : Str → Option Value} {base : Heap} {CR CN CS : Addr}
theorem chg3 {s a pl : Addr} {H H' : Hp} (c : Chg [a] H H') : Chg [s, a, pl] H H' := c.mono (by intro b hb; rw [List.mem_singleton.mp hb]; simp)
theorem sq_off {H : Hp} {l pl p0 : Addr} {xs : List V} {ns : List Int} {o : HO} (h : SqL K H l (ns.map V.int)) (e : H pl = some (.lst (.ref p0 :: xs))) : SqL K (upd H pl o) l (ns.map V.int) := by
  rcases h with (h | ⟨ob, h⟩) | h
  · refine .inl (.inl ?_)
    rw [upd_ne (fun z => ?_)]
    · exact h
    · rw [z, e] at h
      match ns, h with
      | [], h => cases h
      | n :: ns, h => cases h
  · refine .inl (.inr ⟨ob, ?_⟩)
    rw [upd_ne (fun z => by rw [z, e] at h; cases h)]
    exact h
  · exact .inr h
theorem scPg : FnScope ["setting", "reader", "which", "numbers", "program"] ["setting", "reader"] (defScope sPgm) := ⟨rfl, rfl, rfl, by decide +kernel, rfl, by decide +kernel, by decide +kernel⟩
theorem ok_pgm {f fW : Addr} {fd fdW : FuncData} (F : Fun K "answer_program" "answer_program" sPgm f fd) (M : MkR K P w mg base CR CN) (TS : TxS K mg CS)
    (GW : FnOk P w K mg base (L2.CX P w) 7 fW fdW ["numbers"] (spWholeProg K CN)) (bW : Binds K fdW ["numbers"] []) (gW : mg "whole_program" = some (.ref fW)) (kW : PySem.W.keepIn K (.ref fW) = true) :
    FnOk P w K mg base CX0 8 f fd ["setting", "reader"] (spAns K CR CS 1) := by
  have T := M.T
  obtain ⟨fT, fdT, GT, bT, mT⟩ := M.taken
  obtain ⟨fC, fdC, GC, bC, mC⟩ := M.counted
  refine F.ok scPg (fun vs H Q E h => ?_) (fun cdv A outer s H vs Q E hr h => ⟨_, pss_cons (ps_set (i := 2) scPg.nd rfl (Or.inl rfl) (pe_meth0 (pv 1) T.cl mT GT (hr.mono (by decide)) bT .nil passL))
    (pss_cons (ps_set (i := 3) scPg.nd rfl (Or.inl rfl) (pe_meth0 (pv 1) T.cl mC GC (hr.mono (by decide)) bC .nil pass0))
    (pss_cons (ps_try_only (tb := fun W => tAsg (tCallS (spWholeProg K CN) (WE W) (tCons (tVar 3) tNil)) (gName 4)) (ts := fun _ _ _ => tRet (tLst (tCons (tUn (rU fun i => .int (-i)) (tC (.int 1))) tNil))) (Wout := fun _ _ _ _ => False) rfl rfl ⟨rfl, by decide, .inl T.gN⟩ takes0
        (fun W pn xe tk _ => pss_one (ps_set (i := 4) scPg.nd rfl (Or.inl rfl) (pe_callS GW hr rfl gW kW bW (fun σ => passAt tk σ) (pa_cons (pv 3) pa_nil))))
        (fun _ _ _ _ _ _ _ => pss_one (ps_ret (pe_lst (pa_cons (pe_un un_neg pe_int) pa_nil)))))
    (pss_cons (ps_if (PW.pt (pw_and (pt_cmpR op_ne (pv 2) pe_int (nomark _)) (pw_and1 (pt_cmpR op_ne (pv 2) pe_int (nomark _))))) (pss_one (ps_ret (pe_lst (pa_cons (pe_un un_neg pe_int) pa_nil)))) pss_nil)
    (pss_cons (ps_asg (pv 4) (pg_sub (pe_fld (pv 0) rfl) (pv 2) set_list))
    (pss_one (ps_ret (pe_lst (pa_cons (pe_callB call_len_seq (by rfl) T.len PySem.boot_len (pa_cons (pv 4) pa_nil)) pa_nil)))))))), ?_⟩)
  · obtain ⟨s, pl, a, l, st, ns, p, c, rest, rfl, _⟩ := h
    rfl
  · obtain ⟨s, pl, a, l, st, ns, p, c, rest, rfl, hS, R, hl, hc, k⟩ := h
    obtain ⟨x, xs, hd, rfl⟩ := Vm.call11 rfl hc
    obtain ⟨hx, hd1, _⟩ := Vm.drop_cons hd
    obtain ⟨hy, hd2, hp2⟩ := Vm.drop_cons hd1
    obtain ⟨ht2, hd3, hp3⟩ := Vm.drop_app hd2 hp2
    have ew : VameteNeutral.step st (PyVamete.whole [[1, x], xs]) = Vamete.step st (.program x xs) := Vm.step_some rfl
    rw [ew] at k
    obtain ⟨nsa, npa, nps⟩ := set_ne hS R
    obtain ⟨dx, e⟩ := id R.at_
    refine ⟨_, rfl, a, dx, _, rfl, e, rF_taken l p, a, l, ns, p, rfl, R, fun v hv H1 R1 c1 => ?_, fun hz => absurd (hx.symm.trans hz) (by simp)⟩
    rw [hx] at hv
    cases hv
    obtain ⟨dx1, e1⟩ := id R1.at_
    refine ⟨_, rfl, a, dx1, _, rfl, e1, rF_counted l _, a, l, ns, p + 1, xs.length, rfl, R1, hy, hp3, hl, fun H2 n2 hn2 R2 c2 h2 => ?_⟩
    rw [ht2] at h2
    have c12 : Chg [a] H H2 := c1.trans c2
    have S2 : SetAt CS H2 s pl st := hS.chg c12 nsa R.insE
    refine ⟨_, rfl, n2, xs, rfl, SqL.of h2, fun pr hpr H3 t ht s3 P3 => ?_, fun hno H3 s3 => ?_⟩
    · have S3 := S2.same s3
      have R3 := R2.same s3
      have c3 : Chg [s, a, pl] H H3 := (chg3 c12).trans (Chg.of s3)
      rw [Vm.step_program hpr] at k
      refine ⟨_, rfl, rfl, _, rfl, ?_⟩
      obtain ⟨ds, es⟩ := S3.ins
      obtain ⟨p0, p1, ep, P0, P1⟩ := S3.prs
      obtain ⟨us, ht3, hus, _⟩ := id P3
      -- the store and the answer, once which is 0 or 1
      have fin : ∀ (j : Nat) (q0 q1 : Addr) (st' : Vamete.State), ([V.ref p0, V.ref p1].set j (.ref t)) = [.ref q0, .ref q1] → st'.places = st.places → st'.high = st.high → ProgAt H3 q0 st'.first → ProgAt H3 q1 st'.second →
          (∀ (H' : Hp) (r : Addr) (q : Nat), H r = none → SetAt CS H' s pl st' → Rdr K CR H' a l ns q → ns.drop q = rest → Chg [s, a, pl] H H' → H' r = some (.lst ([((pr.length : Nat) : Int)].map V.int)) → Q (.ref r) H') →
          ∀ r, (upd H3 pl (.lst ([V.ref p0, V.ref p1].set j (.ref t)))) r = none → Q (.ref r) (upd (upd H3 pl (.lst ([V.ref p0, V.ref p1].set j (.ref t)))) r (.lst [.int ((us.map V.ref).length : Nat)])) := by
        intro j q0 q1 st' e1 e2 e3 Q0 Q1 k' r hr
        have kt : ∀ u ys, H3 u = some (.tup ys) → (upd H3 pl (.lst ([V.ref p0, V.ref p1].set j (.ref t)))) u = some (.tup ys) := fun u ys z => by
          rw [upd_ne (fun q => by rw [q, ep] at z; cases z)]
          exact z
        have S4 : SetAt CS (upd H3 pl (.lst ([V.ref p0, V.ref p1].set j (.ref t)))) s pl st' :=
          ⟨⟨ds, by rw [upd_ne nps.symm, e2, e3]; exact es⟩, ⟨q0, q1, by rw [upd_same, e1], Q0.map kt, Q1.map kt⟩, by rw [e2]; exact S3.n4, by rw [e3]; exact S3.h9, by rw [e2, e3]; exact S3.few⟩
        have R4 : Rdr K CR (upd H3 pl (.lst ([V.ref p0, V.ref p1].set j (.ref t)))) a l ns (p + 1 + 1 + xs.length) := by
          obtain ⟨dr, er⟩ := R3.at_
          exact ⟨⟨dr, by rw [upd_ne npa.symm]; exact er⟩, sq_off R3.sq ep, R3.le⟩
        have el : (us.map V.ref).length = pr.length := by rw [List.length_map, hus.length]
        rw [el]
        exact ends k' S4 R4 hd3 (c3.trans (Chg.put (by simp))) r hr
      by_cases c0 : x = 0
      · subst c0
        rw [if_pos rfl] at k
        refine if_f (by decide) (if_f rfl ?_)
        refine ⟨_, rfl, _, rfl, s, CS, ds, _, _, rfl, es, TS.cl, TS.nP, sF_pr _ _ _, _, rfl, pl, _, _, 0, rfl, rfl, ep, rfl, ?_⟩
        refine ⟨_, rfl, t, _, rfl, .inr (SqT.of (by rw [upd_ne (fun q => by rw [q, ep] at ht3; cases ht3)]; exact ht3)), by show 1 ≤ sizeLine; decide, ?_⟩
        exact fin 0 t p1 { st with first := pr } rfl rfl rfl P3 P1 k
      · by_cases c1 : x = 1
        · subst c1
          rw [if_neg (by decide), if_pos rfl] at k
          refine if_t (by decide) ⟨_, rfl, rfl, _, rfl, if_f (by decide) ?_⟩
          refine ⟨_, rfl, _, rfl, s, CS, ds, _, _, rfl, es, TS.cl, TS.nP, sF_pr _ _ _, _, rfl, pl, _, _, 1, rfl, rfl, ep, rfl, ?_⟩
          refine ⟨_, rfl, t, _, rfl, .inr (SqT.of (by rw [upd_ne (fun q => by rw [q, ep] at ht3; cases ht3)]; exact ht3)), by show 1 ≤ sizeLine; decide, ?_⟩
          exact fin 1 p0 t { st with second := pr } rfl rfl rfl P0 P3 k
        · rw [if_neg c0, if_neg c1] at k
          have d0 : decide (V.int x = V.int 0) = false := decide_eq_false (fun q => c0 (by cases q; rfl))
          have d1 : decide (V.int x = V.int 1) = false := decide_eq_false (fun q => c1 (by cases q; rfl))
          refine if_t (by rw [d0]; rfl) ⟨_, rfl, rfl, _, rfl, if_t (by rw [d1]; rfl) ?_⟩
          exact ⟨_, rfl, by show 1 ≤ sizeLine; decide, fun r hr => ends k S3 R3 hd3 c3 r hr⟩
    · rw [Vm.step_program_bad hno] at k
      refine ⟨true, T.eN, fun _ a0 _ => ?_, fun q => Bool.noConfusion q⟩
      exact ⟨_, rfl, by show 1 ≤ sizeLine; decide, fun r hr => ends k (S2.same s3) (R2.same s3) hd3 ((chg3 c12).trans (Chg.of s3)) r hr⟩
end
end Tg
set_option Elab.async false
set_option linter.all false
set_option maxRecDepth 100000
set_option maxHeartbeats 4000000
namespace Tg
open PySem PySem.Spec PyProof.Rows L2
/-- the defs about turns, all at hand -/
structure Tns (K : PySem.W.Frag) (P : Program) (w : World) (mg : Str → Option Value) (base : Heap) (CS : Addr) : Prop where
  isTurn : ∃ (f : Addr) (fd : FuncData), FnOk P w K mg base CX0 2 f fd ["places", "number"] spIsTurn ∧ Binds K fd ["places", "number"] [] ∧ mg "is_turn" = some (.ref f) ∧ PySem.W.keepIn K (.ref f) = true
  turnOf : ∃ (f : Addr) (fd : FuncData), FnOk P w K mg base CX0 2 f fd ["places", "number"] spTurnOf ∧ Binds K fd ["places", "number"] [] ∧ mg "turn_of" = some (.ref f) ∧ PySem.W.keepIn K (.ref f) = true
  sources : ∃ (f : Addr) (fd : FuncData), FnOk P w K mg base CX0 1 f fd ["turn"] (spSources K) ∧ Binds K fd ["turn"] [] ∧ mg "sources_of" = some (.ref f) ∧ PySem.W.keepIn K (.ref f) = true
  signs : ∃ (f : Addr) (fd : FuncData), FnOk P w K mg base CX0 1 f fd ["turn"] (spSigns K) ∧ Binds K fd ["turn"] [] ∧ mg "signs_of" = some (.ref f) ∧ PySem.W.keepIn K (.ref f) = true
  numberOf : ∃ (f : Addr) (fd : FuncData), FnOk P w K mg base CX0 2 f fd ["turn"] (spNumberOf K) ∧ Binds K fd ["turn"] [] ∧ mg "number_of" = some (.ref f) ∧ PySem.W.keepIn K (.ref f) = true
  turned : ∃ (f : Addr) (fd : FuncData), FnOk P w K mg base CX0 1 f fd ["turn", "row"] (spTurned K) ∧ Binds K fd ["turn", "row"] [] ∧ mg "turned" = some (.ref f) ∧ PySem.W.keepIn K (.ref f) = true
  undone : ∃ (f : Addr) (fd : FuncData), FnOk P w K mg base CX0 1 f fd ["turn"] (spUndone K) ∧ Binds K fd ["turn"] [] ∧ mg "undone" = some (.ref f) ∧ PySem.W.keepIn K (.ref f) = true
  idle : ∃ (f : Addr) (fd : FuncData), FnOk P w K mg base CX0 1 f fd ["places"] spIdle ∧ Binds K fd ["places"] [] ∧ mg "idle_turn" = some (.ref f) ∧ PySem.W.keepIn K (.ref f) = true
  reached : ∃ (f : Addr) (fd : FuncData), FnOk P w K mg base CX0 2 f fd ["turns", "row"] (spReached K) ∧ Binds K fd ["turns", "row"] [] ∧ mg "reached" = some (.ref f) ∧ PySem.W.keepIn K (.ref f) = true
  areTurns : ∃ (f : Addr) (fd : FuncData), FnOk P w K mg base CX0 3 f fd ["setting", "numbers"] (spAreTurns K CS) ∧ Binds K fd ["setting", "numbers"] [] ∧ mg "are_turns" = some (.ref f) ∧ PySem.W.keepIn K (.ref f) = true
  turnsOf : ∃ (f : Addr) (fd : FuncData), FnOk P w K mg base CX0 3 f fd ["setting", "numbers"] (spTurnsOf K CS) ∧ Binds K fd ["setting", "numbers"] [] ∧ mg "turns_of" = some (.ref f) ∧ PySem.W.keepIn K (.ref f) = true
theorem not_t {b : Bool} (h : (!b) = true) : b = false := by cases b <;> simp_all
theorem not_f {b : Bool} (h : (!b) = false) : b = true := by cases b <;> simp_all
theorem isT_true {st : Vamete.State} {k : Int} (h : isT st k = true) : ∃ t, Vamete.turnAt st k = some t := by
  have := of_decide_eq_true h
  obtain ⟨t, ht, _⟩ := Vm.turnAt_of (s := st) this.1 this.2
  exact ⟨t, ht⟩
theorem isT_false {st : Vamete.State} {k : Int} (h : isT st k = false) : Vamete.turnAt st k = none := Vm.turnAt_none (of_decide_eq_false h)
section
variable {P : Program} {w : World} {K : PySem.W.Frag} {mg : Str → Option Value} {base : Heap} {CR CN CS : Addr}
theorem scTu : FnScope ["setting", "reader", "number", "turn"] ["setting", "reader"] (defScope sTurn) := ⟨rfl, rfl, rfl, by decide +kernel, rfl, by decide +kernel, by decide +kernel⟩
theorem ok_turn {f : Addr} {fd : FuncData} (F : Fun K "answer_turn" "answer_turn" sTurn f fd) (M : MkR K P w mg base CR CN) (TS : TxS K mg CS) (N : Tns K P w mg base CS) : FnOk P w K mg base CX0 8 f fd ["setting", "reader"] (spAns K CR CS 2) := by
  have T := M.T
  obtain ⟨fT, fdT, GT, bT, mT⟩ := M.taken
  obtain ⟨fI, fdI, GI, bI, gI, kI⟩ := N.isTurn
  obtain ⟨fO, fdO, GO, bO, gO, kO⟩ := N.turnOf
  obtain ⟨fS, fdS, GS, bS, gS, kS⟩ := N.sources
  obtain ⟨fG, fdG, GG, bG, gG, kG⟩ := N.signs
  refine F.ok scTu (fun vs H Q E h => ?_) (fun cdv A outer s H vs Q E hr h => ⟨_, pss_cons (ps_set (i := 2) scTu.nd rfl (Or.inl rfl) (pe_meth0 (pv 1) T.cl mT GT (hr.mono (by decide)) bT .nil passL))
    (pss_cons (ps_if (pt_not (pt_val (pe_call GI (hr.mono (by decide)) rfl gI kI bI .nil pass0 (pa_cons (pe_fld (pv 0) rfl) (pa_cons (pv 2) pa_nil))))) (pss_one (ps_ret (pe_lst (pa_cons (pe_un un_neg pe_int) pa_nil)))) pss_nil)
    (pss_cons (ps_set (i := 3) scTu.nd rfl (Or.inl rfl) (pe_call GO (hr.mono (by decide)) rfl gO kO bO .nil pass0 (pa_cons (pe_fld (pv 0) rfl) (pa_cons (pv 2) pa_nil))))
    (pss_one (ps_ret (pe_op op_cat (pe_call GS (hr.mono (by decide)) rfl gS kS bS .nil pass0 (pa_cons (pv 3) pa_nil)) (pe_call GG (hr.mono (by decide)) rfl gG kG bG .nil pass0 (pa_cons (pv 3) pa_nil))))))), ?_⟩)
  · obtain ⟨s, pl, a, l, st, ns, p, c, rest, rfl, _⟩ := h
    rfl
  · obtain ⟨s, pl, a, l, st, ns, p, c, rest, rfl, hS, R, hl, hc, k⟩ := h
    obtain ⟨x, hd, rfl⟩ := Vm.call10 rfl hc
    obtain ⟨hx, hd1, _⟩ := Vm.drop_cons hd
    have ew : VameteNeutral.step st (PyVamete.whole [[2, x]]) = Vamete.onTurn st x Vamete.turnTold := Vm.step_some (k := .turn x) rfl
    rw [ew] at k
    obtain ⟨nsa, npa, nps⟩ := set_ne hS R
    obtain ⟨dx, e⟩ := id R.at_
    refine ⟨_, rfl, a, dx, _, rfl, e, rF_taken l p, a, l, ns, p, rfl, R, fun v hv H1 R1 c1 => ?_, fun hz => absurd (hx.symm.trans hz) (by simp)⟩
    rw [hx] at hv
    cases hv
    have S1 : SetAt CS H1 s pl st := hS.chg c1 nsa R.insE
    obtain ⟨ds, es⟩ := S1.ins
    refine ⟨_, rfl, s, CS, ds, _, _, rfl, es, TS.cl, TS.nN, sF_pl _ _ _, _, rfl, st.places, x, rfl, hS.n4, _, rfl, ?_⟩
    refine if_2 (fun q => ?_) fun q => ?_
    · have q' : isT st x = false := not_t q
      rw [Vm.onTurn_none (isT_false q')] at k
      exact ⟨_, rfl, by show 1 ≤ sizeLine; decide, fun r hr => ends k S1 R1 hd1 (chg3 c1) r hr⟩
    · have q' : isT st x = true := not_f q
      obtain ⟨t, ht⟩ := isT_true q'
      obtain ⟨et, vt⟩ := Vm.turnL_of hS.n4 ht
      rw [Vm.onTurn_some ht] at k
      refine ⟨_, rfl, s, CS, ds, _, _, rfl, es, TS.cl, TS.nN, sF_pl _ _ _, _, rfl, st.places, x, rfl, hS.n4, fun H2 u hu s2 h2 => ?_⟩
      rw [et] at h2
      have hlen : (Vm.held t).length ≤ 100 := by rw [Vm.held_length vt]; have := hS.n4; omega
      refine ⟨_, rfl, u, _, rfl, SqT.of h2, hlen, fun H3 u3 hu3 s3 h3 => ?_⟩
      refine ⟨_, rfl, u, _, rfl, SqT.of (s3 _ _ h2), hlen, fun H4 u4 hu4 s4 h4 => ?_⟩
      refine ⟨u3, u4, _, _, rfl, rfl, s4 _ _ h3, h4, ?_, fun r hr => ?_⟩
      · rw [List.length_map, List.length_map, Vm.sourcesL, Vm.signsL, List.length_map, List.length_map]
        exact Nat.le_of_lt (small1000' (by omega))
      · rw [← List.map_append, Vm.sourcesL_held vt, Vm.signsL_held vt]
        have sA : Same H1 H4 := (s2.trans s3).trans s4
        exact ends k (S1.same sA) (R1.same sA) hd1 ((chg3 c1).trans (Chg.of sA)) r hr
theorem scBk : FnScope ["setting", "reader", "number"] ["setting", "reader"] (defScope sBack) := ⟨rfl, rfl, rfl, by decide +kernel, rfl, by decide +kernel, by decide +kernel⟩
theorem ok_back {f : Addr} {fd : FuncData} (F : Fun K "answer_back" "answer_back" sBack f fd) (M : MkR K P w mg base CR CN) (TS : TxS K mg CS) (N : Tns K P w mg base CS) : FnOk P w K mg base CX0 8 f fd ["setting", "reader"] (spAns K CR CS 4) := by
  have T := M.T
  obtain ⟨fT, fdT, GT, bT, mT⟩ := M.taken
  obtain ⟨fI, fdI, GI, bI, gI, kI⟩ := N.isTurn
  obtain ⟨fO, fdO, GO, bO, gO, kO⟩ := N.turnOf
  obtain ⟨fU, fdU, GU, bU, gU, kU⟩ := N.undone
  obtain ⟨fN, fdN, GN, bN, gN, kN⟩ := N.numberOf
  refine F.ok scBk (fun vs H Q E h => ?_) (fun cdv A outer s H vs Q E hr h => ⟨_, pss_cons (ps_set (i := 2) scBk.nd rfl (Or.inl rfl) (pe_meth0 (pv 1) T.cl mT GT (hr.mono (by decide)) bT .nil passL))
    (pss_cons (ps_if (pt_not (pt_val (pe_call GI (hr.mono (by decide)) rfl gI kI bI .nil pass0 (pa_cons (pe_fld (pv 0) rfl) (pa_cons (pv 2) pa_nil))))) (pss_one (ps_ret (pe_lst (pa_cons (pe_un un_neg pe_int) pa_nil)))) pss_nil)
    (pss_one (ps_ret (pe_lst (pa_cons (pe_call GN (hr.mono (by decide)) rfl gN kN bN .nil pass0 (pa_cons (pe_call GU (hr.mono (by decide)) rfl gU kU bU .nil pass0 (pa_cons
      (pe_call GO (hr.mono (by decide)) rfl gO kO bO .nil pass0 (pa_cons (pe_fld (pv 0) rfl) (pa_cons (pv 2) pa_nil))) pa_nil)) pa_nil)) pa_nil))))), ?_⟩)
  · obtain ⟨s, pl, a, l, st, ns, p, c, rest, rfl, _⟩ := h
    rfl
  · obtain ⟨s, pl, a, l, st, ns, p, c, rest, rfl, hS, R, hl, hc, k⟩ := h
    obtain ⟨x, hd, rfl⟩ := Vm.call10 rfl hc
    obtain ⟨hx, hd1, _⟩ := Vm.drop_cons hd
    have ew : VameteNeutral.step st (PyVamete.whole [[4, x]]) = Vamete.onTurn st x (fun t => [Vamete.number st (Vamete.back t)]) := Vm.step_some (k := .back x) rfl
    rw [ew] at k
    obtain ⟨nsa, npa, nps⟩ := set_ne hS R
    obtain ⟨dx, e⟩ := id R.at_
    refine ⟨_, rfl, a, dx, _, rfl, e, rF_taken l p, a, l, ns, p, rfl, R, fun v hv H1 R1 c1 => ?_, fun hz => absurd (hx.symm.trans hz) (by simp)⟩
    rw [hx] at hv
    cases hv
    have S1 : SetAt CS H1 s pl st := hS.chg c1 nsa R.insE
    obtain ⟨ds, es⟩ := S1.ins
    refine ⟨_, rfl, s, CS, ds, _, _, rfl, es, TS.cl, TS.nN, sF_pl _ _ _, _, rfl, st.places, x, rfl, hS.n4, _, rfl, ?_⟩
    refine if_2 (fun q => ?_) fun q => ?_
    · have q' : isT st x = false := not_t q
      rw [Vm.onTurn_none (isT_false q')] at k
      exact ⟨_, rfl, by show 1 ≤ sizeLine; decide, fun r hr => ends k S1 R1 hd1 (chg3 c1) r hr⟩
    · have q' : isT st x = true := not_f q
      obtain ⟨t, ht⟩ := isT_true q'
      obtain ⟨et, vt⟩ := Vm.turnL_of hS.n4 ht
      have hn4 := hS.n4
      rw [Vm.onTurn_some ht] at k
      refine ⟨_, rfl, s, CS, ds, _, _, rfl, es, TS.cl, TS.nN, sF_pl _ _ _, _, rfl, st.places, x, rfl, hn4, fun H2 u hu s2 h2 => ?_⟩
      rw [et] at h2
      refine ⟨u, _, rfl, SqT.of h2, by rw [Vm.held_length vt]; exact Vm.held_ok vt, by rw [Vm.held_length vt]; omega, fun H3 u3 hu3 s3 h3 => ?_⟩
      rw [Vm.undone_of hn4 vt] at h3
      have vb := Vm.valid_back hn4 vt
      obtain ⟨b1, b2⟩ := Vm.num_pre vb
      refine ⟨u3, _, rfl, SqT.of h3, by rw [Vm.held_length vb]; omega, b1, b2, fun H4 s4 => ⟨by show 1 ≤ sizeLine; decide, fun r hr => ?_⟩⟩
      have sA : Same H1 H4 := (s2.trans s3).trans s4
      rw [Vm.number_eq hn4 vb]
      exact ends k (S1.same sA) (R1.same sA) hd1 ((chg3 c1).trans (Chg.of sA)) r hr
theorem scCm : FnScope ["setting", "reader", "later", "earlier"] ["setting", "reader"] (defScope sCompose) := ⟨rfl, rfl, rfl, by decide +kernel, rfl, by decide +kernel, by decide +kernel⟩
theorem ok_compose {f : Addr} {fd : FuncData} (F : Fun K "answer_compose" "answer_compose" sCompose f fd) (M : MkR K P w mg base CR CN) (TS : TxS K mg CS) (N : Tns K P w mg base CS) : FnOk P w K mg base CX0 8 f fd ["setting", "reader"] (spAns K CR CS 3) := by
  have T := M.T
  obtain ⟨fT, fdT, GT, bT, mT⟩ := M.taken
  obtain ⟨fA, fdA, GA, bA, gA, kA⟩ := N.areTurns
  obtain ⟨fO, fdO, GO, bO, gO, kO⟩ := N.turnOf
  obtain ⟨fU, fdU, GU, bU, gU, kU⟩ := N.turned
  obtain ⟨fN, fdN, GN, bN, gN, kN⟩ := N.numberOf
  refine F.ok scCm (fun vs H Q E h => ?_) (fun cdv A outer s H vs Q E hr h => ⟨_, pss_cons (ps_set (i := 2) scCm.nd rfl (Or.inl rfl) (pe_meth0 (pv 1) T.cl mT GT (hr.mono (by decide)) bT .nil passL))
    (pss_cons (ps_set (i := 3) scCm.nd rfl (Or.inl rfl) (pe_meth0 (pv 1) T.cl mT GT (hr.mono (by decide)) bT .nil passL))
    (pss_cons (ps_if (pt_not (pt_val (pe_call GA (hr.mono (by decide)) rfl gA kA bA .nil pass0 (pa_cons (pv 0) (pa_cons (pe_lst (pa_cons (pv 2) (pa_cons (pv 3) pa_nil))) pa_nil))))) (pss_one (ps_ret (pe_lst (pa_cons (pe_un un_neg pe_int) pa_nil)))) pss_nil)
    (pss_one (ps_ret (pe_lst (pa_cons (pe_call GN (hr.mono (by decide)) rfl gN kN bN .nil pass0 (pa_cons (pe_call GU (hr.mono (by decide)) rfl gU kU bU .nil pass0
      (pa_cons (pe_call GO (hr.mono (by decide)) rfl gO kO bO .nil pass0 (pa_cons (pe_fld (pv 0) rfl) (pa_cons (pv 2) pa_nil)))
      (pa_cons (pe_call GO (hr.mono (by decide)) rfl gO kO bO .nil pass0 (pa_cons (pe_fld (pv 0) rfl) (pa_cons (pv 3) pa_nil))) pa_nil))) pa_nil)) pa_nil)))))), ?_⟩)
  · obtain ⟨s, pl, a, l, st, ns, p, c, rest, rfl, _⟩ := h
    rfl
  · obtain ⟨s, pl, a, l, st, ns, p, c, rest, rfl, hS, R, hl, hc, k⟩ := h
    obtain ⟨x, y, hd, rfl⟩ := Vm.call20 rfl hc
    obtain ⟨hx, hd1, _⟩ := Vm.drop_cons hd
    obtain ⟨hy, hd2, _⟩ := Vm.drop_cons hd1
    have ew : VameteNeutral.step st (PyVamete.whole [[3, x, y]]) = Vamete.step st (.compose x y) := Vm.step_some rfl
    rw [ew] at k
    obtain ⟨nsa, npa, nps⟩ := set_ne hS R
    obtain ⟨dx, e⟩ := id R.at_
    refine ⟨_, rfl, a, dx, _, rfl, e, rF_taken l p, a, l, ns, p, rfl, R, fun v hv H1 R1 c1 => ?_, fun hz => absurd (hx.symm.trans hz) (by simp)⟩
    rw [hx] at hv
    cases hv
    obtain ⟨dx1, e1⟩ := id R1.at_
    refine ⟨_, rfl, a, dx1, _, rfl, e1, rF_taken l _, a, l, ns, p + 1, rfl, R1, fun v hv H2 R2 c2 => ?_, fun hz => absurd (hy.symm.trans hz) (by simp)⟩
    rw [hy] at hv
    cases hv
    have c12 : Chg [a] H H2 := c1.trans c2
    have S2 : SetAt CS H2 s pl st := hS.chg c12 nsa R.insE
    refine ⟨_, rfl, _, rfl, _, rfl, by show 2 ≤ sizeLine; decide, fun g hg => ?_⟩
    have sg : Same H2 (upd H2 g (.lst [.int x, .int y])) := Same.new hg
    refine ⟨s, pl, g, st, [x, y], rfl, S2.same sg, SqL.of upd_same, by show 2 ≤ 2000; decide, fun H3 s3 => ⟨_, rfl, ?_⟩⟩
    have sB : Same H2 H3 := sg.trans s3
    have S3 := S2.same sB
    have R3 := R2.same sB
    have c3 : Chg [s, a, pl] H H3 := (chg3 c12).trans (Chg.of sB)
    refine if_2 (fun q => ?_) fun q => ?_
    · have q' : Vamete.turnAt st x = none ∨ Vamete.turnAt st y = none := by
        have q1 : ([x, y].all (isT st)) = false := not_t q
        rw [List.all_cons, List.all_cons, List.all_nil, Bool.and_true] at q1
        cases hx1 : isT st x with
        | false => exact .inl (isT_false hx1)
        | true =>
          rw [hx1, Bool.true_and] at q1
          exact .inr (isT_false q1)
      rw [Vm.step_compose_bad q'] at k
      exact ⟨_, rfl, by show 1 ≤ sizeLine; decide, fun r hr => ends k S3 R3 hd2 c3 r hr⟩
    · have q1 : ([x, y].all (isT st)) = true := not_f q
      rw [List.all_cons, List.all_cons, List.all_nil, Bool.and_true, Bool.and_eq_true] at q1
      obtain ⟨t, ht⟩ := isT_true q1.1
      obtain ⟨u, hu⟩ := isT_true q1.2
      obtain ⟨et, vt⟩ := Vm.turnL_of hS.n4 ht
      obtain ⟨eu, vu⟩ := Vm.turnL_of hS.n4 hu
      have hn4 := hS.n4
      rw [Vm.step_compose ht hu] at k
      obtain ⟨ds, es⟩ := S3.ins
      refine ⟨_, rfl, s, CS, ds, _, _, rfl, es, TS.cl, TS.nN, sF_pl _ _ _, _, rfl, st.places, x, rfl, hn4, fun H4 a4 _ s4 h4 => ?_⟩
      refine ⟨_, rfl, s, CS, ds, _, _, rfl, s4 _ _ es, TS.cl, TS.nN, sF_pl _ _ _, _, rfl, st.places, y, rfl, hn4, fun H5 a5 _ s5 h5 => ?_⟩
      rw [et] at h4
      rw [eu] at h5
      refine ⟨a4, a5, _, _, rfl, SqT.of (s5 _ _ h4), SqT.of h5, by rw [Vm.held_length vu]; exact Vm.held_ok vt, by rw [Vm.held_length vt]; omega, fun H6 a6 _ s6 h6 => ?_⟩
      rw [Vm.turnedL_held vt vu] at h6
      have va := Vm.valid_after vt vu
      obtain ⟨b1, b2⟩ := Vm.num_pre va
      refine ⟨a6, _, rfl, SqT.of h6, by rw [Vm.held_length va]; omega, b1, b2, fun H7 s7 => ⟨by show 1 ≤ sizeLine; decide, fun r hr => ?_⟩⟩
      have sA : Same H3 H7 := ((s4.trans s5).trans s6).trans s7
      rw [Vm.number_eq hn4 va]
      exact ends k (S3.same sA) (R3.same sA) hd2 (c3.trans (Chg.of sA)) r hr
end
end Tg
set_option Elab.async false
set_option linter.all false
set_option maxRecDepth 100000
set_option maxHeartbeats 4000000
/-! sorted(rows): a list of tuples of whole numbers, all of one length -/
namespace Tg
open PySem PySem.Spec PyProof.Rows L2
theorem swo_rows {α : Type} (k : α → List Int) : SrtO.Swo fun v u => Vm.rlt (k v) (k u) := by
  refine ⟨fun x y h => ?_, fun x y z h1 h2 => ?_⟩
  · cases e : Vm.rlt (k y) (k x) with
    | false => rfl
    | true => exact (Vm.rlt_asy _ _ h e).elim
  · cases e : Vm.rlt (k z) (k x) with
    | false => rfl
    | true =>
      by_cases q : k z = k y
      · rw [q] at e
        rw [h1] at e
        cases e
      · have h3 := Vm.rlt_total _ _ q h2
        have h4 := Vm.rlt_trans _ _ _ h3 e
        rw [h1] at h4
        cases h4
/-- a value that is a tuple of whole numbers -/
def IsRow (h : Heap) (v : Value) (x : List Int) : Prop := ∃ (a : Addr) (o : Obj) (its : Array Value) (n : Nat), v = .ref a ∧ h.get? a = some o ∧ o.cls = .type "tuple" ∧ o.data = .seq its n ∧ Vals (x.map V.int) its.toList
theorem IsRow.keeps {h h' : Heap} {v : Value} {x : List Int} (r : IsRow h v x) (k : ∀ b o, h.get? b = some o → o.cls = .type "tuple" → h'.get? b = some o) : IsRow h' v x := by
  obtain ⟨a, o, its, n, e, ho, hc, hd, hv⟩ := r
  exact ⟨a, o, its, n, e, k a o ho hc, hc, hd, hv⟩
section
variable {prog : Program} {w : World} {A : Around} {E : Value → Shared → Prop} {s : Shared}
theorem lexRows : ∀ (x y : List Int) (us ws : List Value) (i : Nat), Vals (x.map V.int) us → Vals (y.map V.int) ws → x.length = y.length →
    PySem.W.KatLex prog w A true false (fun r s' => s' = s ∧ r = Vm.rlt x y) (us.zip ws) i s
  | [], [], us, ws, i, r1, r2, _ => by
    cases r1
    cases r2
    exact PySem.W.kat_nil ⟨rfl, rfl⟩
  | a :: x, b :: y, us, ws, i, r1, r2, h => by
    cases r1 with
    | cons e1 r1 =>
      cases r2 with
      | cons e2 r2 =>
        obtain ⟨t, rfl⟩ := e1
        obtain ⟨u, rfl⟩ := e2
        rw [List.zip_cons_cons]
        refine PySem.W.kat_cons (SeqAt.EqAt.int_int a t b u prog w _ _ ?_)
        refine PySem.W.kat_go (fun q => ?_) (fun q => ?_)
        · have eq : a = b := by simpa using q
          subst eq
          have er : Vm.rlt (a :: x) (a :: y) = Vm.rlt x y := by
            show (if a = a then Vm.rlt x y else decide (a < a)) = _
            rw [if_pos rfl]
          rw [er]
          exact PySem.W.kat_yes (lexRows x y _ _ (i + 1) r1 r2 (by simpa using h))
        · have ne : ¬ a = b := by simpa using q
          have er : Vm.rlt (a :: x) (b :: y) = decide (a < b) := by
            show (if a = b then Vm.rlt x y else decide (a < b)) = _
            rw [if_neg ne]
          rw [er]
          cases i with
          | zero => exact PySem.W.kat_no (oneLt_int ⟨rfl, rfl⟩)
          | succ i =>
            refine PySem.W.kat_no (PySem.W.kat_one _ _ (PyProof.Rows.lt_int ?_))
            exact (show s = s ∧ decide (a < b) = decide (a < b) from ⟨rfl, rfl⟩)
  | [], _ :: _, _, _, _, _, _, h => by simp at h
  | _ :: _, [], _, _, _, _, _, h => by simp at h
theorem rows_cmp {n : Nat} {vs : List Value} {k : Value → List Int} (hp : ∀ v ∈ vs, IsRow s.heap v (k v)) (hn : ∀ v ∈ vs, (k v).length = n) : SrtO.Cmp prog w A s (tuples' true) (fun p => p.1 ∈ vs) (SrtO.lt2 fun v u => Vm.rlt (k v) (k u)) := by
  intro p q hm hm'
  have l1 := hn _ hm
  have l2 := hn _ hm'
  show wpAny (model prog w) A (keyLt' (tuples' true) p.1 q.1) (fun r s' => s' = s ∧ r = Vm.rlt (k p.1) (k q.1)) (fun _ _ => False) s
  obtain ⟨a, o, its, m, e, ho, hc, hd, hv⟩ := hp _ hm
  obtain ⟨a', o', its', m', e', ho', hc', hd', hv'⟩ := hp _ hm'
  generalize k p.1 = x at *
  generalize k q.1 = y at *
  rw [e, e']
  refine PySem.W.kat_lt ho hd ho' hd' ?_
  have ef : decide (its.size < its'.size) = false := by
    have h1 : x.length = its.size := by simpa using hv.length
    have h2 : y.length = its'.size := by simpa using hv'.length
    exact decide_eq_false (by omega)
  rw [ef]
  exact lexRows x y _ _ 0 hv hv' (by omega)
theorem rows_firsts {h : Heap} {n : Nat} (hn : 1 ≤ n) (k : Value → List Int) : ∀ vs : List Value, (∀ v ∈ vs, IsRow h v (k v)) → (∀ v ∈ vs, (k v).length = n) → ∃ fs, PySem.W.KatTups h vs fs ∧ fs.length = vs.length ∧ ∀ f ∈ fs, ∃ z t, f = Value.int z t
  | [], _, _ => ⟨[], PySem.W.KatTups.nil, rfl, fun _ hf => by simp at hf⟩
  | v :: vs, hp, hl => by
    obtain ⟨fs, h1, h2, h3⟩ := rows_firsts hn k vs (fun u hu => hp u (List.mem_cons_of_mem _ hu)) (fun u hu => hl u (List.mem_cons_of_mem _ hu))
    obtain ⟨a, o, its, m, rfl, ho, hc, hd, hv⟩ := hp v List.mem_cons_self
    have ln := hl _ List.mem_cons_self
    generalize k (Value.ref a) = x at *
    match x, ln, hv with
    | z :: x, _, hv =>
      cases hi : its.toList with
      | nil =>
        rw [hi] at hv
        cases hv
      | cons u us =>
        rw [hi] at hv
        cases hv with
        | cons e r =>
          obtain ⟨t, rfl⟩ := e
          refine ⟨.int z t :: fs, PySem.W.KatTups.cons ho hc hd (by rw [← Array.getElem?_toList, hi]; rfl) h1, by rw [List.length_cons, List.length_cons, h2], fun f hf => ?_⟩
          rcases List.mem_cons.mp hf with rfl | hf
          · exact ⟨z, t, rfl⟩
          · exact h3 f hf
    | [], ln, _ =>
      rw [List.length_nil] at ln
      omega
theorem rows_sortable {a : Addr} {n : Nat} (hn : 1 ≤ n) {vs : List Value} {k : Value → List Int} (h0 : 0 < vs.length) (hp : ∀ v ∈ vs, IsRow s.heap v (k v)) (hl : ∀ v ∈ vs, (k v).length = n) (ha : ∀ o, s.heap.get? a = some o → o.cls ≠ .type "tuple") :
    SrtO.SortableO prog w A s a vs fun v u => Vm.rlt (k v) (k u) := by
  intro h' keep
  have hp' : ∀ v ∈ vs, IsRow h' v (k v) := fun v hm => (hp v hm).keeps fun b o e c => keep b o (fun z => by subst z; exact ha o e c) e
  obtain ⟨fs, h1, h2, h3⟩ := rows_firsts hn k vs hp' hl
  refine ⟨tuples' true, fun Q E hq => ?_, rows_cmp hp' hl⟩
  refine PySem.W.kat_kind (T := .type "int") h1 (by omega) (fun f hm => ?_) (by rfl) ?_
  · obtain ⟨x, t, rfl⟩ := h3 f hm
    exact PySem.W.Looks.now
  · rw [show (Value.type "int" != Value.type "tuple") = true by first | decide +kernel | rfl | decide]
    exact hq
end
/-- the row that stands at an address -/
def rowAt (H : Hp) (v : Value) : List Int := match v with
  | .ref a => (match H a with
    | some (.tup xs) => xs.map fun x => (match x with | .int i => i | _ => 0)
    | _ => [])
  | _ => []
theorem rowAt_of {H : Hp} {a : Addr} {y : List Int} (h : H a = some (.tup (y.map V.int))) : rowAt H (.ref a) = y := by
  show (match H a with
    | some (.tup xs) => xs.map fun x => (match x with | .int i => i | _ => 0)
    | _ => []) = y
  rw [h]
  show (y.map V.int).map _ = y
  rw [List.map_map]
  have : ((fun x => (match x with | V.int i => i | _ => 0)) ∘ V.int) = (id : Int → Int) := by
    funext i
    rfl
  rw [this, List.map_id]
theorem RowsAt.rows {H : Hp} : ∀ {bs : List Addr} {ys : List (List Int)}, RowsAt H bs ys → ys = bs.map fun b => rowAt H (.ref b)
  | [], [], _ => rfl
  | b :: bs, y :: ys, h => by
    rw [List.map_cons, rowAt_of h.1, ← RowsAt.rows h.2]
  | [], _ :: _, h => h.elim
  | _ :: _, [], h => h.elim
theorem RowsAt.of_mem {H : Hp} : ∀ {bs : List Addr}, (∀ b ∈ bs, ∃ y : List Int, H b = some (.tup (y.map V.int))) → RowsAt H bs (bs.map fun b => rowAt H (.ref b))
  | [], _ => trivial
  | b :: bs, h => by
    obtain ⟨y, hy⟩ := h b List.mem_cons_self
    refine ⟨?_, RowsAt.of_mem fun c hc => h c (List.mem_cons_of_mem _ hc)⟩
    show H b = some (.tup ((rowAt H (.ref b)).map V.int))
    rw [rowAt_of hy]
    exact hy
theorem RowsAt.mem {H : Hp} {bs : List Addr} {ys : List (List Int)} (h : RowsAt H bs ys) : ∀ b ∈ bs, ∃ y : List Int, H b = some (.tup (y.map V.int)) ∧ y ∈ ys := by
  intro b hb
  obtain ⟨i, hi⟩ := List.mem_iff_getElem?.mp hb
  obtain ⟨y, h1, h2⟩ := h.get hi
  exact ⟨y, h2, List.mem_of_getElem? h1⟩
/-- sorted(rows): a new list of the same tuples, rising -/
def rSortedR (K : PySem.W.Frag) : List V → Hp → VK → Prop := fun vs H Q => ∃ (a : Addr) (bs : List Addr) (ys : List (List Int)) (n : Nat), vs = [V.ref a] ∧ SqL K H a (bs.map V.ref) ∧ RowsAt H bs ys ∧ (∀ y ∈ ys, y.length = n) ∧ (1 ≤ n ∨ bs.length < 2) ∧
  ∀ (bs' : List Addr) (ys' : List (List Int)) (p : Addr), RowsAt H bs' ys' → ys'.Perm ys → ys'.Pairwise (fun x y => Vm.rlt y x = false) → H p = none → Q (.ref p) (upd H p (.lst (bs'.map V.ref)))
theorem cr_sortedR {X : Cx} : CallR X (.builtin "sorted") (rSortedR X.K) := by
  intro pins s σ H vs us Q I r h
  obtain ⟨a, bs, ys, n, rfl, hs, hR, hl, hn, q⟩ := h
  obtain ⟨its, rv, hil, hz⟩ := I.list hs
  rw [Vals.ref1 r]
  obtain ⟨e1, e2⟩ := refs_back rv fun x m => by
    obtain ⟨b, _, e⟩ := List.mem_map.mp m
    exact ⟨b, e.symm⟩
  have hmem : ∀ v ∈ its, ∃ b ∈ bs, v = Value.ref b := fun v hv => by
    obtain ⟨b, rfl⟩ := e2 v hv
    have hm : V.ref b ∈ bs.map V.ref := by rw [e1]; exact List.mem_map.mpr ⟨_, hv, rfl⟩
    obtain ⟨c, hc, e⟩ := List.mem_map.mp hm
    cases e
    exact ⟨_, hc, rfl⟩
  have hlen : its.length = bs.length := by rw [← rv.length, List.length_map]
  have hrow : ∀ v ∈ its, IsRow s.heap v (rowAt H v) := fun v hv => by
    obtain ⟨b, hb, rfl⟩ := hmem v hv
    obtain ⟨y, hy, _⟩ := hR.mem b hb
    rw [rowAt_of hy]
    obtain ⟨_, its2, r2, o, ho, hc, m, hd⟩ := I.hok _ _ hy
    exact ⟨b, o, its2.toArray, m, rfl, ho, hc, hd, r2⟩
  have hln : ∀ v ∈ its, (rowAt H v).length = n := fun v hv => by
    obtain ⟨b, hb, rfl⟩ := hmem v hv
    obtain ⟨y, hy, hm⟩ := hR.mem b hb
    rw [rowAt_of hy]
    exact hl y hm
  refine SrtO.sorted_ord (swo_rows (rowAt H)) hil.isList (by rw [← rv.length]; exact hz) (fun h2 h1 a' ha' kk => ?_) fun out h1 h2 => ?_
  · refine rows_sortable (s := { s with heap := h1 }) (n := n) (by omega) (by omega) (fun v hv => (hrow v hv).keeps fun b o e _ => (kk b o e).2) hln fun o e => ?_
    have e' : some o = some (seqObj "list" its.toArray 0) := e.symm.trans ha'
    cases e'
    intro c
    exact absurd (Value.type.inj c) (by decide)
  · have h3 : ∀ u ∈ out, ∃ b ∈ bs, u = Value.ref b := fun u hu => hmem u (h2.perm.mem_iff.mp hu)
    obtain ⟨bs', eb⟩ : ∃ bs' : List Addr, out = bs'.map Value.ref := by
      clear h1 h2
      induction out with
      | nil => exact ⟨[], rfl⟩
      | cons u out ih =>
        obtain ⟨b, _, rfl⟩ := h3 u List.mem_cons_self
        obtain ⟨bs', e⟩ := ih fun u hu => h3 u (List.mem_cons_of_mem _ hu)
        exact ⟨b :: bs', by rw [e]; rfl⟩
    subst eb
    have hb' : ∀ b ∈ bs', b ∈ bs := fun b hb => by
      obtain ⟨c, hc, e⟩ := h3 (Value.ref b) (List.mem_map.mpr ⟨b, hb, rfl⟩)
      cases e
      exact hc
    have hits : its = bs.map Value.ref := by
      have : ∀ {us : List Value}, (∀ u ∈ us, ∃ b ∈ bs, u = Value.ref b) → us = (us.map fun u => (match u with | .ref b => b | _ => 0)).map Value.ref := by
        intro us hus
        induction us with
        | nil => rfl
        | cons u us ih =>
          obtain ⟨b, _, rfl⟩ := hus u List.mem_cons_self
          rw [List.map_cons, List.map_cons, ← ih fun v hv => hus v (List.mem_cons_of_mem _ hv)]
      have e3 := this hmem
      generalize (its.map fun u => (match u with | .ref b => b | _ => 0)) = cs at e3
      subst e3
      have e4 : bs = cs := by
        rw [List.map_map] at e1
        exact Vm.map_inj (f := V.ref) (fun {a b} e => by cases e; rfl) e1
      rw [e4]
    have hperm : (bs'.map fun b => rowAt H (.ref b)).Perm ys := by
      rw [hR.rows]
      have := (h2.perm.map (rowAt H))
      rw [hits, List.map_map, List.map_map] at this
      exact this
    obtain ⟨ep, he'⟩ := PyProof.Rows.sortedAll_at s.heap its (bs'.map Value.ref).toArray
    have hlen' : (bs'.map V.ref).length ≤ sizeLine := by
      have := h2.perm.length_eq
      rw [List.length_map] at this
      rw [List.length_map, this, ← rv.length]
      exact hz
    refine ⟨.ref _, upd H (s.heap.objs.size + 1) (.lst (bs'.map V.ref)), I.laid (t' := s.toks) (fun _ _ => PyProof.Rows.sortedAll_old) (Nat.le_succ _) ⟨hlen', bs'.map Value.ref, ep, ?_, he'⟩, rfl, ?_⟩
    · clear h1 h2 h3 hb' hperm hlen' he'
      induction bs' with
      | nil => exact .nil
      | cons b bs' ih => exact .cons rfl ih
    · refine q bs' _ _ (RowsAt.of_mem fun b hb => ?_) hperm ?_ (I.hok.fresh (Nat.le_succ _))
      · obtain ⟨y, hy, _⟩ := hR.mem b (hb' b hb)
        exact ⟨y, hy⟩
      · refine List.pairwise_map.mpr ?_
        exact List.pairwise_map.mp h1
end Tg
set_option Elab.async false
set_option linter.all false
set_option maxRecDepth 100000
set_option maxHeartbeats 4000000
namespace Tg
open PySem PySem.Spec PyProof.Rows L2
theorem all_isT {st : Vamete.State} {ks : List Int} (h : ks.all (isT st) = true) : ∀ k ∈ ks, 0 ≤ k ∧ k < (((Vamete.allTurns st.places).length : Nat) : Int) := fun k hk => of_decide_eq_true (List.all_eq_true.mp h k hk)
theorem not_all {st : Vamete.State} {ks : List Int} (h : ks.all (isT st) = false) : ∃ k ∈ ks, Vamete.turnAt st k = none := by
  obtain ⟨k, hk, e⟩ := List.all_eq_false.mp h
  exact ⟨k, hk, isT_false (by simpa using e)⟩
section
variable {P : Program} {w : World} {K : PySem.W.Frag} {mg : Str → Option Value} {base : Heap} {CR CN CS : Addr}
theorem scGn : FnScope ["setting", "reader", "numbers", "group", "turn"] ["setting", "reader"] (defScope sGenerated) := ⟨rfl, rfl, rfl, by decide +kernel, rfl, by decide +kernel, by decide +kernel⟩
theorem ok_generated {f : Addr} {fd : FuncData} (F : Fun K "answer_generated" "answer_generated" sGenerated f fd) (M : MkR K P w mg base CR CN) (TS : TxS K mg CS) (N : Tns K P w mg base CS) (gSorted : mg "sorted" = none) : FnOk P w K mg base CX0 8 f fd ["setting", "reader"] (spAns K CR CS 5) := by
  have T := M.T
  obtain ⟨fC, fdC, GC, bC, mC⟩ := M.counted
  obtain ⟨fA, fdA, GA, bA, gA, kA⟩ := N.areTurns
  obtain ⟨fO, fdO, GO, bO, gO, kO⟩ := N.turnsOf
  obtain ⟨fI, fdI, GI, bI, gI, kI⟩ := N.idle
  obtain ⟨fR, fdR, GR, bR, gR, kR⟩ := N.reached
  obtain ⟨fN, fdN, GN, bN, gN, kN⟩ := N.numberOf
  refine F.ok scGn (fun vs H Q E h => ?_) (fun cdv A outer s H vs Q E hr h => ⟨_, pss_cons (ps_set (i := 2) scGn.nd rfl (Or.inl rfl) (pe_meth0 (pv 1) T.cl mC GC (hr.mono (by decide)) bC .nil pass0))
    (pss_cons (ps_if (pt_not (pt_val (pe_call GA (hr.mono (by decide)) rfl gA kA bA .nil pass0 (pa_cons (pv 0) (pa_cons (pv 2) pa_nil))))) (pss_one (ps_ret (pe_lst (pa_cons (pe_un un_neg pe_int) pa_nil)))) pss_nil)
    (pss_cons (ps_set (i := 3) scGn.nd rfl (Or.inl rfl) (pe_call GR (hr.mono (by decide)) rfl gR kR bR .nil pass0 (pa_cons (pe_call GO (hr.mono (by decide)) rfl gO kO bO .nil pass0 (pa_cons (pv 0) (pa_cons (pv 2) pa_nil)))
      (pa_cons (pe_call GI (hr.mono (by decide)) rfl gI kI bI .nil pass0 (pa_cons (pe_fld (pv 0) rfl) pa_nil)) pa_nil))))
    (pss_one (ps_ret (pe_op op_cat (pe_lst (pa_cons (pe_callB call_len_seq (by rfl) T.len PySem.boot_len (pa_cons (pv 3) pa_nil)) pa_nil))
      (pe_callB cr_sortedI (by rfl) gSorted (by decide +kernel) (pa_cons
        (pe_lc (own := [("turn", 4)]) (g := gName 4) (tt := tYes) rfl scGn.nd (pi_list (pv 3)) (blkOk_by (N := ["setting", "reader", "numbers", "group", "turn"]) (sc := defScope sGenerated) (by decide +kernel)) (fun _ _ _ _ _ => pg_name (i := 4) scGn.nd rfl (Or.inl rfl)) (fun _ _ _ _ _ => pts_nil)
          (fun _ _ _ _ _ => pe_call GN (hr.mono (by decide)) rfl gN kN bN .nil pass0 (pa_cons (pv 4) pa_nil))) pa_nil))))))), ?_⟩)
  · obtain ⟨s, pl, a, l, st, ns, p, c, rest, rfl, _⟩ := h
    rfl
  · obtain ⟨s, pl, a, l, st, ns, p, c, rest, rfl, hS, R, hl, hc, k⟩ := h
    obtain ⟨ks, hd, rfl⟩ := Vm.call01 rfl hc
    obtain ⟨hx, hd1, hp1⟩ := Vm.drop_cons hd
    obtain ⟨ht2, hd2, hp2⟩ := Vm.drop_app hd1 hp1
    have ew : VameteNeutral.step st (PyVamete.whole [[5], ks]) = Vamete.onTurns st ks (fun g => Vamete.numbersTold st (Vamete.generated st.places g)) := Vm.step_some (k := .generated ks) rfl
    rw [ew] at k
    obtain ⟨nsa, npa, nps⟩ := set_ne hS R
    obtain ⟨dx, e⟩ := id R.at_
    have hn4 := hS.n4
    refine ⟨_, rfl, a, dx, _, rfl, e, rF_counted l _, a, l, ns, p, ks.length, rfl, R, hx, hp2, hl, fun H1 n1 hn1 R1 c1 h1 => ?_⟩
    rw [ht2] at h1
    have S1 : SetAt CS H1 s pl st := hS.chg c1 nsa R.insE
    have hkl : ks.length ≤ 2000 := by omega
    refine ⟨_, rfl, _, rfl, s, pl, n1, st, ks, rfl, S1, SqL.of h1, hkl, fun H2 s2 => ⟨_, rfl, ?_⟩⟩
    have S2 := S1.same s2
    have R2 := R1.same s2
    refine if_2 (fun q => ?_) fun q => ?_
    · rw [Vm.onTurns_none (not_all (not_t q))] at k
      exact ⟨_, rfl, by show 1 ≤ sizeLine; decide, fun r hr => ends k S2 R2 hd2 ((chg3 c1).trans (Chg.of s2)) r hr⟩
    · have hks := all_isT (not_f q)
      obtain ⟨gs, e1, hv, eh, hgl⟩ := Vm.onTurns_some hn4 (f := fun g => Vamete.numbersTold st (Vamete.generated st.places g)) hks
      rw [e1] at k
      refine ⟨_, rfl, _, rfl, s, pl, n1, st, ks, rfl, S2, SqL.of (s2 _ _ h1), hkl, fun H3 tl ts htl s3 h3 r3 => ?_⟩
      rw [eh] at r3
      obtain ⟨ds, es⟩ := S2.ins
      refine ⟨_, rfl, s, CS, ds, _, _, rfl, s3 _ _ es, TS.cl, TS.nN, sF_pl _ _ _, st.places, rfl, hn4, fun H4 it hit s4 h4 => ?_⟩
      refine ⟨tl, it, ts, gs.map Vm.held, Vm.held (Vamete.same st.places), st.places, (Vamete.allTurns st.places).map Vm.held, rfl, SqL.of (s4 _ _ h3), r3.map (fun u xs z => s4 _ _ z), h4, Vm.held_length (Vm.valid_same _), hn4, ?_, ?_, ?_, Vm.universe_held hv, ?_, ?_⟩
      · intro c hc'
        obtain ⟨g, hg, rfl⟩ := List.mem_map.mp hc'
        exact Vm.held_length (hv g hg)
      · intro c hc'
        obtain ⟨g, hg, rfl⟩ := List.mem_map.mp hc'
        exact Vm.held_ok (hv g hg)
      · rw [r3.length, List.length_map]; omega
      · rw [List.length_map]
        exact Nat.le_trans (Vm.few_turns hn4) (by decide)
      · intro H5 G bs ys hG s5 h5 r5 hnd hmem
        have sB : Same H2 H5 := (s3.trans s4).trans s5
        have own : ∀ y ∈ ys, ∃ t, Vm.Valid st.places t ∧ y = Vm.held t := fun y hy => by
          obtain ⟨t, ht, e⟩ := (Vm.reach_held hv y).mp ((hmem y).mp hy)
          exact ⟨t, Vm.reach_valid hv ht, e⟩
        refine ⟨_, rfl, G, _, rfl, .inl (SqL.of h5), by show 1 ≤ sizeLine; decide, fun L hL => ?_⟩
        have s6 : Same H5 (upd H5 L (.lst [.int (((bs.map V.ref).length : Nat) : Int)])) := Same.new hL
        refine ⟨_, rfl, G, rfl, ⟨_, SqL.of (s6 _ _ h5)⟩, fun D hD => ?_⟩
        have hDn : H5 D = none := s6.free hD
        have hDL : D ≠ L := fun z => by rw [z, upd_same] at hD; cases hD
        refine lc_list (K := K) (a := G) (xs := bs.map V.ref) (fun i H' => Same H5 H' ∧ H' L = some (.lst [.int (((bs.map V.ref).length : Nat) : Int)]) ∧ H' D = some (.lst (((ys.take i).map Vm.numberL).map V.int)))
          ⟨Same.at_new s6 hDn, by rw [upd_ne hDL.symm, upd_same], upd_same⟩ (fun i H' _ h => SqL.of (h.1 _ _ h5)) ?_ ?_
        · rintro i v H6 hv' ⟨s7, l7, d7⟩
          obtain ⟨b, hb, rfl⟩ : ∃ b, bs[i]? = some b ∧ v = V.ref b := by
            rw [List.getElem?_map] at hv'
            cases e : bs[i]? with
            | none => rw [e] at hv'; cases hv'
            | some u => rw [e] at hv'; exact ⟨u, rfl, (Option.some.inj hv').symm⟩
          obtain ⟨y, hy, hby⟩ := r5.get hb
          obtain ⟨t, vt, rfl⟩ := own y (List.mem_of_getElem? hy)
          obtain ⟨b1, b2⟩ := Vm.num_pre vt
          refine ⟨rfl, _, rfl, b, _, rfl, SqT.of (s7 _ _ hby), by rw [Vm.held_length vt]; omega, b1, b2, fun H7 s8 => ?_⟩
          refine ⟨_, s8 _ _ d7, ?_, Same.at_new (s7.trans s8) hDn, by rw [upd_ne hDL.symm]; exact s8 _ _ l7, ?_⟩
          · rw [List.length_map, List.length_map, List.length_take]
            have : ys.length ≤ 384 := by
              refine Nat.le_trans (Vm.nodup_len_le ys ((Vamete.allTurns st.places).map Vm.held) hnd fun y hy => Vm.universe_held hv y ((hmem y).mp hy)) ?_
              rw [List.length_map]
              exact Vm.few_turns hn4
            exact small1000' (by omega)
          · rw [upd_same, take_more hy, List.map_append, List.map_append]
            rfl
        · rintro H6 ⟨s7, l7, d7⟩
          have elen : (bs.map V.ref).length = ys.length := by rw [List.length_map, r5.length]
          rw [elen, List.take_length] at d7
          rw [elen] at l7
          refine ⟨D, _, rfl, SqL.of d7, fun ns' p' hperm hsort hp' => ?_⟩
          have s8 : Same H6 (upd H6 p' (.lst (ns'.map V.int))) := Same.new hp'
          refine ⟨L, p', _, _, rfl, rfl, s8 _ _ l7, upd_same, ?_, fun r hr => ?_⟩
          · have hy384 : ys.length ≤ 384 := by
              refine Nat.le_trans (Vm.nodup_len_le ys ((Vamete.allTurns st.places).map Vm.held) hnd fun y hy => Vm.universe_held hv y ((hmem y).mp hy)) ?_
              rw [List.length_map]
              exact Vm.few_turns hn4
            rw [List.length_map, hperm.length_eq, List.length_map]
            exact Nat.le_of_lt (small1000' (by show 1 + ys.length ≤ 100000; omega))
          · have sC : Same H2 (upd H6 p' (.lst (ns'.map V.int))) := (sB.trans s7).trans s8
            have ea : [V.int ((ys.length : Nat) : Int)] ++ ns'.map V.int = (Vamete.numbersTold st (Vamete.generated st.places gs)).map V.int := by
              rw [← Vm.gen_answer hn4 hv hnd hmem hperm hsort]
              rfl
            rw [ea]
            exact ends k (S2.same sC) (R2.same sC) hd2 (((chg3 c1).trans (Chg.of s2)).trans (Chg.of sC)) r hr
end
end Tg
set_option Elab.async false
set_option linter.all false
set_option maxRecDepth 100000
set_option maxHeartbeats 4000000
namespace Vm
theorem one_empty {ys : List (List Int)} (hnd : ys.Nodup) (h : ∀ y ∈ ys, y.length = 0) : ys.length < 2 := by
  match ys, hnd, h with
  | [], _, _ => exact Nat.succ_pos 1
  | [_], _, _ => exact Nat.lt_succ_self 1
  | a :: b :: ys, hnd, h =>
    have ha : a = [] := List.length_eq_zero_iff.mp (h a List.mem_cons_self)
    have hb : b = [] := List.length_eq_zero_iff.mp (h b (List.mem_cons_of_mem _ List.mem_cons_self))
    exact absurd (by rw [ha, hb]; exact List.mem_cons_self : a ∈ b :: ys) (List.nodup_cons.mp hnd).1
theorem flat_len {n : Nat} : ∀ {ys : List (List Int)}, (∀ y ∈ ys, y.length = n) → ys.flatten.length = ys.length * n
  | [], _ => by simp
  | y :: ys, h => by
    rw [List.flatten_cons, List.length_append, flat_len (fun z hz => h z (List.mem_cons_of_mem _ hz)), h y List.mem_cons_self, List.length_cons, Nat.add_mul, Nat.one_mul, Nat.add_comm]
end Vm
namespace Tg
open PySem PySem.Spec PyProof.Rows L2
section
variable {P : Program} {w : World} {K : PySem.W.Frag} {mg : Str → Option Value} {base : Heap} {CR CN CS : Addr}
theorem scOr : FnScope ["setting", "reader", "numbers", "row_numbers", "row", "orbit", "answer", "member"] ["setting", "reader"] (defScope sOrbit) := ⟨rfl, rfl, rfl, by decide +kernel, rfl, by decide +kernel, by decide +kernel⟩
theorem ok_orbit {f fW : Addr} {fd fdW : FuncData} (F : Fun K "answer_orbit" "answer_orbit" sOrbit f fd) (M : MkR K P w mg base CR CN) (TS : TxS K mg CS) (N : Tns K P w mg base CS) (gSorted : mg "sorted" = none)
    (GW : FnOk P w K mg base (L2.CX P w) 4 fW fdW ["numbers", "places"] (spWholeRow K CN)) (bW : Binds K fdW ["numbers", "places"] []) (gW : mg "whole_row" = some (.ref fW)) (kW : PySem.W.keepIn K (.ref fW) = true) :
    FnOk P w K mg base CX0 8 f fd ["setting", "reader"] (spAns K CR CS 6) := by
  have T := M.T
  obtain ⟨fC, fdC, GC, bC, mC⟩ := M.counted
  obtain ⟨fA, fdA, GA, bA, gA, kA⟩ := N.areTurns
  obtain ⟨fO, fdO, GO, bO, gO, kO⟩ := N.turnsOf
  obtain ⟨fR, fdR, GR, bR, gR, kR⟩ := N.reached
  refine F.ok scOr (fun vs H Q E h => ?_) (fun cdv A outer s H vs Q E hr h => ⟨_, pss_cons (ps_set (i := 2) scOr.nd rfl (Or.inl rfl) (pe_meth0 (pv 1) T.cl mC GC (hr.mono (by decide)) bC .nil pass0))
    (pss_cons (ps_set (i := 3) scOr.nd rfl (Or.inl rfl) (pe_meth0 (pv 1) T.cl mC GC (hr.mono (by decide)) bC .nil pass0))
    (pss_cons (ps_try_only (tb := fun W => tAsg (tCallS (spWholeRow K CN) (WE W) (tCons (tVar 3) (tCons (tFld K (tVar 0) "places") tNil))) (gName 4)) (ts := fun _ _ _ => tRet (tLst (tCons (tUn (rU fun i => .int (-i)) (tC (.int 5))) tNil))) (Wout := fun _ _ _ _ => False) rfl rfl ⟨rfl, by decide, .inl T.gN⟩ takes0
        (fun W pn xe tk _ => pss_one (ps_set (i := 4) scOr.nd rfl (Or.inl rfl) (pe_callS GW (hr.mono (by decide)) rfl gW kW bW (fun σ => passAt tk σ) (pa_cons (pv 3) (pa_cons (peF K (pv 0) rfl) pa_nil)))))
        (fun _ _ _ _ _ _ _ => pss_one (ps_ret (pe_lst (pa_cons (pe_un un_neg pe_int) pa_nil)))))
    (pss_cons (ps_if (pt_not (pt_val (pe_call GA (hr.mono (by decide)) rfl gA kA bA .nil pass0 (pa_cons (pv 0) (pa_cons (pv 2) pa_nil))))) (pss_one (ps_ret (pe_lst (pa_cons (pe_un un_neg pe_int) pa_nil)))) pss_nil)
    (pss_cons (ps_set (i := 5) scOr.nd rfl (Or.inl rfl) (pe_callB cr_sortedR (by rfl) gSorted (by decide +kernel) (pa_cons
      (pe_call GR (hr.mono (by decide)) rfl gR kR bR .nil pass0 (pa_cons (pe_call GO (hr.mono (by decide)) rfl gO kO bO .nil pass0 (pa_cons (pv 0) (pa_cons (pv 2) pa_nil))) (pa_cons (pv 4) pa_nil))) pa_nil)))
    (pss_cons (ps_set (i := 6) scOr.nd rfl (Or.inl rfl) (pe_lst (pa_cons (pe_callB call_len_seq (by rfl) T.len PySem.boot_len (pa_cons (pv 5) pa_nil)) pa_nil)))
    (pss_cons (ps_for PassesOwn.never rfl (pi_list (pv 5)) (pg_name (i := 7) scOr.nd rfl (Or.inl rfl))
      (pss_one (ps_expr (pe_bm PySem.F.plainAttrs_list PySem.F.slot_list_extend PySem.F.type_list_extend mt_extendT (pv 6) (pa_cons (pv 7) pa_nil)))))
    (pss_one (ps_ret (pv 6))))))))), ?_⟩)
  · obtain ⟨s, pl, a, l, st, ns, p, c, rest, rfl, _⟩ := h
    rfl
  · obtain ⟨s, pl, a, l, st, ns, p, c, rest, rfl, hS, R, hl, hc, k⟩ := h
    obtain ⟨ks, rs, hd, rfl⟩ := Vm.call02 rfl hc
    obtain ⟨hx, hd1, hp1⟩ := Vm.drop_cons hd
    obtain ⟨ht2, hd2, hp2⟩ := Vm.drop_app hd1 hp1
    obtain ⟨hy, hd3, hp3⟩ := Vm.drop_cons hd2
    obtain ⟨ht4, hd4, hp4⟩ := Vm.drop_app hd3 hp3
    have ew : VameteNeutral.step st (PyVamete.whole [[6], ks, rs]) = Vamete.step st (.orbit ks rs) := Vm.step_some rfl
    rw [ew] at k
    obtain ⟨nsa, npa, nps⟩ := set_ne hS R
    obtain ⟨dx, e⟩ := id R.at_
    have hn4 := hS.n4
    refine ⟨_, rfl, a, dx, _, rfl, e, rF_counted l _, a, l, ns, p, ks.length, rfl, R, hx, hp2, hl, fun H1 n1 hn1 R1 c1 h1 => ?_⟩
    rw [ht2] at h1
    obtain ⟨dx1, e1⟩ := id R1.at_
    refine ⟨_, rfl, a, dx1, _, rfl, e1, rF_counted l _, a, l, ns, _, rs.length, rfl, R1, hy, hp4, hl, fun H2 n2 hn2 R2 c2 h2 => ?_⟩
    rw [ht4] at h2
    have h1' : H2 n1 = some (.lst (ks.map V.int)) := c2 _ _ (by intro z; rw [List.mem_singleton.mp z, e1] at h1; cases h1) h1
    have c12 : Chg [a] H H2 := c1.trans c2
    have S2 : SetAt CS H2 s pl st := hS.chg c12 nsa R.insE
    have hkl : ks.length ≤ 2000 := by omega
    obtain ⟨ds, es⟩ := S2.ins
    refine ⟨_, rfl, _, rfl, s, CS, ds, _, _, rfl, es, TS.cl, TS.nN, sF_pl _ _ _, n2, rs, st.places, rfl, hn4, SqL.of h2, fun x hx H3 u hu s3 h3 => ?_, fun hno H3 s3 => ?_⟩
    · rw [Vm.step_orbit hx] at k
      obtain ⟨_, hxl, _⟩ := (Vm.rowOf_iff (by omega) _ _).mp hx
      have S3 := S2.same s3
      have R3 := R2.same s3
      have c3 : Chg [s, a, pl] H H3 := (chg3 c12).trans (Chg.of s3)
      have h13 := s3 _ _ h1'
      refine ⟨_, rfl, _, rfl, s, pl, n1, st, ks, rfl, S3, SqL.of h13, hkl, fun H4 s4 => ⟨_, rfl, ?_⟩⟩
      have S4 := S3.same s4
      have R4 := R3.same s4
      refine if_2 (fun q => ?_) fun q => ?_
      · rw [Vm.onTurns_none (not_all (not_t q))] at k
        exact ⟨_, rfl, by show 1 ≤ sizeLine; decide, fun r hr => ends k S4 R4 hd4 (c3.trans (Chg.of s4)) r hr⟩
      · have hks := all_isT (not_f q)
        obtain ⟨gs, ek, hv, eh, hgl⟩ := Vm.onTurns_some hn4 (f := fun g => VametBase.int (Vamete.orbit g x).length :: (Vamete.orbit g x).flatten) hks
        rw [ek] at k
        refine ⟨_, rfl, _, rfl, s, pl, n1, st, ks, rfl, S4, SqL.of (s4 _ _ h13), hkl, fun H5 tl ts htl s5 h5 r5 => ?_⟩
        rw [eh] at r5
        refine ⟨_, rfl, tl, u, ts, gs.map Vm.held, x, st.places, (Vamete.allTurns st.places).map fun t => Vamete.turned t x, rfl, SqL.of h5, r5, s5 _ _ (s4 _ _ h3), hxl, hn4, ?_, ?_, ?_, ?_, ?_, ?_⟩
        · intro c hc'
          obtain ⟨g, hg, rfl⟩ := List.mem_map.mp hc'
          exact Vm.held_length (hv g hg)
        · intro c hc'
          obtain ⟨g, hg, rfl⟩ := List.mem_map.mp hc'
          exact Vm.held_ok (hv g hg)
        · rw [r5.length, List.length_map]; omega
        · intro y hy
          rw [Vm.acts_rows] at hy
          exact Vm.reach_rows_in hv hxl y hy
        · rw [List.length_map]
          exact Nat.le_trans (Vm.few_turns hn4) (by decide)
        · intro H6 G bs ys hG s6 h6 r6 hnd hmem
          rw [Vm.acts_rows] at hmem
          have hyl : ∀ y ∈ ys, y.length = st.places := fun y hy => by
            obtain ⟨t, ht, rfl⟩ := (Vm.reach_rows hv hxl y).mp ((hmem y).mp hy)
            exact Vm.turned_length (Vm.reach_valid hv ht) x
          have hy384 : ys.length ≤ 384 := by
            refine Nat.le_trans (Vm.nodup_len_le ys ((Vamete.allTurns st.places).map fun t => Vamete.turned t x) hnd fun y hy => Vm.reach_rows_in hv hxl y ((hmem y).mp hy)) ?_
            rw [List.length_map]
            exact Vm.few_turns hn4
          refine ⟨G, bs, ys, st.places, rfl, SqL.of h6, r6, hyl, ?_, fun bs' ys' p' r7 hperm hsort hp' => ?_⟩
          · by_cases z : 1 ≤ st.places
            · exact .inl z
            · refine .inr ?_
              rw [r6.length]
              exact Vm.one_empty hnd fun y hy => by rw [hyl y hy]; omega
          · have hso : Vm.RSorted ys' := Vm.pair_lt hsort (hperm.nodup_iff.mpr hnd)
            have eo : ys' = Vamete.orbit gs x := Vm.orbit_eq hv hxl hso fun y => (hperm.mem_iff).trans (hmem y)
            have hyl' : ∀ y ∈ ys', y.length = st.places := fun y hy => hyl y (hperm.mem_iff.mp hy)
            have hl7 : ys'.length ≤ 384 := by rw [hperm.length_eq]; exact hy384
            have s7 : Same H6 (upd H6 p' (.lst (bs'.map V.ref))) := Same.new hp'
            refine ⟨_, rfl, p', _, rfl, .inl (SqL.of upd_same), by show 1 ≤ sizeLine; decide, fun L hL => ?_⟩
            have hLn : H6 L = none := s7.free hL
            have s8 := Same.at_new (r := L) (o := .lst [.int (((bs'.map V.ref).length : Nat) : Int)]) s7 hLn
            have hpL : p' ≠ L := fun z => by rw [← z, upd_same] at hL; cases hL
            have hp8 : (upd (upd H6 p' (.lst (bs'.map V.ref))) L (.lst [.int (((bs'.map V.ref).length : Nat) : Int)])) p' = some (.lst (bs'.map V.ref)) := by rw [upd_ne hpL, upd_same]
            refine ⟨_, rfl, p', rfl, ⟨_, SqL.of hp8⟩, ?_⟩
            refine for_list (K := K) (a := p') (xs := bs'.map V.ref) (fun i σ H' => ∃ y7 : Option V, σ = [some (.ref s), some (.ref a), some (.ref n1), some (.ref n2), some (.ref u), some (.ref p'), some (.ref L), y7] ∧ Same H6 H' ∧ H' p' = some (.lst (bs'.map V.ref)) ∧
              H' L = some (.lst (.int (((bs'.map V.ref).length : Nat) : Int) :: ((ys'.take i).flatten).map V.int)))
              ⟨none, rfl, s8, hp8, upd_same⟩ (fun i σ H' _ h => by obtain ⟨_, _, _, q, _⟩ := h; exact SqL.of q) ?_ ?_
            · rintro i v σ H7 hv' ⟨y7, rfl, s9, p9, l9⟩
              obtain ⟨b, hb, rfl⟩ : ∃ b, bs'[i]? = some b ∧ v = V.ref b := by
                rw [List.getElem?_map] at hv'
                cases e : bs'[i]? with
                | none => rw [e] at hv'; cases hv'
                | some u => rw [e] at hv'; exact ⟨u, rfl, (Option.some.inj hv').symm⟩
              obtain ⟨y, hy', hby⟩ := r7.get hb
              refine ⟨_, rfl, .inl ⟨rfl, _, SqL.of l9⟩, _, rfl, L, b, _, _, rfl, rfl, l9, s9 _ _ hby, ?_, ?_⟩
              · rw [List.length_cons, List.length_map, List.length_map, Vm.flat_len (n := st.places) (fun z hz => hyl' z (List.mem_of_mem_take hz)), List.length_take, hyl' y (List.mem_of_getElem? hy')]
                have h1 : min i ys'.length * st.places ≤ 384 * 4 := Nat.mul_le_mul (by omega) hn4
                exact Nat.le_of_lt (small1000' (by omega))
              · refine ⟨_, rfl, Same.at_new s9 hLn, by rw [upd_ne hpL]; exact p9, ?_⟩
                rw [upd_same, take_more hy', List.flatten_append, List.map_append]
                simp
            · rintro σ H7 ⟨y7, rfl, s9, p9, l9⟩
              have elen : (bs'.map V.ref).length = ys'.length := by rw [List.length_map, r7.length]
              rw [elen, List.take_length] at l9
              have sA : Same H4 H7 := ((s5.trans s6).trans s9)
              have hLH : H L = none := by
                refine c3.free (Chg.some3 S3 R3) ?_
                exact s4.free (s5.free (s6.free hLn))
              refine ⟨_, rfl, k H7 L _ hLH (S4.same sA) (R4.same sA) hd4 ((c3.trans (Chg.of s4)).trans (Chg.of sA)) ?_⟩
              rw [l9, eo]
              rfl
    · rw [Vm.step_orbit_bad hno] at k
      refine ⟨true, T.eN, fun _ a0 _ => ?_, fun q => Bool.noConfusion q⟩
      exact ⟨_, rfl, by show 1 ≤ sizeLine; decide, fun r hr => ends k (S2.same s3) (R2.same s3) hd4 ((chg3 c12).trans (Chg.of s3)) r hr⟩
end
end Tg
set_option Elab.async false
set_option linter.all false
set_option maxRecDepth 100000
set_option maxHeartbeats 4000000
namespace Tg
open PySem PySem.Spec PyProof.Rows L2
abbrev sAnswers : Stmt := top 107
/-- a call of a local name that holds one of several defs -/
def tCallR (i : Nat) (S : Addr → Sp → Prop) (t : TA) : TE := fun σ H Q => ∃ f sp, σ[i]? = some (some (.ref f)) ∧ S f sp ∧ t σ H fun vs H1 => sp vs H1 Q (fun _ _ _ => False)
theorem pe_callR {X : Cx} {k i : Nat} {S : Addr → Sp → Prop} {x : Str} {p pos : Pos} {e : Expr} {es : List Expr} {t : TA} (A : ∀ f sp, S f sp → Held X.prog X.w X.K X.mg X.base k f sp) (hr : Room k X.A) (hN : X.N[i]? = some x) (hv : Vis X.env.scope x) (ha : PA X (e :: es) t)
    (hdb : (x == ("__debug__" : Str)) = false := by decide) (hcd : (x == ("__classdict__" : Str)) = false := by decide)
    (he : starEach (e :: es) X.env = (false, eval e X.env) :: starEach es X.env := by rfl) (hpl : (backTo pos (starEach es X.env)).any (·.1) = false := by rfl) : PE X (.Call (.Name x p) (e :: es) [] pos) (tCallR i S t) := by
  refine ⟨fun pins s σ H Q I h => ?_⟩
  obtain ⟨f, sp, hs, hS, ht⟩ := h
  exact (pe_callA (S := fun g => if g = f then some sp else none) (i := i) (k := k) (fun g sp' q => by
    by_cases c : g = f
    · rw [if_pos c] at q
      cases q
      rw [c]
      exact A f _ hS
    · rw [if_neg c] at q
      cases q) hr hN hv ha hdb hcd he hpl).run pins s σ H Q I ⟨f, sp, hs, if_pos rfl, ht⟩
/-- the table of the calls' defs -/
structure TxC (K : PySem.W.Frag) (P : Program) (w : World) (mg : Str → Option Value) (base : Heap) (CR CS CA : Addr) (fs : List Addr) : Prop where
  gC : mg "CALLS" = some (.ref CA)
  sq : ∀ H, SqT K H CA (fs.map V.ref)
  len : fs.length = 13
  ok : ∀ (i : Nat) (f : Addr), fs[i]? = some f → Held P w K mg base 12 f (spAns K CR CS (i : Int))
def spAnswers (K : PySem.W.Frag) : Sp := fun vs H Q _ => ∃ (l : Addr) (ns : List Int), vs = [.ref l] ∧ SqL K H l (ns.map V.int) ∧ ns.length ≤ 1845 ∧ PyVamete.answers_asked ns = true ∧ ∀ (H' : Hp) (p : Addr), H' p = some (.lst ((PyVamete.answers ns).map V.int)) → Q (.ref p) H'
/-- how many are left to read: the reader's place is looked up in the heap -/
def posAt (H : Hp) (a : Addr) : Nat := match H a with
  | some (.ins _ _ fs) => (match fs.lookup ("position" : Str) with
    | some (.int z) => z.toNat
    | _ => 0)
  | _ => 0
theorem posAt_of {K : PySem.W.Frag} {CR : Addr} {H : Hp} {a l : Addr} {ns : List Int} {p : Nat} (r : Rdr K CR H a l ns p) : posAt H a = p := by
  obtain ⟨dx, e⟩ := r.at_
  unfold posAt
  rw [e]
  show (match (rF l p).lookup ("position" : Str) with
    | some (.int z) => z.toNat
    | _ => 0) = p
  rw [rF_pos]
  show ((p : Int)).toNat = p
  omega
theorem sq_ne {K : PySem.W.Frag} {H : Hp} {l g : Addr} {o : HO} {xs : List V} (n : l ≠ g) (h : SqL K H l xs) : SqL K (upd H g o) l xs := by
  rcases h with (h | ⟨ob, h⟩) | h
  · exact .inl (.inl (by rw [upd_ne n]; exact h))
  · exact .inl (.inr ⟨ob, by rw [upd_ne n]; exact h⟩)
  · exact .inr h
section
variable {P : Program} {w : World} {K : PySem.W.Frag} {mg : Str → Option Value} {base : Heap} {CR CN CS CA : Addr} {fs : List Addr}
theorem scAn : FnScope ["calls", "setting", "reader", "given", "answer_call", "answer"] ["calls"] (defScope sAnswers) := ⟨rfl, rfl, rfl, by decide +kernel, rfl, by decide +kernel, by decide +kernel⟩
theorem ok_answers {f fI : Addr} {fd fdI : FuncData} (F : Fun K "answers" "answers" sAnswers f fd) (M : MkR K P w mg base CR CN) (TS : TxS K mg CS) (C : TxC K P w mg base CR CS CA fs)
    (mkS : Mk K CS fI) (GI : FnOk P w K mg base CX0 1 fI fdI ["self"] (spSInit CS)) (bI : Binds K fdI ["self"] []) : FnOk P w K mg base CX0 13 f fd ["calls"] (spAnswers K) := by
  have T := M.T
  obtain ⟨fR, fdR, mkR, GR, bR⟩ := M.init
  obtain ⟨fM, fdM, GM, bM, mM⟩ := M.more
  obtain ⟨fT, fdT, GT, bT, mT⟩ := M.taken
  refine F.ok scAn (fun vs H Q E h => ?_) (fun cdv A outer s H vs Q E hr h => ⟨_, pss_cons (ps_set (i := 1) scAn.nd rfl (Or.inl rfl) (pe_make0 mkS GI (hr.mono (by decide)) rfl TS.gS bI .nil pass0))
    (pss_cons (ps_set (i := 2) scAn.nd rfl (Or.inl rfl) (pe_make mkR GR (hr.mono (by decide)) rfl T.gR bR .nil pass0 (pa_cons (pv 0) pa_nil)))
    (pss_cons (ps_set (i := 3) scAn.nd rfl (Or.inl rfl) (pe_lst pa_nil))
    (pss_cons (ps_while PassesOwn.never (pt_val (pe_meth0 (pv 2) T.cl mM GM (hr.mono (by decide)) bM .nil pass0))
      (pss_cons (ps_set (i := 4) scAn.nd rfl (Or.inl rfl) (pe_ix ix_tup (pe_glob (v := .ref CA) rfl C.gC rfl) (pe_meth0 (pv 2) T.cl mT GT (hr.mono (by decide)) bT .nil passL) (fun _ _ => rfl)))
      (pss_cons (ps_set (i := 5) scAn.nd rfl (Or.inl rfl) (pe_callR (i := 4) (S := fun f sp => ∃ j : Nat, fs[j]? = some f ∧ sp = spAns K CR CS (j : Int)) (fun f sp q => by obtain ⟨j, hj, rfl⟩ := q; exact C.ok j f hj) hr rfl (Or.inl rfl) (pa_cons (pv 1) (pa_cons (pv 2) pa_nil))))
      (pss_cons (ps_expr (pe_bm PySem.F.plainAttrs_list PySem.F.slot_list_append PySem.F.type_list_append mt_append (pv 3) (pa_cons (pe_callB call_len_seq (by rfl) T.len PySem.boot_len (pa_cons (pv 5) pa_nil)) pa_nil)))
      (pss_one (ps_expr (pe_bm PySem.F.plainAttrs_list PySem.F.slot_list_extend PySem.F.type_list_extend mt_extend (pv 3) (pa_cons (pv 5) pa_nil))))))))
    (pss_one (ps_ret (pv 3)))))), ?_⟩)
  · obtain ⟨l, ns, rfl, _⟩ := h
    rfl
  · obtain ⟨l, ns, rfl, hL, hlen, hask, k⟩ := h
    obtain ⟨raw, hraw, eans, hshort⟩ := Vm.asked_inv hask
    -- setting = Setting()
    refine fun x dx nx nd ne => ⟨x, dx, rfl, upd_same, fun H1 pl hpl S1 c1 => ⟨rfl, ?_⟩⟩
    have s1 : Same H H1 := same_made nx nd c1
    -- reader = Reader(calls)
    refine ⟨_, rfl, fun y dy ny ndy ne2 => ⟨y, dy, l, rfl, upd_same, fun H2 A2 c2 => ⟨rfl, ?_⟩⟩⟩
    have s2 : Same H1 H2 := same_made ny ndy c2
    have S2 := S1.same s2
    have R2 : Rdr K CR H2 y l ns 0 := ⟨A2, (s1.trans s2).seq hL, Nat.zero_le _⟩
    -- given = []
    refine ⟨Nat.zero_le _, fun g hg => ?_⟩
    have s3 : Same H2 (upd H2 g (.lst [])) := Same.new hg
    have S3 := S2.same s3
    have R3 := R2.same s3
    have ng : ∀ b ∈ [x, y, pl], g ≠ b := fun b hb z => Chg.some3 S2 R2 b hb (by rw [← z]; exact hg)
    refine while_by (fun σ H' => ∃ (st : Vamete.State) (p : Nat) (given : List Int) (fu : Nat) (rw' : List (List (List Int))) (y4 y5 : Option V), σ = [some (.ref l), some (.ref x), some (.ref y), some (.ref g), y4, y5] ∧ SetAt CS H' x pl st ∧ Rdr K CR H' y l ns p ∧ H' g = some (.lst (given.map V.int)) ∧
      PyFlat.calls PyVamete.shape fu (ns.drop p) = some rw' ∧ PyVamete.answers ns = given ++ PyFlat.told (PyFlat.played VameteNeutral.step st (rw'.map PyVamete.whole))) (fun _ H' => ns.length - posAt H' y) ?_ ?_ ?_
    · refine ⟨Vamete.start, 0, [], ns.length, raw, none, none, rfl, S3, R3, upd_same, hraw, ?_⟩
      rw [List.nil_append]
      exact eans
    · rintro σ H4 ⟨st, p, given, fu, rw', y4, y5, rfl, S4, R4, g4, hcalls, ea⟩
      obtain ⟨dr, er⟩ := id R4.at_
      refine ⟨_, rfl, y, dr, _, rfl, er, rF_more l p, y, l, ns, p, rfl, R4, _, rfl, ?_⟩
      rcases Vm.calls_inv hcalls with ⟨hd, rfl⟩ | ⟨num, r, c, t, f', raw', hd, hcall, hcalls', rfl⟩
      · have hp : ¬ p < ns.length := fun z => by
          have := congrArg List.length hd
          rw [List.length_drop, List.length_nil] at this
          omega
        refine if_f (decide_eq_false hp) ⟨_, rfl, k H4 g ?_⟩
        have e0 : PyVamete.answers ns = given := by
          rw [ea]
          exact List.append_nil _
        rw [e0]
        exact g4
      · obtain ⟨hnum, hd1, hp1⟩ := Vm.drop_cons hd
        obtain ⟨sh, hsh⟩ := Vm.call_shape hcall
        obtain ⟨j, rfl, hj⟩ := Vm.shape_some hsh
        refine if_t (decide_eq_true (by omega)) ?_
        obtain ⟨fj, hfj⟩ : ∃ fj, fs[j]? = some fj := ⟨fs[j]'(by rw [C.len]; exact hj), List.getElem?_eq_getElem _⟩
        refine ⟨_, rfl, y, dr, _, rfl, er, rF_taken l p, y, l, ns, p, rfl, R4, fun v hv H5 R5 c5 => ?_, fun hz => absurd (hnum.symm.trans hz) (by simp)⟩
        rw [hnum] at hv
        cases hv
        refine ⟨CA, _, _, .ref fj, rfl, rfl, C.sq H5, atI_nat (by rw [List.getElem?_map, hfj]; rfl), ?_⟩
        obtain ⟨nxy, _, _⟩ := set_ne S4 R4
        have S5 : SetAt CS H5 x pl st := S4.chg c5 nxy R4.insE
        have g5 : H5 g = some (.lst (given.map V.int)) := c5 _ _ (by simpa using ng y (by simp)) g4
        refine ⟨fj, _, rfl, ⟨j, hfj, rfl⟩, _, rfl, _, rfl, x, pl, y, l, st, ns, p + 1, c, t, rfl, S5, R5, by omega, by rw [hd1]; exact hcall, fun H6 ra q hra S6 R6 hq c6 h6 => ?_⟩
        have g6 : H6 g = some (.lst (given.map V.int)) := c6 _ _ (by
          intro z
          rcases (show g = x ∨ g = y ∨ g = pl by simpa using z) with e | e | e
          · exact ng x (by simp) e
          · exact ng y (by simp) e
          · exact ng pl (by simp) e) g5
        have hgr : g ≠ ra := ne_of_none g5 hra
        -- the equation, one call further
        have ea2 : PyVamete.answers ns = (given ++ (((VameteNeutral.step st (PyVamete.whole c)).2.length : Nat) : Int) :: (VameteNeutral.step st (PyVamete.whole c)).2) ++ PyFlat.told (PyFlat.played VameteNeutral.step (VameteNeutral.step st (PyVamete.whole c)).1 (raw'.map PyVamete.whole)) := by
          rw [ea, List.map_cons]
          show given ++ PyFlat.told ((VameteNeutral.step st (PyVamete.whole c)).2 :: PyFlat.played VameteNeutral.step (VameteNeutral.step st (PyVamete.whole c)).1 (raw'.map PyVamete.whole)) = _
          rw [Vm.told_cons, List.append_assoc]
          rfl
        generalize hans : (VameteNeutral.step st (PyVamete.whole c)).2 = ans at *
        generalize hst : (VameteNeutral.step st (PyVamete.whole c)).1 = st' at *
        have hsz : given.length + 1 + ans.length ≤ 10000000 := by
          have := congrArg List.length ea2
          simp only [List.length_append, List.length_cons] at this
          omega
        have hline : (10000000 : Nat) < sizeLine := by decide
        refine ⟨_, rfl, .inl ⟨rfl, _, SqL.of g6⟩, _, rfl, ra, _, rfl, .inl (SqL.of h6), g, _, _, rfl, rfl, g6, by rw [List.length_map]; omega, ?_⟩
        have n6 : ∀ b ∈ [x, y, pl], g ≠ b := ng
        have h7 : (upd H6 g (.lst (given.map V.int ++ [.int (((ans.map V.int).length : Nat) : Int)]))) ra = some (.lst (ans.map V.int)) := by rw [upd_ne hgr.symm]; exact h6
        refine ⟨_, rfl, .inl ⟨rfl, _, SqL.of upd_same⟩, _, rfl, g, ra, _, _, rfl, rfl, upd_same, h7, by rw [List.length_append, List.length_map, List.length_map]; show given.length + 1 + ans.length ≤ sizeLine; omega, ?_⟩
        have sA : ∀ (b : Addr) (o u1 u2 : HO), b ≠ g → H6 b = some o → (upd (upd H6 g u1) g u2) b = some o := fun b o u1 u2 hb hq => by
          rw [upd_ne hb, upd_ne hb]
          exact hq
        have kt : ∀ u ys u1 u2, H6 u = some (.tup ys) → (upd (upd H6 g u1) g u2) u = some (.tup ys) := fun u ys u1 u2 z => sA u _ u1 u2 (fun q => by rw [q, g6] at z; cases z) z
        refine ⟨⟨st', q, given ++ ((ans.length : Nat) : Int) :: ans, f', raw', _, _, rfl, ?_, ?_, ?_, by rw [hq]; exact hcalls', ea2⟩, ?_⟩
        · obtain ⟨d6, e6⟩ := S6.ins
          obtain ⟨p0, p1, e7, P0, P1⟩ := S6.prs
          exact ⟨⟨d6, sA _ _ _ _ (ng x (by simp)).symm e6⟩, ⟨p0, p1, sA _ _ _ _ (ng pl (by simp)).symm e7, P0.map fun u ys z => kt u ys _ _ z, P1.map fun u ys z => kt u ys _ _ z⟩, S6.n4, S6.h9, S6.few⟩
        · obtain ⟨d6, e6⟩ := R6.at_
          refine ⟨⟨d6, sA _ _ _ _ (ng y (by simp)).symm e6⟩, ?_, R6.le⟩
          rcases R2.sq with hz | hz
          · have hlg : l ≠ g := by
              rcases hz with hz | ⟨o, hz⟩
              · exact ne_of_none hz hg
              · exact ne_of_none hz hg
            exact sq_ne hlg (sq_ne hlg R6.sq)
          · exact .inr hz
        · rw [upd_same, List.map_append, List.map_cons, List.append_assoc, List.length_map]
          rfl
        · have e1 : posAt H4 y = p := posAt_of R4
          have e2 : posAt (upd (upd H6 g (.lst (given.map V.int ++ [.int (((ans.map V.int).length : Nat) : Int)]))) g (.lst (given.map V.int ++ [.int (((ans.map V.int).length : Nat) : Int)] ++ ans.map V.int))) y = q := by
            have e3 : posAt H6 y = q := posAt_of R6
            rw [← e3]
            unfold posAt
            rw [upd_ne (ng y (by simp)).symm, upd_ne (ng y (by simp)).symm]
          have e4 := Vm.call_len hcall
          have e5 := congrArg List.length hq
          have e6 := congrArg List.length hd
          rw [List.length_drop] at e5 e6
          rw [List.length_cons] at e6
          have e7 := R6.le
          show ns.length - posAt (upd (upd H6 g (.lst (given.map V.int ++ [.int (((ans.map V.int).length : Nat) : Int)]))) g (.lst (given.map V.int ++ [.int (((ans.map V.int).length : Nat) : Int)] ++ ans.map V.int))) y < ns.length - posAt H4 y
          rw [e1, e2]
          omega
    · intro σ H1' Q1 Q2 hq h
      obtain ⟨v, hv, p1, p2, p3, e1, e2, e3, a1, l1, ns1, pp, e4, R1', kk, e5, q⟩ := h
      exact ⟨v, hv, p1, p2, p3, e1, e2, e3, a1, l1, ns1, pp, e4, R1', kk, e5, hq _ _ q⟩
end
end Tg
set_option Elab.async false
set_option linter.all false
set_option maxRecDepth 100000
set_option maxHeartbeats 4000000
namespace Tg
open PySem PySem.Spec PyProof.Rows L2
/-! ### What the top has left, def by def -/
structure DefAt (K : PySem.W.Frag) (mg : Str → Option Value) (name : Str) (st : Stmt) (ps : List Str) (f : Addr) (fd : FuncData) : Prop where
  g : mg name = some (.ref f)
  F : Fun K name name st f fd
  b : Binds K fd ps []
structure MethAt (K : PySem.W.Frag) (C : Addr) (m qual : Str) (st : Stmt) (ps : List Str) (f : Addr) (fd : FuncData) : Prop where
  me : Meth K C m f
  F : Fun K m qual st f fd
  b : Binds K fd ps []
theorem def_mk {K : PySem.W.Frag} {h : Heap} {mg : Str → Option Value} (X : K.In h) (G : h.Ns mainGlobals mg) (name : Str) (st : Stmt) (ps : List Str) {f : Addr} {oc kV dc pm cd ct : Value} {od an : Option Addr} {sl : Array (Option Value)}
    (hb : ∀ (kV doc pm : Value) (an : Option Addr) (cdv ct : Value) (us : List Value), us.length = ps.length → bindArgs (PySem.W.fnOf name name (defArgs st) (defBody st) (defScope st) .none kV doc pm an cdv ct) ⟨us, []⟩ = pure (ps.zip us))
    (a : PySem.W.nsIn K mainGlobals name = some (some (.ref f))) (l : K.lookup f = some ⟨oc, od, .func (PySem.W.fnOf name name (defArgs st) (defBody st) (defScope st) .none kV dc pm an cd ct), sl⟩)
    (c : PySem.W.codeIn K cd name = true) (k : PySem.W.keepIn K (.ref f) = true) : ∃ f fd, DefAt K mg name st ps f fd :=
  ⟨f, _, PySem.W.mg_of X G a, fun_mk (st := st) l c k, (fun_mk (st := st) l c k).binds hb⟩
theorem meth_mk {K : PySem.W.Frag} {h : Heap} (X : K.In h) {C : Addr} (m qual : Str) (st : Stmt) (ps : List Str) {f : Addr} {oc kV dc pm cd ct : Value} {od an : Option Addr} {sl : Array (Option Value)}
    (hb : ∀ (kV doc pm : Value) (an : Option Addr) (cdv ct : Value) (us : List Value), us.length = ps.length → bindArgs (PySem.W.fnOf m qual (defArgs st) (defBody st) (defScope st) .none kV doc pm an cdv ct) ⟨us, []⟩ = pure (ps.zip us))
    (a : PySem.W.findIn K (.ref C) m = some (some (.ref f))) (i : PySem.W.isFn K (.ref f) = true) (l : K.lookup f = some ⟨oc, od, .func (PySem.W.fnOf m qual (defArgs st) (defBody st) (defScope st) .none kV dc pm an cd ct), sl⟩)
    (c : PySem.W.codeIn K cd qual = true) (k : PySem.W.keepIn K (.ref f) = true) : ∃ f fd, MethAt K C m qual st ps f fd :=
  ⟨f, _, ⟨a, i, k⟩, fun_mk (st := st) l c k, (fun_mk (st := st) l c k).binds hb⟩
theorem cls_mk {K : PySem.W.Frag} {h : Heap} {mg : Str → Option Value} (X : K.In h) (G : h.Ns mainGlobals mg) (name : Str) {C : Addr} (a : PySem.W.nsIn K mainGlobals name = some (some (.ref C))) (pg : PySem.W.plainGet K C Str.empty = true) (hd : PySem.W.hasDictIn K C = true) (po : PySem.W.plainOver K C = true)
    (sa : PySem.W.findIn K (.ref C) "__setattr__" = some (some (.builtin "object.__setattr__"))) (mk : PySem.W.makesIn K C = true) (kc : PySem.W.keepIn K (.ref C) = true) : mg name = some (.ref C) ∧ Cls K C ∧ PySem.W.makesIn K C = true ∧ PySem.W.keepIn K (.ref C) = true :=
  ⟨PySem.W.mg_of X G a, ⟨pg, hd, po, sa⟩, mk, kc⟩
/-- an error of the class at S is what «except S» names -/
theorem exm_self {K : PySem.W.Frag} {S : Addr} (h1 : PySem.W.subIn K (.ref S) (.type "BaseException") = some true) (h2 : PySem.W.isClsIn K S = true) (h3 : PySem.W.typeIn K (.ref S) = some (.type "type")) (h4 : PySem.W.subIn K (.ref S) (.ref S) = some true) :
    PySem.W.exmOne K (.ref S) (.ref S) = some true := by
  have e1 : (PySem.W.subIn K (.ref S) (.type "BaseException") == some true) = true := by rw [h1] <;> rfl
  have e2 : ((PySem.W.clsIn K S).isSome && PySem.W.typeIn K (.ref S) == some (.type "type")) = true := by
    have h2' : (PySem.W.clsIn K S).isSome = true := h2
    rw [h2', h3] <;> rfl
  unfold PySem.W.exmOne
  rw [if_pos e1]
  unfold PySem.W.kitCls
  dsimp only
  rw [if_pos e2]
  exact h4
section
variable {P : Program} {w : World} {K : PySem.W.Frag} {mg : Str → Option Value} {base : Heap} {CR CN CS S : Addr}
/-- the Reader, whole -/
theorem reader_mk (T : TxR K mg CR CN) (mk : PySem.W.makesIn K CR = true) (kc : PySem.W.keepIn K (.ref CR) = true) {f1 f2 f3 f4 f5 f6 : Addr} {d1 d2 d3 d4 d5 d6 : FuncData}
    (h1 : MethAt K CR "__init__" "Reader.__init__" sRInit ["self", "numbers"] f1 d1) (h2 : MethAt K CR "has_more" "Reader.has_more" sMore ["self"] f2 d2) (h3 : MethAt K CR "taken" "Reader.taken" sTaken ["self"] f3 d3)
    (h4 : MethAt K CR "taken_between" "Reader.taken_between" sBetween ["self", "low", "high"] f4 d4) (h5 : MethAt K CR "taken_counted" "Reader.taken_counted" sCounted ["self"] f5 d5) (h6 : MethAt K CR "must_end" "Reader.must_end" sMustEnd ["self"] f6 d6) : MkR K P w mg base CR CN := by
  have G2 : FnOk P w K mg base CX0 1 f2 d2 ["self"] (spMore K CR) := ok_more h2.F T
  have G3 : FnOk P w K mg base (L2.CX P w) 2 f3 d3 ["self"] (spTaken K CR CN) := ok_taken h3.F T h2.F h2.b h2.me
  exact ⟨T, ⟨f1, d1, ⟨mk, h1.me.at_, h1.me.fn, kc⟩, ok_rinit h1.F T, h1.b⟩, ⟨f2, d2, G2, h2.b, h2.me⟩, ⟨f3, d3, G3, h3.b, h3.me⟩, ⟨f4, d4, ok_between h4.F T G3 h3.b h3.me, h4.b, h4.me⟩,
    ⟨f5, d5, ok_counted h5.F T G3 h3.b h3.me, h5.b, h5.me⟩, ⟨f6, d6, ok_mustEnd h6.F T G2 h2.b h2.me, h6.b, h6.me⟩⟩
/-- whole_program -/
theorem wholeProgram_mk (M : MkR K P w mg base CR CN) (TL : TxL K mg S) (gTuple : mg "tuple" = none) {f1 f2 f3 f4 : Addr} {d1 d2 d3 d4 : FuncData} (h1 : DefAt K mg "taken_amount" sAmount ["reader", "letter"] f1 d1) (h2 : DefAt K mg "taken_step" sStep ["reader"] f2 d2)
    (h3 : DefAt K mg "taken_program" sProgram ["reader"] f3 d3) (h4 : DefAt K mg "whole_program" sWholeProgram ["numbers"] f4 d4) : FnOk P w K mg base (L2.CX P w) 7 f4 d4 ["numbers"] (spWholeProg K CN) :=
  ok_wholeProgram h4.F M (ok_program h3.F M gTuple (ok_step h2.F M TL (ok_amount h1.F M) h1.b h1.g h1.F.kp) h2.b h2.g h2.F.kp) h3.b h3.g h3.F.kp
/-- Python's own names that the program calls -/
structure Blt (mg : Str → Option Value) : Prop where
  range : mg "range" = none
  len : mg "len" = none
  tuple : mg "tuple" = none
  list : mg "list" = none
  abs : mg "abs" = none
  enumerate : mg "enumerate" = none
  zip : mg "zip" = none
  all : mg "all" = none
  sorted : mg "sorted" = none
/-- the defs about turns, whole -/
theorem turns_mk (TS : TxS K mg CS) (B : Blt mg) {f1 f2 f3 f4 f5 f6 f7 f8 f9 f10 f11 f12 f13 : Addr} {d1 d2 d3 d4 d5 d6 d7 d8 d9 d10 d11 d12 d13 : FuncData}
    (h1 : DefAt K mg "turn_count" sTurnCount ["places"] f1 d1) (h2 : DefAt K mg "is_turn" sIsTurn ["places", "number"] f2 d2) (h3 : DefAt K mg "idle_turn" sIdle ["places"] f3 d3) (h4 : DefAt K mg "turned" sTurned ["turn", "row"] f4 d4)
    (h5 : DefAt K mg "undone" sUndone ["turn"] f5 d5) (h6 : DefAt K mg "sources_of" sSources ["turn"] f6 d6) (h7 : DefAt K mg "signs_of" sSigns ["turn"] f7 d7) (h8 : DefAt K mg "number_of" sNumberOf ["turn"] f8 d8)
    (h9 : DefAt K mg "sources_ranked" sRanked ["places", "rank"] f9 d9) (h10 : DefAt K mg "turn_of" sTurnOf ["places", "number"] f10 d10) (h11 : DefAt K mg "reached" sReached ["turns", "row"] f11 d11)
    (h12 : DefAt K mg "are_turns" sAreTurns ["setting", "numbers"] f12 d12) (h13 : DefAt K mg "turns_of" sTurnsOf ["setting", "numbers"] f13 d13) : Tns K P w mg base CS := by
  have G1 : FnOk P w K mg base CX0 1 f1 d1 ["places"] spTurnCount := ok_turnCount h1.F B.range
  have G2 : FnOk P w K mg base CX0 2 f2 d2 ["places", "number"] spIsTurn := ok_isTurn h2.F G1 h1.b h1.g h1.F.kp
  have G4 : FnOk P w K mg base CX0 1 f4 d4 ["turn", "row"] (spTurned K) := ok_turned h4.F B.tuple
  have G6 : FnOk P w K mg base CX0 1 f6 d6 ["turn"] (spSources K) := ok_sources h6.F B.abs
  have G7 : FnOk P w K mg base CX0 1 f7 d7 ["turn"] (spSigns K) := ok_signs h7.F
  have G10 : FnOk P w K mg base CX0 2 f10 d10 ["places", "number"] spTurnOf := ok_turnOf h10.F B.range B.zip B.tuple (ok_ranked h9.F B.list B.range) h9.b h9.g h9.F.kp
  exact ⟨⟨f2, d2, G2, h2.b, h2.g, h2.F.kp⟩, ⟨f10, d10, G10, h10.b, h10.g, h10.F.kp⟩, ⟨f6, d6, G6, h6.b, h6.g, h6.F.kp⟩, ⟨f7, d7, G7, h7.b, h7.g, h7.F.kp⟩,
    ⟨f8, d8, ok_numberOf h8.F B.list B.range B.len G6 h6.b h6.g h6.F.kp G7 h7.b h7.g h7.F.kp, h8.b, h8.g, h8.F.kp⟩, ⟨f4, d4, G4, h4.b, h4.g, h4.F.kp⟩, ⟨f5, d5, ok_undone h5.F B.list B.tuple B.enumerate B.abs, h5.b, h5.g, h5.F.kp⟩,
    ⟨f3, d3, ok_idle h3.F B.range B.tuple, h3.b, h3.g, h3.F.kp⟩, ⟨f11, d11, ok_reached h11.F B.len G4 h4.b h4.g h4.F.kp, h11.b, h11.g, h11.F.kp⟩, ⟨f12, d12, ok_areTurns h12.F TS B.all G2 h2.b h2.g h2.F.kp, h12.b, h12.g, h12.F.kp⟩,
    ⟨f13, d13, ok_turnsOf h13.F TS G10 h10.b h10.g h10.F.kp, h13.b, h13.g, h13.F.kp⟩⟩
end
end Tg
set_option Elab.async false
set_option linter.all false
set_option maxRecDepth 100000
set_option maxHeartbeats 4000000
namespace Tg
open PySem PySem.Spec PyProof.Rows L2
theorem use {p q : Prop} (h : p) (f : p → q) : q := f h
/-- what the top has left of the Reader -/
def ReaderTop (K : PySem.W.Frag) (mg : Str → Option Value) : Prop := ∃ (CR CN : Addr), TxR K mg CR CN ∧ PySem.W.makesIn K CR = true ∧ PySem.W.keepIn K (.ref CR) = true ∧
  (∃ f fd, MethAt K CR "__init__" "Reader.__init__" sRInit ["self", "numbers"] f fd) ∧
  (∃ f fd, MethAt K CR "has_more" "Reader.has_more" sMore ["self"] f fd) ∧
  (∃ f fd, MethAt K CR "taken" "Reader.taken" sTaken ["self"] f fd) ∧
  (∃ f fd, MethAt K CR "taken_between" "Reader.taken_between" sBetween ["self", "low", "high"] f fd) ∧
  (∃ f fd, MethAt K CR "taken_counted" "Reader.taken_counted" sCounted ["self"] f fd) ∧
  (∃ f fd, MethAt K CR "must_end" "Reader.must_end" sMustEnd ["self"] f fd)
theorem reader_top {K : PySem.W.Frag} {h : Heap} {mg : Str → Option Value} (X : K.In h) (G : h.Ns mainGlobals mg) {CR CN f0 f1 f2 f3 f4 f5 : Addr}
    {od0 an0 od1 an1 od2 an2 od3 an3 od4 an4 od5 an5 : Option Addr} {sl0 sl1 sl2 sl3 sl4 sl5 : Array (Option Value)} {oc0 kV0 dc0 pm0 cd0 ct0 oc1 kV1 dc1 pm1 cd1 ct1 oc2 kV2 dc2 pm2 cd2 ct2 oc3 kV3 dc3 pm3 cd3 ct3 oc4 kV4 dc4 pm4 cd4 ct4 oc5 kV5 dc5 pm5 cd5 ct5 : Value}
    (aR : PySem.W.nsIn K mainGlobals "Reader" = some (some (.ref CR))) (aN : PySem.W.nsIn K mainGlobals "NotWhole" = some (some (.ref CN))) (zL : PySem.W.nsIn K mainGlobals "len" = some none) (zR : PySem.W.nsIn K mainGlobals "range" = some none)
    (pg : PySem.W.plainGet K CR Str.empty = true) (hd : PySem.W.hasDictIn K CR = true) (po : PySem.W.plainOver K CR = true) (sa : PySem.W.findIn K (.ref CR) "__setattr__" = some (some (.builtin "object.__setattr__"))) (mk : PySem.W.makesIn K CR = true) (kc : PySem.W.keepIn K (.ref CR) = true)
    (nN : PySem.W.findIn K (.ref CR) "numbers" = some none) (nP : PySem.W.findIn K (.ref CR) "position" = some none)
    (xN : PySem.W.excIn K CN [.type "ValueError", .type "Exception", .type "BaseException", .type "object"] "ValueError.__new__" = true) (kN : PySem.W.keepIn K (.ref CN) = true) (bN : PySem.W.subIn K (.ref CN) (.type "BaseException") = some true)
    (tN : PySem.W.typeIn K (.ref CN) = some (.type "type")) (iN : PySem.W.isClsIn K CN = true) (sN : PySem.W.subIn K (.ref CN) (.ref CN) = some true)
    (a0 : PySem.W.findIn K (.ref CR) "__init__" = some (some (.ref f0))) (i0 : PySem.W.isFn K (.ref f0) = true) (l0 : K.lookup f0 = some ⟨oc0, od0, .func (PySem.W.fnOf "__init__" "Reader.__init__" (defArgs sRInit) (defBody sRInit) (defScope sRInit) .none kV0 dc0 pm0 an0 cd0 ct0), sl0⟩) (c0 : PySem.W.codeIn K cd0 "Reader.__init__" = true) (k0 : PySem.W.keepIn K (.ref f0) = true)
    (a1 : PySem.W.findIn K (.ref CR) "has_more" = some (some (.ref f1))) (i1 : PySem.W.isFn K (.ref f1) = true) (l1 : K.lookup f1 = some ⟨oc1, od1, .func (PySem.W.fnOf "has_more" "Reader.has_more" (defArgs sMore) (defBody sMore) (defScope sMore) .none kV1 dc1 pm1 an1 cd1 ct1), sl1⟩) (c1 : PySem.W.codeIn K cd1 "Reader.has_more" = true) (k1 : PySem.W.keepIn K (.ref f1) = true)
    (a2 : PySem.W.findIn K (.ref CR) "taken" = some (some (.ref f2))) (i2 : PySem.W.isFn K (.ref f2) = true) (l2 : K.lookup f2 = some ⟨oc2, od2, .func (PySem.W.fnOf "taken" "Reader.taken" (defArgs sTaken) (defBody sTaken) (defScope sTaken) .none kV2 dc2 pm2 an2 cd2 ct2), sl2⟩) (c2 : PySem.W.codeIn K cd2 "Reader.taken" = true) (k2 : PySem.W.keepIn K (.ref f2) = true)
    (a3 : PySem.W.findIn K (.ref CR) "taken_between" = some (some (.ref f3))) (i3 : PySem.W.isFn K (.ref f3) = true) (l3 : K.lookup f3 = some ⟨oc3, od3, .func (PySem.W.fnOf "taken_between" "Reader.taken_between" (defArgs sBetween) (defBody sBetween) (defScope sBetween) .none kV3 dc3 pm3 an3 cd3 ct3), sl3⟩) (c3 : PySem.W.codeIn K cd3 "Reader.taken_between" = true) (k3 : PySem.W.keepIn K (.ref f3) = true)
    (a4 : PySem.W.findIn K (.ref CR) "taken_counted" = some (some (.ref f4))) (i4 : PySem.W.isFn K (.ref f4) = true) (l4 : K.lookup f4 = some ⟨oc4, od4, .func (PySem.W.fnOf "taken_counted" "Reader.taken_counted" (defArgs sCounted) (defBody sCounted) (defScope sCounted) .none kV4 dc4 pm4 an4 cd4 ct4), sl4⟩) (c4 : PySem.W.codeIn K cd4 "Reader.taken_counted" = true) (k4 : PySem.W.keepIn K (.ref f4) = true)
    (a5 : PySem.W.findIn K (.ref CR) "must_end" = some (some (.ref f5))) (i5 : PySem.W.isFn K (.ref f5) = true) (l5 : K.lookup f5 = some ⟨oc5, od5, .func (PySem.W.fnOf "must_end" "Reader.must_end" (defArgs sMustEnd) (defBody sMustEnd) (defScope sMustEnd) .none kV5 dc5 pm5 an5 cd5 ct5), sl5⟩) (c5 : PySem.W.codeIn K cd5 "Reader.must_end" = true) (k5 : PySem.W.keepIn K (.ref f5) = true)
    : ReaderTop K mg := by
  refine ⟨CR, CN, ⟨⟨pg, hd, po, sa⟩, nN, nP, PySem.W.mg_of X G aR, PySem.W.mg_of X G aN, xN, kN, bN, tN, exm_self bN iN tN sN, PySem.W.mg_none_of X G zL, PySem.W.mg_none_of X G zR⟩, mk, kc, ?_, ?_, ?_, ?_, ?_, ?_⟩
  · exact meth_mk X "__init__" "Reader.__init__" sRInit ["self", "numbers"] (fun _ _ _ _ _ _ us hl => match us, hl with | [_, _], _ => rfl) a0 i0 l0 c0 k0
  · exact meth_mk X "has_more" "Reader.has_more" sMore ["self"] (fun _ _ _ _ _ _ us hl => match us, hl with | [_], _ => rfl) a1 i1 l1 c1 k1
  · exact meth_mk X "taken" "Reader.taken" sTaken ["self"] (fun _ _ _ _ _ _ us hl => match us, hl with | [_], _ => rfl) a2 i2 l2 c2 k2
  · exact meth_mk X "taken_between" "Reader.taken_between" sBetween ["self", "low", "high"] (fun _ _ _ _ _ _ us hl => match us, hl with | [_, _, _], _ => rfl) a3 i3 l3 c3 k3
  · exact meth_mk X "taken_counted" "Reader.taken_counted" sCounted ["self"] (fun _ _ _ _ _ _ us hl => match us, hl with | [_], _ => rfl) a4 i4 l4 c4 k4
  · exact meth_mk X "must_end" "Reader.must_end" sMustEnd ["self"] (fun _ _ _ _ _ _ us hl => match us, hl with | [_], _ => rfl) a5 i5 l5 c5 k5
/-- of the Setting -/
def SettingTop (K : PySem.W.Frag) (mg : Str → Option Value) : Prop := ∃ (CS : Addr), TxS K mg CS ∧ PySem.W.makesIn K CS = true ∧ PySem.W.keepIn K (.ref CS) = true ∧ ∃ f fd, MethAt K CS "__init__" "Setting.__init__" sSInit ["self"] f fd
theorem setting_top {K : PySem.W.Frag} {h : Heap} {mg : Str → Option Value} (X : K.In h) (G : h.Ns mainGlobals mg) {CS f : Addr} {od an : Option Addr} {sl : Array (Option Value)} {oc kV dc pm cd ct : Value}
    (aS : PySem.W.nsIn K mainGlobals "Setting" = some (some (.ref CS)))
    (pg : PySem.W.plainGet K CS Str.empty = true) (hd : PySem.W.hasDictIn K CS = true) (po : PySem.W.plainOver K CS = true) (sa : PySem.W.findIn K (.ref CS) "__setattr__" = some (some (.builtin "object.__setattr__"))) (mk : PySem.W.makesIn K CS = true) (kc : PySem.W.keepIn K (.ref CS) = true)
    (n1 : PySem.W.findIn K (.ref CS) "places" = some none) (n2 : PySem.W.findIn K (.ref CS) "height" = some none) (n3 : PySem.W.findIn K (.ref CS) "programs" = some none)
    (a : PySem.W.findIn K (.ref CS) "__init__" = some (some (.ref f))) (i : PySem.W.isFn K (.ref f) = true) (l : K.lookup f = some ⟨oc, od, .func (PySem.W.fnOf "__init__" "Setting.__init__" (defArgs sSInit) (defBody sSInit) (defScope sSInit) .none kV dc pm an cd ct), sl⟩) (c : PySem.W.codeIn K cd "Setting.__init__" = true) (k : PySem.W.keepIn K (.ref f) = true)
    : SettingTop K mg :=
  ⟨CS, ⟨⟨pg, hd, po, sa⟩, n1, n2, n3, PySem.W.mg_of X G aS⟩, mk, kc, meth_mk X "__init__" "Setting.__init__" sSInit ["self"] (fun _ _ _ _ _ _ us hl => match us, hl with | [_], _ => rfl) a i l c k⟩
/-- the table of letters -/
theorem letters_top {K : PySem.W.Frag} {h : Heap} {mg : Str → Option Value} (X : K.In h) (G : h.Ns mainGlobals mg) {S : Addr} {od : Option Addr} {its : Array Value} {n : Nat} {sl : Array (Option Value)} (a : PySem.W.nsIn K mainGlobals "STEP_LETTERS" = some (some (.ref S)))
    (l : K.lookup S = some ⟨.type "tuple", od, .seq its n, sl⟩) (hv : Vals (letters.map V.str) its.toList) : ∃ S, TxL K mg S :=
  ⟨S, PySem.W.mg_of X G a, fun H => .inr ⟨_, its, n, l, rfl, rfl, by have e : letters.length = its.size := (by simpa using hv.length); rw [← e]; decide, hv⟩⟩
theorem blt_top {K : PySem.W.Frag} {h : Heap} {mg : Str → Option Value} (X : K.In h) (G : h.Ns mainGlobals mg) (z1 : PySem.W.nsIn K mainGlobals "range" = some none) (z2 : PySem.W.nsIn K mainGlobals "len" = some none) (z3 : PySem.W.nsIn K mainGlobals "tuple" = some none) (z4 : PySem.W.nsIn K mainGlobals "list" = some none)
    (z5 : PySem.W.nsIn K mainGlobals "abs" = some none) (z6 : PySem.W.nsIn K mainGlobals "enumerate" = some none) (z7 : PySem.W.nsIn K mainGlobals "zip" = some none) (z8 : PySem.W.nsIn K mainGlobals "all" = some none) (z9 : PySem.W.nsIn K mainGlobals "sorted" = some none) : Blt mg :=
  ⟨PySem.W.mg_none_of X G z1, PySem.W.mg_none_of X G z2, PySem.W.mg_none_of X G z3, PySem.W.mg_none_of X G z4, PySem.W.mg_none_of X G z5, PySem.W.mg_none_of X G z6, PySem.W.mg_none_of X G z7, PySem.W.mg_none_of X G z8, PySem.W.mg_none_of X G z9⟩
end Tg
set_option Elab.async false
set_option linter.all false
set_option maxRecDepth 100000
set_option maxHeartbeats 4000000
namespace Tg
open PySem PySem.Spec PyProof.Rows L2
abbrev sAdd : Stmt := top 3
abbrev sTimes : Stmt := top 4
abbrev sRest : Stmt := top 5
abbrev sAbs : Stmt := top 6
abbrev sSort : Stmt := top 7
abbrev sReverse : Stmt := top 8
abbrev sRotate : Stmt := top 9
abbrev sTake : Stmt := top 10
abbrev sDrop : Stmt := top 11
abbrev sAbove : Stmt := top 12
abbrev sOnce : Stmt := top 13
abbrev sSum : Stmt := top 14
abbrev sGreatest : Stmt := top 15
abbrev sLeast : Stmt := top 16
abbrev sCount : Stmt := top 17
abbrev sSteps : Stmt := top 18
abbrev sSums : Stmt := top 19
abbrev sTwice : Stmt := top 20
/-- what the def of the step of number j does with a row -/
def spDo (j : Nat) : Sp := fun vs H Q _ => ∃ (s : VametBase.Step) (r : Addr) (x : List Int), vs = [.ref r, .int (Vm.pairOf s).2] ∧ (Vm.pairOf s).1 = (j : Int) ∧ Vm.okStep s ∧ H r = some (.tup (x.map V.int)) ∧ VametBase.within x = true ∧
  ∀ H' t, Same H H' → H' t = some (.tup ((VametBase.done s x).map V.int)) → Q (.ref t) H'
theorem len40 {x : List Int} (h : VametBase.within x = true) : x.length ≤ 40 := ((Vm.within_iff x).mp h).1
/-- the end of a turn of a comprehension over a row -/
theorem lcFin {H H2 : Hp} {D : Addr} {x : List Int} {f : Int → Int} {i : Nat} {e v : Int} (he : x[i]? = some e) (hv : v = f e) (hl : x.length ≤ 1000) (hD : H D = none) (s2 : Same H H2) (d2 : H2 D = some (.lst (((x.take i).map f).map V.int))) :
    ∃ acc, H2 D = some (.lst acc) ∧ acc.length < sizeLine ∧ Same H (upd H2 D (.lst (acc ++ [.int v]))) ∧ (upd H2 D (.lst (acc ++ [.int v]))) D = some (.lst (((x.take (i + 1)).map f).map V.int)) := by
  refine ⟨_, d2, ?_, Same.at_new s2 hD, ?_⟩
  · rw [List.length_map, List.length_map, List.length_take]
    exact small1000' (by omega)
  · rw [upd_same, take_more he, List.map_append, List.map_append, hv]
    rfl
section
variable {P : Program} {w : World} {K : PySem.W.Frag} {mg : Str → Option Value} {base : Heap}
theorem scD0 : FnScope ["row", "amount", "number"] ["row", "amount"] (defScope sAdd) := ⟨rfl, rfl, rfl, by decide +kernel, rfl, by decide +kernel, by decide +kernel⟩
theorem ok_add {f : Addr} {fd : FuncData} (F : Fun K "do_add" "do_add" sAdd f fd) (gTuple : mg "tuple" = none) : FnOk P w K mg base CX0 1 f fd ["row", "amount"] (spDo 0) := by
  refine F.ok scD0 (fun vs H Q E h => ?_) (fun cdv A outer s H vs Q E hr h => ⟨_, pss_one (ps_ret (pe_callTy call_tuple_of (by rfl) gTuple (by decide +kernel) (pa_cons
      (pe_lc (own := [("number", 2)]) (g := gName 2) (tt := tYes) rfl scD0.nd (pi_tup (pv 0)) (blkOk_by (N := ["row", "amount", "number"]) (sc := defScope sAdd) (by decide +kernel)) (fun _ _ _ _ _ => pg_name (i := 2) scD0.nd rfl (Or.inl rfl)) (fun _ _ _ _ _ => pts_nil)
        (fun _ _ _ _ _ => pe_op op_add (pv 2) (pv 1))) pa_nil))), ?_⟩)
  · obtain ⟨s, r, x, rfl, _⟩ := h
    rfl
  · obtain ⟨s, r, x, rfl, hj, hs, hr0, hx, k⟩ := h
    obtain ⟨c, rfl⟩ := Vm.kind0 hj
    refine ⟨_, rfl, r, rfl, ⟨_, SqT.of hr0⟩, fun D hD => lc_tup (K := K) (a := r) (xs := x.map V.int) (fun i H' => Same H H' ∧ H' D = some (.lst (((x.take i).map fun z => z + c).map V.int)))
      ⟨Same.new hD, upd_same⟩ (fun i H' _ h => SqT.of (h.1 _ _ hr0)) ?_ ?_⟩
    · rintro i y H2 hy ⟨s2, d2⟩
      obtain ⟨e, he, rfl⟩ := vget hy
      exact ⟨rfl, _, rfl, _, rfl, _, _, rfl, rfl, lcFin he rfl (by have := len40 hx; omega) hD s2 d2⟩
    · rintro H2 ⟨s2, d2⟩
      rw [List.length_map, List.take_length] at d2
      exact ⟨D, _, rfl, .inl ⟨SqL.of d2, fun u hu => k _ u (s2.trans (Same.new hu)) upd_same⟩⟩
theorem scD1 : FnScope ["row", "amount", "number"] ["row", "amount"] (defScope sTimes) := ⟨rfl, rfl, rfl, by decide +kernel, rfl, by decide +kernel, by decide +kernel⟩
theorem ok_times {f : Addr} {fd : FuncData} (F : Fun K "do_times" "do_times" sTimes f fd) (gTuple : mg "tuple" = none) : FnOk P w K mg base CX0 1 f fd ["row", "amount"] (spDo 1) := by
  refine F.ok scD1 (fun vs H Q E h => ?_) (fun cdv A outer s H vs Q E hr h => ⟨_, pss_one (ps_ret (pe_callTy call_tuple_of (by rfl) gTuple (by decide +kernel) (pa_cons
      (pe_lc (own := [("number", 2)]) (g := gName 2) (tt := tYes) rfl scD1.nd (pi_tup (pv 0)) (blkOk_by (N := ["row", "amount", "number"]) (sc := defScope sTimes) (by decide +kernel)) (fun _ _ _ _ _ => pg_name (i := 2) scD1.nd rfl (Or.inl rfl)) (fun _ _ _ _ _ => pts_nil)
        (fun _ _ _ _ _ => pe_op op_mul (pv 2) (pv 1))) pa_nil))), ?_⟩)
  · obtain ⟨s, r, x, rfl, _⟩ := h
    rfl
  · obtain ⟨s, r, x, rfl, hj, hs, hr0, hx, k⟩ := h
    obtain ⟨c, rfl⟩ := Vm.kind1 hj
    have hs' : -99 ≤ c ∧ c ≤ 99 := hs
    refine ⟨_, rfl, r, rfl, ⟨_, SqT.of hr0⟩, fun D hD => lc_tup (K := K) (a := r) (xs := x.map V.int) (fun i H' => Same H H' ∧ H' D = some (.lst (((x.take i).map fun z => z * c).map V.int)))
      ⟨Same.new hD, upd_same⟩ (fun i H' _ h => SqT.of (h.1 _ _ hr0)) ?_ ?_⟩
    · rintro i y H2 hy ⟨s2, d2⟩
      obtain ⟨e, he, rfl⟩ := vget hy
      exact ⟨rfl, _, rfl, _, rfl, _, _, rfl, rfl, .inr ⟨by show -(2 ^ 64) < c; omega, by show c < 2 ^ 64; omega⟩, lcFin he rfl (by have := len40 hx; omega) hD s2 d2⟩
    · rintro H2 ⟨s2, d2⟩
      rw [List.length_map, List.take_length] at d2
      exact ⟨D, _, rfl, .inl ⟨SqL.of d2, fun u hu => k _ u (s2.trans (Same.new hu)) upd_same⟩⟩
theorem scD2 : FnScope ["row", "amount", "number"] ["row", "amount"] (defScope sRest) := ⟨rfl, rfl, rfl, by decide +kernel, rfl, by decide +kernel, by decide +kernel⟩
theorem ok_rest {f : Addr} {fd : FuncData} (F : Fun K "do_rest" "do_rest" sRest f fd) (gTuple : mg "tuple" = none) : FnOk P w K mg base CX0 1 f fd ["row", "amount"] (spDo 2) := by
  refine F.ok scD2 (fun vs H Q E h => ?_) (fun cdv A outer s H vs Q E hr h => ⟨_, pss_one (ps_ret (pe_callTy call_tuple_of (by rfl) gTuple (by decide +kernel) (pa_cons
      (pe_lc (own := [("number", 2)]) (g := gName 2) (tt := tYes) rfl scD2.nd (pi_tup (pv 0)) (blkOk_by (N := ["row", "amount", "number"]) (sc := defScope sRest) (by decide +kernel)) (fun _ _ _ _ _ => pg_name (i := 2) scD2.nd rfl (Or.inl rfl)) (fun _ _ _ _ _ => pts_nil)
        (fun _ _ _ _ _ => pe_op op_modN (pv 2) (pv 1))) pa_nil))), ?_⟩)
  · obtain ⟨s, r, x, rfl, _⟩ := h
    rfl
  · obtain ⟨s, r, x, rfl, hj, hs, hr0, hx, k⟩ := h
    obtain ⟨c, rfl⟩ := Vm.kind2 hj
    have hs' : 1 ≤ c ∧ c ≤ 9 := hs
    refine ⟨_, rfl, r, rfl, ⟨_, SqT.of hr0⟩, fun D hD => lc_tup (K := K) (a := r) (xs := x.map V.int) (fun i H' => Same H H' ∧ H' D = some (.lst (((x.take i).map (VametBase.restOf c)).map V.int)))
      ⟨Same.new hD, upd_same⟩ (fun i H' _ h => SqT.of (h.1 _ _ hr0)) ?_ ?_⟩
    · rintro i y H2 hy ⟨s2, d2⟩
      obtain ⟨e, he, rfl⟩ := vget hy
      exact ⟨rfl, _, rfl, _, rfl, e, (c : Int), rfl, rfl, by omega, lcFin he (Vm.fmod_rest hs'.1 e) (by have := len40 hx; omega) hD s2 d2⟩
    · rintro H2 ⟨s2, d2⟩
      rw [List.length_map, List.take_length] at d2
      exact ⟨D, _, rfl, .inl ⟨SqL.of d2, fun u hu => k _ u (s2.trans (Same.new hu)) upd_same⟩⟩
theorem scD3 : FnScope ["row", "amount", "number"] ["row", "amount"] (defScope sAbs) := ⟨rfl, rfl, rfl, by decide +kernel, rfl, by decide +kernel, by decide +kernel⟩
theorem ok_abs {f : Addr} {fd : FuncData} (F : Fun K "do_abs" "do_abs" sAbs f fd) (gTuple : mg "tuple" = none) (gAbs : mg "abs" = none) : FnOk P w K mg base CX0 1 f fd ["row", "amount"] (spDo 3) := by
  refine F.ok scD3 (fun vs H Q E h => ?_) (fun cdv A outer s H vs Q E hr h => ⟨_, pss_one (ps_ret (pe_callTy call_tuple_of (by rfl) gTuple (by decide +kernel) (pa_cons
      (pe_lc (own := [("number", 2)]) (g := gName 2) (tt := tYes) rfl scD3.nd (pi_tup (pv 0)) (blkOk_by (N := ["row", "amount", "number"]) (sc := defScope sAbs) (by decide +kernel)) (fun _ _ _ _ _ => pg_name (i := 2) scD3.nd rfl (Or.inl rfl)) (fun _ _ _ _ _ => pts_nil)
        (fun _ _ _ _ _ => pe_callB call_abs (by rfl) gAbs (by decide +kernel) (pa_cons (pv 2) pa_nil))) pa_nil))), ?_⟩)
  · obtain ⟨s, r, x, rfl, _⟩ := h
    rfl
  · obtain ⟨s, r, x, rfl, hj, hs, hr0, hx, k⟩ := h
    obtain rfl := Vm.kind3 hj
    refine ⟨_, rfl, r, rfl, ⟨_, SqT.of hr0⟩, fun D hD => lc_tup (K := K) (a := r) (xs := x.map V.int) (fun i H' => Same H H' ∧ H' D = some (.lst (((x.take i).map fun z => if z < 0 then 0 - z else z).map V.int)))
      ⟨Same.new hD, upd_same⟩ (fun i H' _ h => SqT.of (h.1 _ _ hr0)) ?_ ?_⟩
    · rintro i y H2 hy ⟨s2, d2⟩
      obtain ⟨e, he, rfl⟩ := vget hy
      exact ⟨rfl, _, rfl, _, rfl, lcFin he (by show (if e < 0 then -e else e) = (if e < 0 then 0 - e else e); rw [Int.zero_sub]) (by have := len40 hx; omega) hD s2 d2⟩
    · rintro H2 ⟨s2, d2⟩
      rw [List.length_map, List.take_length] at d2
      exact ⟨D, _, rfl, .inl ⟨SqL.of d2, fun u hu => k _ u (s2.trans (Same.new hu)) upd_same⟩⟩
theorem scD4 : FnScope ["row", "amount"] ["row", "amount"] (defScope sSort) := ⟨rfl, rfl, rfl, by decide +kernel, rfl, by decide +kernel, by decide +kernel⟩
theorem ok_sort {f : Addr} {fd : FuncData} (F : Fun K "do_sort" "do_sort" sSort f fd) (gTuple : mg "tuple" = none) (gSorted : mg "sorted" = none) : FnOk P w K mg base CX0 1 f fd ["row", "amount"] (spDo 4) := by
  refine F.ok scD4 (fun vs H Q E h => ?_) (fun cdv A outer s H vs Q E hr h => ⟨_, pss_one (ps_ret (pe_callTy call_tuple_of (by rfl) gTuple (by decide +kernel) (pa_cons (pe_callB cr_sortedTI (by rfl) gSorted (by decide +kernel) (pa_cons (pv 0) pa_nil)) pa_nil))), ?_⟩)
  · obtain ⟨s, r, x, rfl, _⟩ := h
    rfl
  · obtain ⟨s, r, x, rfl, hj, hs, hr0, hx, k⟩ := h
    obtain rfl := Vm.kind4 hj
    refine ⟨_, rfl, r, x, rfl, SqT.of hr0, fun ns' p hp hsrt hn => ⟨p, _, rfl, .inl ⟨SqL.of upd_same, fun u hu => k _ u ((Same.new hn).trans (Same.new hu)) ?_⟩⟩⟩
    rw [upd_same, Vm.sorted_uniq hp hsrt]
    rfl
theorem scD5 : FnScope ["row", "amount"] ["row", "amount"] (defScope sReverse) := ⟨rfl, rfl, rfl, by decide +kernel, rfl, by decide +kernel, by decide +kernel⟩
theorem ok_reverse {f : Addr} {fd : FuncData} (F : Fun K "do_reverse" "do_reverse" sReverse f fd) : FnOk P w K mg base CX0 1 f fd ["row", "amount"] (spDo 5) := by
  refine F.ok scD5 (fun vs H Q E h => ?_) (fun cdv A outer s H vs Q E hr h => ⟨_, pss_one (ps_ret (pe_revT (pv 0))), ?_⟩)
  · obtain ⟨s, r, x, rfl, _⟩ := h
    rfl
  · obtain ⟨s, r, x, rfl, hj, hs, hr0, hx, k⟩ := h
    obtain rfl := Vm.kind5 hj
    refine ⟨_, rfl, r, _, rfl, SqT.of hr0, fun p hp => k _ p (Same.new hp) ?_⟩
    rw [upd_same, ← List.map_reverse]
    rfl
end
end Tg
set_option Elab.async false
set_option linter.all false
set_option maxRecDepth 100000
set_option maxHeartbeats 4000000
namespace Tg
open PySem PySem.Spec PyProof.Rows L2
/-- t[lo:hi], whichever object it is -/
theorem slA {K : PySem.W.Frag} {H : Hp} {Q : VK} {a : Addr} {xs : List V} {lo hi : Option Int} (ha : H a = some (.tup xs)) (k : ∀ H' t, Same H H' → H' t = some (.tup (cutV xs lo hi)) → Q (.ref t) H') : rSlA K (.ref a) lo hi H Q := by
  refine ⟨a, xs, rfl, SqT.of ha, fun hw => k H a (Same.refl H) ?_, fun _ p hp => k _ p (Same.new hp) upd_same⟩
  rw [ha]
  unfold cutV
  rw [hw.1, hw.2, List.drop_zero, Nat.sub_zero, List.take_length]
/-- t + u, whichever object it is -/
theorem catA {K : PySem.W.Frag} {H : Hp} {Q : VK} {a b : Addr} {xs ys : List V} (ha : H a = some (.tup xs)) (hb : H b = some (.tup ys)) (hl : xs.length + ys.length ≤ sizeLine) (k : ∀ H' t, Same H H' → H' t = some (.tup (xs ++ ys)) → Q (.ref t) H') : rCatA K (.ref a) (.ref b) H Q := by
  refine ⟨a, b, xs, ys, rfl, rfl, SqT.of ha, SqT.of hb, hl, fun e => k H b (Same.refl H) ?_, fun _ e => k H a (Same.refl H) ?_, fun _ _ p hp => k _ p (Same.new hp) upd_same⟩
  · rw [e, List.nil_append]
    exact hb
  · rw [e, List.append_nil]
    exact ha
theorem cut_from {n : Nat} {x : List Int} : cutV (x.map V.int) (some (n : Int)) none = (x.drop n).map V.int := by
  unfold cutV
  rw [HT.sIx_nat, HT.sIx_none, List.length_map, List.map_drop]
  have e : (x.map V.int).length = x.length := List.length_map _
  by_cases c : n ≤ x.length
  · rw [Nat.min_eq_left c, List.take_of_length_le (by rw [List.length_drop, e]; omega)]
  · rw [Nat.min_eq_right (by omega), List.drop_eq_nil_of_le (by rw [e]; omega), List.drop_eq_nil_of_le (by rw [e]; omega)]
    simp
theorem cut_to {n : Nat} {x : List Int} : cutV (x.map V.int) none (some (n : Int)) = (x.take n).map V.int := by
  unfold cutV
  rw [HT.sIx_nat, HT.sIx_none, List.length_map, List.map_take, List.drop_zero, Nat.sub_zero]
  have e : (x.map V.int).length = x.length := List.length_map _
  by_cases c : n ≤ x.length
  · rw [Nat.min_eq_left c]
  · rw [Nat.min_eq_right (by omega), List.take_of_length_le (by rw [e]; omega), List.take_of_length_le (by rw [e]; omega)]
/-- another spelling of a value -/
theorem at_val {q : V → Hp → Prop} {u v : V} {H : Hp} (e : u = v) (h : q v H) : q u H := e ▸ h
theorem small_le {n : Nat} (h : n ≤ 100000) : n ≤ sizeLine := Nat.le_of_lt (small1000' h)
section
variable {P : Program} {w : World} {K : PySem.W.Frag} {mg : Str → Option Value} {base : Heap}
theorem scD6 : FnScope ["row", "amount", "moved"] ["row", "amount"] (defScope sRotate) := ⟨rfl, rfl, rfl, by decide +kernel, rfl, by decide +kernel, by decide +kernel⟩
theorem ok_rotate {f : Addr} {fd : FuncData} (F : Fun K "do_rotate" "do_rotate" sRotate f fd) (gLen : mg "len" = none) : FnOk P w K mg base CX0 1 f fd ["row", "amount"] (spDo 6) := by
  refine F.ok scD6 (fun vs H Q E h => ?_) (fun cdv A outer s H vs Q E hr h => ⟨_, pss_cons (ps_if (pt_cmpR op_eq (pe_callB call_len_seq (by rfl) gLen PySem.boot_len (pa_cons (pv 0) pa_nil)) pe_int (nomark _)) (pss_one (ps_ret (pv 0))) pss_nil)
    (pss_cons (ps_set (i := 2) scD6.nd rfl (Or.inl rfl) (pe_op op_modN (pv 1) (pe_callB call_len_seq (by rfl) gLen PySem.boot_len (pa_cons (pv 0) pa_nil))))
    (pss_one (ps_ret (pe_op op_catA (pe_slice sl_tupA (pv 0) (po_some (pv 2)) po_none) (pe_slice sl_tupA (pv 0) po_none (po_some (pv 2))))))), ?_⟩)
  · obtain ⟨s, r, x, rfl, _⟩ := h
    rfl
  · obtain ⟨s, r, x, rfl, hj, hs, hr0, hx, k⟩ := h
    obtain ⟨c, rfl⟩ := Vm.kind6 hj
    have hs' : c ≤ 9 := hs
    have hl := len40 hx
    refine ⟨_, rfl, r, _, rfl, .inr (SqT.of hr0), rfl, _, rfl, ?_⟩
    rw [List.length_map]
    by_cases c0 : x = []
    · subst c0
      refine if_t rfl ⟨_, rfl, k H r (Same.refl H) ?_⟩
      rw [hr0, Vm.rotate_nil]
    · have hp : 0 < x.length := List.length_pos_iff.mpr c0
      refine if_f (decide_eq_false (fun q => by have := V.int.inj q; omega)) ?_
      refine ⟨_, rfl, _, rfl, r, _, rfl, .inr (SqT.of hr0), (c : Int), _, rfl, rfl, by rw [List.length_map]; omega, ?_⟩
      have em : ((c : Int)).fmod (((x.map V.int).length : Nat) : Int) = ((c % x.length : Nat) : Int) := by
        rw [List.length_map, Int.fmod_eq_emod_of_nonneg _ (by omega)]
        rfl
      refine ⟨_, rfl, _, rfl, _, rfl, ?_⟩
      dsimp only [tNoPart]
      refine slA hr0 fun H1 t1 s1 h1 => ?_
      refine ⟨_, rfl, _, rfl, _, rfl, ?_⟩
      dsimp only
      refine slA (s1 _ _ hr0) fun H2 t2 s2 h2 => ?_
      rw [em, cut_from] at h1
      rw [em, cut_to] at h2
      refine catA (s2 _ _ h1) h2 ?_ fun H3 t3 s3 h3 => k H3 t3 ((s1.trans s2).trans s3) ?_
      · rw [List.length_map, List.length_map, List.length_drop, List.length_take]
        exact small_le (by omega)
      · rw [h3, Vm.rotate_eq c0, List.map_append]
theorem scD7 : FnScope ["row", "amount"] ["row", "amount"] (defScope sTake) := ⟨rfl, rfl, rfl, by decide +kernel, rfl, by decide +kernel, by decide +kernel⟩
theorem ok_take {f : Addr} {fd : FuncData} (F : Fun K "do_take" "do_take" sTake f fd) : FnOk P w K mg base CX0 1 f fd ["row", "amount"] (spDo 7) := by
  refine F.ok scD7 (fun vs H Q E h => ?_) (fun cdv A outer s H vs Q E hr h => ⟨_, pss_one (ps_ret (pe_slice sl_tupA (pv 0) po_none (po_some (pv 1)))), ?_⟩)
  · obtain ⟨s, r, x, rfl, _⟩ := h
    rfl
  · obtain ⟨s, r, x, rfl, hj, hs, hr0, hx, k⟩ := h
    obtain ⟨c, rfl⟩ := Vm.kind7 hj
    refine ⟨_, rfl, _, rfl, _, rfl, slA hr0 fun H1 t1 s1 h1 => k H1 t1 s1 ?_⟩
    rw [h1]
    exact congrArg (fun z => some (HO.tup z)) (cut_to (n := c))
theorem scD8 : FnScope ["row", "amount"] ["row", "amount"] (defScope sDrop) := ⟨rfl, rfl, rfl, by decide +kernel, rfl, by decide +kernel, by decide +kernel⟩
theorem ok_drop {f : Addr} {fd : FuncData} (F : Fun K "do_drop" "do_drop" sDrop f fd) : FnOk P w K mg base CX0 1 f fd ["row", "amount"] (spDo 8) := by
  refine F.ok scD8 (fun vs H Q E h => ?_) (fun cdv A outer s H vs Q E hr h => ⟨_, pss_one (ps_ret (pe_slice sl_tupA (pv 0) (po_some (pv 1)) po_none)), ?_⟩)
  · obtain ⟨s, r, x, rfl, _⟩ := h
    rfl
  · obtain ⟨s, r, x, rfl, hj, hs, hr0, hx, k⟩ := h
    obtain ⟨c, rfl⟩ := Vm.kind8 hj
    refine ⟨_, rfl, _, rfl, _, rfl, slA hr0 fun H1 t1 s1 h1 => k H1 t1 s1 ?_⟩
    rw [h1]
    exact congrArg (fun z => some (HO.tup z)) (cut_from (n := c))
theorem scD9 : FnScope ["row", "amount", "number"] ["row", "amount"] (defScope sAbove) := ⟨rfl, rfl, rfl, by decide +kernel, rfl, by decide +kernel, by decide +kernel⟩
theorem ok_above {f : Addr} {fd : FuncData} (F : Fun K "do_above" "do_above" sAbove f fd) (gTuple : mg "tuple" = none) : FnOk P w K mg base CX0 1 f fd ["row", "amount"] (spDo 9) := by
  refine F.ok scD9 (fun vs H Q E h => ?_) (fun cdv A outer s H vs Q E hr h => ⟨_, pss_one (ps_ret (pe_callTy call_tuple_of (by rfl) gTuple (by decide +kernel) (pa_cons
      (pe_lc (own := [("number", 2)]) (g := gName 2) (tt := tTest (tOp (rI0 fun i j => .bl (decide (j < i))) (tVar 2) (tVar 1))) rfl scD9.nd (pi_tup (pv 0)) (blkOk_by (N := ["row", "amount", "number"]) (sc := defScope sAbove) (by decide +kernel)) (fun _ _ _ _ _ => pg_name (i := 2) scD9.nd rfl (Or.inl rfl))
        (fun _ _ _ _ _ => pts_one (pt_cmpR op_gt (pv 2) (pv 1) (nomark _)))
        (fun _ _ _ _ _ => pv 2)) pa_nil))), ?_⟩)
  · obtain ⟨s, r, x, rfl, _⟩ := h
    rfl
  · obtain ⟨s, r, x, rfl, hj, hs, hr0, hx, k⟩ := h
    obtain ⟨c, rfl⟩ := Vm.kind9 hj
    have hl := len40 hx
    refine ⟨_, rfl, r, rfl, ⟨_, SqT.of hr0⟩, fun D hD => lc_tup (K := K) (a := r) (xs := x.map V.int) (fun i H' => Same H H' ∧ H' D = some (.lst (((x.take i).filter fun z => decide (c < z)).map V.int)))
      ⟨Same.new hD, upd_same⟩ (fun i H' _ h => SqT.of (h.1 _ _ hr0)) ?_ ?_⟩
    · rintro i y H2 hy ⟨s2, d2⟩
      obtain ⟨e, he, rfl⟩ := vget hy
      refine ⟨rfl, _, rfl, _, rfl, _, _, rfl, rfl, _, rfl, ?_⟩
      refine if_2 (fun q => ?_) fun q => ?_
      · refine ⟨_, rfl, _, d2, ?_, Same.at_new s2 hD, ?_⟩
        · rw [List.length_map]
          have := List.length_filter_le (fun z => decide (c < z)) (x.take i)
          rw [List.length_take] at this
          exact small1000' (by omega)
        · rw [upd_same, Vm.filter_take he, if_pos (show decide (c < e) = true from q), List.map_append]
          rfl
      · refine ⟨s2, ?_⟩
        rw [d2, Vm.filter_take he, if_neg (by rw [show decide (c < e) = false from q]; exact Bool.false_ne_true), List.append_nil]
    · rintro H2 ⟨s2, d2⟩
      rw [List.length_map, List.take_length] at d2
      exact ⟨D, _, rfl, .inl ⟨SqL.of d2, fun u hu => k _ u (s2.trans (Same.new hu)) upd_same⟩⟩
end
end Tg
set_option Elab.async false
set_option linter.all false
set_option maxRecDepth 100000
set_option maxHeartbeats 4000000
namespace Tg
open PySem PySem.Spec PyProof.Rows L2
theorem put_once {kvs : List (Key × V)} {ys : List Int} (h : kvs.map (·.1) = ys.map Sum.inl) (e : Int) (v : V) : (putK kvs (Sum.inl e) v).map (·.1) = (Vm.onceStep ys e).map Sum.inl := by
  have hm : (kvs.any fun kv => decide (kv.1 = (Sum.inl e : Key))) = true ↔ e ∈ ys := by
    rw [List.any_eq_true]
    constructor
    · rintro ⟨kv, hk, q⟩
      have : (Sum.inl e : Key) ∈ ys.map Sum.inl := by
        rw [← h, ← of_decide_eq_true q]
        exact List.mem_map.mpr ⟨kv, hk, rfl⟩
      obtain ⟨y, hy, e2⟩ := List.mem_map.mp this
      cases e2
      exact hy
    · intro he
      have : (Sum.inl e : Key) ∈ kvs.map (·.1) := by
        rw [h]
        exact List.mem_map.mpr ⟨e, he, rfl⟩
      obtain ⟨kv, hk, q⟩ := List.mem_map.mp this
      exact ⟨kv, hk, decide_eq_true q⟩
  unfold putK Vm.onceStep
  by_cases c : e ∈ ys
  · rw [if_pos (hm.mpr c), if_pos c, ← h, List.map_map]
    refine List.map_congr_left fun kv _ => ?_
    show (if kv.1 = Sum.inl e then (kv.1, v) else kv).1 = kv.1
    split <;> rfl
  · rw [if_neg (fun q => c (hm.mp q)), if_neg c, List.map_append, List.map_append, h]
    rfl
theorem once_le (x : List Int) : ∀ (i : Nat), ((x.take i).foldl Vm.onceStep []).length ≤ i := by
  have key : ∀ (l k : List Int), (l.foldl Vm.onceStep k).length ≤ k.length + l.length := by
    intro l
    induction l with
    | nil => intro k; exact Nat.le_refl _
    | cons y l ih =>
      intro k
      rw [List.foldl_cons]
      have h1 := ih (Vm.onceStep k y)
      have h2 : (Vm.onceStep k y).length ≤ k.length + 1 := by
        unfold Vm.onceStep
        split
        · omega
        · simp
      rw [List.length_cons]
      omega
  intro i
  have := key (x.take i) []
  rw [List.length_take] at this
  simp only [List.length_nil] at this
  omega
section
variable {P : Program} {w : World} {K : PySem.W.Frag} {mg : Str → Option Value} {base : Heap}
theorem scD10 : FnScope ["row", "amount", "seen", "number"] ["row", "amount"] (defScope sOnce) := ⟨rfl, rfl, rfl, by decide +kernel, rfl, by decide +kernel, by decide +kernel⟩
theorem ok_once {f : Addr} {fd : FuncData} (F : Fun K "do_once" "do_once" sOnce f fd) (gTuple : mg "tuple" = none) (gList : mg "list" = none) : FnOk P w K mg base CX0 1 f fd ["row", "amount"] (spDo 10) := by
  refine F.ok scD10 (fun vs H Q E h => ?_) (fun cdv A outer s H vs Q E hr h => ⟨_, pss_cons (ps_set (i := 2) scD10.nd rfl (Or.inl rfl) pe_dnewK)
    (pss_cons (ps_for PassesOwn.never rfl (pi_tup (pv 0)) (pg_name (i := 3) scD10.nd rfl (Or.inl rfl)) (pss_one (ps_dput (hu_of hr) (pv 2) (pv 3) pe_bl rfl)))
    (pss_one (ps_ret (pe_callTy call_tuple_of (by rfl) gTuple (by decide +kernel) (pa_cons (pe_callTy (call_list_dK rfl) (by rfl) gList (by decide +kernel) (pa_cons (pv 2) pa_nil)) pa_nil))))), ?_⟩)
  · obtain ⟨s, r, x, rfl, _⟩ := h
    rfl
  · obtain ⟨s, r, x, rfl, hj, hs, hr0, hx, k⟩ := h
    obtain rfl := Vm.kind10 hj
    have hl := len40 hx
    intro S hS
    refine ⟨_, rfl, r, rfl, ⟨_, SqT.of (by rw [upd_ne (ne_of_none hr0 hS)]; exact hr0)⟩, for_tup (xs := x.map V.int) (fun i σ H' => ∃ (kvs : List (Key × V)) (y : Option V), σ = [some (.ref r), some (.int 0), some (.ref S), y] ∧ Same H H' ∧ H' S = some (.dK kvs) ∧ kvs.map (·.1) = ((x.take i).foldl Vm.onceStep []).map Sum.inl)
      ⟨[], none, rfl, Same.new hS, upd_same, rfl⟩ (fun i σ H' _ h => by obtain ⟨_, _, _, q, _⟩ := h; exact SqT.of (q _ _ hr0)) ?_ ?_⟩
    · rintro i y σ H2 hy ⟨kvs, z, rfl, s2, d2, ek⟩
      obtain ⟨e, he, rfl⟩ := vget hy
      have hk : kvs.length ≤ i := by
        have := congrArg List.length ek
        rw [List.length_map, List.length_map] at this
        have := once_le x i
        omega
      have hi : i < x.length := (List.getElem?_eq_some_iff.mp he).1
      refine ⟨_, rfl, _, rfl, S, _, rfl, DPut.k (k := Sum.inl e) d2 (small1000' (by omega)), ?_⟩
      refine ⟨_, _, rfl, Same.at_new s2 hS, upd_same, ?_⟩
      rw [put_once ek e, Vm.once_take he]
    · rintro σ H2 ⟨kvs, z, rfl, s2, d2, ek⟩
      rw [List.length_map, List.take_length, ← Vm.onceOnly_eq] at ek
      refine ⟨_, rfl, S, kvs, rfl, d2, fun q hq => ⟨q, _, rfl, .inl ⟨SqL.of upd_same, fun u hu => k _ u ((s2.trans (Same.new hq)).trans (Same.new hu)) ?_⟩⟩⟩
      rw [upd_same]
      refine congrArg (fun z => some (HO.tup z)) ?_
      show kvs.map (fun kv => kV kv.1) = (VametBase.onceOnly x).map V.int
      have : kvs.map (fun kv => kV kv.1) = (kvs.map (·.1)).map kV := by rw [List.map_map]; rfl
      rw [this, ek, List.map_map]
      rfl
theorem scD11 : FnScope ["row", "amount"] ["row", "amount"] (defScope sSum) := ⟨rfl, rfl, rfl, by decide +kernel, rfl, by decide +kernel, by decide +kernel⟩
theorem ok_sum {f : Addr} {fd : FuncData} (F : Fun K "do_sum" "do_sum" sSum f fd) (gSum : mg "sum" = none) : FnOk P w K mg base CX0 1 f fd ["row", "amount"] (spDo 11) := by
  refine F.ok scD11 (fun vs H Q E h => ?_) (fun cdv A outer s H vs Q E hr h => ⟨_, pss_one (ps_ret (pe_tup (pa_cons (pe_callB (cr_sumT rfl) (by rfl) gSum (by decide +kernel) (pa_cons (pv 0) pa_nil)) pa_nil))), ?_⟩)
  · obtain ⟨s, r, x, rfl, _⟩ := h
    rfl
  · obtain ⟨s, r, x, rfl, hj, hs, hr0, hx, k⟩ := h
    obtain rfl := Vm.kind11 hj
    refine ⟨_, rfl, r, x, rfl, SqT.of hr0, by show 1 ≤ sizeLine; decide, fun t ht => k _ t (Same.new ht) ?_⟩
    rw [upd_same]
    show _ = some (HO.tup ([VametBase.total x].map V.int))
    rw [Vm.total_sum]
    rfl
theorem scD12 : FnScope ["row", "amount"] ["row", "amount"] (defScope sGreatest) := ⟨rfl, rfl, rfl, by decide +kernel, rfl, by decide +kernel, by decide +kernel⟩
theorem ok_greatest {f : Addr} {fd : FuncData} (F : Fun K "do_greatest" "do_greatest" sGreatest f fd) (gLen : mg "len" = none) (gMax : mg "max" = none) : FnOk P w K mg base CX0 1 f fd ["row", "amount"] (spDo 12) := by
  refine F.ok scD12 (fun vs H Q E h => ?_) (fun cdv A outer s H vs Q E hr h => ⟨_, pss_one (ps_ret (pe_ifExp (pt_cmpR op_gt (pe_callB call_len_seq (by rfl) gLen PySem.boot_len (pa_cons (pv 0) pa_nil)) pe_int (nomark _))
      (pe_tup (pa_cons (pe_callB (cr_maxT rfl) (by rfl) gMax (by decide +kernel) (pa_cons (pv 0) pa_nil)) pa_nil)) (pe_tup pa_nil))), ?_⟩)
  · obtain ⟨s, r, x, rfl, _⟩ := h
    rfl
  · obtain ⟨s, r, x, rfl, hj, hs, hr0, hx, k⟩ := h
    obtain rfl := Vm.kind12 hj
    refine ⟨_, rfl, r, _, rfl, .inr (SqT.of hr0), _, _, rfl, rfl, _, rfl, ?_⟩
    rw [List.length_map]
    by_cases c : x = []
    · subst c
      refine if_f rfl ⟨Nat.zero_le _, fun t ht => k _ t (Same.new ht) ?_⟩
      rw [upd_same]
      rfl
    · have hp : 0 < x.length := List.length_pos_iff.mpr c
      refine if_t (decide_eq_true (by omega)) ⟨_, rfl, r, x, rfl, SqT.of hr0, hp, fun m hm hle => ⟨by show 1 ≤ sizeLine; decide, fun t ht => k _ t (Same.new ht) ?_⟩⟩
      rw [upd_same]
      show _ = some (HO.tup (((VametBase.greatestOf x).toList).map V.int))
      rw [Vm.greatestOf_eq hm hle]
      rfl
theorem scD13 : FnScope ["row", "amount"] ["row", "amount"] (defScope sLeast) := ⟨rfl, rfl, rfl, by decide +kernel, rfl, by decide +kernel, by decide +kernel⟩
theorem ok_least {f : Addr} {fd : FuncData} (F : Fun K "do_least" "do_least" sLeast f fd) (gLen : mg "len" = none) (gMin : mg "min" = none) : FnOk P w K mg base CX0 1 f fd ["row", "amount"] (spDo 13) := by
  refine F.ok scD13 (fun vs H Q E h => ?_) (fun cdv A outer s H vs Q E hr h => ⟨_, pss_one (ps_ret (pe_ifExp (pt_cmpR op_gt (pe_callB call_len_seq (by rfl) gLen PySem.boot_len (pa_cons (pv 0) pa_nil)) pe_int (nomark _))
      (pe_tup (pa_cons (pe_callB (cr_minT rfl) (by rfl) gMin (by decide +kernel) (pa_cons (pv 0) pa_nil)) pa_nil)) (pe_tup pa_nil))), ?_⟩)
  · obtain ⟨s, r, x, rfl, _⟩ := h
    rfl
  · obtain ⟨s, r, x, rfl, hj, hs, hr0, hx, k⟩ := h
    obtain rfl := Vm.kind13 hj
    refine ⟨_, rfl, r, _, rfl, .inr (SqT.of hr0), _, _, rfl, rfl, _, rfl, ?_⟩
    rw [List.length_map]
    by_cases c : x = []
    · subst c
      refine if_f rfl ⟨Nat.zero_le _, fun t ht => k _ t (Same.new ht) ?_⟩
      rw [upd_same]
      rfl
    · have hp : 0 < x.length := List.length_pos_iff.mpr c
      refine if_t (decide_eq_true (by omega)) ⟨_, rfl, r, x, rfl, SqT.of hr0, hp, fun m hm hle => ⟨by show 1 ≤ sizeLine; decide, fun t ht => k _ t (Same.new ht) ?_⟩⟩
      rw [upd_same]
      show _ = some (HO.tup (((VametBase.leastOf x).toList).map V.int))
      rw [Vm.leastOf_eq hm hle]
      rfl
theorem scD14 : FnScope ["row", "amount"] ["row", "amount"] (defScope sCount) := ⟨rfl, rfl, rfl, by decide +kernel, rfl, by decide +kernel, by decide +kernel⟩
theorem ok_count {f : Addr} {fd : FuncData} (F : Fun K "do_count" "do_count" sCount f fd) (gLen : mg "len" = none) : FnOk P w K mg base CX0 1 f fd ["row", "amount"] (spDo 14) := by
  refine F.ok scD14 (fun vs H Q E h => ?_) (fun cdv A outer s H vs Q E hr h => ⟨_, pss_one (ps_ret (pe_tup (pa_cons (pe_callB call_len_seq (by rfl) gLen PySem.boot_len (pa_cons (pv 0) pa_nil)) pa_nil))), ?_⟩)
  · obtain ⟨s, r, x, rfl, _⟩ := h
    rfl
  · obtain ⟨s, r, x, rfl, hj, hs, hr0, hx, k⟩ := h
    obtain rfl := Vm.kind14 hj
    refine ⟨_, rfl, r, _, rfl, .inr (SqT.of hr0), by show 1 ≤ sizeLine; decide, fun t ht => k _ t (Same.new ht) ?_⟩
    rw [upd_same, List.length_map]
    rfl
theorem scD15 : FnScope ["row", "amount", "earlier", "later"] ["row", "amount"] (defScope sSteps) := ⟨rfl, rfl, rfl, by decide +kernel, rfl, by decide +kernel, by decide +kernel⟩
theorem ok_steps {f : Addr} {fd : FuncData} (F : Fun K "do_steps" "do_steps" sSteps f fd) (gTuple : mg "tuple" = none) (gZip : mg "zip" = none) : FnOk P w K mg base CX0 1 f fd ["row", "amount"] (spDo 15) := by
  refine F.ok scD15 (fun vs H Q E h => ?_) (fun cdv A outer s H vs Q E hr h => ⟨_, pss_one (ps_ret (pe_callTy call_tuple_of (by rfl) gTuple (by decide +kernel) (pa_cons
      (pe_lc (own := [("earlier", 2), ("later", 3)]) (g := gTup K 2 (gCons (gName 2) (gCons (gName 3) gNil))) (tt := tYes) rfl scD15.nd (RZ.pi_zipA (by rfl) gZip (pa_cons (pv 0) (pa_cons (pe_slice sl_tupA (pv 0) (po_some pe_int) po_none) pa_nil)))
        (blkOk_by (N := ["row", "amount", "earlier", "later"]) (sc := defScope sSteps) (by decide +kernel))
        (fun _ _ _ _ _ => pgT K rfl (pgs_cons (pg_name (i := 2) scD15.nd rfl (Or.inl rfl)) (pgs_cons (pg_name (i := 3) scD15.nd rfl (Or.inl rfl)) pgs_nil))) (fun _ _ _ _ _ => pts_nil)
        (fun _ _ _ _ _ => pe_op op_sub (pv 3) (pv 2))) pa_nil))), ?_⟩)
  · obtain ⟨s, r, x, rfl, _⟩ := h
    rfl
  · obtain ⟨s, r, x, rfl, hj, hs, hr0, hx, k⟩ := h
    obtain rfl := Vm.kind15 hj
    have hl := len40 hx
    refine ⟨_, rfl, _, rfl, _, rfl, ?_⟩
    dsimp only [tNoPart]
    refine slA hr0 fun H1 t1 s1 h1 => ?_
    have h1' : H1 t1 = some (.tup ((x.drop 1).map V.int)) := h1.trans (congrArg (fun z => some (HO.tup z)) (cut_from (n := 1)))
    refine ⟨r, t1, _, _, rfl, .inr ⟨SqT.of (s1 _ _ hr0), SqT.of h1', fun D hD => ?_⟩⟩
    have hDn : H D = none := s1.free hD
    refine lc_it (walk_zipT (K := K) (a := r) (b := t1) (xs := x.map V.int) (ys := (x.drop 1).map V.int) (n := (x.zip (x.drop 1)).length) (by rw [List.length_map, List.length_map, List.length_zip]))
      (fun i H' => Same H1 H' ∧ H' D = some (.lst ((((x.zip (x.drop 1)).take i).map fun z => z.2 - z.1).map V.int)))
      ⟨Same.new hD, upd_same⟩ (fun i H' _ h => ⟨SqT.of (h.1 _ _ (s1 _ _ hr0)), SqT.of (h.1 _ _ h1')⟩) ?_ ?_
    · rintro i v H4 H5 hi ⟨s4, d4⟩ ⟨T, a, b, rfl, hT, rfl, ha, hb⟩
      obtain ⟨e, he, rfl⟩ := vget ha
      obtain ⟨z, hz, rfl⟩ := vget hb
      have hTn : H1 T = none := s4.free hT
      have hDT : D ≠ T := ne_of_none d4 hT
      have hxz : (x.zip (x.drop 1))[i]? = some (e, z) := by
        rw [List.getElem?_zip_eq_some]
        exact ⟨he, hz⟩
      refine ⟨T, _, rfl, SqT.of upd_same, rfl, _, _, rfl, _, _, rfl, rfl, ?_⟩
      refine ⟨rfl, _, rfl, _, rfl, _, _, rfl, rfl, _, by rw [upd_ne hDT]; exact d4, ?_, Same.at_new (Same.at_new s4 hTn) hD, ?_⟩
      · rw [List.length_map, List.length_map, List.length_take, List.length_zip]
        exact small1000' (by omega)
      · rw [upd_same, take_more hxz, List.map_append, List.map_append]
        rfl
    · rintro H4 ⟨s4, d4⟩
      rw [List.take_length] at d4
      exact ⟨D, _, rfl, .inl ⟨SqL.of d4, fun u hu => k _ u ((s1.trans s4).trans (Same.new hu)) upd_same⟩⟩
theorem scD16 : FnScope ["row", "amount", "total", "totals", "number"] ["row", "amount"] (defScope sSums) := ⟨rfl, rfl, rfl, by decide +kernel, rfl, by decide +kernel, by decide +kernel⟩
theorem ok_sums {f : Addr} {fd : FuncData} (F : Fun K "do_sums" "do_sums" sSums f fd) (gTuple : mg "tuple" = none) : FnOk P w K mg base CX0 1 f fd ["row", "amount"] (spDo 16) := by
  refine F.ok scD16 (fun vs H Q E h => ?_) (fun cdv A outer s H vs Q E hr h => ⟨_, pss_cons (ps_set (i := 2) scD16.nd rfl (Or.inl rfl) pe_int)
    (pss_cons (ps_set (i := 3) scD16.nd rfl (Or.inl rfl) (pe_lst pa_nil))
    (pss_cons (ps_for PassesOwn.never rfl (pi_tup (pv 0)) (pg_name (i := 4) scD16.nd rfl (Or.inl rfl)) (pss_cons (ps_set (i := 2) scD16.nd rfl (Or.inl rfl) (pe_op op_add (pv 2) (pv 4)))
      (pss_one (ps_expr (pe_bm PySem.F.plainAttrs_list PySem.F.slot_list_append PySem.F.type_list_append mt_append (pv 3) (pa_cons (pv 2) pa_nil))))))
    (pss_one (ps_ret (pe_callTy call_tuple_of (by rfl) gTuple (by decide +kernel) (pa_cons (pv 3) pa_nil)))))), ?_⟩)
  · obtain ⟨s, r, x, rfl, _⟩ := h
    rfl
  · obtain ⟨s, r, x, rfl, hj, hs, hr0, hx, k⟩ := h
    obtain rfl := Vm.kind16 hj
    have hl := len40 hx
    refine ⟨Nat.zero_le _, fun L hL => ?_⟩
    refine ⟨_, rfl, r, rfl, ⟨_, SqT.of (Same.new hL _ _ hr0)⟩, for_tup (xs := x.map V.int) (fun i σ H' => ∃ (y : Option V), σ = [some (.ref r), some (.int 0), some (.int (x.take i).sum), some (.ref L), y] ∧ Same H H' ∧ H' L = some (.lst ((VametBase.runningFrom 0 (x.take i)).map V.int)))
      ⟨none, rfl, Same.new hL, upd_same⟩ (fun i σ H' _ h => by obtain ⟨_, _, q, _⟩ := h; exact SqT.of (q _ _ hr0)) ?_ ?_⟩
    · rintro i y σ H2 hy ⟨z, rfl, s2, d2⟩
      obtain ⟨e, he, rfl⟩ := vget hy
      have esum : (x.take (i + 1)).sum = (x.take i).sum + e := by
        rw [take_more he, List.sum_append]
        simp
      refine ⟨_, rfl, _, rfl, _, _, rfl, rfl, _, rfl, .inl ⟨rfl, _, SqL.of d2⟩, _, rfl, L, _, _, rfl, rfl, d2, ?_, ?_⟩
      · rw [List.length_map, Vm.running_length, List.length_take]
        exact small1000' (by omega)
      · refine ⟨some (.int e), ?_, Same.at_new s2 hL, ?_⟩
        · rw [esum]
          rfl
        · rw [upd_same, take_more he, Vm.running_snoc, List.map_append]
          have : (0 : Int) + (x.take i).sum + e = (x.take i).sum + e := by omega
          rw [this]
          rfl
    · rintro σ H2 ⟨z, rfl, s2, d2⟩
      rw [List.length_map, List.take_length] at d2
      exact ⟨_, rfl, L, _, rfl, .inl ⟨SqL.of d2, fun u hu => k _ u (s2.trans (Same.new hu)) upd_same⟩⟩
theorem scD17 : FnScope ["row", "amount"] ["row", "amount"] (defScope sTwice) := ⟨rfl, rfl, rfl, by decide +kernel, rfl, by decide +kernel, by decide +kernel⟩
theorem ok_twice {f : Addr} {fd : FuncData} (F : Fun K "do_twice" "do_twice" sTwice f fd) : FnOk P w K mg base CX0 1 f fd ["row", "amount"] (spDo 17) := by
  refine F.ok scD17 (fun vs H Q E h => ?_) (fun cdv A outer s H vs Q E hr h => ⟨_, pss_one (ps_ret (pe_op op_catA (pv 0) (pv 0))), ?_⟩)
  · obtain ⟨s, r, x, rfl, _⟩ := h
    rfl
  · obtain ⟨s, r, x, rfl, hj, hs, hr0, hx, k⟩ := h
    obtain rfl := Vm.kind17 hj
    have hl := len40 hx
    refine ⟨_, rfl, _, rfl, ?_⟩
    refine catA hr0 hr0 ?_ fun H3 t3 s3 h3 => k H3 t3 s3 ?_
    · rw [List.length_map]
      exact small_le (by omega)
    · rw [h3, ← List.map_append]
      rfl
end
end Tg
set_option Elab.async false
set_option linter.all false
set_option maxRecDepth 100000
set_option maxHeartbeats 4000000
namespace Tg
open PySem PySem.Spec PyProof.Rows L2
abbrev sBeyond : Stmt := top 22
abbrev sOutcome : Stmt := top 23
/-- an outcome as it is held -/
def OutAt (H : Hp) (v : V) (o : Option (List Int)) : Prop := (v = .non ∧ o = none) ∨ ∃ (t : Addr) (y : List Int), v = .ref t ∧ o = some y ∧ H t = some (.tup (y.map V.int))
theorem OutAt.same {H H' : Hp} {v : V} {o : Option (List Int)} (h : OutAt H v o) (e : Same H H') : OutAt H' v o := by
  rcases h with h | ⟨t, y, h1, h2, h3⟩
  · exact .inl h
  · exact .inr ⟨t, y, h1, h2, e _ _ h3⟩
def spBeyond : Sp := fun vs H Q _ => ∃ (r : Addr) (x : List Int), vs = [.ref r] ∧ H r = some (.tup (x.map V.int)) ∧ x.length ≤ 1000 ∧ ∀ H', Same H H' → Q (.bl (!VametBase.within x)) H'
def spOutcome : Sp := fun vs H Q _ => ∃ (p r : Addr) (pr : List VametBase.Step) (x : List Int), vs = [.ref p, .ref r] ∧ ProgAtN 24 H p pr ∧ H r = some (.tup (x.map V.int)) ∧ VametBase.within x = true ∧ ∀ H' v, Same H H' → OutAt H' v (VametBase.run pr x) → Q v H'
/-- the table of the steps' defs -/
structure TxD (K : PySem.W.Frag) (P : Program) (w : World) (mg : Str → Option Value) (base : Heap) (DA : Addr) (ds : List Addr) : Prop where
  gD : mg "DOINGS" = some (.ref DA)
  sq : ∀ H, SqT K H DA (ds.map V.ref)
  len : ds.length = 18
  ok : ∀ (i : Nat) (f : Addr), ds[i]? = some f → Held P w K mg base 1 f (spDo i)
theorem done_len {s : VametBase.Step} {x : List Int} (h : VametBase.within x = true) : (VametBase.done s x).length ≤ 1000 := by
  have hl := len40 h
  cases s <;> unfold VametBase.done
  all_goals dsimp only
  case sort => rw [(Vm.sorted_perm x).length_eq]; omega
  case once =>
    have := Vm.once_len x
    rcases this with e | e
    · rw [e]; omega
    · omega
  case greatest => cases VametBase.greatestOf x <;> simp
  case least => cases VametBase.leastOf x <;> simp
  case above =>
    rename_i c
    have := List.length_filter_le (fun z => decide (c < z)) x
    omega
  case sums => rw [Vm.running_length]; omega
  all_goals (simp; try omega)
theorem StepsAt.get {H : Hp} : ∀ {us : List Addr} {ss : List VametBase.Step} {i : Nat} {u : Addr}, StepsAt H us ss → us[i]? = some u → ∃ s, ss[i]? = some s ∧ H u = some (pairT s)
  | [], [], i, u, _, h => by simp at h
  | a :: us, b :: ss, 0, u, q, h => by
    have e : a = u := by simpa using h
    subst e
    exact ⟨b, rfl, q.1⟩
  | a :: us, b :: ss, i + 1, u, q, h => by
    obtain ⟨s, h1, h2⟩ := StepsAt.get q.2 (i := i) (u := u) (by simpa using h)
    exact ⟨s, by simpa using h1, h2⟩
  | [], _ :: _, _, _, q, _ => q.elim
  | _ :: _, [], _, _, q, _ => q.elim
theorem vgetR {bs : List Addr} {i : Nat} {v : V} (h : (bs.map V.ref)[i]? = some v) : ∃ b, bs[i]? = some b ∧ v = V.ref b := by
  rw [List.getElem?_map] at h
  cases e : bs[i]? with
  | none => rw [e] at h; cases h
  | some u => rw [e] at h; exact ⟨u, rfl, (Option.some.inj h).symm⟩
section
variable {P : Program} {w : World} {K : PySem.W.Frag} {mg : Str → Option Value} {base : Heap}
theorem scBe : FnScope ["row", "number"] ["row"] (defScope sBeyond) := ⟨rfl, rfl, rfl, by decide +kernel, rfl, by decide +kernel, by decide +kernel⟩
theorem ok_beyond {f : Addr} {fd : FuncData} {tc tm : Tok} (F : Fun K "is_beyond" "is_beyond" sBeyond f fd) (gLen : mg "len" = none) (gAny : mg "any" = none) (gAbs : mg "abs" = none) (gC : mg "MOST_COUNT" = some (.int 40 tc)) (gN : mg "MOST_NUMBER" = some (.int 1000000 tm)) : FnOk P w K mg base CX0 1 f fd ["row"] spBeyond := by
  refine F.ok scBe (fun vs H Q E h => ?_) (fun cdv A outer s H vs Q E hr h => ⟨_, pss_one (ps_ret (pe_or (pe_cmpR op_gt (pe_callB call_len_seq (by rfl) gLen PySem.boot_len (pa_cons (pv 0) pa_nil)) (pe_glob (v := .int 40) rfl gC ⟨_, rfl⟩) (nomark _))
    (pe_one (pe_callB (cr_any rfl) (by rfl) gAny (by decide +kernel) (pa_cons
      (pe_lc (own := [("number", 1)]) (g := gName 1) (tt := tYes) rfl scBe.nd (pi_tup (pv 0)) (blkOk_by (N := ["row", "number"]) (sc := defScope sBeyond) (by decide +kernel)) (fun _ _ _ _ _ => pg_name (i := 1) scBe.nd rfl (Or.inl rfl)) (fun _ _ _ _ _ => pts_nil)
        (fun _ _ _ _ _ => pe_cmpR op_gt (pe_callB call_abs (by rfl) gAbs (by decide +kernel) (pa_cons (pv 1) pa_nil)) (pe_glob (v := .int 1000000) rfl gN ⟨_, rfl⟩) (nomark _))) pa_nil))))), ?_⟩)
  · obtain ⟨r, x, rfl, _⟩ := h
    rfl
  · obtain ⟨r, x, rfl, hr0, hl, k⟩ := h
    refine ⟨_, rfl, r, _, rfl, .inr (SqT.of hr0), _, _, rfl, rfl, _, rfl, ?_⟩
    rw [List.length_map]
    refine if_2 (fun q => ?_) fun q => ?_
    · have hw : VametBase.within x = false := by
        cases e : VametBase.within x with
        | false => rfl
        | true =>
          have := len40 e
          have := of_decide_eq_true q
          omega
      have := k H (Same.refl H)
      rw [hw] at this
      exact this
    · refine ⟨_, rfl, r, rfl, ⟨_, SqT.of hr0⟩, fun D hD => lc_tup (K := K) (a := r) (xs := x.map V.int) (fun i H' => Same H H' ∧ H' D = some (.lst (((x.take i).map fun z => decide (1000000 < (if z < 0 then -z else z))).map V.bl)))
        ⟨Same.new hD, upd_same⟩ (fun i H' _ h => SqT.of (h.1 _ _ hr0)) ?_ ?_⟩
      · rintro i y H2 hy ⟨s2, d2⟩
        obtain ⟨e, he, rfl⟩ := vget hy
        refine ⟨rfl, _, rfl, _, rfl, _, _, rfl, rfl, _, d2, ?_, Same.at_new s2 hD, ?_⟩
        · rw [List.length_map, List.length_map, List.length_take]
          exact small1000' (by omega)
        · rw [upd_same, take_more he, List.map_append, List.map_append]
          rfl
      · rintro H2 ⟨s2, d2⟩
        rw [List.length_map, List.take_length] at d2
        refine ⟨D, _, rfl, SqL.of d2, ?_⟩
        have q' := of_decide_eq_false q
        have hw : (!VametBase.within x) = ((x.map fun z => decide (1000000 < (if z < 0 then -z else z))).any id) := by
          rw [List.any_map]
          rw [Bool.eq_iff_iff, List.any_eq_true]
          constructor
          · intro h
            refine Classical.byContradiction fun hno => ?_
            have : VametBase.within x = true := (Vm.within_iff x).mpr ⟨by omega, fun z hz => ?_⟩
            · rw [this] at h
              cases h
            · have h2 : ¬ (1000000 < (if z < 0 then -z else z)) := fun h3 => hno ⟨z, hz, decide_eq_true h3⟩
              split at h2 <;> omega
          · rintro ⟨z, hz, h⟩
            have h3 : 1000000 < (if z < 0 then -z else z) := of_decide_eq_true h
            cases e : VametBase.within x with
            | false => rfl
            | true =>
              have := ((Vm.within_iff x).mp e).2 z hz
              split at h3 <;> omega
        have := k H2 s2
        rw [hw] at this
        exact this
theorem scOu : FnScope ["program", "row", "kind", "amount", "do_step"] ["program", "row"] (defScope sOutcome) := ⟨rfl, rfl, rfl, by decide +kernel, rfl, by decide +kernel, by decide +kernel⟩
theorem ok_outcome {f fB DA : Addr} {fd fdB : FuncData} {ds : List Addr} (F : Fun K "outcome_of" "outcome_of" sOutcome f fd) (TD : TxD K P w mg base DA ds)
    (GB : FnOk P w K mg base CX0 1 fB fdB ["row"] spBeyond) (bB : Binds K fdB ["row"] []) (gB : mg "is_beyond" = some (.ref fB)) (kB : PySem.W.keepIn K (.ref fB) = true) :
    FnOk P w K mg base CX0 2 f fd ["program", "row"] spOutcome := by
  refine F.ok scOu (fun vs H Q E h => ?_) (fun cdv A outer s H vs Q E hr h => ⟨_, pss_cons (ps_for PassesOwn.never rfl (pi_tup (pv 0)) (pg_tup rfl (pgs_cons (pg_name (i := 2) scOu.nd rfl (Or.inl rfl)) (pgs_cons (pg_name (i := 3) scOu.nd rfl (Or.inl rfl)) pgs_nil)))
      (pss_cons (ps_set (i := 4) scOu.nd rfl (Or.inl rfl) (pe_ix ix_tup (pe_glob (v := .ref DA) rfl TD.gD rfl) (pv 2) (fun _ _ => rfl)))
      (pss_cons (ps_set (i := 1) scOu.nd rfl (Or.inl rfl) (pe_callR (i := 4) (S := fun f sp => ∃ j : Nat, ds[j]? = some f ∧ sp = spDo j) (fun f sp q => by obtain ⟨j, hj, rfl⟩ := q; exact TD.ok j f hj) hr rfl (Or.inl rfl) (pa_cons (pv 1) (pa_cons (pv 3) pa_nil))))
      (pss_one (ps_if (pt_val (pe_call GB hr rfl gB kB bB .nil pass0 (pa_cons (pv 1) pa_nil))) (pss_one (ps_ret pe_non)) pss_nil)))))
    (pss_one (ps_ret (pv 1))), ?_⟩)
  · obtain ⟨p, r, pr, x, rfl, _⟩ := h
    rfl
  · obtain ⟨p, r, pr, x, rfl, ⟨us, hp, hst, hpl, hok⟩, hr0, hx, k⟩ := h
    refine ⟨_, rfl, p, rfl, ⟨_, SqT.of hp⟩, for_tup (xs := us.map V.ref) (fun i σ H' => ∃ (r' : Addr) (x' : List Int) (y2 y3 y4 : Option V), σ = [some (.ref p), some (.ref r'), y2, y3, y4] ∧ Same H H' ∧ H' r' = some (.tup (x'.map V.int)) ∧ VametBase.run (pr.take i) x = some x' ∧ VametBase.within x' = true)
      ⟨r, x, none, none, none, rfl, Same.refl H, hr0, rfl, hx⟩ (fun i σ H' _ h => by obtain ⟨_, _, _, _, _, _, q, _⟩ := h; exact SqT.of (q _ _ hp)) ?_ ?_⟩
    · rintro i y σ H2 hy ⟨r', x', y2, y3, y4, rfl, s2, hr2, hrun, hx'⟩
      obtain ⟨u, hu, rfl⟩ := vgetR hy
      obtain ⟨st, hst', hu2⟩ := hst.get hu
      obtain ⟨j, hj, hj17⟩ := Vm.pairOf_kind st
      obtain ⟨fj, hfj⟩ : ∃ fj, ds[j]? = some fj := ⟨ds[j]'(by rw [TD.len]; omega), List.getElem?_eq_getElem _⟩
      refine ⟨u, _, rfl, SqT.of (s2 _ _ hu2), rfl, _, _, rfl, _, _, rfl, rfl, ?_⟩
      refine ⟨_, rfl, DA, _, _, .ref fj, rfl, rfl, TD.sq H2, by rw [hj]; exact atI_nat (by rw [List.getElem?_map, hfj]; rfl), ?_⟩
      refine ⟨fj, _, rfl, ⟨j, hfj, rfl⟩, _, rfl, _, rfl, st, r', x', rfl, hj, hok st (List.mem_of_getElem? hst'), hr2, hx', fun H3 t s3 h3 => ?_⟩
      have erun := Vm.run_take (l := x) hst'
      rw [hrun] at erun
      have erun' : VametBase.run (pr.take (i + 1)) x = if VametBase.within (VametBase.done st x') then some (VametBase.done st x') else none := erun
      refine ⟨_, rfl, t, _, rfl, h3, done_len hx', fun H4 s4 => ⟨_, rfl, ?_⟩⟩
      refine if_2 (fun q => ?_) fun q => ?_
      · have hw := not_t q
        rw [hw] at erun'
        exact k H4 .non ((s2.trans s3).trans s4) (.inl ⟨rfl, Vm.run_beyond (i := i + 1) erun'⟩)
      · have hw := not_f q
        rw [hw] at erun'
        exact ⟨t, _, _, _, _, rfl, (s2.trans s3).trans s4, s4 _ _ h3, erun', hw⟩
    · rintro σ H2 ⟨r', x', y2, y3, y4, rfl, s2, hr2, hrun, hx'⟩
      have et : pr.take (us.map V.ref).length = pr := List.take_of_length_le (by rw [List.length_map, hst.length]; exact Nat.le_refl _)
      rw [et] at hrun
      exact ⟨_, rfl, k H2 _ s2 (.inr ⟨r', x', rfl, hrun, hr2⟩)⟩
end
end Tg
set_option Elab.async false
set_option linter.all false
set_option maxRecDepth 100000
set_option maxHeartbeats 4000000
namespace Vm
open VametBase Vamete
theorem span_at {h k : Nat} (hk : k < 2 * h + 1) : (span h)[k]? = some (-(h : Int) + (k : Int)) := by
  unfold span
  rw [List.getElem?_map, List.getElem?_range hk]
  show some ((k : Int) - (h : Int)) = _
  congr 1
  omega
theorem span_len (h : Nat) : (span h).length = 2 * h + 1 := by simp [span]
/-- the rows grown out of the first j -/
def grown (h : Nat) (xs : List Row) : List Row := xs.flatMap fun r => (span h).map fun v => r ++ [v]
theorem grown_take {h : Nat} {xs : List Row} {j : Nat} {r : Row} (hr : xs[j]? = some r) : grown h (xs.take (j + 1)) = grown h (xs.take j) ++ (span h).map fun v => r ++ [v] := by
  unfold grown
  rw [List.take_add_one, hr, List.flatMap_append]
  simp
theorem grown_len {h : Nat} (xs : List Row) : (grown h xs).length = xs.length * (2 * h + 1) := by
  unfold grown
  induction xs with
  | nil => simp
  | cons x xs ih =>
    rw [List.flatMap_cons, List.length_append, ih, List.length_map, span_len, List.length_cons, Nat.add_mul, Nat.one_mul, Nat.add_comm]
end Vm
namespace Tg
open PySem PySem.Spec PyProof.Rows L2
abbrev sOrbitCount : Stmt := top 36
abbrev sProgNumbers : Stmt := top 53
abbrev sRowsOf : Stmt := top 84
theorem catK {X : Cx} (K : PySem.W.Frag) (h : X.K = K := by rfl) : OpR X (binaryOp .Add) (rCatA K) := h ▸ op_catA
theorem RowsAt.append {H : Hp} : ∀ {as : List Addr} {xs : List (List Int)} {bs : List Addr} {ys : List (List Int)}, RowsAt H as xs → RowsAt H bs ys → RowsAt H (as ++ bs) (xs ++ ys)
  | [], [], _, _, _, h => h
  | _ :: as, _ :: xs, _, _, q, h => ⟨q.1, RowsAt.append q.2 h⟩
  | [], _ :: _, _, _, q, _ => q.elim
  | _ :: _, [], _, _, q, _ => q.elim
theorem RowsAt.same {H H' : Hp} {us : List Addr} {ss : List (List Int)} (h : RowsAt H us ss) (e : Same H H') : RowsAt H' us ss := h.map fun u xs z => e _ _ z
/-- a list's store leaves the rows -/
theorem RowsAt.lst {H : Hp} {us : List Addr} {ss : List (List Int)} {L : Addr} {xs : List V} {o : HO} (h : RowsAt H us ss) (hL : H L = some (.lst xs)) : RowsAt (upd H L o) us ss := h.map fun u ys z => by
  rw [upd_ne (fun q => by rw [q, hL] at z; cases z)]
  exact z
def spRowsOf : Sp := fun vs H Q _ => ∃ (n h : Nat), vs = [.int (n : Int), .int (h : Int)] ∧ n ≤ 4 ∧ h ≤ 9 ∧ Vamete.countOf n h ≤ 130 ∧ ∀ (H' : Hp) (l : Addr) (bs : List Addr), H l = none → Same H H' → H' l = some (.lst (bs.map V.ref)) → RowsAt H' bs (Vamete.rowsOf n h) → Q (.ref l) H'
section
variable {P : Program} {w : World} {K : PySem.W.Frag} {mg : Str → Option Value} {base : Heap}
theorem scRo : FnScope ["places", "height", "rows", "place", "longer", "row", "number"] ["places", "height"] (defScope sRowsOf) := ⟨rfl, rfl, rfl, by decide +kernel, rfl, by decide +kernel, by decide +kernel⟩
theorem ok_rowsOf {f : Addr} {fd : FuncData} (F : Fun K "rows_of_size" "rows_of_size" sRowsOf f fd) (gRange : mg "range" = none) : FnOk P w K mg base CX0 1 f fd ["places", "height"] spRowsOf := by
  refine F.ok scRo (fun vs H Q E h => ?_) (fun cdv A outer s H vs Q E hr h => ⟨_, pss_cons (ps_set (i := 2) scRo.nd rfl (Or.inl rfl) (pe_lst (pa_cons (pe_tup pa_nil) pa_nil)))
    (pss_cons (ps_for PassesOwn.never rfl (pi_range1 rfl gRange (pa_cons (pv 0) pa_nil)) (pg_name (i := 3) scRo.nd rfl (Or.inl rfl))
      (pss_cons (ps_set (i := 4) scRo.nd rfl (Or.inl rfl) (pe_lst pa_nil))
      (pss_cons (ps_for PassesOwn.never rfl (pi_list (pv 2)) (pg_name (i := 5) scRo.nd rfl (Or.inr rfl))
        (pss_one (ps_expr (pe_bm PySem.F.plainAttrs_list PySem.F.slot_list_extend PySem.F.type_list_extend mt_extend (pv 4) (pa_cons
          (pe_lc (own := [("number", 6)]) (g := gName 6) (tt := tYes) rfl scRo.nd (pi_range2 (by rfl) gRange (pa_cons (pe_un un_neg (pv 1)) (pa_cons (pe_op op_add (pv 1) pe_int) pa_nil)))
            (blkOk_by (N := ["places", "height", "rows", "place", "longer", "row", "number"]) (sc := defScope sRowsOf) (by decide +kernel)) (fun _ _ _ _ _ => pg_name (i := 6) scRo.nd rfl (Or.inl rfl)) (fun _ _ _ _ _ => pts_nil)
            (fun _ _ _ _ _ => pe_op (catK K) (pv 5) (pe_tup (pa_cons (pv 6) pa_nil)))) pa_nil)))))
      (pss_one (ps_set (i := 2) scRo.nd rfl (Or.inl rfl) (pv 4))))))
    (pss_one (ps_ret (pv 2)))), ?_⟩)
  · obtain ⟨n, h, rfl, _⟩ := h
    rfl
  · obtain ⟨n, h, rfl, hn, hh, hc, k⟩ := h
    refine ⟨Nat.zero_le _, fun t0 h0 => ⟨by show 1 ≤ sizeLine; decide, fun l0 hl0 => ?_⟩⟩
    have s0 : Same H (upd H t0 (.tup [])) := Same.new h0
    have hl0n : H l0 = none := s0.free hl0
    have eT : ((n : Int)).toNat = n := by omega
    refine ⟨_, rfl, (n : Int), rfl, by omega, by omega, for_range (lo := 0) (n := ((n : Int)).toNat) (fun i σ H' => ∃ (l : Addr) (bs : List Addr) (y3 y4 y5 : Option V), σ = [some (.int (n : Int)), some (.int (h : Int)), some (.ref l), y3, y4, y5, none] ∧ Same H H' ∧ i ≤ n ∧ H l = none ∧ H' l = some (.lst (bs.map V.ref)) ∧ RowsAt H' bs (Vamete.rowsOf i h))
      ⟨l0, [t0], none, none, none, rfl, s0.trans (Same.new hl0), Nat.zero_le _, hl0n, upd_same, ⟨by rw [upd_ne (fun z => by rw [z] at hl0; rw [upd_same] at hl0; cases hl0), upd_same]; rfl, trivial⟩⟩ ?_ ?_⟩
    · rintro i σ H1 hi ⟨l, bs, y3, y4, y5, rfl, s1, hin, hln, l1, r1⟩
      rw [eT] at hi
      refine ⟨Nat.zero_le _, fun L hL => ?_⟩
      have hLn : H L = none := s1.free hL
      have hlL : l ≠ L := ne_of_none l1 hL
      have hxl : (Vamete.rowsOf i h).length ≤ 130 := by
        rw [Vm.rowsOf_length]
        exact Nat.le_trans (Vm.countOf_mono (by omega)) hc
      have s2 : Same H1 (upd H1 L (.lst [])) := Same.new hL
      refine ⟨_, rfl, l, rfl, ⟨_, SqL.of (s2 _ _ l1)⟩, for_list (xs := bs.map V.ref) (fun j σ H' => ∃ (cs : List Addr) (y5 : Option V), σ = [some (.int (n : Int)), some (.int (h : Int)), some (.ref l), some (.int (0 + (i : Int))), some (.ref L), y5, none] ∧ Same H1 H' ∧ H' L = some (.lst (cs.map V.ref)) ∧ RowsAt H' cs (Vm.grown h ((Vamete.rowsOf i h).take j)))
        ⟨[], y5, rfl, s2, upd_same, trivial⟩ (fun j σ H' _ h => by obtain ⟨_, _, _, q, _⟩ := h; exact SqL.of (q _ _ l1)) ?_ ?_⟩
      · rintro j v σ H2 hv ⟨cs, z5, rfl, s3, l3, r3⟩
        obtain ⟨b, hb, rfl⟩ := vgetR hv
        obtain ⟨r, hrj, hbr⟩ := r1.get hb
        have hb3 := s3 _ _ hbr
        have hrl : r.length = i := ((Vm.mem_rowsOf i h r).mp (List.mem_of_getElem? hrj)).1
        refine ⟨_, rfl, .inl ⟨rfl, _, SqL.of l3⟩, _, rfl, _, rfl, _, rfl, _, _, rfl, rfl, -(h : Int), (h : Int) + 1, rfl, by omega, fun D hD => ?_⟩
        have en : ((h : Int) + 1 - -(h : Int)).toNat = 2 * h + 1 := by omega
        have hDL : D ≠ L := (ne_of_none l3 hD).symm
        refine lc_range (lo := -(h : Int)) (n := ((h : Int) + 1 - -(h : Int)).toNat) (fun m H' => ∃ es : List Addr, Same H2 H' ∧ H' D = some (.lst (es.map V.ref)) ∧ RowsAt H' es (((Vm.span h).take m).map fun v => r ++ [v]))
          ⟨[], Same.new hD, upd_same, trivial⟩ ?_ ?_
        · rintro m H3 hm ⟨es, s4, d4, r4⟩
          rw [en] at hm
          have hsp := Vm.span_at hm
          refine ⟨rfl, _, rfl, _, rfl, by show 1 ≤ sizeLine; decide, fun t ht => ?_⟩
          have s5 : Same H3 (upd H3 t (.tup [.int (-(h : Int) + (m : Int))])) := Same.new ht
          refine catA (xs := r.map V.int) (ys := [.int (-(h : Int) + (m : Int))]) (s5 _ _ (s4 _ _ hb3)) upd_same (by rw [List.length_map, hrl]; exact small_le (by show i + 1 ≤ 100000; omega)) fun H4 t4 s6 h4 => ?_
          have d6 := s6 _ _ (s5 _ _ d4)
          refine ⟨_, d6, ?_, es ++ [t4], Same.at_new ((s4.trans s5).trans s6) hD, by rw [upd_same, List.map_append]; rfl, ?_⟩
          · rw [List.length_map, r4.length, List.length_map, List.length_take]
            exact small1000' (by omega)
          · rw [take_more hsp, List.map_append]
            refine RowsAt.snoc ?_ ((r4.same (s5.trans s6)).lst d6)
            rw [upd_ne (fun q => by rw [q, d6] at h4; cases h4), h4, List.map_append]
            rfl
        · rintro H3 ⟨es, s4, d4, r4⟩
          rw [en, List.take_of_length_le (by rw [Vm.span_len]; exact Nat.le_refl _)] at r4
          have l4 := s4 _ _ l3
          have hcl : cs.length ≤ 130 * 19 := by
            rw [r3.length, Vm.grown_len, List.length_take]
            exact Nat.mul_le_mul (by omega) (by omega)
          have hel : es.length = 2 * h + 1 := by rw [r4.length, List.length_map, Vm.span_len]
          refine ⟨L, D, _, _, rfl, rfl, l4, d4, by rw [List.length_map, List.length_map]; exact small_le (by omega), ?_⟩
          refine ⟨cs ++ es, _, rfl, Same.at_new (s3.trans s4) hL, by rw [upd_same, List.map_append], ?_⟩
          rw [Vm.grown_take hrj]
          exact RowsAt.append ((r3.same s4).lst l4) (r4.lst l4)
      · rintro σ H2 ⟨cs, z5, rfl, s3, l3, r3⟩
        rw [List.length_map, r1.length, List.take_length] at r3
        refine ⟨_, rfl, L, cs, _, _, _, rfl, s1.trans s3, by omega, hLn, l3, ?_⟩
        rw [Vm.rowsOf_snoc]
        exact r3
    · rintro σ H1 ⟨l, bs, y3, y4, y5, rfl, s1, hin, hln, l1, r1⟩
      rw [eT] at r1
      exact ⟨_, rfl, k H1 l bs hln s1 l1 r1⟩
end
end Tg
set_option Elab.async false
set_option linter.all false
set_option maxRecDepth 100000
set_option maxHeartbeats 4000000
namespace Tg
open PySem PySem.Spec PyProof.Rows L2
theorem put_any {kvs : List (List Key × V)} {ys : List (List Int)} (h : kvs.map (·.1) = ys.map keyOf) (z : List Int) (v : V) : (putK kvs (keyOf z) v).map (·.1) = (if z ∈ ys then ys else ys ++ [z]).map keyOf := by
  by_cases c : z ∈ ys
  · rw [if_pos c, ← h]
    unfold putK
    rw [if_pos (by
      obtain ⟨kv, hm, e⟩ := (key_mem h z).mpr c
      exact List.any_eq_true.mpr ⟨kv, hm, decide_eq_true e⟩), List.map_map]
    refine List.map_congr_left fun kv _ => ?_
    show (if kv.1 = keyOf z then (kv.1, v) else kv).1 = kv.1
    split <;> rfl
  · rw [if_neg c]
    exact (put_new h c v).1
theorem nodup_put {ys : List (List Int)} (h : ys.Nodup) (z : List Int) : (if z ∈ ys then ys else ys ++ [z]).Nodup := by
  split
  · exact h
  · rename_i c
    rw [List.nodup_append]
    refine ⟨h, by simp, fun a ha b hb e => ?_⟩
    rw [List.mem_singleton.mp hb] at e
    exact c (e ▸ ha)
theorem mem_put {ys : List (List Int)} (z y : List Int) : y ∈ (if z ∈ ys then ys else ys ++ [z]) ↔ y ∈ ys ∨ y = z := by
  split
  · rename_i c
    constructor
    · exact .inl
    · rintro (h | rfl)
      · exact h
      · exact c
  · rw [List.mem_append, List.mem_singleton]
def spOrbitCount (K : PySem.W.Frag) : Sp := fun vs H Q _ => ∃ (tl rl : Addr) (ts bs : List Addr) (gs : List Vamete.Turn) (n h : Nat), vs = [.ref tl, .ref rl] ∧ SqL K H tl (ts.map V.ref) ∧ RowsAt H ts (gs.map Vm.held) ∧ (∀ g ∈ gs, Vm.Valid n g) ∧ ts.length ≤ 2000 ∧ n ≤ 4 ∧ h ≤ 9 ∧ Vamete.countOf n h ≤ 130 ∧
  SqL K H rl (bs.map V.ref) ∧ RowsAt H bs (Vamete.rowsOf n h) ∧ ∀ H', Same H H' → Q (.int ((Vamete.orbitCount n gs (Vamete.rowsOf n h) : Nat) : Int)) H'
section
variable {P : Program} {w : World} {K : PySem.W.Frag} {mg : Str → Option Value} {base : Heap}
theorem scOc : FnScope ["turns", "rows", "count", "seen", "row", "member"] ["turns", "rows"] (defScope sOrbitCount) := ⟨rfl, rfl, rfl, by decide +kernel, rfl, by decide +kernel, by decide +kernel⟩
theorem ok_orbitCount {f fR : Addr} {fd fdR : FuncData} (F : Fun K "orbit_count" "orbit_count" sOrbitCount f fd)
    (GR : FnOk P w K mg base CX0 2 fR fdR ["turns", "row"] (spReached K)) (bR : Binds K fdR ["turns", "row"] []) (gR : mg "reached" = some (.ref fR)) (kR : PySem.W.keepIn K (.ref fR) = true) :
    FnOk P w K mg base CX0 3 f fd ["turns", "rows"] (spOrbitCount K) := by
  refine F.ok scOc (fun vs H Q E h => ?_) (fun cdv A outer s H vs Q E hr h => ⟨_, pss_cons (ps_set (i := 2) scOc.nd rfl (Or.inl rfl) pe_int)
    (pss_cons (ps_set (i := 3) scOc.nd rfl (Or.inl rfl) pe_dnewT)
    (pss_cons (ps_for PassesOwn.never rfl (pi_list (pv 1)) (pg_name (i := 4) scOc.nd rfl (Or.inl rfl))
      (pss_one (ps_if (pt_cmp (pc_dnotin (hu_of hr) (pv 4) (pv 3))) (pss_cons (ps_set (i := 2) scOc.nd rfl (Or.inl rfl) (pe_op op_add (pv 2) pe_int))
        (pss_one (ps_for PassesOwn.never rfl (pi_list (pe_call GR hr rfl gR kR bR .nil pass0 (pa_cons (pv 0) (pa_cons (pv 4) pa_nil)))) (pg_name (i := 5) scOc.nd rfl (Or.inl rfl))
          (pss_one (ps_dput (hu_of hr) (pv 3) (pv 5) pe_bl rfl))))) pss_nil)))
    (pss_one (ps_ret (pv 2))))), ?_⟩)
  · obtain ⟨tl, rl, ts, bs, gs, n, h, rfl, _⟩ := h
    rfl
  · obtain ⟨tl, rl, ts, bs, gs, n, h, rfl, hT, hR, hv, htl, hn, hh, hc, hB, hRB, k⟩ := h
    have hxl : (Vamete.rowsOf n h).length ≤ 130 := by
      rw [Vm.rowsOf_length]
      exact hc
    intro S hS
    refine ⟨_, rfl, rl, rfl, ⟨_, (Same.new hS).seq hB⟩, for_list (xs := bs.map V.ref) (fun i σ H' => ∃ (kvs : List (List Key × V)) (ys : List (List Int)) (y4 y5 : Option V), σ = [some (.ref tl), some (.ref rl), some (.int ((((Vamete.rowsOf n h).take i).filter (Vm.leastB gs)).length : Nat)), some (.ref S), y4, y5] ∧ Same H H' ∧
      H' S = some (.dT kvs) ∧ kvs.map (·.1) = ys.map keyOf ∧ ys.Nodup ∧ ∀ z, z ∈ ys ↔ ∃ (j : Nat) (y : List Int), j < i ∧ (Vamete.rowsOf n h)[j]? = some y ∧ Vm.ReachG (gs.map Vamete.turned) y z)
      ⟨[], [], none, none, rfl, Same.new hS, upd_same, rfl, List.nodup_nil, fun z => ⟨fun q => by simp at q, fun q => by obtain ⟨j, _, q, _⟩ := q; omega⟩⟩ (fun i σ H' _ h => by obtain ⟨_, _, _, _, _, q, _⟩ := h; exact q.seq hB) ?_ ?_⟩
    · rintro i v σ H1 hv' ⟨kvs, ys, y4, y5, rfl, s1, d1, ek, nd, hys⟩
      obtain ⟨b, hb, rfl⟩ := vgetR hv'
      obtain ⟨x, hx, hbx⟩ := hRB.get hb
      have hxm := List.mem_of_getElem? hx
      have hxn := ((Vm.mem_rowsOf n h x).mp hxm).1
      have hbx1 := s1 _ _ hbx
      have hseen := Vm.seen_iff hv hx
      have hcnt := Vm.count_step (p := Vm.leastB gs) hx
      refine ⟨_, rfl, _, rfl, S, _, rfl, DGet.t (k := keyOf x) d1 (by rw [keyOf_kV]; exact hbx1), _, rfl, ?_⟩
      by_cases c : x ∈ ys
      · have hl : Vm.leastB gs x = false := hseen.mp ((hys x).mp c)
        rw [val_some ek c]
        refine ⟨kvs, ys, some (.ref b), y5, ?_, s1, d1, ek, nd, fun z => (hys z).trans ⟨fun q => ?_, fun q => ?_⟩⟩
        · rw [hcnt, hl]
          rfl
        · obtain ⟨j, y, h1, h2, h3⟩ := q
          exact ⟨j, y, by omega, h2, h3⟩
        · obtain ⟨j, y, h1, h2, h3⟩ := q
          by_cases e : j = i
          · subst e
            rw [hx] at h2
            cases h2
            obtain ⟨j', y', g1, g2, g3⟩ := (hys x).mp c
            exact ⟨j', y', g1, g2, Vm.reachG_trans g3 h3⟩
          · exact ⟨j, y, by omega, h2, h3⟩
      · have hl : Vm.leastB gs x = true := by
          cases e : Vm.leastB gs x with
          | true => rfl
          | false => exact absurd ((hys x).mpr (hseen.mpr e)) c
        rw [val_none ek c]
        refine ⟨_, rfl, _, _, rfl, rfl, ?_⟩
        have hacts : (gs.map Vm.held).map Vm.turnedL = gs.map Vamete.turned := Vm.acts_rows gs
        refine ⟨_, rfl, _, rfl, tl, b, ts, gs.map Vm.held, x, n, Vamete.rowsOf n h, rfl, s1.seq hT, hR.same s1, hbx1, hxn, hn, ?_, ?_, htl, ?_, by omega, ?_⟩
        · intro c hc'
          obtain ⟨g, hg, rfl⟩ := List.mem_map.mp hc'
          exact Vm.held_length (hv g hg)
        · intro c hc'
          obtain ⟨g, hg, rfl⟩ := List.mem_map.mp hc'
          exact Vm.held_ok (hv g hg)
        · intro y hy
          rw [hacts] at hy
          exact Vm.reach_rowsOf hv hxm hy
        · intro H2 M ms zs hM s2 m2 r2 ndz hzs
          rw [hacts] at hzs
          refine ⟨M, rfl, ⟨_, SqL.of m2⟩, for_list (xs := ms.map V.ref) (fun m σ H' => ∃ (kvs' : List (List Key × V)) (ys' : List (List Int)) (y5 : Option V), σ = [some (.ref tl), some (.ref rl), some (.int (((((Vamete.rowsOf n h).take i).filter (Vm.leastB gs)).length : Nat) + 1)), some (.ref S), some (.ref b), y5] ∧ Same H H' ∧ H' M = some (.lst (ms.map V.ref)) ∧ RowsAt H' ms zs ∧
            H' S = some (.dT kvs') ∧ kvs'.map (·.1) = ys'.map keyOf ∧ ys'.Nodup ∧ ∀ z, z ∈ ys' ↔ z ∈ ys ∨ z ∈ zs.take m)
            ⟨kvs, ys, y5, rfl, s1.trans s2, m2, r2, s2 _ _ d1, ek, nd, fun z => by simp⟩ (fun m σ H' _ h => by obtain ⟨_, _, _, _, _, q, _⟩ := h; exact SqL.of q) ?_ ?_⟩
          · rintro m v σ H3 hv3 ⟨kvs', ys', z5, rfl, s3, m3, r3, d3, ek', nd', hys'⟩
            obtain ⟨u, hu, rfl⟩ := vgetR hv3
            obtain ⟨z, hz, huz⟩ := r3.get hu
            have hsub : ∀ y ∈ ys', y ∈ Vamete.rowsOf n h := fun y hy => by
              rcases (hys' y).mp hy with q | q
              · obtain ⟨j, y', _, g2, g3⟩ := (hys y).mp q
                exact Vm.reach_rowsOf hv (List.mem_of_getElem? g2) g3
              · exact Vm.reach_rowsOf hv hxm ((hzs y).mp (List.mem_of_mem_take q))
            have hkl : kvs'.length ≤ 130 := by
              have e1 := congrArg List.length ek'
              rw [List.length_map, List.length_map] at e1
              have e2 := Vm.nodup_len_le ys' (Vamete.rowsOf n h) nd' hsub
              omega
            refine ⟨_, rfl, _, rfl, S, _, rfl, DPut.t (k := keyOf z) d3 (by rw [keyOf_kV]; exact huz) (small1000' (by omega)), ?_⟩
            have nS : ∀ (a : Addr) (o : HO), H3 a = some o → (∀ q, o ≠ .dT q) → (upd H3 S (.dT (putK kvs' (keyOf z) (.bl true)))) a = some o := fun a o q nq => by
              rw [upd_ne (fun e => by rw [e, d3] at q; exact nq _ (Option.some.inj q).symm)]
              exact q
            refine ⟨_, _, _, rfl, Same.at_new s3 hS, nS _ _ m3 (fun q e => by cases e), r3.map (fun a xs q => nS _ _ q (fun q e => by cases e)), upd_same, put_any ek' z _, nodup_put nd' z, fun y => ?_⟩
            rw [mem_put, hys' y, take_more hz, List.mem_append, List.mem_singleton, or_assoc]
          · rintro σ H3 ⟨kvs', ys', z5, rfl, s3, m3, r3, d3, ek', nd', hys'⟩
            rw [List.length_map, r3.length, List.take_length] at hys'
            refine ⟨kvs', ys', some (.ref b), z5, ?_, s3, d3, ek', nd', fun z => (hys' z).trans ⟨?_, ?_⟩⟩
            · rw [hcnt, hl]
              rfl
            · rintro (q | q)
              · obtain ⟨j, y, h1, h2, h3⟩ := (hys z).mp q
                exact ⟨j, y, by omega, h2, h3⟩
              · exact ⟨i, x, by omega, hx, (hzs z).mp q⟩
            · rintro ⟨j, y, h1, h2, h3⟩
              by_cases e : j = i
              · subst e
                rw [hx] at h2
                cases h2
                exact .inr ((hzs z).mpr h3)
              · exact .inl ((hys z).mpr ⟨j, y, by omega, h2, h3⟩)
    · rintro σ H1 ⟨kvs, ys, y4, y5, rfl, s1, d1, ek, nd, hys⟩
      rw [List.length_map, hRB.length, List.take_length]
      have := k H1 s1
      rw [Vm.orbitCount_eq] at this
      exact ⟨_, rfl, this⟩
end
end Tg
set_option Elab.async false
set_option linter.all false
set_option maxRecDepth 100000
set_option maxHeartbeats 4000000
namespace Tg
open PySem PySem.Spec PyProof.Rows L2
/-! ### rows, outcomes, programs as data -/
def rowD (x : List Int) : PyData := .tuple (x.map .int)
def optD : Option (List Int) → PyData
  | none => .none
  | some x => rowD x
theorem ints_lay : ∀ x : List Int, PyData.canLayAll0 (x.map .int) = true
  | [] => rfl
  | i :: x => by
    show (PyData.canLay0 (.int i) && PyData.canLayAll0 (x.map .int)) = true
    rw [ints_lay x]
    rfl
theorem ints_depth : ∀ x : List Int, PyData.depthAll (x.map .int) = 0
  | [] => rfl
  | i :: x => by
    show max (PyData.depth (.int i)) (PyData.depthAll (x.map .int)) = 0
    rw [ints_depth x]
    rfl
theorem shaped_row (x : List Int) : SeqAt.shaped (rowD x) = true := by
  unfold SeqAt.shaped rowD
  have h1 : PyData.canLay0 (.tuple (x.map .int)) = true := by rw [PyData.canLay0]; exact ints_lay x
  have h2 : PyData.depth (.tuple (x.map .int)) = 1 := by rw [PyData.depth, ints_depth]
  rw [h1, h2]
  rfl
theorem shaped_opt (o : Option (List Int)) : SeqAt.shaped (optD o) = true := by
  cases o with
  | none => rfl
  | some x => exact shaped_row x
theorem eqvAll_ints : ∀ x y : List Int, PyData.eqvAll (x.map .int) (y.map .int) = decide (x = y)
  | [], [] => by simp [PyData.eqvAll]
  | [], j :: y => by simp [PyData.eqvAll]
  | i :: x, [] => by simp [PyData.eqvAll]
  | i :: x, j :: y => by
    rw [List.map_cons, List.map_cons, PyData.eqvAll, eqvAll_ints x y, PyData.eqv]
    by_cases c : i = j
    · subst c
      by_cases d : x = y
      · simp [d]
      · simp [d]
    · simp [c]
theorem eqv_row (x y : List Int) : PyData.eqv (rowD x) (rowD y) = decide (x = y) := by
  unfold rowD
  rw [PyData.eqv]
  exact eqvAll_ints x y
theorem eqv_opt (o p : Option (List Int)) : PyData.eqv (optD o) (optD p) = decide (o = p) := by
  cases o with
  | none => cases p <;> simp [optD, PyData.eqv, rowD]
  | some x =>
    cases p with
    | none => simp [optD, PyData.eqv, rowD]
    | some y =>
      show PyData.eqv (rowD x) (rowD y) = _
      rw [eqv_row]
      simp
theorem dp_ints {K : PySem.W.Frag} {H : Hp} : ∀ x : List Int, DpAll K H (x.map V.int) (x.map .int)
  | [] => .nil
  | i :: x => .cons (.int i) (dp_ints x)
theorem dp_row {K : PySem.W.Frag} {H : Hp} {t : Addr} {x : List Int} (h : H t = some (.tup (x.map V.int))) : Dp K H (.ref t) (rowD x) := .tup (SqT.of h) (dp_ints x)
theorem dp_out {K : PySem.W.Frag} {H : Hp} {v : V} {o : Option (List Int)} (h : OutAt H v o) : Dp K H v (optD o) := by
  rcases h with ⟨rfl, rfl⟩ | ⟨t, y, rfl, rfl, h⟩
  · exact .non
  · exact dp_row h
/-! ### outcomes, by rows -/
structure OutsAt (H : Hp) (pr : List VametBase.Step) (kvs : List (List Key × V)) (xs : List (List Int)) : Prop where
  keys : kvs.map (·.1) = xs.map keyOf
  vals : ∀ (i : Nat) (k : List Key) (v : V) (x : List Int), kvs[i]? = some (k, v) → xs[i]? = some x → OutAt H v (VametBase.run pr x)
theorem OutsAt.same {H H' : Hp} {pr : List VametBase.Step} {kvs : List (List Key × V)} {xs : List (List Int)} (h : OutsAt H pr kvs xs) (e : Same H H') : OutsAt H' pr kvs xs :=
  ⟨h.keys, fun i k v x h1 h2 => (h.vals i k v x h1 h2).same e⟩
theorem OutsAt.length {H : Hp} {pr : List VametBase.Step} {kvs : List (List Key × V)} {xs : List (List Int)} (h : OutsAt H pr kvs xs) : kvs.length = xs.length := by
  have := congrArg List.length h.keys
  rwa [List.length_map, List.length_map] at this
theorem OutsAt.key {H : Hp} {pr : List VametBase.Step} {kvs : List (List Key × V)} {xs : List (List Int)} (h : OutsAt H pr kvs xs) {i : Nat} {k : List Key} {v : V} (hk : kvs[i]? = some (k, v)) : ∃ x, xs[i]? = some x ∧ k = keyOf x := by
  have e : (kvs.map (·.1))[i]? = some k := by rw [List.getElem?_map, hk]; rfl
  rw [h.keys, List.getElem?_map] at e
  cases q : xs[i]? with
  | none => rw [q] at e; cases e
  | some x => rw [q] at e; exact ⟨x, rfl, (Option.some.inj e).symm⟩
theorem OutsAt.get {H : Hp} {pr : List VametBase.Step} {kvs : List (List Key × V)} {xs : List (List Int)} (h : OutsAt H pr kvs xs) {y : List Int} (hy : y ∈ xs) : ∃ v, valV kvs (keyOf y) = some v ∧ OutAt H v (VametBase.run pr y) := by
  have hs := val_some h.keys hy
  unfold valV at hs ⊢
  cases e : kvs.find? fun kv => decide (kv.1 = keyOf y) with
  | none => rw [e] at hs; cases hs
  | some kv =>
    have h1 := List.mem_of_find?_eq_some e
    have h2 : kv.1 = keyOf y := of_decide_eq_true (List.find?_some (p := fun kv : List Key × V => decide (kv.1 = keyOf y)) e)
    obtain ⟨i, hi⟩ := List.mem_iff_getElem?.mp h1
    obtain ⟨x, hx, ex⟩ := h.key (k := kv.1) (v := kv.2) hi
    have exy : x = y := keyOf_inj (ex.symm.trans h2)
    subst exy
    exact ⟨kv.2, rfl, h.vals i kv.1 kv.2 x hi hx⟩
theorem put_app {kvs : List (List Key × V)} {ys : List (List Int)} (h : kvs.map (·.1) = ys.map keyOf) {z : List Int} (hz : z ∉ ys) (v : V) : putK kvs (keyOf z) v = kvs ++ [(keyOf z, v)] := by
  unfold putK
  rw [if_neg]
  intro q
  obtain ⟨kv, hm, e⟩ := List.any_eq_true.mp q
  exact hz ((key_mem h z).mp ⟨kv, hm, of_decide_eq_true e⟩)
/-- a dict's store leaves rows and outcomes -/
theorem OutAt.dt {H : Hp} {v : V} {o : Option (List Int)} {d : Addr} {q : List (List Key × V)} {u : HO} (h : OutAt H v o) (hd : H d = some (.dT q)) : OutAt (upd H d u) v o := by
  rcases h with h | ⟨t, y, h1, h2, h3⟩
  · exact .inl h
  · exact .inr ⟨t, y, h1, h2, by rw [upd_ne (fun e => by rw [e, hd] at h3; cases h3)]; exact h3⟩
abbrev sOutcomesAt : Stmt := top 39
abbrev sUnlike : Stmt := top 40
def spOutcomesAt (K : PySem.W.Frag) : Sp := fun vs H Q _ => ∃ (p l : Addr) (pr : List VametBase.Step) (bs : List Addr) (xs : List (List Int)), vs = [.ref p, .ref l] ∧ ProgAtN 24 H p pr ∧ SqL K H l (bs.map V.ref) ∧ RowsAt H bs xs ∧ xs.Nodup ∧ (∀ x ∈ xs, VametBase.within x = true) ∧ xs.length ≤ 1000 ∧
  ∀ (H' : Hp) (d : Addr) (kvs : List (List Key × V)), H d = none → Same H H' → H' d = some (.dT kvs) → OutsAt H' pr kvs xs → Q (.ref d) H'
def optV : Option Nat → V
  | none => .non
  | some i => .int (i : Int)
def spUnlike (K : PySem.W.Frag) : Sp := fun vs H Q _ => ∃ (t d : Addr) (tn : Vamete.Turn) (n h : Nat) (pr : List VametBase.Step) (kvs : List (List Key × V)), vs = [.ref t, .ref d] ∧ Vm.Valid n tn ∧ n ≤ 4 ∧ H t = some (.tup ((Vm.held tn).map V.int)) ∧ H d = some (.dT kvs) ∧ OutsAt H pr kvs (Vamete.rowsOf n h) ∧
  ∀ H', Same H H' → Q (optV (Vamete.unlikeAt pr (Vamete.rowsOf n h) tn)) H'
section
variable {P : Program} {w : World} {K : PySem.W.Frag} {mg : Str → Option Value} {base : Heap}
theorem scOa : FnScope ["program", "rows", "outcomes", "row"] ["program", "rows"] (defScope sOutcomesAt) := ⟨rfl, rfl, rfl, by decide +kernel, rfl, by decide +kernel, by decide +kernel⟩
theorem ok_outcomesAt {f fO : Addr} {fd fdO : FuncData} (F : Fun K "outcomes_at" "outcomes_at" sOutcomesAt f fd)
    (GO : FnOk P w K mg base CX0 2 fO fdO ["program", "row"] spOutcome) (bO : Binds K fdO ["program", "row"] []) (gO : mg "outcome_of" = some (.ref fO)) (kO : PySem.W.keepIn K (.ref fO) = true) :
    FnOk P w K mg base CX0 3 f fd ["program", "rows"] (spOutcomesAt K) := by
  refine F.ok scOa (fun vs H Q E h => ?_) (fun cdv A outer s H vs Q E hr h => ⟨_, pss_cons (ps_set (i := 2) scOa.nd rfl (Or.inl rfl) pe_dnewT)
    (pss_cons (ps_for PassesOwn.never rfl (pi_list (pv 1)) (pg_name (i := 3) scOa.nd rfl (Or.inl rfl))
      (pss_one (ps_dput (hu_of hr) (pv 2) (pv 3) (pe_call GO hr rfl gO kO bO .nil pass0 (pa_cons (pv 0) (pa_cons (pv 3) pa_nil))) rfl)))
    (pss_one (ps_ret (pv 2)))), ?_⟩)
  · obtain ⟨p, l, pr, bs, xs, rfl, _⟩ := h
    rfl
  · obtain ⟨p, l, pr, bs, xs, rfl, hp, hl, hR, nd, hw, hlen, k⟩ := h
    intro D hD
    refine ⟨_, rfl, l, rfl, ⟨_, (Same.new hD).seq hl⟩, for_list (xs := bs.map V.ref) (fun i σ H' => ∃ (kvs : List (List Key × V)) (y : Option V), σ = [some (.ref p), some (.ref l), some (.ref D), y] ∧ Same H H' ∧ H' D = some (.dT kvs) ∧ OutsAt H' pr kvs (xs.take i))
      ⟨[], none, rfl, Same.new hD, upd_same, rfl, fun i k v x h1 _ => by simp at h1⟩ (fun i σ H' _ h => by obtain ⟨_, _, _, q, _⟩ := h; exact q.seq hl) ?_ ?_⟩
    · rintro i v σ H1 hv ⟨kvs, y, rfl, s1, d1, o1⟩
      obtain ⟨b, hb, rfl⟩ := vgetR hv
      obtain ⟨x, hx, hbx⟩ := hR.get hb
      have hin : x ∉ xs.take i := fun q => by
        obtain ⟨j, hj⟩ := List.mem_iff_getElem?.mp q
        obtain ⟨hjl, _⟩ := List.getElem?_eq_some_iff.mp hj
        rw [List.length_take] at hjl
        have hj2 : xs[j]? = some x := by
          rw [List.getElem?_take_of_lt (by omega)] at hj
          exact hj
        have hil := (List.getElem?_eq_some_iff.mp hx).1
        have := (List.getElem?_inj hil nd).mp (hx.trans hj2.symm)
        omega
      refine ⟨_, rfl, _, rfl, p, b, pr, x, rfl, hp.same s1, s1 _ _ hbx, hw x (List.mem_of_getElem? hx), fun H2 u s2 ou => ?_⟩
      have d2 := s2 _ _ d1
      have o2 := o1.same s2
      have hkl : kvs.length ≤ 1000 := by
        rw [o1.length, List.length_take]
        omega
      refine ⟨_, rfl, _, rfl, D, _, rfl, DPut.t (k := keyOf x) d2 (by rw [keyOf_kV]; exact s2 _ _ (s1 _ _ hbx)) (small1000' (by omega)), ?_⟩
      refine ⟨_, _, rfl, Same.at_new (s1.trans s2) hD, upd_same, ?_, ?_⟩
      · rw [take_more hx]
        exact (put_new o2.keys hin u).1
      · intro j k' v' x' h1 h2
        rw [put_app o2.keys hin, List.getElem?_append] at h1
        rw [take_more hx, List.getElem?_append] at h2
        rw [o1.length] at h1
        by_cases c : j < (xs.take i).length
        · rw [if_pos c] at h1 h2
          exact (o2.vals j k' v' x' h1 h2).dt d2
        · rw [if_neg c] at h1 h2
          have hj0 : j - (xs.take i).length = 0 := by
            have q := (List.getElem?_eq_some_iff.mp h2).1
            have q2 : [x].length = 1 := rfl
            omega
          rw [hj0] at h1 h2
          cases h1
          cases h2
          exact ou.dt d2
    · rintro σ H1 ⟨kvs, y, rfl, s1, d1, o1⟩
      rw [List.length_map, hR.length, List.take_length] at o1
      exact ⟨_, rfl, k H1 D kvs hD s1 d1 o1⟩
theorem scUl : FnScope ["turn", "outcomes", "number", "row"] ["turn", "outcomes"] (defScope sUnlike) := ⟨rfl, rfl, rfl, by decide +kernel, rfl, by decide +kernel, by decide +kernel⟩
theorem ok_unlike {f fT : Addr} {fd fdT : FuncData} (F : Fun K "first_unlike" "first_unlike" sUnlike f fd) (gEnum : mg "enumerate" = none)
    (GT : FnOk P w K mg base CX0 1 fT fdT ["turn", "row"] (spTurned K)) (bT : Binds K fdT ["turn", "row"] []) (gT : mg "turned" = some (.ref fT)) (kT : PySem.W.keepIn K (.ref fT) = true) :
    FnOk P w K mg base CX0 2 f fd ["turn", "outcomes"] (spUnlike K) := by
  refine F.ok scUl (fun vs H Q E h => ?_) (fun cdv A outer s H vs Q E hr h => ⟨_, pss_cons (ps_lock (ps_for PassesOwn.never rfl (pi_enumD (by rfl) gEnum (pa_cons (pv 1) pa_nil)) (pg_tup rfl (pgs_cons (pg_name (i := 2) scUl.nd rfl (Or.inl rfl)) (pgs_cons (pg_name (i := 3) scUl.nd rfl (Or.inl rfl)) pgs_nil)))
      (pss_one (ps_if (pt_cmpR (op_neD hr.units) (pe_dget (hu_of hr) (pv 1) (pe_call GT hr rfl gT kT bT .nil pass0 (pa_cons (pv 0) (pa_cons (pv 3) pa_nil))) (fun _ _ => rfl)) (pe_dget (hu_of hr) (pv 1) (pv 3) (fun _ _ => rfl)) (nomark _)) (pss_one (ps_ret (pv 2))) pss_nil))))
    (pss_one (ps_ret pe_non)), ?_⟩)
  · obtain ⟨t, d, tn, n, h, pr, kvs, rfl, _⟩ := h
    rfl
  · obtain ⟨t, d, tn, n, h, pr, kvs, rfl, hv, hn, ht, hd, ho, k⟩ := h
    refine ⟨d, _, hd, trivial, fun od => ?_⟩
    have back : ∀ H', (∀ b o, b ≠ d → H b = some o → H' b = some o) → Same H (upd H' d (.dT kvs)) := fun H' q b o e => by
      by_cases c : b = d
      · subst c
        rw [upd_same, ← hd, e]
      · rw [upd_ne c]
        exact q b o c e
    refine ⟨_, rfl, d, od, kvs, rfl, upd_same, ?_⟩
    refine for_it (walk_enumD (d := d) (o := od) (kvs := kvs)) (fun i σ H' => ∃ (y2 y3 : Option V), σ = [some (.ref t), some (.ref d), y2, y3] ∧ (∀ b o, b ≠ d → H b = some o → H' b = some o) ∧ H' d = some (.frz od (.dT kvs)) ∧ ∀ (j : Nat) (y : List Int), j < i → (Vamete.rowsOf n h)[j]? = some y → VametBase.run pr (Vamete.turned tn y) = VametBase.run pr y)
      ⟨none, none, rfl, fun b o nb e => by rw [upd_ne nb]; exact e, upd_same, fun j y hj => by omega⟩ (fun i σ H' _ h => by obtain ⟨_, _, _, _, q, _⟩ := h; exact q) ?_ ?_
    · rintro i v σ H1 H2 hi ⟨y2, y3, rfl, q1, d1, hb⟩ ⟨T, kk, u, qa, rfl, hT, rfl, hkv, hqa⟩
      obtain ⟨x, hx, rfl⟩ := ho.key hkv
      rw [keyOf_kV] at hqa
      have hxm := List.mem_of_getElem? hx
      have hxn := ((Vm.mem_rowsOf n h x).mp hxm).1
      have hTd : T ≠ d := fun e => by rw [e, d1] at hT; cases hT
      have hqT : qa ≠ T := fun e => by rw [e, hT] at hqa; cases hqa
      have sT : Same H1 (upd H1 T (.tup [.int (i : Nat), .ref qa])) := Same.new hT
      have tt : H t = some (.tup ((Vm.held tn).map V.int)) := ht
      have htd : t ≠ d := fun e => by rw [e, hd] at tt; cases tt
      have o1 : ∀ (v : V) (o : Option (List Int)) (H' : Hp), Same H1 H' → OutAt H v o → OutAt H' v o := fun v o H' s q => by
        rcases q with q | ⟨a, y, e1, e2, e3⟩
        · exact .inl q
        · exact .inr ⟨a, y, e1, e2, s _ _ (q1 _ _ (fun e => by rw [e, hd] at e3; cases e3) e3)⟩
      refine ⟨T, _, rfl, SqT.of upd_same, rfl, _, _, rfl, _, _, rfl, rfl, ?_⟩
      refine ⟨_, rfl, _, rfl, _, rfl, t, qa, Vm.held tn, x, rfl, SqT.of (sT _ _ (q1 _ _ htd ht)), SqT.of (sT _ _ hqa), by rw [hxn]; exact Vm.held_ok hv, by rw [Vm.held_length hv]; omega, fun H3 tr htr s3 h3 => ?_⟩
      rw [Vm.turnedL_row] at h3
      obtain ⟨v1, e1, ov1⟩ := ho.get (Vm.turned_rowsOf hv hxm)
      obtain ⟨v2, e2, ov2⟩ := ho.get hxm
      have sA : Same H1 H3 := sT.trans s3
      have d3 := sA _ _ d1
      refine ⟨d, v1, rfl, .inr ⟨kvs, keyOf (Vamete.turned tn x), tr, .inr ⟨od, d3⟩, rfl, by rw [keyOf_kV]; exact h3, e1.symm⟩, ?_⟩
      refine ⟨_, rfl, _, rfl, d, v2, rfl, .inr ⟨kvs, keyOf x, qa, .inr ⟨od, d3⟩, rfl, by rw [keyOf_kV]; exact sA _ _ hqa, e2.symm⟩, ?_⟩
      refine ⟨_, _, dp_out (o1 _ _ H3 sA ov1), dp_out (o1 _ _ H3 sA ov2), shaped_opt _, shaped_opt _, _, rfl, ?_⟩
      rw [eqv_opt]
      refine if_2 (fun q => ?_) fun q => ?_
      · have hne : VametBase.run pr (Vamete.turned tn x) ≠ VametBase.run pr x := of_decide_eq_false (not_t q)
        refine ⟨_, rfl, d3, ?_⟩
        have := k _ (back H3 fun b o nb e => sA _ _ (q1 b o nb e))
        rw [Vm.unlike_some hx hne hb] at this
        exact this
      · have heq : VametBase.run pr (Vamete.turned tn x) = VametBase.run pr x := of_decide_eq_true (not_f q)
        refine ⟨_, _, rfl, fun b o nb e => sA _ _ (q1 b o nb e), d3, fun j y hj hy => ?_⟩
        by_cases c : j = i
        · subst c
          rw [hx] at hy
          cases hy
          exact heq
        · exact hb j y (by omega) hy
    · rintro σ H1 ⟨y2, y3, rfl, q1, d1, hb⟩
      refine ⟨d1, ?_⟩
      have := k _ (back H1 q1)
      rw [Vm.unlike_none.mpr fun x hx => by
        obtain ⟨j, hj⟩ := List.mem_iff_getElem?.mp hx
        exact hb j x (by rw [ho.length]; exact (List.getElem?_eq_some_iff.mp hj).1) hj] at this
      exact this
end
end Tg
set_option Elab.async false
set_option linter.all false
set_option maxRecDepth 100000
set_option maxHeartbeats 4000000
namespace Tg
open PySem PySem.Spec PyProof.Rows L2
abbrev sCommon : Stmt := top 41
abbrev sGoes : Stmt := top 42
abbrev sPartner1 : Stmt := top 43
/-- all but the locked dict is as it was, and that is unlocked again -/
theorem unlock {H H' : Hp} {d : Addr} {u : HO} (hd : H d = some u) (q : ∀ b o, b ≠ d → H b = some o → H' b = some o) : Same H (upd H' d u) := fun b o e => by
  by_cases c : b = d
  · subst c
    rw [upd_same, ← hd, e]
  · rw [upd_ne c]
    exact q b o c e
theorem RowsAt.off {H : Hp} {us : List Addr} {ss : List (List Int)} {d : Addr} {q : List (List Key × V)} {u o : HO} {od : Obj} (h : RowsAt H us ss) (hd : H d = some (.frz od (.dT q))) : RowsAt (upd H d u) us ss := h.map fun a ys z => by
  rw [upd_ne (fun e => by rw [e, hd] at z; cases z)]
  exact z
theorem lenK {X : Cx} (K : PySem.W.Frag) (h : X.K = K := by rfl) : CallR X (.builtin "len") (fun xs H Q => ∃ p ys, xs = [V.ref p] ∧ (SqL K H p ys ∨ SqT K H p ys) ∧ Q (V.int (ys.length : Nat)) H) := h ▸ call_len_seq
def spCommon : Sp := fun vs H Q _ => ∃ (d : Addr) (pr : List VametBase.Step) (kvs : List (List Key × V)) (xs : List (List Int)), vs = [.ref d] ∧ H d = some (.dT kvs) ∧ OutsAt H pr kvs xs ∧ xs ≠ [] ∧ xs.length ≤ 1000 ∧ ∀ H', Same H H' → Q (optV (Vm.common pr xs)) H'
section
variable {P : Program} {w : World} {K : PySem.W.Frag} {mg : Str → Option Value} {base : Heap}
theorem scCl : FnScope ["outcomes", "there", "length", "outcome"] ["outcomes"] (defScope sCommon) := ⟨rfl, rfl, rfl, by decide +kernel, rfl, by decide +kernel, by decide +kernel⟩
theorem ok_common {f : Addr} {fd : FuncData} {tk : Tok} (F : Fun K "common_length" "common_length" sCommon f fd) (gLen : mg "len" = none) (gAny : mg "any" = none) (gM : mg "MOST_PLACES" = some (.int 4 tk)) : FnOk P w K mg base CX0 1 f fd ["outcomes"] spCommon := by
  refine F.ok scCl (fun vs H Q E h => ?_) (fun cdv A outer s H vs Q E hr h => ⟨_, pss_cons (ps_lock (ps_setLc (i := 1) (own := [("outcome", 3)]) (g := gName 3) (tt := tTest (tOp (fun x y H Q => y = .non ∧ Q (.bl (!decide (x = .non))) H) (tVar 3) (tC .non))) (by rfl) scCl.nd rfl rfl (sw_true rfl rfl rfl (by decide +kernel)) (pi_valuesT (pv 0))
        (blkOk_by (own := [("outcome", 3)]) (N := ["outcomes", "there", "length", "outcome"]) (sc := defScope sCommon) (by decide +kernel)) (fun _ _ _ _ _ => pg_name (i := 3) scCl.nd rfl (Or.inl rfl))
        (fun _ _ _ _ _ => pts_one (pt_cmpR op_notN (pv 3) pe_non (nomark _))) (fun _ _ _ _ _ => pv 3)))
    (pss_cons (ps_if (pt_cmpR op_lt (pe_callB call_len_seq (by rfl) gLen PySem.boot_len (pa_cons (pv 1) pa_nil)) (pe_callB call_len_dT (by rfl) gLen PySem.boot_len (pa_cons (pv 0) pa_nil)) (nomark _)) (pss_one (ps_ret pe_non)) pss_nil)
    (pss_cons (ps_set (i := 2) scCl.nd rfl (Or.inr rfl) (pe_callB call_len_seq (by rfl) gLen PySem.boot_len (pa_cons (pe_ix ix_list (pv 1) pe_int (fun _ _ => rfl)) pa_nil)))
    (pss_cons (ps_if (PW.pt (pw_or (pt_cmpR op_gt (pv 2) (pe_glob (v := .int 4) rfl gM ⟨_, rfl⟩) (nomark _)) (pw_or1 (pt_val (pe_callB (cr_any rfl) (by rfl) gAny (by decide +kernel) (pa_cons
        (pe_lc (own := [("outcome", 3)]) (g := gName 3) (tt := tYes) rfl scCl.nd (pi_list (pv 1)) (blkOk_by (own := [("outcome", 3)]) (N := ["outcomes", "there", "length", "outcome"]) (sc := defScope sCommon) (by decide +kernel)) (fun _ _ _ _ _ => pg_name (i := 3) scCl.nd rfl (Or.inl rfl)) (fun _ _ _ _ _ => pts_nil)
          (fun _ _ _ _ _ => pe_cmpR op_ne (pe_callB (lenK K) (by rfl) gLen PySem.boot_len (pa_cons (pv 3) pa_nil)) (pv 2) (nomark _))) pa_nil)))))) (pss_one (ps_ret pe_non)) pss_nil)
    (pss_one (ps_ret (pv 2)))))), ?_⟩)
  · obtain ⟨d, pr, kvs, xs, rfl, _⟩ := h
    rfl
  · obtain ⟨d, pr, kvs, xs, rfl, hd, ho, hne, hlen, k⟩ := h
    refine ⟨d, _, hd, trivial, fun od => ?_⟩
    refine ⟨_, rfl, d, od, kvs, rfl, upd_same, fun D hD => ?_⟩
    have hDd : D ≠ d := fun e => by rw [e, upd_same] at hD; cases hD
    have hDn : H D = none := by rw [upd_ne hDd] at hD; exact hD
    refine lc_it (walk_valsT (d := d) (o := od) (kvs := kvs)) (fun i H' => ∃ bs : List Addr, (∀ b o, b ≠ d → H b = some o → H' b = some o) ∧ H' d = some (.frz od (.dT kvs)) ∧ H' D = some (.lst (bs.map V.ref)) ∧ RowsAt H' bs ((xs.take i).filterMap (VametBase.run pr)))
      ⟨[], fun b o nb e => by rw [upd_ne (ne_of_none e hDn), upd_ne nb]; exact e, by rw [upd_ne hDd.symm, upd_same], upd_same, trivial⟩ (fun i H' _ h => by obtain ⟨_, _, q, _⟩ := h; exact q) ?_ ?_
    · rintro i v H1 H2 hi ⟨bs, q1, d1, l1, r1⟩ ⟨rfl, kk, hkv⟩
      obtain ⟨x, hx, rfl⟩ := ho.key hkv
      have hxi : i < xs.length := (List.getElem?_eq_some_iff.mp hx).1
      have hfl := Vm.fm_le (f := pr) (xs.take i)
      rw [List.length_take] at hfl
      refine ⟨rfl, _, rfl, rfl, _, rfl, ?_⟩
      rcases ho.vals i _ v x hkv hx with ⟨rfl, er⟩ | ⟨a, y, rfl, er, ha⟩
      · refine if_f rfl ⟨bs, q1, d1, l1, ?_⟩
        rw [Vm.fm_take hx, er]
        simpa using r1
      · have had : a ≠ d := fun e => by rw [e, hd] at ha; cases ha
        refine if_t rfl ⟨_, rfl, _, l1, ?_, bs ++ [a], fun b o nb e => ?_, ?_, by rw [upd_same, List.map_append]; rfl, ?_⟩
        · rw [List.length_map, r1.length]
          exact small1000' (by omega)
        · rw [upd_ne (ne_of_none e hDn)]
          exact q1 b o nb e
        · rw [upd_ne hDd.symm]
          exact d1
        · rw [Vm.fm_take hx, er]
          refine RowsAt.snoc ?_ (r1.lst l1)
          rw [upd_ne (fun e => by have := q1 _ _ had ha; rw [e, l1] at this; cases this)]
          exact q1 _ _ had ha
    · rintro H1 ⟨bs, q1, d1, l1, r1⟩
      rw [ho.length, List.take_length] at r1
      refine ⟨d1, ?_⟩
      have sA : Same H (upd H1 d (.dT kvs)) := unlock hd q1
      have l2 : (upd H1 d (.dT kvs)) D = some (.lst (bs.map V.ref)) := by rw [upd_ne hDd]; exact l1
      have r2 : RowsAt (upd H1 d (.dT kvs)) bs (xs.filterMap (VametBase.run pr)) := r1.off (o := .dT kvs) d1
      have d2 : (upd H1 d (.dT kvs)) d = some (.dT kvs) := upd_same
      generalize (upd H1 d (.dT kvs)) = H3 at sA l2 r2 d2
      refine ⟨_, rfl, D, _, rfl, .inl (SqL.of l2), _, rfl, d, kvs, rfl, d2, _, _, rfl, rfl, _, rfl, ?_⟩
      rw [List.length_map, r2.length, ho.length]
      refine if_2 (fun q => ?_) fun q => ?_
      · have q' : (xs.filterMap (VametBase.run pr)).length < xs.length := by have := of_decide_eq_true q; omega
        have := k H3 sA
        rw [Vm.common_none (Vm.lengthOf_beyond (Vm.fm_short q'))] at this
        exact this
      · have q' : ¬ (xs.filterMap (VametBase.run pr)).length < xs.length := by have := of_decide_eq_false q; omega
        have hfull := Vm.fm_full q'
        obtain ⟨x0, hx0⟩ : ∃ x, x ∈ xs := List.exists_mem_of_ne_nil xs hne
        obtain ⟨y0', _, hy0m⟩ := hfull x0 hx0
        obtain ⟨y0, hy0⟩ : ∃ y, (xs.filterMap (VametBase.run pr))[0]? = some y := ⟨_, List.getElem?_eq_getElem (List.length_pos_of_mem hy0m)⟩
        obtain ⟨b0, hb0, hb0t⟩ := r2.get' hy0
        obtain ⟨xa, hxa, exa⟩ := List.mem_filterMap.mp (List.mem_of_getElem? hy0)
        refine ⟨_, rfl, D, _, _, .ref b0, rfl, rfl, SqL.of l2, atI_nat (j := 0) (by rw [List.getElem?_map, hb0]; rfl), b0, _, rfl, .inr (SqT.of hb0t), ?_⟩
        refine ⟨_, rfl, _, _, rfl, rfl, _, rfl, ?_⟩
        refine if_2 (fun q2 => ?_) fun q2 => ?_
        · refine if_t rfl ?_
          have q2' := of_decide_eq_true q2
          rw [List.length_map] at q2'
          have := k H3 sA
          rw [Vm.common_long hxa exa (by omega)] at this
          exact this
        · have q2' := of_decide_eq_false q2
          rw [List.length_map] at q2'
          refine ⟨_, rfl, D, rfl, ⟨_, SqL.of l2⟩, fun D2 hD2 => lc_list (K := K) (a := D) (xs := bs.map V.ref) (fun i H' => Same H3 H' ∧ H' D2 = some (.lst ((((xs.filterMap (VametBase.run pr)).take i).map fun y => decide (y.length ≠ y0.length)).map V.bl)))
            ⟨Same.new hD2, upd_same⟩ (fun i H' _ h => SqL.of (h.1 _ _ l2)) ?_ ?_⟩
          · rintro i v H4 hv ⟨s4, d4⟩
            obtain ⟨b, hb, rfl⟩ := vgetR hv
            obtain ⟨y, hy, hby⟩ := r2.get hb
            have hyl := (List.getElem?_eq_some_iff.mp hy).1
            have hfl := Vm.fm_le (f := pr) xs
            refine ⟨rfl, _, rfl, b, _, rfl, .inr (SqT.of (s4 _ _ hby)), _, rfl, rfl, _, d4, ?_, Same.at_new s4 hD2, ?_⟩
            · rw [List.length_map, List.length_map, List.length_take]
              exact small1000' (by omega)
            · rw [upd_same, take_more hy, List.map_append, List.map_append]
              have e : (!decide (V.int (((y.map V.int).length : Nat) : Int) = V.int (((y0.map V.int).length : Nat) : Int))) = decide (y.length ≠ y0.length) := by
                rw [List.length_map, List.length_map]
                by_cases c : y.length = y0.length
                · simp [c]
                · have : ¬ V.int ((y.length : Nat) : Int) = V.int ((y0.length : Nat) : Int) := fun q => c (by have := V.int.inj q; omega)
                  simp [c, this]
              refine congrArg (fun z => some (HO.lst z)) ?_
              refine congrArg (fun z => List.map V.bl _ ++ z) ?_
              show [V.bl _] = [V.bl _]
              exact congrArg (fun z => [V.bl z]) e
          · rintro H4 ⟨s4, d4⟩
            rw [List.length_map, r2.length, List.take_length] at d4
            refine ⟨D2, _, rfl, SqL.of d4, _, rfl, ?_⟩
            refine if_2 (fun q3 => ?_) fun q3 => ?_
            · obtain ⟨z, hz, ez⟩ := List.any_eq_true.mp q3
              obtain ⟨y, hy, rfl⟩ := List.mem_map.mp hz
              have hyne : y.length ≠ y0.length := of_decide_eq_true ez
              obtain ⟨xb, hxb, exb⟩ := List.mem_filterMap.mp hy
              have := k H4 (sA.trans s4)
              rw [Vm.common_none (Vm.lengthOf_differ hxb hxa exb exa hyne)] at this
              exact this
            · have hall : ∀ x ∈ xs, ∃ y, VametBase.run pr x = some y ∧ y.length = y0.length := fun x hx => by
                obtain ⟨y, e1, e2⟩ := hfull x hx
                refine ⟨y, e1, ?_⟩
                have := List.any_eq_false.mp q3 (decide (y.length ≠ y0.length)) (List.mem_map.mpr ⟨y, e2, rfl⟩)
                simpa using this
              have := k H4 (sA.trans s4)
              rw [Vm.common_some hne hall (by omega)] at this
              refine ⟨_, rfl, ?_⟩
              rw [List.length_map]
              exact this
end
end Tg
set_option Elab.async false
set_option linter.all false
set_option maxRecDepth 100000
set_option maxHeartbeats 4000000
namespace Tg
open PySem PySem.Spec PyProof.Rows L2
/-- pairs of rows, each pair a tuple -/
def PairsAt (H : Hp) : List Addr → List (List Int × List Int) → Prop
  | [], [] => True
  | b :: bs, y :: ys => (∃ a1 a2, H b = some (.tup [.ref a1, .ref a2]) ∧ H a1 = some (.tup (y.1.map V.int)) ∧ H a2 = some (.tup (y.2.map V.int))) ∧ PairsAt H bs ys
  | _, _ => False
theorem PairsAt.length {H : Hp} : ∀ {bs : List Addr} {ys : List (List Int × List Int)}, PairsAt H bs ys → bs.length = ys.length
  | [], [], _ => rfl
  | _ :: us, _ :: ss, h => by simp [PairsAt.length h.2]
  | [], _ :: _, h => h.elim
  | _ :: _, [], h => h.elim
theorem PairsAt.map {H H' : Hp} (k : ∀ u xs, H u = some (.tup xs) → H' u = some (.tup xs)) : ∀ {us : List Addr} {ss : List (List Int × List Int)}, PairsAt H us ss → PairsAt H' us ss
  | [], [], _ => trivial
  | _ :: us, _ :: ss, h => by
    obtain ⟨⟨a1, a2, h1, h2, h3⟩, h4⟩ := h
    exact ⟨⟨a1, a2, k _ _ h1, k _ _ h2, k _ _ h3⟩, PairsAt.map k h4⟩
  | [], _ :: _, h => h.elim
  | _ :: _, [], h => h.elim
theorem PairsAt.snoc {H : Hp} {u : Addr} {s : List Int × List Int} (h : ∃ a1 a2, H u = some (.tup [.ref a1, .ref a2]) ∧ H a1 = some (.tup (s.1.map V.int)) ∧ H a2 = some (.tup (s.2.map V.int))) : ∀ {us : List Addr} {ss : List (List Int × List Int)}, PairsAt H us ss → PairsAt H (us ++ [u]) (ss ++ [s])
  | [], [], _ => ⟨h, trivial⟩
  | _ :: us, _ :: ss, q => ⟨q.1, PairsAt.snoc h q.2⟩
  | [], _ :: _, q => q.elim
  | _ :: _, [], q => q.elim
theorem PairsAt.get {H : Hp} : ∀ {us : List Addr} {ss : List (List Int × List Int)} {i : Nat} {u : Addr}, PairsAt H us ss → us[i]? = some u → ∃ s, ss[i]? = some s ∧ ∃ a1 a2, H u = some (.tup [.ref a1, .ref a2]) ∧ H a1 = some (.tup (s.1.map V.int)) ∧ H a2 = some (.tup (s.2.map V.int))
  | [], [], i, u, _, h => by simp at h
  | a :: us, b :: ss, 0, u, q, h => by
    have e : a = u := by simpa using h
    subst e
    exact ⟨b, rfl, q.1⟩
  | a :: us, b :: ss, i + 1, u, q, h => by
    obtain ⟨s, h1, h2⟩ := PairsAt.get q.2 (i := i) (u := u) (by simpa using h)
    exact ⟨s, by simpa using h1, h2⟩
  | [], _ :: _, _, _, q, _ => q.elim
  | _ :: _, [], _, _, q, _ => q.elim
def spGoes (K : PySem.W.Frag) : Sp := fun vs H Q _ => ∃ (u l : Addr) (un : Vamete.Turn) (m : Nat) (bs : List Addr) (ps : List (List Int × List Int)), vs = [.ref u, .ref l] ∧ Vm.Valid m un ∧ m ≤ 4 ∧ H u = some (.tup ((Vm.held un).map V.int)) ∧ H l = some (.lst (bs.map V.ref)) ∧ PairsAt H bs ps ∧ (∀ p ∈ ps, p.1.length = m) ∧
  ∀ H', Same H H' → Q (.bl (ps.all fun p => decide (Vamete.turned un p.1 = p.2))) H'
def spPartner1 (K : PySem.W.Frag) : Sp := fun vs H Q _ => ∃ (t d : Addr) (tn : Vamete.Turn) (n h m : Nat) (pr : List VametBase.Step) (kvs : List (List Key × V)), vs = [.ref t, .ref d, .int (m : Int)] ∧ Vm.Valid n tn ∧ n ≤ 4 ∧ m ≤ 4 ∧ (Vamete.rowsOf n h).length ≤ 1000 ∧ H t = some (.tup ((Vm.held tn).map V.int)) ∧ H d = some (.dT kvs) ∧ OutsAt H pr kvs (Vamete.rowsOf n h) ∧
  (∀ x ∈ Vamete.rowsOf n h, ∃ y, VametBase.run pr x = some y ∧ y.length = m) ∧ ∀ H', Same H H' → Q (optV ((Vamete.allTurns m).findIdx? (Vamete.goesWith pr (Vamete.rowsOf n h) tn))) H'
section
variable {P : Program} {w : World} {K : PySem.W.Frag} {mg : Str → Option Value} {base : Heap}
theorem scGw : FnScope ["turn", "pairs", "outcome", "outcome_behind_turn"] ["turn", "pairs"] (defScope sGoes) := ⟨rfl, rfl, rfl, by decide +kernel, rfl, by decide +kernel, by decide +kernel⟩
theorem ok_goes {f fT : Addr} {fd fdT : FuncData} (F : Fun K "goes_with" "goes_with" sGoes f fd)
    (GT : FnOk P w K mg base CX0 1 fT fdT ["turn", "row"] (spTurned K)) (bT : Binds K fdT ["turn", "row"] []) (gT : mg "turned" = some (.ref fT)) (kT : PySem.W.keepIn K (.ref fT) = true) :
    FnOk P w K mg base CX0 2 f fd ["turn", "pairs"] (spGoes K) := by
  refine F.ok scGw (fun vs H Q E h => ?_) (fun cdv A outer s H vs Q E hr h => ⟨_, pss_cons (ps_for PassesOwn.never rfl (pi_list (pv 1)) (pg_tup rfl (pgs_cons (pg_name (i := 2) scGw.nd rfl (Or.inl rfl)) (pgs_cons (pg_name (i := 3) scGw.nd rfl (Or.inl rfl)) pgs_nil)))
      (pss_one (ps_if (pt_cmpR (op_neD hr.units) (pe_call GT hr rfl gT kT bT .nil pass0 (pa_cons (pv 0) (pa_cons (pv 2) pa_nil))) (pv 3) (nomark _)) (pss_one (ps_ret pe_bl)) pss_nil)))
    (pss_one (ps_ret pe_bl)), ?_⟩)
  · obtain ⟨u, l, un, m, bs, ps, rfl, _⟩ := h
    rfl
  · obtain ⟨u, l, un, m, bs, ps, rfl, hv, hm, hu, hl, hP, hpl, k⟩ := h
    refine ⟨_, rfl, l, rfl, ⟨_, SqL.of hl⟩, for_list (xs := bs.map V.ref) (fun i σ H' => ∃ (y2 y3 : Option V), σ = [some (.ref u), some (.ref l), y2, y3] ∧ Same H H' ∧ ∀ (j : Nat) (p : List Int × List Int), j < i → ps[j]? = some p → Vamete.turned un p.1 = p.2)
      ⟨none, none, rfl, Same.refl H, fun j p hj => by omega⟩ (fun i σ H' _ h => by obtain ⟨_, _, _, q, _⟩ := h; exact SqL.of (q _ _ hl)) ?_ ?_⟩
    · rintro i v σ H1 hv' ⟨y2, y3, rfl, s1, hb⟩
      obtain ⟨b, hb', rfl⟩ := vgetR hv'
      obtain ⟨p, hp, a1, a2, e1, e2, e3⟩ := hP.get hb'
      have hl1 := hpl p (List.mem_of_getElem? hp)
      refine ⟨b, _, rfl, SqT.of (s1 _ _ e1), rfl, _, _, rfl, _, _, rfl, rfl, ?_⟩
      refine ⟨_, rfl, _, rfl, u, a1, Vm.held un, p.1, rfl, SqT.of (s1 _ _ hu), SqT.of (s1 _ _ e2), by rw [hl1]; exact Vm.held_ok hv, by rw [Vm.held_length hv]; omega, fun H2 tr htr s2 h2 => ?_⟩
      rw [Vm.turnedL_row] at h2
      refine ⟨_, rfl, _, _, dp_row h2, dp_row ((s1.trans s2) _ _ e3), shaped_row _, shaped_row _, _, rfl, ?_⟩
      rw [eqv_row]
      refine if_2 (fun q => ?_) fun q => ?_
      · have hne : ¬ Vamete.turned un p.1 = p.2 := of_decide_eq_false (not_t q)
        have := k H2 (s1.trans s2)
        rw [show (ps.all fun p => decide (Vamete.turned un p.1 = p.2)) = false from List.all_eq_false.mpr ⟨p, List.mem_of_getElem? hp, by simpa using hne⟩] at this
        exact this
      · have heq : Vamete.turned un p.1 = p.2 := of_decide_eq_true (not_f q)
        refine ⟨_, _, rfl, s1.trans s2, fun j p' hj hp' => ?_⟩
        by_cases c : j = i
        · subst c
          rw [hp] at hp'
          cases hp'
          exact heq
        · exact hb j p' (by omega) hp'
    · rintro σ H1 ⟨y2, y3, rfl, s1, hb⟩
      have := k H1 s1
      rw [show (ps.all fun p => decide (Vamete.turned un p.1 = p.2)) = true from List.all_eq_true.mpr fun p hp => by
        obtain ⟨j, hj⟩ := List.mem_iff_getElem?.mp hp
        exact decide_eq_true (hb j p (by rw [List.length_map, hP.length]; exact (List.getElem?_eq_some_iff.mp hj).1) hj)] at this
      exact this
theorem scFp : FnScope ["turn", "outcomes", "places", "pairs", "number", "row"] ["turn", "outcomes", "places"] (defScope sPartner1) := ⟨rfl, rfl, rfl, by decide +kernel, rfl, by decide +kernel, by decide +kernel⟩
theorem ok_partner1 {f fT fC fO fG : Addr} {fd fdT fdC fdO fdG : FuncData} (F : Fun K "first_partner" "first_partner" sPartner1 f fd) (gRange : mg "range" = none)
    (GT : FnOk P w K mg base CX0 1 fT fdT ["turn", "row"] (spTurned K)) (bT : Binds K fdT ["turn", "row"] []) (gT : mg "turned" = some (.ref fT)) (kT : PySem.W.keepIn K (.ref fT) = true)
    (GC : FnOk P w K mg base CX0 1 fC fdC ["places"] spTurnCount) (bC : Binds K fdC ["places"] []) (gC : mg "turn_count" = some (.ref fC)) (kC : PySem.W.keepIn K (.ref fC) = true)
    (GO : FnOk P w K mg base CX0 2 fO fdO ["places", "number"] spTurnOf) (bO : Binds K fdO ["places", "number"] []) (gO : mg "turn_of" = some (.ref fO)) (kO : PySem.W.keepIn K (.ref fO) = true)
    (GG : FnOk P w K mg base CX0 2 fG fdG ["turn", "pairs"] (spGoes K)) (bG : Binds K fdG ["turn", "pairs"] []) (gG : mg "goes_with" = some (.ref fG)) (kG : PySem.W.keepIn K (.ref fG) = true) :
    FnOk P w K mg base CX0 3 f fd ["turn", "outcomes", "places"] (spPartner1 K) := by
  refine F.ok scFp (fun vs H Q E h => ?_) (fun cdv A outer s H vs Q E hr h => ⟨_, pss_cons (ps_lock (ps_setLc (i := 3) (own := [("row", 5)]) (g := gName 5) (tt := tYes) (by rfl) scFp.nd rfl rfl (sw_true rfl rfl rfl (by decide +kernel)) (pi_keys (pv 1))
        (blkOk_by (own := [("row", 5)]) (N := ["turn", "outcomes", "places", "pairs", "number", "row"]) (sc := defScope sPartner1) (by decide +kernel)) (fun _ _ _ _ _ => pg_name (i := 5) scFp.nd rfl (Or.inl rfl)) (fun _ _ _ _ _ => pts_nil)
        (fun _ _ _ _ _ => pe_tup (pa_cons (pe_dget (hu_of hr) (pv 1) (pv 5) (fun _ _ => rfl)) (pa_cons (pe_dget (hu_of hr) (pv 1) (pe_call GT (hr.mono (by decide)) rfl gT kT bT .nil pass0 (pa_cons (pv 0) (pa_cons (pv 5) pa_nil))) (fun _ _ => rfl)) pa_nil)))))
    (pss_cons (ps_for PassesOwn.never rfl (pi_range1 rfl gRange (pa_cons (pe_call GC (hr.mono (by decide)) rfl gC kC bC .nil pass0 (pa_cons (pv 2) pa_nil)) pa_nil)) (pg_name (i := 4) scFp.nd rfl (Or.inl rfl))
      (pss_one (ps_if (pt_val (pe_call GG hr rfl gG kG bG .nil pass0 (pa_cons (pe_call GO hr rfl gO kO bO .nil pass0 (pa_cons (pv 2) (pa_cons (pv 4) pa_nil))) (pa_cons (pv 3) pa_nil)))) (pss_one (ps_ret (pv 4))) pss_nil)))
    (pss_one (ps_ret pe_non))), ?_⟩)
  · obtain ⟨t, d, tn, n, h, m, pr, kvs, rfl, _⟩ := h
    rfl
  · obtain ⟨t, d, tn, n, h, m, pr, kvs, rfl, hv, hn, hm, hrl, ht, hd, ho, hall, k⟩ := h
    have htd : t ≠ d := fun e => by rw [e, hd] at ht; cases ht
    have hsome : ∀ x ∈ Vamete.rowsOf n h, (VametBase.run pr x).isSome = true := fun x hx => by
      obtain ⟨y, e, _⟩ := hall x hx
      rw [e]
      rfl
    refine ⟨d, _, hd, trivial, fun od => ?_⟩
    refine ⟨_, rfl, d, od, rfl, .inr ⟨kvs, upd_same, fun D hD => ?_⟩⟩
    have hDd : D ≠ d := fun e => by rw [e, upd_same] at hD; cases hD
    have hDn : H D = none := by rw [upd_ne hDd] at hD; exact hD
    refine lc_it (walk_keysT (d := d) (o := od) (kvs := kvs)) (fun i H' => ∃ bs : List Addr, (∀ b o, b ≠ d → H b = some o → H' b = some o) ∧ H' d = some (.frz od (.dT kvs)) ∧ H' D = some (.lst (bs.map V.ref)) ∧ PairsAt H' bs (Vm.pairsOf pr tn ((Vamete.rowsOf n h).take i)))
      ⟨[], fun b o nb e => by rw [upd_ne (ne_of_none e hDn), upd_ne nb]; exact e, by rw [upd_ne hDd.symm, upd_same], upd_same, trivial⟩ (fun i H' _ h => by obtain ⟨_, _, q, _⟩ := h; exact q) ?_ ?_
    · rintro i v H1 H2 hi ⟨bs, q1, d1, l1, r1⟩ ⟨rfl, kk, u0, qa, hkv, rfl, hqa⟩
      obtain ⟨x, hx, rfl⟩ := ho.key hkv
      rw [keyOf_kV] at hqa
      have hxm := List.mem_of_getElem? hx
      have hxn := ((Vm.mem_rowsOf n h x).mp hxm).1
      have hxi : i < (Vamete.rowsOf n h).length := (List.getElem?_eq_some_iff.mp hx).1
      have o1 : ∀ (v : V) (o : Option (List Int)) (H' : Hp), Same H2 H' → OutAt H v o → OutAt H' v o := fun v o H' s q => by
        rcases q with q | ⟨a, y, e1, e2, e3⟩
        · exact .inl q
        · exact .inr ⟨a, y, e1, e2, s _ _ (q1 _ _ (fun e => by rw [e, hd] at e3; cases e3) e3)⟩
      obtain ⟨v2, e2, ov2⟩ := ho.get hxm
      obtain ⟨v1, e1, ov1⟩ := ho.get (Vm.turned_rowsOf hv hxm)
      refine ⟨rfl, _, rfl, _, rfl, d, v2, rfl, .inr ⟨kvs, keyOf x, qa, .inr ⟨od, d1⟩, rfl, by rw [keyOf_kV]; exact hqa, e2.symm⟩, ?_⟩
      refine ⟨_, rfl, _, rfl, _, rfl, t, qa, Vm.held tn, x, rfl, SqT.of (q1 _ _ htd ht), SqT.of hqa, by rw [hxn]; exact Vm.held_ok hv, by rw [Vm.held_length hv]; omega, fun H3 tr htr s3 h3 => ?_⟩
      rw [Vm.turnedL_row] at h3
      refine ⟨d, v1, rfl, .inr ⟨kvs, keyOf (Vamete.turned tn x), tr, .inr ⟨od, s3 _ _ d1⟩, rfl, by rw [keyOf_kV]; exact h3, e1.symm⟩, ?_⟩
      refine ⟨by show 2 ≤ sizeLine; decide, fun pa hpa => ?_⟩
      have s4 : Same H3 (upd H3 pa (.tup [v2, v1])) := Same.new hpa
      have sA : Same H2 (upd H3 pa (.tup [v2, v1])) := s3.trans s4
      have ov2' := o1 _ _ _ sA ov2
      have ov1' := o1 _ _ _ sA ov1
      obtain ⟨y2, er2, _⟩ := hall x hxm
      obtain ⟨y1, er1, _⟩ := hall _ (Vm.turned_rowsOf hv hxm)
      rw [er2] at ov2'
      rw [er1] at ov1'
      rcases ov2' with ⟨_, z⟩ | ⟨a2, y2', ev2, z2, h2t⟩
      · cases z
      rcases ov1' with ⟨_, z⟩ | ⟨a1, y1', ev1, z1, h1t⟩
      · cases z
      cases z2
      cases z1
      subst ev2 ev1
      have l4 := sA _ _ l1
      have kt : ∀ u xs, (upd H3 pa (.tup [V.ref a2, V.ref a1])) u = some (.tup xs) → (upd (upd H3 pa (.tup [V.ref a2, V.ref a1])) D (.lst (bs.map V.ref ++ [V.ref pa]))) u = some (.tup xs) := fun u xs z => by
        rw [upd_ne (fun e => by rw [e, l4] at z; cases z)]
        exact z
      refine ⟨_, l4, ?_, bs ++ [pa], fun b o nb e => ?_, ?_, by rw [upd_same, List.map_append]; rfl, ?_⟩
      · rw [List.length_map, r1.length, Vm.pairsOf, List.length_map, List.length_take]
        exact small1000' (by omega)
      · rw [upd_ne (ne_of_none e hDn)]
        exact sA _ _ (q1 b o nb e)
      · rw [upd_ne hDd.symm]
        exact sA _ _ d1
      · unfold Vm.pairsOf
        rw [take_more hx, List.map_append]
        refine PairsAt.snoc ⟨a2, a1, kt _ _ upd_same, ?_, ?_⟩ ((r1.map fun u xs z => kt _ _ (sA _ _ z)))
        · dsimp only
          rw [er2]
          exact kt _ _ h2t
        · dsimp only
          rw [er1]
          exact kt _ _ h1t
    · rintro H1 ⟨bs, q1, d1, l1, r1⟩
      rw [ho.length, List.take_length] at r1
      refine ⟨d1, ?_⟩
      have sA : Same H (upd H1 d (.dT kvs)) := unlock hd q1
      have l2 : (upd H1 d (.dT kvs)) D = some (.lst (bs.map V.ref)) := by rw [upd_ne hDd]; exact l1
      have r2 : PairsAt (upd H1 d (.dT kvs)) bs (Vm.pairsOf pr tn (Vamete.rowsOf n h)) := r1.map fun u xs z => by
        rw [upd_ne (fun e => by rw [e, d1] at z; cases z)]
        exact z
      generalize (upd H1 d (.dT kvs)) = H3 at sA l2 r2
      have hgp : ∀ u, Vamete.goesWith pr (Vamete.rowsOf n h) tn u = (Vm.pairsOf pr tn (Vamete.rowsOf n h)).all fun p => decide (Vamete.turned u p.1 = p.2) := fun u => Vm.goes_pairs hsome fun x hx => hsome _ (Vm.turned_rowsOf hv hx)
      have eT : ((((Vamete.allTurns m).length : Nat) : Int)).toNat = (Vamete.allTurns m).length := by omega
      have hfew := Vm.few_turns hm
      refine ⟨_, rfl, m, rfl, hm, (((Vamete.allTurns m).length : Nat) : Int), rfl, by omega, by omega, for_range (lo := 0) (n := ((((Vamete.allTurns m).length : Nat) : Int)).toNat) (fun i σ H' => ∃ (y4 : Option V), σ = [some (.ref t), some (.ref d), some (.int (m : Int)), some (.ref D), y4, none] ∧ Same H3 H' ∧ ∀ (j : Nat) (u : Vamete.Turn), j < i → (Vamete.allTurns m)[j]? = some u → Vamete.goesWith pr (Vamete.rowsOf n h) tn u = false)
        ⟨none, rfl, Same.refl _, fun j u hj => by omega⟩ ?_ ?_⟩
      · rintro i σ H4 hi ⟨y4, rfl, s4, hb⟩
        rw [eT] at hi
        obtain ⟨un, hun⟩ : ∃ un, (Vamete.allTurns m)[i]? = some un := ⟨_, List.getElem?_eq_getElem hi⟩
        have vu : Vm.Valid m un := (Vm.mem_allTurns m un).mp (List.mem_of_getElem? hun)
        have et := (Vm.table_at hm hun).2.1
        refine ⟨_, rfl, _, rfl, m, 0 + (i : Int), rfl, hm, fun H5 ut hut s5 h5 => ?_⟩
        rw [Int.zero_add, et] at h5
        refine ⟨_, rfl, ut, D, un, m, bs, _, rfl, vu, hm, h5, (s4.trans s5) _ _ l2, r2.map (fun u xs z => (s4.trans s5) _ _ z), fun p hp => ?_, fun H6 s6 => ⟨_, rfl, ?_⟩⟩
        · obtain ⟨x, hx, rfl⟩ := List.mem_map.mp hp
          obtain ⟨y, e1, e2⟩ := hall x hx
          show ((VametBase.run pr x).getD []).length = m
          rw [e1]
          exact e2
        · rw [← hgp un]
          refine if_2 (fun q => ?_) fun q => ?_
          · refine ⟨_, rfl, ?_⟩
            have := k H6 (((sA.trans s4).trans s5).trans s6)
            have ef : (Vamete.allTurns m).findIdx? (Vamete.goesWith pr (Vamete.rowsOf n h) tn) = some i := by
              rw [List.findIdx?_eq_some_iff_getElem]
              refine ⟨hi, by rw [(List.getElem?_eq_some_iff.mp hun).2]; exact q, fun j hj => ?_⟩
              rw [hb j _ hj (List.getElem?_eq_getElem (by omega))]
              exact Bool.false_ne_true
            rw [ef] at this
            show Q (.int (0 + (i : Int))) H6
            rw [Int.zero_add]
            exact this
          · refine ⟨_, rfl, (s4.trans s5).trans s6, fun j u hj hu => ?_⟩
            by_cases c : j = i
            · subst c
              rw [hun] at hu
              cases hu
              exact q
            · exact hb j u (by omega) hu
      · rintro σ H4 ⟨y4, rfl, s4, hb⟩
        rw [eT] at hb
        have := k H4 (sA.trans s4)
        have ef : (Vamete.allTurns m).findIdx? (Vamete.goesWith pr (Vamete.rowsOf n h) tn) = none := by
          rw [List.findIdx?_eq_none_iff]
          intro u hu
          obtain ⟨j, hj⟩ := List.mem_iff_getElem?.mp hu
          exact hb j u (List.getElem?_eq_some_iff.mp hj).1 hj
        rw [ef] at this
        exact this
end
end Tg
set_option Elab.async false
set_option linter.all false
set_option maxRecDepth 100000
set_option maxHeartbeats 4000000
namespace Tg
open PySem PySem.Spec PyProof.Rows L2
abbrev sSizeRows : Stmt := top 91
abbrev sFirstOut : Stmt := top 92
abbrev sOrbits : Stmt := top 100
abbrev sAlike : Stmt := top 101
abbrev sGroup : Stmt := top 102
abbrev sPartner : Stmt := top 103
def spSizeRows (CS : Addr) : Sp := fun vs H Q _ => ∃ (s pl : Addr) (st : Vamete.State), vs = [.ref s] ∧ SetAt CS H s pl st ∧ ∀ (H' : Hp) (l : Addr) (bs : List Addr), H l = none → Same H H' → H' l = some (.lst (bs.map V.ref)) → RowsAt H' bs (Vamete.rowsOf st.places st.high) → Q (.ref l) H'
def spFirstOut (CS : Addr) : Sp := fun vs H Q _ => ∃ (s pl : Addr) (st : Vamete.State), vs = [.ref s] ∧ SetAt CS H s pl st ∧ ∀ (H' : Hp) (d : Addr) (kvs : List (List Key × V)), H d = none → Same H H' → H' d = some (.dT kvs) → OutsAt H' st.first kvs (Vamete.rowsOf st.places st.high) → Q (.ref d) H'
/-- the defs about rows and outcomes, as the calls use them -/
structure Lks (K : PySem.W.Frag) (P : Program) (w : World) (mg : Str → Option Value) (base : Heap) (CS : Addr) : Prop where
  turnCount : ∃ (f : Addr) (fd : FuncData), FnOk P w K mg base CX0 1 f fd ["places"] spTurnCount ∧ Binds K fd ["places"] [] ∧ mg "turn_count" = some (.ref f) ∧ PySem.W.keepIn K (.ref f) = true
  sizeRows : ∃ (f : Addr) (fd : FuncData), FnOk P w K mg base CX0 2 f fd ["setting"] (spSizeRows CS) ∧ Binds K fd ["setting"] [] ∧ mg "size_rows" = some (.ref f) ∧ PySem.W.keepIn K (.ref f) = true
  firstOut : ∃ (f : Addr) (fd : FuncData), FnOk P w K mg base CX0 4 f fd ["setting"] (spFirstOut CS) ∧ Binds K fd ["setting"] [] ∧ mg "first_outcomes" = some (.ref f) ∧ PySem.W.keepIn K (.ref f) = true
  orbitCount : ∃ (f : Addr) (fd : FuncData), FnOk P w K mg base CX0 3 f fd ["turns", "rows"] (spOrbitCount K) ∧ Binds K fd ["turns", "rows"] [] ∧ mg "orbit_count" = some (.ref f) ∧ PySem.W.keepIn K (.ref f) = true
  unlike : ∃ (f : Addr) (fd : FuncData), FnOk P w K mg base CX0 2 f fd ["turn", "outcomes"] (spUnlike K) ∧ Binds K fd ["turn", "outcomes"] [] ∧ mg "first_unlike" = some (.ref f) ∧ PySem.W.keepIn K (.ref f) = true
  common : ∃ (f : Addr) (fd : FuncData), FnOk P w K mg base CX0 1 f fd ["outcomes"] spCommon ∧ Binds K fd ["outcomes"] [] ∧ mg "common_length" = some (.ref f) ∧ PySem.W.keepIn K (.ref f) = true
  partner : ∃ (f : Addr) (fd : FuncData), FnOk P w K mg base CX0 3 f fd ["turn", "outcomes", "places"] (spPartner1 K) ∧ Binds K fd ["turn", "outcomes", "places"] [] ∧ mg "first_partner" = some (.ref f) ∧ PySem.W.keepIn K (.ref f) = true
section
variable {P : Program} {w : World} {K : PySem.W.Frag} {mg : Str → Option Value} {base : Heap} {CR CN CS : Addr}
theorem scSr : FnScope ["setting"] ["setting"] (defScope sSizeRows) := ⟨rfl, rfl, rfl, by decide +kernel, rfl, by decide +kernel, by decide +kernel⟩
theorem ok_sizeRows {f fR : Addr} {fd fdR : FuncData} (F : Fun K "size_rows" "size_rows" sSizeRows f fd) (TS : TxS K mg CS)
    (GR : FnOk P w K mg base CX0 1 fR fdR ["places", "height"] spRowsOf) (bR : Binds K fdR ["places", "height"] []) (gR : mg "rows_of_size" = some (.ref fR)) (kR : PySem.W.keepIn K (.ref fR) = true) : FnOk P w K mg base CX0 2 f fd ["setting"] (spSizeRows CS) := by
  refine F.ok scSr (fun vs H Q E h => ?_) (fun cdv A outer s H vs Q E hr h => ⟨_, pss_one (ps_ret (pe_call GR hr rfl gR kR bR .nil pass0 (pa_cons (pe_fld (pv 0) rfl) (pa_cons (pe_fld (pv 0) rfl) pa_nil)))), ?_⟩)
  · obtain ⟨s, pl, st, rfl, _⟩ := h
    rfl
  · obtain ⟨s, pl, st, rfl, hS, k⟩ := h
    obtain ⟨ds, es⟩ := hS.ins
    exact ⟨_, rfl, s, CS, ds, _, _, rfl, es, TS.cl, TS.nN, sF_pl _ _ _, _, rfl, s, CS, ds, _, _, rfl, es, TS.cl, TS.nH, sF_hg _ _ _, st.places, st.high, rfl, hS.n4, hS.h9, hS.few, k⟩
theorem scFo : FnScope ["setting"] ["setting"] (defScope sFirstOut) := ⟨rfl, rfl, rfl, by decide +kernel, rfl, by decide +kernel, by decide +kernel⟩
theorem ok_firstOut {f fR fO : Addr} {fd fdR fdO : FuncData} (F : Fun K "first_outcomes" "first_outcomes" sFirstOut f fd) (TS : TxS K mg CS)
    (GR : FnOk P w K mg base CX0 2 fR fdR ["setting"] (spSizeRows CS)) (bR : Binds K fdR ["setting"] []) (gR : mg "size_rows" = some (.ref fR)) (kR : PySem.W.keepIn K (.ref fR) = true)
    (GO : FnOk P w K mg base CX0 3 fO fdO ["program", "rows"] (spOutcomesAt K)) (bO : Binds K fdO ["program", "rows"] []) (gO : mg "outcomes_at" = some (.ref fO)) (kO : PySem.W.keepIn K (.ref fO) = true) : FnOk P w K mg base CX0 4 f fd ["setting"] (spFirstOut CS) := by
  refine F.ok scFo (fun vs H Q E h => ?_) (fun cdv A outer s H vs Q E hr h => ⟨_, pss_one (ps_ret (pe_call GO hr rfl gO kO bO .nil pass0 (pa_cons (pe_ix ix_list (pe_fld (pv 0) rfl) pe_int (fun _ _ => rfl)) (pa_cons (pe_call GR (hr.mono (by decide)) rfl gR kR bR .nil pass0 (pa_cons (pv 0) pa_nil)) pa_nil)))), ?_⟩)
  · obtain ⟨s, pl, st, rfl, _⟩ := h
    rfl
  · obtain ⟨s, pl, st, rfl, hS, k⟩ := h
    obtain ⟨ds, es⟩ := hS.ins
    obtain ⟨p0, p1, ep, P0, P1⟩ := id hS.prs
    refine ⟨_, rfl, s, CS, ds, _, _, rfl, es, TS.cl, TS.nP, sF_pr _ _ _, pl, _, _, .ref p0, rfl, rfl, SqL.of ep, atI_nat (j := 0) rfl, ?_⟩
    refine ⟨_, rfl, s, pl, st, rfl, hS, fun H1 l bs hl s1 h1 r1 => ?_⟩
    refine ⟨p0, l, st.first, bs, _, rfl, (P0.mono (by decide)).same s1, SqL.of h1, r1, Vm.rowsOf_nodup _ _, fun x hx => Vm.rowsOf_within hS.n4 hS.h9 hx, ?_, fun H2 d kvs hd s2 h2 o2 => k H2 d kvs (s1.free hd) (s1.trans s2) h2 o2⟩
    rw [Vm.rowsOf_length]
    exact Nat.le_trans hS.few (by decide)
theorem scOs : FnScope ["setting", "reader", "numbers"] ["setting", "reader"] (defScope sOrbits) := ⟨rfl, rfl, rfl, by decide +kernel, rfl, by decide +kernel, by decide +kernel⟩
theorem ok_orbits {f : Addr} {fd : FuncData} (F : Fun K "answer_orbits" "answer_orbits" sOrbits f fd) (M : MkR K P w mg base CR CN) (TS : TxS K mg CS) (N : Tns K P w mg base CS) (L : Lks K P w mg base CS) : FnOk P w K mg base CX0 8 f fd ["setting", "reader"] (spAns K CR CS 7) := by
  have T := M.T
  obtain ⟨fC, fdC, GC, bC, mC⟩ := M.counted
  obtain ⟨fA, fdA, GA, bA, gA, kA⟩ := N.areTurns
  obtain ⟨fO, fdO, GO, bO, gO, kO⟩ := N.turnsOf
  obtain ⟨fN, fdN, GN, bN, gN, kN⟩ := L.orbitCount
  obtain ⟨fR, fdR, GR, bR, gR, kR⟩ := L.sizeRows
  refine F.ok scOs (fun vs H Q E h => ?_) (fun cdv A outer s H vs Q E hr h => ⟨_, pss_cons (ps_set (i := 2) scOs.nd rfl (Or.inl rfl) (pe_meth0 (pv 1) T.cl mC GC (hr.mono (by decide)) bC .nil pass0))
    (pss_cons (ps_if (pt_not (pt_val (pe_call GA (hr.mono (by decide)) rfl gA kA bA .nil pass0 (pa_cons (pv 0) (pa_cons (pv 2) pa_nil))))) (pss_one (ps_ret (pe_lst (pa_cons (pe_un un_neg pe_int) pa_nil)))) pss_nil)
    (pss_one (ps_ret (pe_lst (pa_cons (pe_call GN (hr.mono (by decide)) rfl gN kN bN .nil pass0 (pa_cons (pe_call GO (hr.mono (by decide)) rfl gO kO bO .nil pass0 (pa_cons (pv 0) (pa_cons (pv 2) pa_nil)))
      (pa_cons (pe_call GR (hr.mono (by decide)) rfl gR kR bR .nil pass0 (pa_cons (pv 0) pa_nil)) pa_nil))) pa_nil))))), ?_⟩)
  · obtain ⟨s, pl, a, l, st, ns, p, c, rest, rfl, _⟩ := h
    rfl
  · obtain ⟨s, pl, a, l, st, ns, p, c, rest, rfl, hS, R, hl, hc, k⟩ := h
    obtain ⟨ks, hd, rfl⟩ := Vm.call01 rfl hc
    obtain ⟨hx, hd1, hp1⟩ := Vm.drop_cons hd
    obtain ⟨ht2, hd2, hp2⟩ := Vm.drop_app hd1 hp1
    have ew : VameteNeutral.step st (PyVamete.whole [[7], ks]) = Vamete.onTurns st ks (fun g => [VametBase.int (Vamete.orbitCount st.places g (Vamete.rows st))]) := Vm.step_some (k := .orbits ks) rfl
    rw [ew] at k
    obtain ⟨nsa, npa, nps⟩ := set_ne hS R
    obtain ⟨dx, e⟩ := id R.at_
    have hn4 := hS.n4
    refine ⟨_, rfl, a, dx, _, rfl, e, rF_counted l _, a, l, ns, p, ks.length, rfl, R, hx, hp2, hl, fun H1 n1 hn1 R1 c1 h1 => ?_⟩
    rw [ht2] at h1
    have S1 : SetAt CS H1 s pl st := hS.chg c1 nsa R.insE
    have hkl : ks.length ≤ 2000 := by omega
    refine ⟨_, rfl, _, rfl, s, pl, n1, st, ks, rfl, S1, SqL.of h1, hkl, fun H2 s2 => ⟨_, rfl, ?_⟩⟩
    have S2 := S1.same s2
    have R2 := R1.same s2
    refine if_2 (fun q => ?_) fun q => ?_
    · rw [Vm.onTurns_none (not_all (not_t q))] at k
      exact ⟨_, rfl, by show 1 ≤ sizeLine; decide, fun r hr => ends k S2 R2 hd2 ((chg3 c1).trans (Chg.of s2)) r hr⟩
    · have hks := all_isT (not_f q)
      obtain ⟨gs, e1, hv, eh, hgl⟩ := Vm.onTurns_some hn4 (f := fun g => [VametBase.int (Vamete.orbitCount st.places g (Vamete.rows st))]) hks
      rw [e1] at k
      refine ⟨_, rfl, _, rfl, s, pl, n1, st, ks, rfl, S2, SqL.of (s2 _ _ h1), hkl, fun H3 tl ts htl s3 h3 r3 => ?_⟩
      rw [eh] at r3
      have S3 := S2.same s3
      refine ⟨_, rfl, s, pl, st, rfl, S3, fun H4 rl bs hrl s4 h4 r4 => ?_⟩
      refine ⟨tl, rl, ts, bs, gs, st.places, st.high, rfl, SqL.of (s4 _ _ h3), r3.same s4, hv, by rw [r3.length, List.length_map]; omega, hn4, hS.h9, hS.few, SqL.of h4, r4, fun H5 s5 => ⟨by show 1 ≤ sizeLine; decide, fun r hr => ?_⟩⟩
      have sA : Same H2 H5 := (s3.trans s4).trans s5
      exact ends k (S2.same sA) (R2.same sA) hd2 (((chg3 c1).trans (Chg.of s2)).trans (Chg.of sA)) r hr
theorem scAl : FnScope ["setting", "reader", "number", "unlike"] ["setting", "reader"] (defScope sAlike) := ⟨rfl, rfl, rfl, by decide +kernel, rfl, by decide +kernel, by decide +kernel⟩
theorem ok_alike {f : Addr} {fd : FuncData} (F : Fun K "answer_alike" "answer_alike" sAlike f fd) (M : MkR K P w mg base CR CN) (TS : TxS K mg CS) (N : Tns K P w mg base CS) (L : Lks K P w mg base CS) : FnOk P w K mg base CX0 8 f fd ["setting", "reader"] (spAns K CR CS 8) := by
  have T := M.T
  obtain ⟨fT, fdT, GT, bT, mT⟩ := M.taken
  obtain ⟨fI, fdI, GI, bI, gI, kI⟩ := N.isTurn
  obtain ⟨fO, fdO, GO, bO, gO, kO⟩ := N.turnOf
  obtain ⟨fU, fdU, GU, bU, gU, kU⟩ := L.unlike
  obtain ⟨fF, fdF, GF, bF, gF, kF⟩ := L.firstOut
  refine F.ok scAl (fun vs H Q E h => ?_) (fun cdv A outer s H vs Q E hr h => ⟨_, pss_cons (ps_set (i := 2) scAl.nd rfl (Or.inl rfl) (pe_meth0 (pv 1) T.cl mT GT (hr.mono (by decide)) bT .nil passL))
    (pss_cons (ps_if (pt_not (pt_val (pe_call GI (hr.mono (by decide)) rfl gI kI bI .nil pass0 (pa_cons (pe_fld (pv 0) rfl) (pa_cons (pv 2) pa_nil))))) (pss_one (ps_ret (pe_lst (pa_cons (pe_un un_neg pe_int) pa_nil)))) pss_nil)
    (pss_cons (ps_set (i := 3) scAl.nd rfl (Or.inl rfl) (pe_call GU (hr.mono (by decide)) rfl gU kU bU .nil pass0 (pa_cons (pe_call GO (hr.mono (by decide)) rfl gO kO bO .nil pass0 (pa_cons (pe_fld (pv 0) rfl) (pa_cons (pv 2) pa_nil)))
      (pa_cons (pe_call GF (hr.mono (by decide)) rfl gF kF bF .nil pass0 (pa_cons (pv 0) pa_nil)) pa_nil))))
    (pss_one (ps_ret (pe_ifExp (pt_cmpR op_isN (pv 3) pe_non (nomark _)) (pe_lst (pa_cons pe_int pa_nil)) (pe_lst (pa_cons pe_int (pa_cons (pv 3) pa_nil)))))))), ?_⟩)
  · obtain ⟨s, pl, a, l, st, ns, p, c, rest, rfl, _⟩ := h
    rfl
  · obtain ⟨s, pl, a, l, st, ns, p, c, rest, rfl, hS, R, hl, hc, k⟩ := h
    obtain ⟨x, hd, rfl⟩ := Vm.call10 rfl hc
    obtain ⟨hx, hd1, _⟩ := Vm.drop_cons hd
    have ew : VameteNeutral.step st (PyVamete.whole [[8, x]]) = Vamete.onTurn st x (fun t => match Vamete.unlikeAt st.first (Vamete.rows st) t with
      | none => [1]
      | some i => [0, VametBase.int i]) := Vm.step_some (k := .alike x) rfl
    rw [ew] at k
    obtain ⟨nsa, npa, nps⟩ := set_ne hS R
    obtain ⟨dx, e⟩ := id R.at_
    have hn4 := hS.n4
    refine ⟨_, rfl, a, dx, _, rfl, e, rF_taken l p, a, l, ns, p, rfl, R, fun v hv H1 R1 c1 => ?_, fun hz => absurd (hx.symm.trans hz) (by simp)⟩
    rw [hx] at hv
    cases hv
    have S1 : SetAt CS H1 s pl st := hS.chg c1 nsa R.insE
    obtain ⟨ds, es⟩ := S1.ins
    refine ⟨_, rfl, s, CS, ds, _, _, rfl, es, TS.cl, TS.nN, sF_pl _ _ _, _, rfl, st.places, x, rfl, hn4, _, rfl, ?_⟩
    refine if_2 (fun q => ?_) fun q => ?_
    · rw [Vm.onTurn_none (isT_false (not_t q))] at k
      exact ⟨_, rfl, by show 1 ≤ sizeLine; decide, fun r hr => ends k S1 R1 hd1 (chg3 c1) r hr⟩
    · obtain ⟨t, ht⟩ := isT_true (not_f q)
      obtain ⟨et, vt⟩ := Vm.turnL_of hn4 ht
      rw [Vm.onTurn_some ht] at k
      refine ⟨_, rfl, s, CS, ds, _, _, rfl, es, TS.cl, TS.nN, sF_pl _ _ _, _, rfl, st.places, x, rfl, hn4, fun H2 u hu s2 h2 => ?_⟩
      rw [et] at h2
      refine ⟨_, rfl, s, pl, st, rfl, S1.same s2, fun H3 d kvs hd3 s3 h3 o3 => ?_⟩
      refine ⟨u, d, t, st.places, st.high, st.first, kvs, rfl, vt, hn4, s3 _ _ h2, h3, o3, fun H4 s4 => ?_⟩
      have sA : Same H1 H4 := (s2.trans s3).trans s4
      have k' : ∀ ans, (match Vamete.unlikeAt st.first (Vamete.rowsOf st.places st.high) t with
        | none => [1]
        | some i => [0, VametBase.int i]) = ans → ∀ r, H4 r = none → Q (.ref r) (upd H4 r (.lst (ans.map V.int))) := fun ans ea r hr => by
        subst ea
        exact ends k (S1.same sA) (R1.same sA) hd1 ((chg3 c1).trans (Chg.of sA)) r hr
      cases eu : Vamete.unlikeAt st.first (Vamete.rowsOf st.places st.high) t with
      | none =>
        rw [eu] at k'
        refine ⟨_, rfl, rfl, _, rfl, ?_⟩
        exact if_t rfl ⟨by show 1 ≤ sizeLine; decide, fun r hr => k' [1] rfl r hr⟩
      | some i =>
        rw [eu] at k'
        refine ⟨_, rfl, rfl, _, rfl, ?_⟩
        exact if_f rfl ⟨_, rfl, by show 2 ≤ sizeLine; decide, fun r hr => k' [0, (i : Int)] rfl r hr⟩
end
end Tg
set_option Elab.async false
set_option linter.all false
set_option maxRecDepth 100000
set_option maxHeartbeats 4000000
namespace Vm
open Vamete VametBase
/-- the turns' numbers below i that leave the outcomes alike -/
def alikeTo (f : Program) (n h i : Nat) : List Nat := (List.range i).filter fun j => match (allTurns n)[j]? with
  | some t => (unlikeAt f (rowsOf n h) t).isNone
  | none => false
theorem alikeTo_succ {f : Program} {n h i : Nat} {t : Turn} (ht : (allTurns n)[i]? = some t) : alikeTo f n h (i + 1) = alikeTo f n h i ++ (if (unlikeAt f (rowsOf n h) t).isNone then [i] else []) := by
  unfold alikeTo
  rw [List.range_succ, List.filter_append]
  congr 1
  rw [List.filter_cons, ht]
  rfl
theorem alikeTo_len {f : Program} {n h i : Nat} : (alikeTo f n h i).length ≤ i := by
  unfold alikeTo
  have := List.length_filter_le (fun j => match (allTurns n)[j]? with
    | some t => (unlikeAt f (rowsOf n h) t).isNone
    | none => false) (List.range i)
  rw [List.length_range] at this
  exact this
theorem alikeTo_all (s : State) : ((alikeTo s.first s.places s.high (allTurns s.places).length).length : Int) :: (alikeTo s.first s.places s.high (allTurns s.places).length).map (fun (i : Nat) => (i : Int)) = numbersTold s (groupOf s.first s.places (rows s)) := by
  refine group_answer ?_ fun i => ?_
  · exact List.Pairwise.filter _ List.pairwise_lt_range
  · unfold alikeTo
    rw [List.mem_filter, List.mem_range]
    constructor
    · rintro ⟨h1, h2⟩
      rw [List.getElem?_eq_getElem h1] at h2
      exact ⟨_, List.getElem?_eq_getElem h1, Option.isNone_iff_eq_none.mp h2⟩
    · rintro ⟨t, h1, h2⟩
      refine ⟨(List.getElem?_eq_some_iff.mp h1).1, ?_⟩
      rw [h1]
      show (unlikeAt s.first (rowsOf s.places s.high) t).isNone = true
      rw [show unlikeAt s.first (rowsOf s.places s.high) t = none from h2]
      rfl
end Vm
namespace Tg
open PySem PySem.Spec PyProof.Rows L2
section
variable {P : Program} {w : World} {K : PySem.W.Frag} {mg : Str → Option Value} {base : Heap} {CR CN CS : Addr}
theorem scGr : FnScope ["setting", "reader", "outcomes", "group", "number"] ["setting", "reader"] (defScope sGroup) := ⟨rfl, rfl, rfl, by decide +kernel, rfl, by decide +kernel, by decide +kernel⟩
theorem ok_group {f : Addr} {fd : FuncData} (F : Fun K "answer_group" "answer_group" sGroup f fd) (M : MkR K P w mg base CR CN) (TS : TxS K mg CS) (N : Tns K P w mg base CS) (L : Lks K P w mg base CS) : FnOk P w K mg base CX0 8 f fd ["setting", "reader"] (spAns K CR CS 9) := by
  have T := M.T
  obtain ⟨fC, fdC, GC, bC, gC, kC⟩ := L.turnCount
  obtain ⟨fO, fdO, GO, bO, gO, kO⟩ := N.turnOf
  obtain ⟨fU, fdU, GU, bU, gU, kU⟩ := L.unlike
  obtain ⟨fF, fdF, GF, bF, gF, kF⟩ := L.firstOut
  refine F.ok scGr (fun vs H Q E h => ?_) (fun cdv A outer s H vs Q E hr h => ⟨_, pss_cons (ps_set (i := 2) scGr.nd rfl (Or.inl rfl) (pe_call GF (hr.mono (by decide)) rfl gF kF bF .nil pass0 (pa_cons (pv 0) pa_nil)))
    (pss_cons (ps_set (i := 3) scGr.nd rfl (Or.inl rfl) (pe_lst pa_nil))
    (pss_cons (ps_for PassesOwn.never rfl (pi_range1 rfl T.range (pa_cons (pe_call GC (hr.mono (by decide)) rfl gC kC bC .nil pass0 (pa_cons (pe_fld (pv 0) rfl) pa_nil)) pa_nil)) (pg_name (i := 4) scGr.nd rfl (Or.inl rfl))
      (pss_one (ps_if (pt_cmpR op_isN (pe_call GU (hr.mono (by decide)) rfl gU kU bU .nil pass0 (pa_cons (pe_call GO (hr.mono (by decide)) rfl gO kO bO .nil pass0 (pa_cons (pe_fld (pv 0) rfl) (pa_cons (pv 4) pa_nil))) (pa_cons (pv 2) pa_nil))) pe_non (nomark _))
        (pss_one (ps_expr (pe_bm PySem.F.plainAttrs_list PySem.F.slot_list_append PySem.F.type_list_append mt_append (pv 3) (pa_cons (pv 4) pa_nil)))) pss_nil)))
    (pss_one (ps_ret (pe_op op_cat (pe_lst (pa_cons (pe_callB call_len_seq (by rfl) T.len PySem.boot_len (pa_cons (pv 3) pa_nil)) pa_nil)) (pv 3)))))), ?_⟩)
  · obtain ⟨s, pl, a, l, st, ns, p, c, rest, rfl, _⟩ := h
    rfl
  · obtain ⟨s, pl, a, l, st, ns, p, c, rest, rfl, hS, R, hl, hc, k⟩ := h
    obtain ⟨hd, rfl⟩ := Vm.call00 rfl hc
    have ew : VameteNeutral.step st (PyVamete.whole [[9]]) = (st, Vamete.numbersTold st (Vamete.groupOf st.first st.places (Vamete.rows st))) := Vm.step_some (k := .group) rfl
    rw [ew] at k
    have hn4 := hS.n4
    have hfew := Vm.few_turns hn4
    refine ⟨_, rfl, s, pl, st, rfl, hS, fun H1 d kvs hd1 s1 h1 o1 => ?_⟩
    refine ⟨Nat.zero_le _, fun G hG => ?_⟩
    have S1 := hS.same s1
    have R1 := R.same s1
    have s2 : Same H1 (upd H1 G (.lst [])) := Same.new hG
    have hGn : H G = none := s1.free hG
    obtain ⟨ds, es⟩ := S1.ins
    have eT : ((((Vamete.allTurns st.places).length : Nat) : Int)).toNat = (Vamete.allTurns st.places).length := by omega
    refine ⟨_, rfl, s, CS, ds, _, _, rfl, s2 _ _ es, TS.cl, TS.nN, sF_pl _ _ _, st.places, rfl, hn4, (((Vamete.allTurns st.places).length : Nat) : Int), rfl, by omega, by omega,
      for_range (lo := 0) (n := ((((Vamete.allTurns st.places).length : Nat) : Int)).toNat) (fun i σ H' => ∃ (y4 : Option V), σ = [some (.ref s), some (.ref a), some (.ref d), some (.ref G), y4] ∧ Same H1 H' ∧ H' G = some (.lst (((Vm.alikeTo st.first st.places st.high i).map (fun (j : Nat) => (j : Int))).map V.int)))
        ⟨none, rfl, s2, upd_same⟩ ?_ ?_⟩
    · rintro i σ H2 hi ⟨y4, rfl, s3, g3⟩
      rw [eT] at hi
      obtain ⟨un, hun⟩ : ∃ un, (Vamete.allTurns st.places)[i]? = some un := ⟨_, List.getElem?_eq_getElem hi⟩
      have vu : Vm.Valid st.places un := (Vm.mem_allTurns st.places un).mp (List.mem_of_getElem? hun)
      have et := (Vm.table_at hn4 hun).2.1
      refine ⟨_, rfl, s, CS, ds, _, _, rfl, s3 _ _ es, TS.cl, TS.nN, sF_pl _ _ _, _, rfl, st.places, 0 + (i : Int), rfl, hn4, fun H3 ut hut s4 h4 => ?_⟩
      rw [Int.zero_add, et] at h4
      have sA : Same H1 H3 := s3.trans s4
      refine ⟨_, rfl, ut, d, un, st.places, st.high, st.first, kvs, rfl, vu, hn4, h4, sA _ _ h1, o1.same sA, fun H4 s5 => ?_⟩
      have sB : Same H1 H4 := sA.trans s5
      have g5 := s5 _ _ (s4 _ _ g3)
      refine ⟨rfl, _, rfl, ?_⟩
      cases eu : Vamete.unlikeAt st.first (Vamete.rowsOf st.places st.high) un with
      | none =>
        refine if_t rfl ?_
        refine ⟨_, rfl, .inl ⟨rfl, _, SqL.of g5⟩, _, rfl, G, _, _, rfl, rfl, g5, ?_, ?_⟩
        · rw [List.length_map, List.length_map]
          have := Vm.alikeTo_len (f := st.first) (n := st.places) (h := st.high) (i := i)
          exact small1000' (by omega)
        · refine ⟨_, rfl, Same.at_new sB hG, ?_⟩
          rw [upd_same, Vm.alikeTo_succ hun, eu, Int.zero_add, List.map_append, List.map_append]
          rfl
      | some j =>
        refine if_f rfl ?_
        refine ⟨_, rfl, sB, ?_⟩
        rw [g5, Vm.alikeTo_succ hun, eu]
        simp
    · rintro σ H2 ⟨y4, rfl, s3, g3⟩
      rw [eT] at g3
      refine ⟨_, rfl, G, _, rfl, .inl (SqL.of g3), by show 1 ≤ sizeLine; decide, fun L0 hL0 => ?_⟩
      have s4 : Same H2 (upd H2 L0 (.lst [.int ((((Vm.alikeTo st.first st.places st.high (Vamete.allTurns st.places).length).map (fun (j : Nat) => (j : Int))).map V.int).length : Nat)])) := Same.new hL0
      refine ⟨_, rfl, L0, G, _, _, rfl, rfl, upd_same, s4 _ _ g3, ?_, fun r hr => ?_⟩
      · rw [List.length_map, List.length_map]
        have := Vm.alikeTo_len (f := st.first) (n := st.places) (h := st.high) (i := (Vamete.allTurns st.places).length)
        exact small_le (by show 1 + _ ≤ 100000; omega)
      · have ea : [V.int ((((Vm.alikeTo st.first st.places st.high (Vamete.allTurns st.places).length).map (fun (j : Nat) => (j : Int))).map V.int).length : Nat)] ++ ((Vm.alikeTo st.first st.places st.high (Vamete.allTurns st.places).length).map (fun (j : Nat) => (j : Int))).map V.int = (Vamete.numbersTold st (Vamete.groupOf st.first st.places (Vamete.rows st))).map V.int := by
          rw [← Vm.alikeTo_all st, List.length_map, List.length_map]
          rfl
        rw [ea]
        have sC : Same H (upd H2 L0 (.lst [.int ((((Vm.alikeTo st.first st.places st.high (Vamete.allTurns st.places).length).map (fun (j : Nat) => (j : Int))).map V.int).length : Nat)])) := (s1.trans s3).trans s4
        exact ends k (hS.same sC) (R.same sC) hd (Chg.of sC) r hr
theorem scPa : FnScope ["setting", "reader", "number", "outcomes", "length", "partner"] ["setting", "reader"] (defScope sPartner) := ⟨rfl, rfl, rfl, by decide +kernel, rfl, by decide +kernel, by decide +kernel⟩
theorem ok_partner {f : Addr} {fd : FuncData} (F : Fun K "answer_partner" "answer_partner" sPartner f fd) (M : MkR K P w mg base CR CN) (TS : TxS K mg CS) (N : Tns K P w mg base CS) (L : Lks K P w mg base CS) : FnOk P w K mg base CX0 8 f fd ["setting", "reader"] (spAns K CR CS 10) := by
  have T := M.T
  obtain ⟨fT, fdT, GT, bT, mT⟩ := M.taken
  obtain ⟨fI, fdI, GI, bI, gI, kI⟩ := N.isTurn
  obtain ⟨fO, fdO, GO, bO, gO, kO⟩ := N.turnOf
  obtain ⟨fU, fdU, GU, bU, gU, kU⟩ := L.common
  obtain ⟨fX, fdX, GX, bX, gX, kX⟩ := L.partner
  obtain ⟨fF, fdF, GF, bF, gF, kF⟩ := L.firstOut
  refine F.ok scPa (fun vs H Q E h => ?_) (fun cdv A outer s H vs Q E hr h => ⟨_, pss_cons (ps_set (i := 2) scPa.nd rfl (Or.inl rfl) (pe_meth0 (pv 1) T.cl mT GT (hr.mono (by decide)) bT .nil passL))
    (pss_cons (ps_if (pt_not (pt_val (pe_call GI (hr.mono (by decide)) rfl gI kI bI .nil pass0 (pa_cons (pe_fld (pv 0) rfl) (pa_cons (pv 2) pa_nil))))) (pss_one (ps_ret (pe_lst (pa_cons (pe_un un_neg pe_int) pa_nil)))) pss_nil)
    (pss_cons (ps_set (i := 3) scPa.nd rfl (Or.inl rfl) (pe_call GF (hr.mono (by decide)) rfl gF kF bF .nil pass0 (pa_cons (pv 0) pa_nil)))
    (pss_cons (ps_set (i := 4) scPa.nd rfl (Or.inl rfl) (pe_call GU (hr.mono (by decide)) rfl gU kU bU .nil pass0 (pa_cons (pv 3) pa_nil)))
    (pss_cons (ps_if (pt_cmpR op_isN (pv 4) pe_non (nomark _)) (pss_one (ps_ret (pe_lst (pa_cons pe_int pa_nil)))) pss_nil)
    (pss_cons (ps_set (i := 5) scPa.nd rfl (Or.inl rfl) (pe_call GX (hr.mono (by decide)) rfl gX kX bX .nil pass0 (pa_cons (pe_call GO (hr.mono (by decide)) rfl gO kO bO .nil pass0 (pa_cons (pe_fld (pv 0) rfl) (pa_cons (pv 2) pa_nil))) (pa_cons (pv 3) (pa_cons (pv 4) pa_nil)))))
    (pss_one (ps_ret (pe_ifExp (pt_cmpR op_isN (pv 5) pe_non (nomark _)) (pe_lst (pa_cons pe_int pa_nil)) (pe_lst (pa_cons pe_int (pa_cons (pv 4) (pa_cons (pv 5) pa_nil)))))))))))), ?_⟩)
  · obtain ⟨s, pl, a, l, st, ns, p, c, rest, rfl, _⟩ := h
    rfl
  · obtain ⟨s, pl, a, l, st, ns, p, c, rest, rfl, hS, R, hl, hc, k⟩ := h
    obtain ⟨x, hd, rfl⟩ := Vm.call10 rfl hc
    obtain ⟨hx, hd1, _⟩ := Vm.drop_cons hd
    have ew : VameteNeutral.step st (PyVamete.whole [[10, x]]) = Vamete.onTurn st x (fun t => match Vamete.partner st.first (Vamete.rows st) t with
      | none => [0]
      | some u => [1, VametBase.int u.1, VametBase.int (Vamete.numberOf u.1 u.2)]) := Vm.step_some (k := .partner x) rfl
    rw [ew] at k
    obtain ⟨nsa, npa, nps⟩ := set_ne hS R
    obtain ⟨dx, e⟩ := id R.at_
    have hn4 := hS.n4
    refine ⟨_, rfl, a, dx, _, rfl, e, rF_taken l p, a, l, ns, p, rfl, R, fun v hv H1 R1 c1 => ?_, fun hz => absurd (hx.symm.trans hz) (by simp)⟩
    rw [hx] at hv
    cases hv
    have S1 : SetAt CS H1 s pl st := hS.chg c1 nsa R.insE
    obtain ⟨ds, es⟩ := S1.ins
    refine ⟨_, rfl, s, CS, ds, _, _, rfl, es, TS.cl, TS.nN, sF_pl _ _ _, _, rfl, st.places, x, rfl, hn4, _, rfl, ?_⟩
    refine if_2 (fun q => ?_) fun q => ?_
    · rw [Vm.onTurn_none (isT_false (not_t q))] at k
      exact ⟨_, rfl, by show 1 ≤ sizeLine; decide, fun r hr => ends k S1 R1 hd1 (chg3 c1) r hr⟩
    · obtain ⟨t, ht⟩ := isT_true (not_f q)
      obtain ⟨et, vt⟩ := Vm.turnL_of hn4 ht
      rw [Vm.onTurn_some ht] at k
      have hrl : (Vamete.rowsOf st.places st.high).length ≤ 1000 := by
        rw [Vm.rowsOf_length]
        exact Nat.le_trans hS.few (by decide)
      have k' : ∀ (H4 : Hp) (ans : List Int), Same H1 H4 → (match Vamete.partner st.first (Vamete.rowsOf st.places st.high) t with
        | none => [0]
        | some u => [1, VametBase.int u.1, VametBase.int (Vamete.numberOf u.1 u.2)]) = ans → ∀ r, H4 r = none → Q (.ref r) (upd H4 r (.lst (ans.map V.int))) := fun H4 ans sA ea r hr => by
        subst ea
        exact ends k (S1.same sA) (R1.same sA) hd1 ((chg3 c1).trans (Chg.of sA)) r hr
      refine ⟨_, rfl, s, pl, st, rfl, S1, fun H2 d kvs hd2 s2 h2 o2 => ?_⟩
      refine ⟨_, rfl, d, st.first, kvs, _, rfl, h2, o2, Vm.rowsOf_ne _ _, hrl, fun H3 s3 => ?_⟩
      cases ec : Vm.common st.first (Vamete.rowsOf st.places st.high) with
      | none =>
        have ep := Vm.common_partner (t := t) ec
        rw [ep] at k'
        refine ⟨_, rfl, rfl, _, rfl, ?_⟩
        exact if_t rfl ⟨by show 1 ≤ sizeLine; decide, fun r hr => k' H3 [0] (s2.trans s3) rfl r hr⟩
      | some m =>
        obtain ⟨el, hm⟩ := Vm.common_inv ec
        refine ⟨_, rfl, rfl, _, rfl, ?_⟩
        refine if_f rfl ?_
        have sA : Same H1 H3 := s2.trans s3
        refine ⟨_, rfl, s, CS, ds, _, _, rfl, sA _ _ es, TS.cl, TS.nN, sF_pl _ _ _, _, rfl, st.places, x, rfl, hn4, fun H4 u hu s4 h4 => ?_⟩
        rw [et] at h4
        refine ⟨_, rfl, _, rfl, u, d, t, st.places, st.high, m, st.first, kvs, rfl, vt, hn4, hm, hrl, h4, s4 _ _ (s3 _ _ h2), o2.same (s3.trans s4), Vm.lengthOf_is el, fun H5 s5 => ?_⟩
        have sB : Same H1 H5 := (sA.trans s4).trans s5
        cases ef : (Vamete.allTurns m).findIdx? (Vamete.goesWith st.first (Vamete.rowsOf st.places st.high) t) with
        | none =>
          have ep := Vm.partner_none (t := t) el (.inr fun u hu => by
            have := List.findIdx?_eq_none_iff.mp ef u hu
            exact this)
          rw [ep] at k'
          refine ⟨_, rfl, rfl, _, rfl, ?_⟩
          exact if_t rfl ⟨by show 1 ≤ sizeLine; decide, fun r hr => k' H5 [0] sB rfl r hr⟩
        | some i =>
          obtain ⟨hi, hg, hb⟩ := List.findIdx?_eq_some_iff_getElem.mp ef
          have ep := Vm.partner_some (t := t) el hm (List.getElem?_eq_getElem hi) hg (fun j v hj hv => by
            have := hb j hj
            rw [(List.getElem?_eq_some_iff.mp hv).2] at this
            simpa using this)
          rw [ep] at k'
          refine ⟨_, rfl, rfl, _, rfl, ?_⟩
          refine if_f rfl ⟨_, rfl, _, rfl, by show 3 ≤ sizeLine; decide, fun r hr => ?_⟩
          refine k' H5 [1, (m : Int), (i : Int)] sB ?_ r hr
          show [1, (m : Int), ((Vamete.numberOf m (Vamete.allTurns m)[i] : Nat) : Int)] = _
          rw [Vm.numberOf_first hm (List.getElem?_eq_getElem hi)]
end
end Tg
set_option Elab.async false
set_option linter.all false
set_option maxRecDepth 100000
set_option maxHeartbeats 4000000
namespace Tg
open PySem PySem.Spec PyProof.Rows L2
abbrev sIsAny : Stmt := top 62
abbrev sHasNum : Stmt := top 63
abbrev sRising : Stmt := top 64
abbrev sNoneBelow : Stmt := top 65
abbrev sNoneTwice : Stmt := top 66
abbrev sHasCount : Stmt := top 67
/-- what the def of the condition of number j says of a row -/
def spCond (j : Nat) : Sp := fun vs H Q _ => ∃ (c : VametBase.Cond) (r : Addr) (n : Int) (x : List Int), vs = [.ref r, .int n] ∧ Vm.condNum c = ((j : Int), n) ∧ H r = some (.tup (x.map V.int)) ∧ x.length ≤ 1000 ∧ ∀ H', Same H H' → Q (.bl (VametBase.fitsCond c x)) H'
section
variable {P : Program} {w : World} {K : PySem.W.Frag} {mg : Str → Option Value} {base : Heap}
theorem scC0 : FnScope ["row", "least_count"] ["row", "least_count"] (defScope sIsAny) := ⟨rfl, rfl, rfl, by decide +kernel, rfl, by decide +kernel, by decide +kernel⟩
theorem ok_isAny {f : Addr} {fd : FuncData} (F : Fun K "is_any" "is_any" sIsAny f fd) : FnOk P w K mg base CX0 1 f fd ["row", "least_count"] (spCond 0) := by
  refine F.ok scC0 (fun vs H Q E h => ?_) (fun cdv A outer s H vs Q E hr h => ⟨_, pss_one (ps_ret pe_bl), ?_⟩)
  · obtain ⟨c, r, n, x, rfl, _⟩ := h
    rfl
  · obtain ⟨c, r, n, x, rfl, hc, hr0, hl, k⟩ := h
    obtain rfl := Vm.cond0 hc
    exact k H (Same.refl H)
theorem scC1 : FnScope ["row", "least_count"] ["row", "least_count"] (defScope sHasNum) := ⟨rfl, rfl, rfl, by decide +kernel, rfl, by decide +kernel, by decide +kernel⟩
theorem ok_hasNum {f : Addr} {fd : FuncData} (F : Fun K "has_numbers" "has_numbers" sHasNum f fd) (gLen : mg "len" = none) : FnOk P w K mg base CX0 1 f fd ["row", "least_count"] (spCond 1) := by
  refine F.ok scC1 (fun vs H Q E h => ?_) (fun cdv A outer s H vs Q E hr h => ⟨_, pss_one (ps_ret (pe_cmpR op_gt (pe_callB call_len_seq (by rfl) gLen PySem.boot_len (pa_cons (pv 0) pa_nil)) pe_int (nomark _))), ?_⟩)
  · obtain ⟨c, r, n, x, rfl, _⟩ := h
    rfl
  · obtain ⟨c, r, n, x, rfl, hc, hr0, hl, k⟩ := h
    obtain rfl := Vm.cond1 hc
    refine ⟨_, rfl, r, _, rfl, .inr (SqT.of hr0), _, _, rfl, rfl, ?_⟩
    refine at_val (congrArg V.bl ?_) (k H (Same.refl H))
    rw [List.length_map]
    cases x <;> simp [VametBase.fitsCond]
theorem scC2 : FnScope ["row", "least_count", "earlier", "later"] ["row", "least_count"] (defScope sRising) := ⟨rfl, rfl, rfl, by decide +kernel, rfl, by decide +kernel, by decide +kernel⟩
theorem ok_rising {f : Addr} {fd : FuncData} (F : Fun K "is_rising" "is_rising" sRising f fd) (gAll : mg "all" = none) (gZip : mg "zip" = none) : FnOk P w K mg base CX0 1 f fd ["row", "least_count"] (spCond 2) := by
  refine F.ok scC2 (fun vs H Q E h => ?_) (fun cdv A outer s H vs Q E hr h => ⟨_, pss_one (ps_ret (pe_callB (cr_all rfl) (by rfl) gAll (by decide +kernel) (pa_cons
      (pe_lc (own := [("earlier", 2), ("later", 3)]) (g := gTup K 2 (gCons (gName 2) (gCons (gName 3) gNil))) (tt := tYes) rfl scC2.nd (RZ.pi_zipA (by rfl) gZip (pa_cons (pv 0) (pa_cons (pe_slice sl_tupA (pv 0) (po_some pe_int) po_none) pa_nil)))
        (blkOk_by (N := ["row", "least_count", "earlier", "later"]) (sc := defScope sRising) (by decide +kernel))
        (fun _ _ _ _ _ => pgT K rfl (pgs_cons (pg_name (i := 2) scC2.nd rfl (Or.inl rfl)) (pgs_cons (pg_name (i := 3) scC2.nd rfl (Or.inl rfl)) pgs_nil))) (fun _ _ _ _ _ => pts_nil)
        (fun _ _ _ _ _ => pe_cmpR op_le (pv 2) (pv 3) (nomark _))) pa_nil))), ?_⟩)
  · obtain ⟨c, r, n, x, rfl, _⟩ := h
    rfl
  · obtain ⟨c, r, n, x, rfl, hc, hr0, hl, k⟩ := h
    obtain rfl := Vm.cond2 hc
    refine ⟨_, rfl, _, rfl, _, rfl, ?_⟩
    dsimp only [tNoPart]
    refine slA hr0 fun H1 t1 s1 h1 => ?_
    have h1' : H1 t1 = some (.tup ((x.drop 1).map V.int)) := h1.trans (congrArg (fun z => some (HO.tup z)) (cut_from (n := 1)))
    refine ⟨r, t1, _, _, rfl, .inr ⟨SqT.of (s1 _ _ hr0), SqT.of h1', fun D hD => ?_⟩⟩
    have hDn : H D = none := s1.free hD
    refine lc_it (walk_zipT (K := K) (a := r) (b := t1) (xs := x.map V.int) (ys := (x.drop 1).map V.int) (n := (x.zip (x.drop 1)).length) (by rw [List.length_map, List.length_map, List.length_zip]))
      (fun i H' => Same H1 H' ∧ H' D = some (.lst ((((x.zip (x.drop 1)).take i).map fun z => decide (z.1 ≤ z.2)).map V.bl)))
      ⟨Same.new hD, upd_same⟩ (fun i H' _ h => ⟨SqT.of (h.1 _ _ (s1 _ _ hr0)), SqT.of (h.1 _ _ h1')⟩) ?_ ?_
    · rintro i v H4 H5 hi ⟨s4, d4⟩ ⟨T, a, b, rfl, hT, rfl, ha, hb⟩
      obtain ⟨e, he, rfl⟩ := vget ha
      obtain ⟨z, hz, rfl⟩ := vget hb
      have hTn : H1 T = none := s4.free hT
      have hDT : D ≠ T := ne_of_none d4 hT
      have hxz : (x.zip (x.drop 1))[i]? = some (e, z) := by
        rw [List.getElem?_zip_eq_some]
        exact ⟨he, hz⟩
      refine ⟨T, _, rfl, SqT.of upd_same, rfl, _, _, rfl, _, _, rfl, rfl, ?_⟩
      refine ⟨rfl, _, rfl, _, rfl, _, _, rfl, rfl, _, by rw [upd_ne hDT]; exact d4, ?_, Same.at_new (Same.at_new s4 hTn) hD, ?_⟩
      · rw [List.length_map, List.length_map, List.length_take, List.length_zip]
        exact small1000' (by omega)
      · rw [upd_same, take_more hxz, List.map_append, List.map_append]
        rfl
    · rintro H4 ⟨s4, d4⟩
      rw [List.take_length] at d4
      refine ⟨D, _, rfl, SqL.of d4, ?_⟩
      refine at_val (congrArg V.bl ?_) (k H4 (s1.trans s4))
      show _ = VametBase.rises x
      rw [Vm.rises_zip, List.all_map]
      rfl
theorem scC3 : FnScope ["row", "least_count", "number"] ["row", "least_count"] (defScope sNoneBelow) := ⟨rfl, rfl, rfl, by decide +kernel, rfl, by decide +kernel, by decide +kernel⟩
theorem ok_noneBelow {f : Addr} {fd : FuncData} (F : Fun K "has_none_below_zero" "has_none_below_zero" sNoneBelow f fd) (gAll : mg "all" = none) : FnOk P w K mg base CX0 1 f fd ["row", "least_count"] (spCond 3) := by
  refine F.ok scC3 (fun vs H Q E h => ?_) (fun cdv A outer s H vs Q E hr h => ⟨_, pss_one (ps_ret (pe_callB (cr_all rfl) (by rfl) gAll (by decide +kernel) (pa_cons
      (pe_lc (own := [("number", 2)]) (g := gName 2) (tt := tYes) rfl scC3.nd (pi_tup (pv 0)) (blkOk_by (N := ["row", "least_count", "number"]) (sc := defScope sNoneBelow) (by decide +kernel)) (fun _ _ _ _ _ => pg_name (i := 2) scC3.nd rfl (Or.inl rfl)) (fun _ _ _ _ _ => pts_nil)
        (fun _ _ _ _ _ => pe_cmpR op_ge (pv 2) pe_int (nomark _))) pa_nil))), ?_⟩)
  · obtain ⟨c, r, n, x, rfl, _⟩ := h
    rfl
  · obtain ⟨c, r, n, x, rfl, hc, hr0, hl, k⟩ := h
    obtain rfl := Vm.cond3 hc
    refine ⟨_, rfl, r, rfl, ⟨_, SqT.of hr0⟩, fun D hD => lc_tup (K := K) (a := r) (xs := x.map V.int) (fun i H' => Same H H' ∧ H' D = some (.lst (((x.take i).map fun z => decide (0 ≤ z)).map V.bl)))
      ⟨Same.new hD, upd_same⟩ (fun i H' _ h => SqT.of (h.1 _ _ hr0)) ?_ ?_⟩
    · rintro i y H2 hy ⟨s2, d2⟩
      obtain ⟨e, he, rfl⟩ := vget hy
      refine ⟨rfl, _, rfl, _, _, rfl, rfl, _, d2, ?_, Same.at_new s2 hD, ?_⟩
      · rw [List.length_map, List.length_map, List.length_take]
        exact small1000' (by omega)
      · rw [upd_same, take_more he, List.map_append, List.map_append]
        rfl
    · rintro H2 ⟨s2, d2⟩
      rw [List.length_map, List.take_length] at d2
      refine ⟨D, _, rfl, SqL.of d2, ?_⟩
      refine at_val (congrArg V.bl ?_) (k H2 s2)
      rw [List.all_map]
      rfl
theorem scC4 : FnScope ["row", "least_count"] ["row", "least_count"] (defScope sNoneTwice) := ⟨rfl, rfl, rfl, by decide +kernel, rfl, by decide +kernel, by decide +kernel⟩
theorem ok_noneTwice {f : Addr} {fd : FuncData} (F : Fun K "has_none_twice" "has_none_twice" sNoneTwice f fd) (gLen : mg "len" = none) (gSet : mg "set" = none) : FnOk P w K mg base CX0 1 f fd ["row", "least_count"] (spCond 4) := by
  refine F.ok scC4 (fun vs H Q E h => ?_) (fun cdv A outer s H vs Q E hr h => ⟨_, pss_one (ps_ret (pe_cmpR op_eq (pe_callB cr_lenS (by rfl) gLen PySem.boot_len (pa_cons (pe_callTy (cr_setT rfl) (by rfl) gSet (by decide +kernel) (pa_cons (pv 0) pa_nil)) pa_nil))
      (pe_callB call_len_seq (by rfl) gLen PySem.boot_len (pa_cons (pv 0) pa_nil)) (nomark _))), ?_⟩)
  · obtain ⟨c, r, n, x, rfl, _⟩ := h
    rfl
  · obtain ⟨c, r, n, x, rfl, hc, hr0, hl, k⟩ := h
    obtain rfl := Vm.cond4 hc
    refine ⟨_, rfl, r, x, rfl, SqT.of hr0, hl, fun p m hp hL => ?_⟩
    obtain ⟨L, nd, hm, rfl⟩ := hL
    have hLl : L.length ≤ x.length := Vm.nodup_len_le L x nd fun k hk => (hm k).mp hk
    refine ⟨p, _, _, rfl, upd_same, by omega, ?_⟩
    refine ⟨_, rfl, r, _, rfl, .inr (SqT.of (by rw [upd_ne (ne_of_none hr0 hp)]; exact hr0)), rfl, ?_⟩
    refine at_val (congrArg V.bl ?_) (k _ (Same.new hp))
    rw [Vm.unlike_len nd hm, List.length_map]
    exact decide_eq_decide.mpr ⟨fun q => by have := V.int.inj q; omega, fun q => by rw [q]⟩
theorem scC5 : FnScope ["row", "least_count"] ["row", "least_count"] (defScope sHasCount) := ⟨rfl, rfl, rfl, by decide +kernel, rfl, by decide +kernel, by decide +kernel⟩
theorem ok_hasCount {f : Addr} {fd : FuncData} (F : Fun K "has_count" "has_count" sHasCount f fd) (gLen : mg "len" = none) : FnOk P w K mg base CX0 1 f fd ["row", "least_count"] (spCond 5) := by
  refine F.ok scC5 (fun vs H Q E h => ?_) (fun cdv A outer s H vs Q E hr h => ⟨_, pss_one (ps_ret (pe_cmpR op_ge (pe_callB call_len_seq (by rfl) gLen PySem.boot_len (pa_cons (pv 0) pa_nil)) (pv 1) (nomark _))), ?_⟩)
  · obtain ⟨c, r, n, x, rfl, _⟩ := h
    rfl
  · obtain ⟨c, r, n, x, rfl, hc, hr0, hl, k⟩ := h
    obtain ⟨m, rfl, rfl⟩ := Vm.cond5 hc
    refine ⟨_, rfl, r, _, rfl, .inr (SqT.of hr0), _, rfl, _, _, rfl, rfl, ?_⟩
    refine at_val (congrArg V.bl ?_) (k H (Same.refl H))
    rw [List.length_map]
    exact decide_eq_decide.mpr Int.ofNat_le
end
end Tg
set_option Elab.async false
set_option linter.all false
set_option maxRecDepth 100000
set_option maxHeartbeats 4000000
namespace Tg
open PySem PySem.Spec PyProof.Rows L2
abbrev sStEqual : Stmt := top 69
abbrev sStBag : Stmt := top 70
abbrev sStNumbers : Stmt := top 71
abbrev sStMost : Stmt := top 72
abbrev sStLeast : Stmt := top 73
abbrev sStBegins : Stmt := top 74
abbrev sStLong : Stmt := top 75
/-- what the def of the stand of number j says of two rows -/
def spStand (j : Nat) : Sp := fun vs H Q _ => ∃ (c : VametBase.Rel) (a b : Addr) (x y : List Int), vs = [.ref a, .ref b] ∧ VametBase.relNumber c = (j : Int) ∧ H a = some (.tup (x.map V.int)) ∧ H b = some (.tup (y.map V.int)) ∧ x.length ≤ 1000 ∧ y.length ≤ 1000 ∧ ∀ H', Same H H' → Q (.bl (VametBase.stands c x y)) H'
def listD (x : List Int) : PyData := .list (x.map .int)
theorem shaped_list (x : List Int) : SeqAt.shaped (listD x) = true := by
  unfold SeqAt.shaped listD
  have h1 : PyData.canLay0 (.list (x.map .int)) = true := by rw [PyData.canLay0]; exact ints_lay x
  have h2 : PyData.depth (.list (x.map .int)) = 1 := by rw [PyData.depth, ints_depth]
  rw [h1, h2]
  rfl
theorem eqv_list (x y : List Int) : PyData.eqv (listD x) (listD y) = decide (x = y) := by
  unfold listD
  rw [PyData.eqv]
  exact eqvAll_ints x y
theorem dp_list {K : PySem.W.Frag} {H : Hp} {t : Addr} {x : List Int} (h : H t = some (.lst (x.map V.int))) : Dp K H (.ref t) (listD x) := .lst (SqL.of h) (dp_ints x)
theorem dec_len {m n : Nat} : decide (V.int ((m : Nat) : Int) = V.int ((n : Nat) : Int)) = decide (m = n) := decide_eq_decide.mpr ⟨fun q => by have := V.int.inj q; omega, fun q => by rw [q]⟩
section
variable {P : Program} {w : World} {K : PySem.W.Frag} {mg : Str → Option Value} {base : Heap}
theorem scS0 : FnScope ["left", "right"] ["left", "right"] (defScope sStEqual) := ⟨rfl, rfl, rfl, by decide +kernel, rfl, by decide +kernel, by decide +kernel⟩
theorem ok_stEqual {f : Addr} {fd : FuncData} (F : Fun K "stand_equal" "stand_equal" sStEqual f fd) : FnOk P w K mg base CX0 1 f fd ["left", "right"] (spStand 0) := by
  refine F.ok scS0 (fun vs H Q E h => ?_) (fun cdv A outer s H vs Q E hr h => ⟨_, pss_one (ps_ret (pe_cmpR (op_eqD hr.units) (pv 0) (pv 1) (nomark _))), ?_⟩)
  · obtain ⟨c, a, b, x, y, rfl, _⟩ := h
    rfl
  · obtain ⟨c, a, b, x, y, rfl, hc, ha, hb, hx, hy, k⟩ := h
    obtain rfl := Vm.rel0 hc
    refine ⟨_, rfl, _, rfl, _, _, dp_row ha, dp_row hb, shaped_row _, shaped_row _, ?_⟩
    refine at_val (congrArg V.bl ?_) (k H (Same.refl H))
    rw [eqv_row]
    show _ = (x == y)
    rw [Bool.eq_iff_iff, decide_eq_true_iff, beq_iff_eq]
theorem scS1 : FnScope ["left", "right"] ["left", "right"] (defScope sStBag) := ⟨rfl, rfl, rfl, by decide +kernel, rfl, by decide +kernel, by decide +kernel⟩
theorem ok_stBag {f : Addr} {fd : FuncData} (F : Fun K "stand_bag" "stand_bag" sStBag f fd) (gSorted : mg "sorted" = none) : FnOk P w K mg base CX0 1 f fd ["left", "right"] (spStand 1) := by
  refine F.ok scS1 (fun vs H Q E h => ?_) (fun cdv A outer s H vs Q E hr h => ⟨_, pss_one (ps_ret (pe_cmpR (op_eqD hr.units) (pe_callB cr_sortedTI (by rfl) gSorted (by decide +kernel) (pa_cons (pv 0) pa_nil)) (pe_callB cr_sortedTI (by rfl) gSorted (by decide +kernel) (pa_cons (pv 1) pa_nil)) (nomark _))), ?_⟩)
  · obtain ⟨c, a, b, x, y, rfl, _⟩ := h
    rfl
  · obtain ⟨c, a, b, x, y, rfl, hc, ha, hb, hx, hy, k⟩ := h
    obtain rfl := Vm.rel1 hc
    refine ⟨_, rfl, a, x, rfl, SqT.of ha, fun x' p hp hsp hn => ?_⟩
    have s1 := Same.new (o := .lst (x'.map V.int)) hn
    refine ⟨_, rfl, b, y, rfl, SqT.of (s1 _ _ hb), fun y' q hq hsq hm => ?_⟩
    have s2 := Same.new (o := .lst (y'.map V.int)) hm
    refine ⟨_, _, dp_list (s2 _ _ upd_same), dp_list upd_same, shaped_list _, shaped_list _, ?_⟩
    refine at_val (congrArg V.bl ?_) (k _ (s1.trans s2))
    rw [eqv_list, Vm.bag_eq hp hsp hq hsq]
theorem scS2 : FnScope ["left", "right"] ["left", "right"] (defScope sStNumbers) := ⟨rfl, rfl, rfl, by decide +kernel, rfl, by decide +kernel, by decide +kernel⟩
theorem ok_stNumbers {f : Addr} {fd : FuncData} (F : Fun K "stand_numbers" "stand_numbers" sStNumbers f fd) (gSet : mg "set" = none) : FnOk P w K mg base CX0 1 f fd ["left", "right"] (spStand 2) := by
  refine F.ok scS2 (fun vs H Q E h => ?_) (fun cdv A outer s H vs Q E hr h => ⟨_, pss_one (ps_ret (pe_cmpR (op_eqS (Nat.lt_of_le_of_lt (Nat.le_add_right _ 64) hr.units)) (pe_callTy (cr_setT rfl) (by rfl) gSet (by decide +kernel) (pa_cons (pv 0) pa_nil)) (pe_callTy (cr_setT rfl) (by rfl) gSet (by decide +kernel) (pa_cons (pv 1) pa_nil)) (nomark _))), ?_⟩)
  · obtain ⟨c, a, b, x, y, rfl, _⟩ := h
    rfl
  · obtain ⟨c, a, b, x, y, rfl, hc, ha, hb, hx, hy, k⟩ := h
    obtain rfl := Vm.rel2 hc
    refine ⟨_, rfl, a, x, rfl, SqT.of ha, hx, fun p n hp _ => ?_⟩
    have s1 : Same H (upd H p (SetO w p (fun j => decide (j ∈ x)) n)) := Same.new hp
    refine ⟨_, rfl, b, y, rfl, SqT.of (s1 _ _ hb), hy, fun q m hq _ => ?_⟩
    have s2 : Same (upd H p (SetO w p (fun j => decide (j ∈ x)) n)) (upd (upd H p (SetO w p (fun j => decide (j ∈ x)) n)) q (SetO w q (fun j => decide (j ∈ y)) m)) := Same.new hq
    refine ⟨p, q, _, _, _, _, rfl, rfl, s2 _ _ upd_same, upd_same, fun r hr' => ?_⟩
    refine at_val (congrArg V.bl ?_) (k _ (s1.trans s2))
    exact (Vm.numbers_eq x y hr').symm
theorem scS3 : FnScope ["left", "right", "low", "high"] ["left", "right"] (defScope sStMost) := ⟨rfl, rfl, rfl, by decide +kernel, rfl, by decide +kernel, by decide +kernel⟩
theorem ok_stMost {f : Addr} {fd : FuncData} (F : Fun K "stand_most" "stand_most" sStMost f fd) (gLen : mg "len" = none) (gAll : mg "all" = none) (gZip : mg "zip" = none) : FnOk P w K mg base CX0 1 f fd ["left", "right"] (spStand 3) := by
  refine F.ok scS3 (fun vs H Q E h => ?_) (fun cdv A outer s H vs Q E hr h => ⟨_, pss_one (ps_ret (pe_and (pe_cmpR op_eq (pe_callB call_len_seq (by rfl) gLen PySem.boot_len (pa_cons (pv 0) pa_nil)) (pe_callB call_len_seq (by rfl) gLen PySem.boot_len (pa_cons (pv 1) pa_nil)) (nomark _))
    (pe_one (pe_callB (cr_all rfl) (by rfl) gAll (by decide +kernel) (pa_cons
      (pe_lc (own := [("low", 2), ("high", 3)]) (g := gTup K 2 (gCons (gName 2) (gCons (gName 3) gNil))) (tt := tYes) rfl scS3.nd (RZ.pi_zipA (by rfl) gZip (pa_cons (pv 0) (pa_cons (pv 1) pa_nil)))
        (blkOk_by (N := ["left", "right", "low", "high"]) (sc := defScope sStMost) (by decide +kernel))
        (fun _ _ _ _ _ => pgT K rfl (pgs_cons (pg_name (i := 2) scS3.nd rfl (Or.inl rfl)) (pgs_cons (pg_name (i := 3) scS3.nd rfl (Or.inl rfl)) pgs_nil))) (fun _ _ _ _ _ => pts_nil)
        (fun _ _ _ _ _ => pe_cmpR op_le (pv 2) (pv 3) (nomark _))) pa_nil))))), ?_⟩)
  · obtain ⟨c, a, b, x, y, rfl, _⟩ := h
    rfl
  · obtain ⟨c, a, b, x, y, rfl, hc, ha, hb, hx, hy, k⟩ := h
    obtain rfl := Vm.rel3 hc
    rw [Vm.most_eq] at k
    refine ⟨_, rfl, a, _, rfl, .inr (SqT.of ha), _, rfl, b, _, rfl, .inr (SqT.of hb), rfl, _, rfl, ?_⟩
    rw [List.length_map, List.length_map, dec_len]
    refine if_2 (fun q => ?_) fun q => ?_
    · rw [q] at k
      refine ⟨_, rfl, _, rfl, a, b, _, _, rfl, .inr ⟨SqT.of ha, SqT.of hb, fun D hD => ?_⟩⟩
      refine lc_it (walk_zipT (K := K) (a := a) (b := b) (xs := x.map V.int) (ys := y.map V.int) (n := (x.zip y).length) (by rw [List.length_map, List.length_map, List.length_zip]))
        (fun i H' => Same H H' ∧ H' D = some (.lst ((((x.zip y).take i).map fun z => decide (z.1 ≤ z.2)).map V.bl)))
        ⟨Same.new hD, upd_same⟩ (fun i H' _ h => ⟨SqT.of (h.1 _ _ ha), SqT.of (h.1 _ _ hb)⟩) ?_ ?_
      · rintro i v H4 H5 hi ⟨s4, d4⟩ ⟨T, a', b', rfl, hT, rfl, ha', hb'⟩
        obtain ⟨e, he, rfl⟩ := vget ha'
        obtain ⟨z, hz, rfl⟩ := vget hb'
        have hTn : H T = none := s4.free hT
        have hDT : D ≠ T := ne_of_none d4 hT
        have hxz : (x.zip y)[i]? = some (e, z) := by
          rw [List.getElem?_zip_eq_some]
          exact ⟨he, hz⟩
        refine ⟨T, _, rfl, SqT.of upd_same, rfl, _, _, rfl, _, _, rfl, rfl, ?_⟩
        refine ⟨rfl, _, rfl, _, rfl, _, _, rfl, rfl, _, by rw [upd_ne hDT]; exact d4, ?_, Same.at_new (Same.at_new s4 hTn) hD, ?_⟩
        · rw [List.length_map, List.length_map, List.length_take, List.length_zip]
          exact small1000' (by omega)
        · rw [upd_same, take_more hxz, List.map_append, List.map_append]
          rfl
      · rintro H4 ⟨s4, d4⟩
        rw [List.take_length] at d4
        refine ⟨D, _, rfl, SqL.of d4, ?_⟩
        refine at_val (congrArg V.bl ?_) (k H4 s4)
        rw [List.all_map, Bool.true_and]
        rfl
    · rw [q] at k
      exact k H (Same.refl H)
theorem scS4 : FnScope ["left", "right"] ["left", "right"] (defScope sStLeast) := ⟨rfl, rfl, rfl, by decide +kernel, rfl, by decide +kernel, by decide +kernel⟩
theorem ok_stLeast {f fM : Addr} {fd fdM : FuncData} (F : Fun K "stand_least" "stand_least" sStLeast f fd)
    (GM : FnOk P w K mg base CX0 1 fM fdM ["left", "right"] (spStand 3)) (bM : Binds K fdM ["left", "right"] []) (gM : mg "stand_most" = some (.ref fM)) (kM : PySem.W.keepIn K (.ref fM) = true) : FnOk P w K mg base CX0 2 f fd ["left", "right"] (spStand 4) := by
  refine F.ok scS4 (fun vs H Q E h => ?_) (fun cdv A outer s H vs Q E hr h => ⟨_, pss_one (ps_ret (pe_call GM hr rfl gM kM bM .nil pass0 (pa_cons (pv 1) (pa_cons (pv 0) pa_nil)))), ?_⟩)
  · obtain ⟨c, a, b, x, y, rfl, _⟩ := h
    rfl
  · obtain ⟨c, a, b, x, y, rfl, hc, ha, hb, hx, hy, k⟩ := h
    obtain rfl := Vm.rel4 hc
    rw [Vm.least_eq] at k
    exact ⟨_, rfl, _, rfl, .most, b, a, y, x, rfl, rfl, hb, ha, hy, hx, k⟩
theorem scS5 : FnScope ["left", "right"] ["left", "right"] (defScope sStBegins) := ⟨rfl, rfl, rfl, by decide +kernel, rfl, by decide +kernel, by decide +kernel⟩
theorem ok_stBegins {f : Addr} {fd : FuncData} (F : Fun K "stand_begins" "stand_begins" sStBegins f fd) (gLen : mg "len" = none) : FnOk P w K mg base CX0 1 f fd ["left", "right"] (spStand 5) := by
  refine F.ok scS5 (fun vs H Q E h => ?_) (fun cdv A outer s H vs Q E hr h => ⟨_, pss_one (ps_ret (pe_cmpR (op_eqD hr.units) (pe_slice sl_tupA (pv 1) po_none (po_some (pe_callB call_len_seq (by rfl) gLen PySem.boot_len (pa_cons (pv 0) pa_nil)))) (pv 0) (nomark _))), ?_⟩)
  · obtain ⟨c, a, b, x, y, rfl, _⟩ := h
    rfl
  · obtain ⟨c, a, b, x, y, rfl, hc, ha, hb, hx, hy, k⟩ := h
    obtain rfl := Vm.rel5 hc
    rw [Vm.begins_take] at k
    refine ⟨_, rfl, _, rfl, a, _, rfl, .inr (SqT.of ha), _, rfl, ?_⟩
    dsimp only
    refine slA hb fun H1 t1 s1 h1 => ?_
    rw [List.length_map, cut_to] at h1
    refine ⟨_, rfl, _, _, dp_row h1, dp_row (s1 _ _ ha), shaped_row _, shaped_row _, ?_⟩
    refine at_val (congrArg V.bl ?_) (k H1 s1)
    rw [eqv_row]
theorem scS6 : FnScope ["left", "right"] ["left", "right"] (defScope sStLong) := ⟨rfl, rfl, rfl, by decide +kernel, rfl, by decide +kernel, by decide +kernel⟩
theorem ok_stLong {f : Addr} {fd : FuncData} (F : Fun K "stand_long" "stand_long" sStLong f fd) (gLen : mg "len" = none) : FnOk P w K mg base CX0 1 f fd ["left", "right"] (spStand 6) := by
  refine F.ok scS6 (fun vs H Q E h => ?_) (fun cdv A outer s H vs Q E hr h => ⟨_, pss_one (ps_ret (pe_cmpR op_eq (pe_callB call_len_seq (by rfl) gLen PySem.boot_len (pa_cons (pv 0) pa_nil)) (pe_callB call_len_seq (by rfl) gLen PySem.boot_len (pa_cons (pv 1) pa_nil)) (nomark _))), ?_⟩)
  · obtain ⟨c, a, b, x, y, rfl, _⟩ := h
    rfl
  · obtain ⟨c, a, b, x, y, rfl, hc, ha, hb, hx, hy, k⟩ := h
    obtain rfl := Vm.rel6 hc
    refine ⟨_, rfl, a, _, rfl, .inr (SqT.of ha), _, rfl, b, _, rfl, .inr (SqT.of hb), rfl, ?_⟩
    refine at_val (congrArg V.bl ?_) (k H (Same.refl H))
    rw [List.length_map, List.length_map, dec_len]
    show _ = (x.length == y.length)
    rw [Bool.eq_iff_iff, decide_eq_true_iff, beq_iff_eq]
end
end Tg
set_option Elab.async false
set_option linter.all false
set_option maxRecDepth 100000
set_option maxHeartbeats 4000000
namespace Tg
open PySem PySem.Spec PyProof.Rows L2
abbrev sProgNums : Stmt := top 53
abbrev sQInit : Stmt := inClass (top 61) 0
abbrev sRelNums : Stmt := top 78
/-! ### The Relation in the heap -/
def qF (c k : Int) (i : Addr) (s : Int) (o : Addr) : List (Str × V) := [("condition", .int c), ("least_count", .int k), ("input_turning", .ref i), ("stand", .int s), ("output_turning", .ref o)]
theorem qF_c (c k : Int) (i : Addr) (s : Int) (o : Addr) : (qF c k i s o).lookup ("condition" : Str) = some (.int c) := lk_here
theorem qF_k (c k : Int) (i : Addr) (s : Int) (o : Addr) : (qF c k i s o).lookup ("least_count" : Str) = some (.int k) := (lk_past (by decide +kernel)).trans lk_here
theorem qF_i (c k : Int) (i : Addr) (s : Int) (o : Addr) : (qF c k i s o).lookup ("input_turning" : Str) = some (.ref i) := (lk_past (by decide +kernel)).trans ((lk_past (by decide +kernel)).trans lk_here)
theorem qF_s (c k : Int) (i : Addr) (s : Int) (o : Addr) : (qF c k i s o).lookup ("stand" : Str) = some (.int s) := (lk_past (by decide +kernel)).trans ((lk_past (by decide +kernel)).trans ((lk_past (by decide +kernel)).trans lk_here))
theorem qF_o (c k : Int) (i : Addr) (s : Int) (o : Addr) : (qF c k i s o).lookup ("output_turning" : Str) = some (.ref o) := (lk_past (by decide +kernel)).trans ((lk_past (by decide +kernel)).trans ((lk_past (by decide +kernel)).trans ((lk_past (by decide +kernel)).trans lk_here)))
theorem qF_new (c k : Int) (i : Addr) (s : Int) (o : Addr) : putF "output_turning" (.ref o) (putF "stand" (.int s) (putF "input_turning" (.ref i) (putF "least_count" (.int k) (putF "condition" (.int c) [])))) = qF c k i s o := by
  have e1 : putF ("condition" : Str) (V.int c) [] = ([("condition", V.int c)] : List (Str × V)) := rfl
  have e2 : putF ("least_count" : Str) (V.int k) [("condition", V.int c)] = ([("condition", V.int c), ("least_count", V.int k)] : List (Str × V)) := (put_past (by decide +kernel)).trans rfl
  have e3 : putF ("input_turning" : Str) (V.ref i) [("condition", V.int c), ("least_count", V.int k)] = ([("condition", V.int c), ("least_count", V.int k), ("input_turning", V.ref i)] : List (Str × V)) := (put_past (by decide +kernel)).trans (congrArg _ ((put_past (by decide +kernel)).trans rfl))
  have e4 : putF ("stand" : Str) (V.int s) [("condition", V.int c), ("least_count", V.int k), ("input_turning", V.ref i)] = ([("condition", V.int c), ("least_count", V.int k), ("input_turning", V.ref i), ("stand", V.int s)] : List (Str × V)) := (put_past (by decide +kernel)).trans (congrArg _ ((put_past (by decide +kernel)).trans (congrArg _ ((put_past (by decide +kernel)).trans rfl))))
  rw [e1, e2, e3, e4]
  exact (put_past (by decide +kernel)).trans (congrArg _ ((put_past (by decide +kernel)).trans (congrArg _ ((put_past (by decide +kernel)).trans (congrArg _ ((put_past (by decide +kernel)).trans rfl))))))
structure TxQ (K : PySem.W.Frag) (mg : Str → Option Value) (CQ : Addr) : Prop where
  cl : Cls K CQ
  nC : NoAttr K CQ "condition"
  nK : NoAttr K CQ "least_count"
  nI : NoAttr K CQ "input_turning"
  nS : NoAttr K CQ "stand"
  nO : NoAttr K CQ "output_turning"
  gQ : mg "Relation" = some (.ref CQ)
/-- a relation as it is held -/
def RelAt (CQ : Addr) (H : Hp) (a : Addr) (q : VametBase.Relation) : Prop := ∃ dx i o, H a = some (.ins CQ dx (qF (Vm.condNum q.cond).1 (Vm.condNum q.cond).2 i (VametBase.relNumber q.rel) o)) ∧ ProgAt H i q.input ∧ ProgAt H o q.output
theorem RelAt.same {CQ : Addr} {H H' : Hp} {a : Addr} {q : VametBase.Relation} (h : RelAt CQ H a q) (e : Same H H') : RelAt CQ H' a q := by
  obtain ⟨dx, i, o, h1, h2, h3⟩ := h
  exact ⟨dx, i, o, e _ _ h1, h2.same e, h3.same e⟩
def spQInit (CQ : Addr) : Sp := fun vs H Q _ => ∃ (p dx i o : Addr) (c k s : Int), vs = [.ref p, .int c, .int k, .ref i, .int s, .ref o] ∧ H p = some (.ins CQ dx []) ∧
  ∀ H' : Hp, (∃ dy, H' p = some (.ins CQ dy (qF c k i s o))) → Chg [p] H H' → Q .non H'
def spProgNums : Sp := fun vs H Q _ => ∃ (t : Addr) (pr : List VametBase.Step), vs = [.ref t] ∧ ProgAt H t pr ∧ NewL H Q (VametBase.flatProgram pr)
def spRelNums (CQ : Addr) : Sp := fun vs H Q _ => ∃ (a : Addr) (q : VametBase.Relation), vs = [.ref a] ∧ RelAt CQ H a q ∧ NewL H Q (VametBase.flatRelation q)
/-- both ways of a test come together again -/
theorem if_join {c : Bool} {A : Prop} {H1 : Hp} (B : Hp → Prop) (good : Hp → Prop) (hB : ∀ H2, good H2 → B H2) (hA : (∀ H2, good H2 → B H2) → c = true → A) (h2 : c = false → good H1) : if c = true then A else B H1 := if_2 (fun q => hA hB q) fun q => hB H1 (h2 q)
theorem bnd_empty {z : Str} {ob : Option (Int × Int)} (h : bnd z ob) : decide (V.str z = V.str "") = !ob.isSome := by
  rcases h with ⟨rfl, rfl⟩ | ⟨rfl, rfl⟩ | ⟨rfl, rfl⟩ | ⟨rfl, rfl⟩
  all_goals decide +kernel
section
variable {P : Program} {w : World} {K : PySem.W.Frag} {mg : Str → Option Value} {base : Heap} {CQ S : Addr}
theorem scQI : FnScope ["self", "condition", "least_count", "input_turning", "stand", "output_turning"] ["self", "condition", "least_count", "input_turning", "stand", "output_turning"] (defScope sQInit) := ⟨rfl, rfl, rfl, by decide +kernel, rfl, by decide +kernel, by decide +kernel⟩
theorem ok_qinit {f : Addr} {fd : FuncData} (F : Fun K "__init__" "Relation.__init__" sQInit f fd) (T : TxQ K mg CQ) : FnOk P w K mg base CX0 1 f fd ["self", "condition", "least_count", "input_turning", "stand", "output_turning"] (spQInit CQ) := by
  refine F.ok scQI (fun vs H Q E h => ?_) (fun cdv A outer s H vs Q E hr h => ⟨_, pss_cons (ps_fld (pv 0) (pv 1) rfl) (pss_cons (ps_fld (pv 0) (pv 2) rfl) (pss_cons (ps_fld (pv 0) (pv 3) rfl) (pss_cons (ps_fld (pv 0) (pv 4) rfl) (pss_one (ps_fld (pv 0) (pv 5) rfl))))), ?_⟩)
  · obtain ⟨p, dx, i, o, c, k, s, rfl, _⟩ := h
    rfl
  · obtain ⟨p, dx, i, o, c, k, s, rfl, hp, kk⟩ := h
    have l1 : (putF ("condition" : Str) (V.int c) []).length < 1000 := by show 1 < 1000; decide
    have l2 : (putF ("least_count" : Str) (V.int k) (putF ("condition" : Str) (V.int c) [])).length < 1000 := by
      rw [show putF ("least_count" : Str) (V.int k) (putF ("condition" : Str) (V.int c) []) = ([("condition", V.int c), ("least_count", V.int k)] : List (Str × V)) from (put_past (by decide +kernel)).trans rfl]
      show 2 < 1000; decide
    have l3 : (putF ("input_turning" : Str) (V.ref i) (putF ("least_count" : Str) (V.int k) (putF ("condition" : Str) (V.int c) []))).length < 1000 := by
      rw [show putF ("least_count" : Str) (V.int k) (putF ("condition" : Str) (V.int c) []) = ([("condition", V.int c), ("least_count", V.int k)] : List (Str × V)) from (put_past (by decide +kernel)).trans rfl,
        show putF ("input_turning" : Str) (V.ref i) [("condition", V.int c), ("least_count", V.int k)] = ([("condition", V.int c), ("least_count", V.int k), ("input_turning", V.ref i)] : List (Str × V)) from (put_past (by decide +kernel)).trans (congrArg _ ((put_past (by decide +kernel)).trans rfl))]
      show 3 < 1000; decide
    have l4 : (putF ("stand" : Str) (V.int s) (putF ("input_turning" : Str) (V.ref i) (putF ("least_count" : Str) (V.int k) (putF ("condition" : Str) (V.int c) [])))).length < 1000 := by
      rw [show putF ("least_count" : Str) (V.int k) (putF ("condition" : Str) (V.int c) []) = ([("condition", V.int c), ("least_count", V.int k)] : List (Str × V)) from (put_past (by decide +kernel)).trans rfl,
        show putF ("input_turning" : Str) (V.ref i) [("condition", V.int c), ("least_count", V.int k)] = ([("condition", V.int c), ("least_count", V.int k), ("input_turning", V.ref i)] : List (Str × V)) from (put_past (by decide +kernel)).trans (congrArg _ ((put_past (by decide +kernel)).trans rfl)),
        show putF ("stand" : Str) (V.int s) [("condition", V.int c), ("least_count", V.int k), ("input_turning", V.ref i)] = ([("condition", V.int c), ("least_count", V.int k), ("input_turning", V.ref i), ("stand", V.int s)] : List (Str × V)) from (put_past (by decide +kernel)).trans (congrArg _ ((put_past (by decide +kernel)).trans (congrArg _ ((put_past (by decide +kernel)).trans rfl))))]
      show 4 < 1000; decide
    refine ⟨_, rfl, _, rfl, p, CQ, dx, [], rfl, hp, T.cl, T.nC, (by show 0 < 1000; decide), ?_⟩
    refine ⟨_, rfl, _, rfl, p, CQ, dx, _, rfl, upd_same, T.cl, T.nK, l1, ?_⟩
    refine ⟨_, rfl, _, rfl, p, CQ, dx, _, rfl, upd_same, T.cl, T.nI, l2, ?_⟩
    refine ⟨_, rfl, _, rfl, p, CQ, dx, _, rfl, upd_same, T.cl, T.nS, l3, ?_⟩
    refine ⟨_, rfl, _, rfl, p, CQ, dx, _, rfl, upd_same, T.cl, T.nO, l4, ?_⟩
    exact kk _ ⟨dx, Eq.trans upd_same (congrArg (fun q => some (HO.ins CQ dx q)) (qF_new c k i s o))⟩ (((((Chg.put (by simp)).trans (Chg.put (by simp))).trans (Chg.put (by simp))).trans (Chg.put (by simp))).trans (Chg.put (by simp)))
theorem scPN : FnScope ["program", "numbers", "kind", "amount"] ["program"] (defScope sProgNums) := ⟨rfl, rfl, rfl, by decide +kernel, rfl, by decide +kernel, by decide +kernel⟩
theorem ok_progNums {f : Addr} {fd : FuncData} (F : Fun K "program_numbers" "program_numbers" sProgNums f fd) (gLen : mg "len" = none) (TL : TxL K mg S) : FnOk P w K mg base CX0 1 f fd ["program"] spProgNums := by
  refine F.ok scPN (fun vs H Q E h => ?_) (fun cdv A outer s H vs Q E hr h => ⟨_, pss_cons (ps_set (i := 1) scPN.nd rfl (Or.inl rfl) (pe_lst (pa_cons (pe_callB call_len_seq (by rfl) gLen PySem.boot_len (pa_cons (pv 0) pa_nil)) pa_nil)))
    (pss_cons (ps_for PassesOwn.never rfl (pi_tup (pv 0)) (pg_tup rfl (pgs_cons (pg_name (i := 2) scPN.nd rfl (Or.inl rfl)) (pgs_cons (pg_name (i := 3) scPN.nd rfl (Or.inl rfl)) pgs_nil)))
      (pss_cons (ps_expr (pe_bm PySem.F.plainAttrs_list PySem.F.slot_list_append PySem.F.type_list_append mt_append (pv 1) (pa_cons (pv 2) pa_nil)))
      (pss_one (ps_if (pt_cmpR op_ne (pe_ix ix_tup (pe_glob (v := .ref S) rfl TL.gS rfl) (pv 2) (fun _ _ => rfl)) pe_str (nomark _))
        (pss_one (ps_expr (pe_bm PySem.F.plainAttrs_list PySem.F.slot_list_append PySem.F.type_list_append mt_append (pv 1) (pa_cons (pv 3) pa_nil)))) pss_nil))))
    (pss_one (ps_ret (pv 1)))), ?_⟩)
  · obtain ⟨t, pr, rfl, _⟩ := h
    rfl
  · obtain ⟨t, pr, rfl, ⟨us, hp, hst, hpl, hok⟩, k⟩ := h
    have el : (us.map V.ref).length = pr.length := by rw [List.length_map, hst.length]
    refine ⟨_, rfl, t, _, rfl, .inr (SqT.of hp), by show 1 ≤ sizeLine; decide, fun L hL => ?_⟩
    have s1 : Same H (upd H L (.lst [.int (((us.map V.ref).length : Nat) : Int)])) := Same.new hL
    refine ⟨_, rfl, t, rfl, ⟨_, SqT.of (s1 _ _ hp)⟩, for_tup (xs := us.map V.ref) (fun i σ H' => ∃ (y2 y3 : Option V), σ = [some (.ref t), some (.ref L), y2, y3] ∧ Same H H' ∧ H' L = some (.lst (((pr.length : Int) :: (pr.take i).flatMap VametBase.flatStep).map V.int)))
      ⟨none, none, rfl, s1, by rw [upd_same, el]; rfl⟩ (fun i σ H' _ h => by obtain ⟨_, _, _, q, _⟩ := h; exact SqT.of (q _ _ hp)) ?_ ?_⟩
    · rintro i y σ H2 hy ⟨y2, y3, rfl, s2, l2⟩
      obtain ⟨u, hu, rfl⟩ := vgetR hy
      obtain ⟨st, hst', hu2⟩ := hst.get hu
      obtain ⟨j, hj, hj17⟩ := Vm.pairOf_kind st
      obtain ⟨z, hz, hbz⟩ := letters_at hj17
      have hi : i < pr.length := (List.getElem?_eq_some_iff.mp hst').1
      have hlen : (((pr.length : Int) :: (pr.take i).flatMap VametBase.flatStep).map V.int).length ≤ 100 := by
        rw [List.length_map, List.length_cons]
        have h1 := Vm.flat_length (pr.take i)
        rw [List.length_take] at h1
        omega
      refine ⟨u, _, rfl, SqT.of (s2 _ _ hu2), rfl, _, _, rfl, _, _, rfl, rfl, ?_⟩
      refine ⟨_, rfl, .inl ⟨rfl, _, SqL.of l2⟩, _, rfl, L, _, _, rfl, rfl, l2, small1000' (by omega), ?_⟩
      refine ⟨_, rfl, S, _, _, .str z, rfl, rfl, TL.sq _, by rw [hj]; exact atI_nat (by simp [hz]), rfl, _, rfl, ?_⟩
      rw [bnd_empty hbz, Bool.not_not]
      have e0 : VametBase.flatStep st = (Vm.pairOf st).1 :: (if (Vm.behind j).isSome then [(Vm.pairOf st).2] else []) := by
        rw [Vm.flatStep_eq, hj]
        rfl
      refine if_2 (fun q => ?_) fun q => ?_
      · rw [if_pos q] at e0
        refine ⟨_, rfl, .inl ⟨rfl, _, SqL.of upd_same⟩, _, rfl, L, _, _, rfl, rfl, upd_same, by rw [List.length_append]; exact small1000' (by simp only [List.length_cons, List.length_nil]; omega), ?_⟩
        refine ⟨_, _, rfl, Same.at_new (Same.at_new s2 hL) hL, ?_⟩
        rw [upd_same, Vm.flatMap_take hst', e0]
        simp
      · rw [if_neg (by rw [q]; exact Bool.false_ne_true)] at e0
        refine ⟨_, _, rfl, Same.at_new s2 hL, ?_⟩
        rw [upd_same, Vm.flatMap_take hst', e0]
        simp
    · rintro σ H2 ⟨y2, y3, rfl, s2, l2⟩
      rw [el, List.take_length] at l2
      exact ⟨_, rfl, k H2 L hL s2 l2⟩
theorem scRN : FnScope ["relation", "numbers"] ["relation"] (defScope sRelNums) := ⟨rfl, rfl, rfl, by decide +kernel, rfl, by decide +kernel, by decide +kernel⟩
theorem ok_relNums {f fN : Addr} {fd fdN : FuncData} {t5 : Tok} (F : Fun K "relation_numbers" "relation_numbers" sRelNums f fd) (T : TxQ K mg CQ) (g5 : mg "HAS_COUNT" = some (.int 5 t5))
    (GN : FnOk P w K mg base CX0 1 fN fdN ["program"] spProgNums) (bN : Binds K fdN ["program"] []) (gN : mg "program_numbers" = some (.ref fN)) (kN : PySem.W.keepIn K (.ref fN) = true) : FnOk P w K mg base CX0 2 f fd ["relation"] (spRelNums CQ) := by
  refine F.ok scRN (fun vs H Q E h => ?_) (fun cdv A outer s H vs Q E hr h => ⟨_, pss_cons (ps_set (i := 1) scRN.nd rfl (Or.inl rfl) (pe_lst (pa_cons (pe_fld (pv 0) rfl) pa_nil)))
    (pss_cons (ps_if (pt_cmpR op_eq (pe_fld (pv 0) rfl) (pe_glob (v := .int 5) rfl g5 ⟨_, rfl⟩) (nomark _)) (pss_one (ps_expr (pe_bm PySem.F.plainAttrs_list PySem.F.slot_list_append PySem.F.type_list_append mt_append (pv 1) (pa_cons (pe_fld (pv 0) rfl) pa_nil)))) pss_nil)
    (pss_cons (ps_expr (pe_bm PySem.F.plainAttrs_list PySem.F.slot_list_extend PySem.F.type_list_extend mt_extend (pv 1) (pa_cons (pe_call GN hr rfl gN kN bN .nil pass0 (pa_cons (pe_fld (pv 0) rfl) pa_nil)) pa_nil)))
    (pss_cons (ps_expr (pe_bm PySem.F.plainAttrs_list PySem.F.slot_list_append PySem.F.type_list_append mt_append (pv 1) (pa_cons (pe_fld (pv 0) rfl) pa_nil)))
    (pss_cons (ps_expr (pe_bm PySem.F.plainAttrs_list PySem.F.slot_list_extend PySem.F.type_list_extend mt_extend (pv 1) (pa_cons (pe_call GN hr rfl gN kN bN .nil pass0 (pa_cons (pe_fld (pv 0) rfl) pa_nil)) pa_nil)))
    (pss_one (ps_ret (pv 1))))))), ?_⟩)
  · obtain ⟨a, q, rfl, _⟩ := h
    rfl
  · obtain ⟨a, q, rfl, hR, k⟩ := h
    obtain ⟨dx, i, o, e, Pi, Po⟩ := id hR
    have hli : (VametBase.flatProgram q.input).length ≤ 17 := by
      obtain ⟨_, _, _, h3, _⟩ := Pi
      have := Vm.flat_length q.input
      show (_ :: _).length ≤ 17
      rw [List.length_cons]
      omega
    have hlo : (VametBase.flatProgram q.output).length ≤ 17 := by
      obtain ⟨_, _, _, h3, _⟩ := Po
      have := Vm.flat_length q.output
      show (_ :: _).length ≤ 17
      rw [List.length_cons]
      omega
    refine ⟨_, rfl, a, CQ, dx, _, _, rfl, e, T.cl, T.nC, qF_c _ _ _ _ _, by show 1 ≤ sizeLine; decide, fun L hL => ?_⟩
    have s1 : Same H (upd H L (.lst [.int (Vm.condNum q.cond).1])) := Same.new hL
    have hcl : (VametBase.flatCond q.cond).length ≤ 2 := by cases q.cond <;> simp [VametBase.flatCond]
    have l1 : (upd H L (.lst [.int (Vm.condNum q.cond).1])) L = some (.lst [.int (Vm.condNum q.cond).1]) := upd_same
    generalize upd H L (.lst [.int (Vm.condNum q.cond).1]) = H1 at s1 l1 ⊢
    refine ⟨_, rfl, a, CQ, dx, _, _, rfl, s1 _ _ e, T.cl, T.nC, qF_c _ _ _ _ _, rfl, _, rfl, ?_⟩
    refine if_join (H1 := H1) _ (fun H2 => Same H H2 ∧ H2 L = some (.lst ((VametBase.flatCond q.cond).map V.int))) ?_ (fun hB c => ?_) (fun c => ⟨s1, ?_⟩)
    · rintro H2 ⟨s2, l2⟩
      refine ⟨_, rfl, .inl ⟨rfl, _, SqL.of l2⟩, _, rfl, a, CQ, dx, _, _, rfl, s2 _ _ e, T.cl, T.nI, qF_i _ _ _ _ _, i, q.input, rfl, Pi.same s2, fun H3 r hr s3 h3 => ⟨L, r, _, _, rfl, rfl, s3 _ _ l2, h3, ?_, ?_⟩⟩
      · rw [List.length_map, List.length_map]
        exact small_le (by omega)
      · have s4 : Same H (upd H3 L (.lst ((VametBase.flatCond q.cond).map V.int ++ (VametBase.flatProgram q.input).map V.int))) := Same.at_new (s2.trans s3) hL
        refine ⟨_, rfl, .inl ⟨rfl, _, SqL.of upd_same⟩, _, rfl, a, CQ, dx, _, _, rfl, s4 _ _ e, T.cl, T.nS, qF_s _ _ _ _ _, L, _, _, rfl, rfl, upd_same, ?_, ?_⟩
        · rw [List.length_append, List.length_map, List.length_map]
          exact small1000' (by omega)
        · have s5 := Same.at_new (o := .lst ((VametBase.flatCond q.cond).map V.int ++ (VametBase.flatProgram q.input).map V.int ++ [.int (VametBase.relNumber q.rel)])) s4 hL
          refine ⟨_, rfl, .inl ⟨rfl, _, SqL.of upd_same⟩, _, rfl, a, CQ, dx, _, _, rfl, s5 _ _ e, T.cl, T.nO, qF_o _ _ _ _ _, o, q.output, rfl, Po.same s5, fun H6 r2 hr2 s6 h6 => ⟨L, r2, _, _, rfl, rfl, s6 _ _ upd_same, h6, ?_, ?_⟩⟩
          · rw [List.length_append, List.length_append, List.length_map, List.length_map, List.length_map]
            exact small_le (by simp only [List.length_cons, List.length_nil]; omega)
          · refine ⟨_, rfl, k _ L hL (Same.at_new (s5.trans s6) hL) ?_⟩
            rw [upd_same]
            refine congrArg (fun z => some (HO.lst z)) ?_
            unfold VametBase.flatRelation
            simp
    · refine ⟨_, rfl, .inl ⟨rfl, _, SqL.of l1⟩, _, rfl, a, CQ, dx, _, _, rfl, s1 _ _ e, T.cl, T.nK, qF_k _ _ _ _ _, L, _, _, rfl, rfl, l1, small1000' (by simp), hB _ ⟨Same.at_new s1 hL, ?_⟩⟩
      have c5 : (Vm.condNum q.cond).1 = 5 := V.int.inj (of_decide_eq_true c)
      rw [upd_same, Vm.flatCond_eq, if_pos c5]
      rfl
    · have c5 : ¬ (Vm.condNum q.cond).1 = 5 := fun z => of_decide_eq_false c (by rw [z])
      rw [l1, Vm.flatCond_eq, if_neg c5]
      rfl
end
end Tg
set_option Elab.async false
set_option linter.all false
set_option maxRecDepth 100000
set_option maxHeartbeats 4000000
namespace Tg
open PySem PySem.Spec PyProof.Rows L2
abbrev sWholeRel : Stmt := top 77
abbrev sAreChained : Stmt := top 79
abbrev sChained : Stmt := top 80
/-- a table of defs, each with its promise -/
structure TxT (K : PySem.W.Frag) (P : Program) (w : World) (mg : Str → Option Value) (base : Heap) (name : Str) (k n : Nat) (sp : Nat → Sp) (TA : Addr) (fs : List Addr) : Prop where
  g : mg name = some (.ref TA)
  sq : ∀ H, SqT K H TA (fs.map V.ref)
  len : fs.length = n
  ok : ∀ (i : Nat) (f : Addr), fs[i]? = some f → Held P w K mg base k f (sp i)
/-- what is told of the class Relation and how it's made -/
structure MkQ (K : PySem.W.Frag) (P : Program) (w : World) (mg : Str → Option Value) (base : Heap) (CQ : Addr) : Prop where
  T : TxQ K mg CQ
  init : ∃ (f : Addr) (fd : FuncData), Mk K CQ f ∧ FnOk P w K mg base CX0 1 f fd ["self", "condition", "least_count", "input_turning", "stand", "output_turning"] (spQInit CQ) ∧ Binds K fd ["self", "condition", "least_count", "input_turning", "stand", "output_turning"] []
theorem chgNew {H H1 H2 : Hp} {x : Addr} (s : Same H H1) (nx : H x = none) (c : Chg [x] H1 H2) : Same H H2 := fun b o z => c b o (by simpa using (fun y : b = x => by rw [y, nx] at z; cases z)) (s b o z)
def spWholeRel (K : PySem.W.Frag) (CQ CN : Addr) : Sp := fun vs H Q E => ∃ (l : Addr) (ns : List Int), vs = [.ref l] ∧ SqL K H l (ns.map V.int) ∧
  (∀ q, VametBase.whole VametBase.readRelation ns = some q → ∀ H' t, H t = none → Same H H' → RelAt CQ H' t q → Q (.ref t) H') ∧
  (VametBase.whole VametBase.readRelation ns = none → ∀ H', Same H H' → E (.ref CN) none H')
def spAreChained (CQ : Addr) : Sp := fun vs H Q _ => ∃ (a b : Addr) (q r : VametBase.Relation), vs = [.ref a, .ref b] ∧ RelAt CQ H a q ∧ RelAt CQ H b r ∧ Q (.bl (Vm.areChained q r)) H
def spChained (CQ : Addr) : Sp := fun vs H Q _ => ∃ (a b : Addr) (q r : VametBase.Relation), vs = [.ref a, .ref b] ∧ RelAt CQ H a q ∧ RelAt CQ H b r ∧ ∀ H' t, H t = none → Same H H' → RelAt CQ H' t ⟨q.cond, q.input, .equal, r.output⟩ → Q (.ref t) H'
/-! ### programs as data -/
def stepD (s : VametBase.Step) : PyData := .tuple [.int (Vm.pairOf s).1, .int (Vm.pairOf s).2]
def progD (pr : List VametBase.Step) : PyData := .tuple (pr.map stepD)
theorem steps_lay : ∀ pr : List VametBase.Step, PyData.canLayAll0 (pr.map stepD) = true
  | [] => rfl
  | s :: pr => by
    show (PyData.canLay0 (stepD s) && PyData.canLayAll0 (pr.map stepD)) = true
    rw [steps_lay pr]
    rfl
theorem steps_depth : ∀ pr : List VametBase.Step, PyData.depthAll (pr.map stepD) ≤ 1
  | [] => by show (0 : Nat) ≤ 1; decide
  | s :: pr => by
    show max (PyData.depth (stepD s)) (PyData.depthAll (pr.map stepD)) ≤ 1
    exact Nat.max_le.mpr ⟨by show (1 : Nat) ≤ 1; decide, steps_depth pr⟩
theorem shaped_prog (pr : List VametBase.Step) : SeqAt.shaped (progD pr) = true := by
  unfold SeqAt.shaped progD
  have h1 : PyData.canLay0 (.tuple (pr.map stepD)) = true := by rw [PyData.canLay0]; exact steps_lay pr
  have h2 : PyData.depth (.tuple (pr.map stepD)) ≤ 64 := by
    rw [PyData.depth]
    have := steps_depth pr
    omega
  rw [h1, decide_eq_true h2]
  rfl
theorem eqv_step (s t : VametBase.Step) : PyData.eqv (stepD s) (stepD t) = decide (s = t) := by
  have h := eqvAll_ints [(Vm.pairOf s).1, (Vm.pairOf s).2] [(Vm.pairOf t).1, (Vm.pairOf t).2]
  unfold stepD
  rw [PyData.eqv]
  refine Eq.trans h (decide_eq_decide.mpr ⟨fun q => Vm.pairOf_inj ?_, fun q => by rw [q]⟩)
  have q1 : (Vm.pairOf s).1 = (Vm.pairOf t).1 ∧ (Vm.pairOf s).2 = (Vm.pairOf t).2 := by simpa using q
  exact Prod.ext q1.1 q1.2
theorem eqvAll_steps : ∀ p q : List VametBase.Step, PyData.eqvAll (p.map stepD) (q.map stepD) = decide (p = q)
  | [], [] => by simp [PyData.eqvAll]
  | [], _ :: _ => by simp [PyData.eqvAll]
  | _ :: _, [] => by simp [PyData.eqvAll]
  | s :: p, t :: q => by
    rw [List.map_cons, List.map_cons, PyData.eqvAll, eqvAll_steps p q, eqv_step]
    by_cases c : s = t
    · subst c
      by_cases d : p = q
      · simp [d]
      · simp [d]
    · simp [c]
theorem eqv_prog (p q : List VametBase.Step) : PyData.eqv (progD p) (progD q) = decide (p = q) := by
  unfold progD
  rw [PyData.eqv]
  exact eqvAll_steps p q
theorem dp_steps {K : PySem.W.Frag} {H : Hp} : ∀ {us : List Addr} {pr : List VametBase.Step}, StepsAt H us pr → DpAll K H (us.map V.ref) (pr.map stepD)
  | [], [], _ => .nil
  | _ :: _, _ :: _, h => .cons (.tup (SqT.of h.1) (.cons (.int _) (.cons (.int _) .nil))) (dp_steps h.2)
  | [], _ :: _, h => h.elim
  | _ :: _, [], h => h.elim
theorem dp_prog {K : PySem.W.Frag} {n : Nat} {H : Hp} {t : Addr} {pr : List VametBase.Step} (h : ProgAtN n H t pr) : Dp K H (.ref t) (progD pr) := by
  obtain ⟨us, h1, h2, _⟩ := h
  exact .tup (SqT.of h1) (dp_steps h2)
section
variable {P : Program} {w : World} {K : PySem.W.Frag} {mg : Str → Option Value} {base : Heap} {CR CN CQ QA SA : Addr} {cs ss : List Addr}
theorem scWRl : FnScope ["numbers", "reader", "condition", "least_count", "input_turning", "stand", "output_turning"] ["numbers"] (defScope sWholeRel) := ⟨rfl, rfl, rfl, by decide +kernel, rfl, by decide +kernel, by decide +kernel⟩
theorem ok_wholeRel {f fP : Addr} {fd fdP : FuncData} {t5 : Tok} (F : Fun K "whole_relation" "whole_relation" sWholeRel f fd) (M : MkR K P w mg base CR CN) (MQ : MkQ K P w mg base CQ) (TC : TxT K P w mg base "CONDITIONS" 1 6 spCond QA cs) (TS : TxT K P w mg base "STANDS" 2 7 spStand SA ss) (g5 : mg "HAS_COUNT" = some (.int 5 t5))
    (GP : FnOk P w K mg base (L2.CX P w) 6 fP fdP ["reader"] (spProg K CR CN)) (bP : Binds K fdP ["reader"] []) (gP : mg "taken_program" = some (.ref fP)) (kP : PySem.W.keepIn K (.ref fP) = true) :
    FnOk P w K mg base (L2.CX P w) 7 f fd ["numbers"] (spWholeRel K CQ CN) := by
  have T := M.T
  obtain ⟨fI, fdI, mkI, GI, bI⟩ := M.init
  obtain ⟨fB, fdB, GB, bB, mB⟩ := M.between
  obtain ⟨fE, fdE, GE, bE, mE⟩ := M.mustEnd
  obtain ⟨fQ, fdQ, mkQ, GQ, bQ⟩ := MQ.init
  have TQ := MQ.T
  refine F.okX scWRl (fun vs H Q E h => ?_) (fun cdv A outer s H vs Q E hr h => ⟨_, pss_cons (ps_set (i := 1) scWRl.nd rfl (Or.inl rfl) (pe_make mkI GI (hr.mono (by decide)) rfl T.gR bI .nil pass0 (pa_cons (pv 0) pa_nil)))
    (pss_cons (ps_set (i := 2) scWRl.nd rfl (Or.inl rfl) (pe_meth (pv 1) T.cl mB GB (hr.mono (by decide)) bB .nil (passes_call (takes_of rfl rfl rfl rfl) (fun _ _ _ _ h => h)) (pa_cons pe_int (pa_cons (pe_op op_sub (pe_callB call_len_seq (by rfl) T.len PySem.boot_len (pa_cons (pe_glob (v := .ref QA) rfl TC.g rfl) pa_nil)) pe_int) pa_nil))))
    (pss_cons (ps_set (i := 3) scWRl.nd rfl (Or.inl rfl) (pe_ifExp (pt_cmpR op_eq (pv 2) (pe_glob (v := .int 5) rfl g5 ⟨_, rfl⟩) (nomark _)) (pe_meth (pv 1) T.cl mB GB (hr.mono (by decide)) bB .nil (passes_call (takes_of rfl rfl rfl rfl) (fun _ _ _ _ h => h)) (pa_cons pe_int (pa_cons pe_int pa_nil))) pe_int))
    (pss_cons (ps_set (i := 4) scWRl.nd rfl (Or.inl rfl) (pe_call GP hr rfl gP kP bP .nil (passes_call (takes_of rfl rfl rfl rfl) (fun _ _ _ _ h => h)) (pa_cons (pv 1) pa_nil)))
    (pss_cons (ps_set (i := 5) scWRl.nd rfl (Or.inl rfl) (pe_meth (pv 1) T.cl mB GB (hr.mono (by decide)) bB .nil (passes_call (takes_of rfl rfl rfl rfl) (fun _ _ _ _ h => h)) (pa_cons pe_int (pa_cons (pe_op op_sub (pe_callB call_len_seq (by rfl) T.len PySem.boot_len (pa_cons (pe_glob (v := .ref SA) rfl TS.g rfl) pa_nil)) pe_int) pa_nil))))
    (pss_cons (ps_set (i := 6) scWRl.nd rfl (Or.inl rfl) (pe_call GP hr rfl gP kP bP .nil (passes_call (takes_of rfl rfl rfl rfl) (fun _ _ _ _ h => h)) (pa_cons (pv 1) pa_nil)))
    (pss_cons (ps_expr (pe_meth0 (pv 1) T.cl mE GE (hr.mono (by decide)) bE .nil (passes_call (takes_of rfl rfl rfl rfl) (fun _ _ _ _ h => h))))
    (pss_one (ps_ret (pe_make mkQ GQ (hr.mono (by decide)) rfl TQ.gQ bQ .nil pass0 (pa_cons (pv 2) (pa_cons (pv 3) (pa_cons (pv 4) (pa_cons (pv 5) (pa_cons (pv 6) pa_nil)))))))))))))), ?_⟩)
  · obtain ⟨l, ns, rfl, _⟩ := h
    rfl
  · obtain ⟨l, ns, rfl, hS, kY, kN⟩ := h
    have lC : (((cs.map V.ref).length : Nat) : Int) - 1 = 5 := by rw [List.length_map, TC.len]; rfl
    have lS : (((ss.map V.ref).length : Nat) : Int) - 1 = 6 := by rw [List.length_map, TS.len]; rfl
    refine ⟨_, rfl, fun x dx nx nd ne => ⟨x, dx, l, rfl, upd_same, fun H1 A1 c1 => ⟨rfl, ?_⟩⟩⟩
    have s1 : Same H H1 := same_made nx nd c1
    have R1 : Rdr K CR H1 x l ns 0 := ⟨A1, s1.seq hS, Nat.zero_le _⟩
    obtain ⟨dx1, e1⟩ := id A1
    refine ⟨_, rfl, x, dx1, _, rfl, e1, rF_between l _, QA, _, rfl, .inr (TC.sq H1), _, _, rfl, rfl, x, l, ns, 0, _, _, rfl, R1, fun v hv hlo hhi H2 R2 c2 => ?_, fun hno H2 c2 _ => ?_⟩
    · rw [lC] at hhi
      have s2 : Same H H2 := chgNew s1 nx c2
      have e0 : ns = v :: ns.drop 1 := Vm.drop_at hv
      obtain ⟨dx2, e2⟩ := id R2.at_
      refine ⟨_, rfl, rfl, _, rfl, ?_⟩
      refine if_2 (fun q5 => ?_) fun q5 => ?_
      focus
        have q5' : v = 5 := V.int.inj (of_decide_eq_true q5)
        refine ⟨_, rfl, x, dx2, _, rfl, e2, rF_between l _, x, l, ns, _, _, _, rfl, R2, fun u hu hlo2 hhi2 H3 R3 c3 => ?_, fun hno H3 c3 _ => kN (Vm.whole_no (Vm.rr0 ?_)) H3 (chgNew s2 nx c3)⟩
        obtain ⟨c, hrd, hcn⟩ : ∃ c, VametBase.readCond ns = some (c, ns.drop (0 + 1 + 1)) ∧ Vm.condNum c = (v, u) := by
          have e3 : ns.drop 1 = u :: ns.drop 2 := Vm.drop_at hu
          rw [q5']
          obtain ⟨c, h1, h2⟩ := Vm.readCond_five_yes (r := ns.drop 2) hlo2 hhi2
          refine ⟨c, ?_, h2⟩
          rw [← e3, ← q5', ← e0] at h1
          exact h1
        have s3 : Same H H3 := chgNew s2 nx c3
      rotate_left
      focus
        have e3 : VametBase.readCond (5 :: ns.drop 1) = none := Vm.readCond_five_no fun z hz => hno z (by rw [List.getElem?_drop] at hz; exact hz)
        rw [← q5', ← e0] at e3
        exact e3
      focus
        have q5' : ¬ v = 5 := fun z => of_decide_eq_false q5 (by rw [z])
        obtain ⟨c, hrd, hcn⟩ : ∃ c, VametBase.readCond ns = some (c, ns.drop (0 + 1)) ∧ Vm.condNum c = (v, 0) := by
          obtain ⟨c, h1, h2⟩ := Vm.readCond_plain (v := v) (r := ns.drop 1) hlo (by omega)
          refine ⟨c, ?_, h2⟩
          rw [← e0] at h1
          exact h1
        have s3 := s2
        have R3 := R2
      all_goals
        refine ⟨_, rfl, x, l, ns, _, rfl, R3, fun pi r4 hpi H4 t4 p4 ht4 c4 R4 hq4 P4 => ?_, fun hno H4 c4 _ => kN (Vm.whole_no (Vm.rr1 hrd hno)) H4 (chgNew s3 nx c4)⟩
        subst hq4
        have s4 : Same H H4 := chgNew s3 nx c4
        obtain ⟨dx4, e4⟩ := id R4.at_
        refine ⟨_, rfl, x, dx4, _, rfl, e4, rF_between l _, SA, _, rfl, .inr (TS.sq H4), _, _, rfl, rfl, x, l, ns, p4, _, _, rfl, R4, fun z hz hlo5 hhi5 H5 R5 c5 => ?_, fun hno H5 c5 _ => kN (Vm.whole_no (Vm.rr2 hrd hpi (Vm.readRel_out fun z hz => ?_))) H5 (chgNew s4 nx c5)⟩
        focus
          rw [lS] at hhi5
          have s5 : Same H H5 := chgNew s4 nx c5
          obtain ⟨rl, hrl, hrn⟩ := Vm.readRel_yes (r := ns.drop (p4 + 1)) hlo5 hhi5
          rw [← Vm.drop_at hz] at hrl
          refine ⟨_, rfl, x, l, ns, _, rfl, R5, fun po r6 hpo H6 t6 p6 ht6 c6 R6 hq6 P6 => ?_, fun hno H6 c6 _ => kN (Vm.whole_no (Vm.rr3 hrd hpi hrl hno)) H6 (chgNew s5 nx c6)⟩
          subst hq6
          have s6 : Same H H6 := chgNew s5 nx c6
          obtain ⟨dx6, e6⟩ := id R6.at_
          have hall := Vm.rr4 hrd hpi hrl hpo
          have P4' : ProgAt H6 t4 pi := (P4.map fun u xs z => c5.tupI R4.ins z).map fun u xs z => c6.tupI R5.ins z
          refine ⟨_, rfl, x, dx6, _, rfl, e6, rF_mustEnd l _, x, l, ns, p6, rfl, R6, fun hq => ?_, fun hq => kN (Vm.whole_more hall (fun z => ?_)) H6 s6⟩
          focus
            refine ⟨_, rfl, _, rfl, _, rfl, _, rfl, _, rfl, fun y dy ny ndy ne2 => ⟨y, dy, t4, t6, _, _, _, rfl, upd_same, fun H8 A8 c8 => ⟨rfl, ?_⟩⟩⟩
            have s8 : Same H6 H8 := same_made ny ndy c8
            obtain ⟨dy8, e8⟩ := A8
            refine kY _ (Vm.whole_all hall (by rw [hq, List.drop_length])) H8 y (s6.free ny) (s6.trans s8) ⟨dy8, t4, t6, ?_, P4'.same s8, P6.same s8⟩
            rw [e8, hcn, hrn]
          have := congrArg List.length z
          rw [List.length_drop, List.length_nil] at this
          omega
        rw [List.getElem?_drop] at hz
        have := hno z hz
        rw [lS] at this
        exact this
    · refine kN (Vm.whole_no (Vm.rr0 (Vm.readCond_out fun z hz => ?_))) H2 (chgNew s1 nx c2)
      have := hno z hz
      rw [lC] at this
      exact this
theorem scAC : FnScope ["first", "second", "stand_so"] ["first", "second"] (defScope sAreChained) := ⟨rfl, rfl, rfl, by decide +kernel, rfl, by decide +kernel, by decide +kernel⟩
theorem ok_areChained {f : Addr} {fd : FuncData} {ta te : Tok} (F : Fun K "are_chained" "are_chained" sAreChained f fd) (T : TxQ K mg CQ) (gA : mg "ANY" = some (.int 0 ta)) (gE : mg "EQUAL" = some (.int 0 te)) : FnOk P w K mg base CX0 1 f fd ["first", "second"] (spAreChained CQ) := by
  refine F.ok scAC (fun vs H Q E h => ?_) (fun cdv A outer s H vs Q E hr h => ⟨_, pss_cons (ps_set (i := 2) scAC.nd rfl (Or.inl rfl) (pe_and (pe_cmpR op_eq (pe_fld (pv 0) rfl) (pe_glob (v := .int 0) rfl gE ⟨_, rfl⟩) (nomark _)) (pe_one (pe_cmpR op_eq (pe_fld (pv 1) rfl) (pe_glob (v := .int 0) rfl gE ⟨_, rfl⟩) (nomark _)))))
    (pss_one (ps_ret (pe_and (pv 2) (pe_and (pe_cmpR (op_eqD hr.units) (pe_fld (pv 0) rfl) (pe_fld (pv 1) rfl) (nomark _)) (pe_one (pe_cmpR op_eq (pe_fld (pv 1) rfl) (pe_glob (v := .int 0) rfl gA ⟨_, rfl⟩) (nomark _))))))), ?_⟩)
  · obtain ⟨a, b, q, r, rfl, _⟩ := h
    rfl
  · obtain ⟨a, b, q, r, rfl, hq, hr', k⟩ := h
    obtain ⟨da, ia, oa, ea, Pia, Poa⟩ := id hq
    obtain ⟨db, ib, ob, eb, Pib, Pob⟩ := id hr'
    have no : ¬ (VametBase.relNumber q.rel = 0 ∧ VametBase.relNumber r.rel = 0 ∧ q.output = r.input ∧ (Vm.condNum r.cond).1 = 0) → Q (.bl false) H := fun z => by
      have : Vm.areChained q r = false := decide_eq_false fun y => z (Vm.chained_iff.mpr y)
      rw [this] at k
      exact k
    refine ⟨_, rfl, a, CQ, da, _, _, rfl, ea, T.cl, T.nS, qF_s _ _ _ _ _, rfl, _, rfl, ?_⟩
    refine if_2 (fun q1 => ?_) fun q1 => ?_
    · have q1' : VametBase.relNumber q.rel = 0 := V.int.inj (of_decide_eq_true q1)
      refine ⟨_, rfl, b, CQ, db, _, _, rfl, eb, T.cl, T.nS, qF_s _ _ _ _ _, rfl, ?_⟩
      refine ⟨_, rfl, _, rfl, ?_⟩
      refine if_2 (fun q2 => ?_) fun q2 => ?_
      · have q2' : VametBase.relNumber r.rel = 0 := V.int.inj (of_decide_eq_true q2)
        refine ⟨_, rfl, a, CQ, da, _, _, rfl, ea, T.cl, T.nO, qF_o _ _ _ _ _, _, rfl, b, CQ, db, _, _, rfl, eb, T.cl, T.nI, qF_i _ _ _ _ _, _, _, dp_prog Poa, dp_prog Pib, shaped_prog _, shaped_prog _, _, rfl, ?_⟩
        rw [eqv_prog]
        refine if_2 (fun q3 => ?_) fun q3 => ?_
        · have q3' := of_decide_eq_true q3
          refine ⟨_, rfl, b, CQ, db, _, _, rfl, eb, T.cl, T.nC, qF_c _ _ _ _ _, rfl, ?_⟩
          refine at_val (congrArg V.bl ?_) k
          refine decide_eq_decide.mpr ⟨fun z => Vm.chained_iff.mp ⟨q1', q2', q3', V.int.inj z⟩, fun z => by rw [(Vm.chained_iff.mpr z).2.2.2]⟩
        · exact no fun z => of_decide_eq_false q3 z.2.2.1
      · exact no fun z => of_decide_eq_false q2 (by rw [z.2.1])
    · refine ⟨_, rfl, _, rfl, ?_⟩
      exact if_f rfl (no fun z => of_decide_eq_false q1 (by rw [z.1]))
theorem scCh : FnScope ["first", "second"] ["first", "second"] (defScope sChained) := ⟨rfl, rfl, rfl, by decide +kernel, rfl, by decide +kernel, by decide +kernel⟩
theorem ok_chained {f : Addr} {fd : FuncData} {te : Tok} (F : Fun K "chained" "chained" sChained f fd) (MQ : MkQ K P w mg base CQ) (gE : mg "EQUAL" = some (.int 0 te)) : FnOk P w K mg base CX0 3 f fd ["first", "second"] (spChained CQ) := by
  obtain ⟨fQ, fdQ, mkQ, GQ, bQ⟩ := MQ.init
  have T := MQ.T
  refine F.ok scCh (fun vs H Q E h => ?_) (fun cdv A outer s H vs Q E hr h => ⟨_, pss_one (ps_ret (pe_make mkQ GQ hr rfl T.gQ bQ .nil pass0 (pa_cons (pe_fld (pv 0) rfl) (pa_cons (pe_fld (pv 0) rfl) (pa_cons (pe_fld (pv 0) rfl) (pa_cons (pe_glob (v := .int 0) rfl gE ⟨_, rfl⟩) (pa_cons (pe_fld (pv 1) rfl) pa_nil))))))), ?_⟩)
  · obtain ⟨a, b, q, r, rfl, _⟩ := h
    rfl
  · obtain ⟨a, b, q, r, rfl, hq, hr', k⟩ := h
    obtain ⟨da, ia, oa, ea, Pia, Poa⟩ := id hq
    obtain ⟨db, ib, ob, eb, Pib, Pob⟩ := id hr'
    refine ⟨_, rfl, a, CQ, da, _, _, rfl, ea, T.cl, T.nC, qF_c _ _ _ _ _, _, rfl, a, CQ, da, _, _, rfl, ea, T.cl, T.nK, qF_k _ _ _ _ _, _, rfl, a, CQ, da, _, _, rfl, ea, T.cl, T.nI, qF_i _ _ _ _ _, _, rfl, b, CQ, db, _, _, rfl, eb, T.cl, T.nO, qF_o _ _ _ _ _, fun y dy ny ndy ne2 => ⟨y, dy, ia, ob, _, _, _, rfl, upd_same, fun H8 A8 c8 => ⟨rfl, ?_⟩⟩⟩
    have s8 : Same H H8 := same_made ny ndy c8
    obtain ⟨dy8, e8⟩ := A8
    exact k H8 y ny s8 ⟨dy8, ia, ob, e8, Pia.same s8, Pob.same s8⟩
end
end Tg
set_option Elab.async false
set_option linter.all false
set_option maxRecDepth 100000
set_option maxHeartbeats 4000000
namespace Tg
open PySem PySem.Spec PyProof.Rows L2
abbrev sState : Stmt := top 81
theorem StepsAt.append {H : Hp} : ∀ {us : List Addr} {ss : List VametBase.Step} {vs : List Addr} {tt : List VametBase.Step}, StepsAt H us ss → StepsAt H vs tt → StepsAt H (us ++ vs) (ss ++ tt)
  | [], [], _, _, _, h => h
  | _ :: us, _ :: ss, _, _, h, k => ⟨h.1, StepsAt.append h.2 k⟩
  | [], _ :: _, _, _, h, _ => h.elim
  | _ :: _, [], _, _, h, _ => h.elim
/-- one program behind another -/
theorem catP {K : PySem.W.Frag} {n m : Nat} {H : Hp} {Q : VK} {a b : Addr} {p q : List VametBase.Step} (ha : ProgAtN n H a p) (hb : ProgAtN m H b q) (hl : n + m ≤ 1000) (k : ∀ H' t, Same H H' → ProgAtN (n + m) H' t (p ++ q) → Q (.ref t) H') : rCatA K (.ref a) (.ref b) H Q := by
  obtain ⟨us, h1, h2, h3, h4⟩ := ha
  obtain ⟨vs, g1, g2, g3, g4⟩ := hb
  refine catA h1 g1 ?_ fun H' t s h => k H' t s ⟨us ++ vs, ?_, (h2.map fun u xs z => s _ _ z).append (g2.map fun u xs z => s _ _ z), ?_, fun z hz => ?_⟩
  · rw [List.length_map, List.length_map, h2.length, g2.length]
    exact small_le (by omega)
  · rw [h, List.map_append]
  · rw [List.length_append]
    omega
  · rcases List.mem_append.mp hz with hz | hz
    · exact h4 z hz
    · exact g4 z hz
def spState (CQ : Addr) : Sp := fun vs H Q _ => ∃ (a p r : Addr) (q : VametBase.Relation) (pr : List VametBase.Step) (x : List Int), vs = [.ref a, .ref p, .ref r] ∧ RelAt CQ H a q ∧ ProgAtN 16 H p pr ∧ H r = some (.tup (x.map V.int)) ∧ VametBase.within x = true ∧
  ∀ H', Same H H' → Q (.int ((Vm.vNum (VametBase.verdict pr q x) : Nat) : Int)) H'
section
variable {P : Program} {w : World} {K : PySem.W.Frag} {mg : Str → Option Value} {base : Heap} {CR CN CQ QA SA : Addr} {cs ss : List Addr}
theorem scSa : FnScope ["relation", "program", "row", "is_so", "left", "right", "stand_so"] ["relation", "program", "row"] (defScope sState) := ⟨rfl, rfl, rfl, by decide +kernel, rfl, by decide +kernel, by decide +kernel⟩
theorem ok_state {f fO : Addr} {fd fdO : FuncData} {t0 t1 t2 : Tok} (F : Fun K "state_at" "state_at" sState f fd) (T : TxQ K mg CQ) (TC : TxT K P w mg base "CONDITIONS" 1 6 spCond QA cs) (TS : TxT K P w mg base "STANDS" 2 7 spStand SA ss)
    (g0 : mg "KEPT" = some (.int 0 t0)) (g1 : mg "BROKEN" = some (.int 1 t1)) (g2 : mg "OFF" = some (.int 2 t2))
    (GO : FnOk P w K mg base CX0 2 fO fdO ["program", "row"] spOutcome) (bO : Binds K fdO ["program", "row"] []) (gO : mg "outcome_of" = some (.ref fO)) (kO : PySem.W.keepIn K (.ref fO) = true) :
    FnOk P w K mg base CX0 3 f fd ["relation", "program", "row"] (spState CQ) := by
  refine F.ok scSa (fun vs H Q E h => ?_) (fun cdv A outer s H vs Q E hr h => ⟨_, pss_cons (ps_set (i := 3) scSa.nd rfl (Or.inl rfl) (pe_ix ix_tup (pe_glob (v := .ref QA) rfl TC.g rfl) (pe_fld (pv 0) rfl) (fun _ _ => rfl)))
    (pss_cons (ps_if (pt_not (pt_val (pe_callR (i := 3) (S := fun f sp => ∃ j : Nat, cs[j]? = some f ∧ sp = spCond j) (fun f sp q => by obtain ⟨j, hj, rfl⟩ := q; exact TC.ok j f hj) (hr.mono (by decide)) rfl (Or.inl rfl) (pa_cons (pv 2) (pa_cons (pe_fld (pv 0) rfl) pa_nil))))) (pss_one (ps_ret (pe_glob (v := .int 2) rfl g2 ⟨_, rfl⟩))) pss_nil)
    (pss_cons (ps_set (i := 4) scSa.nd rfl (Or.inl rfl) (pe_call GO hr rfl gO kO bO .nil pass0 (pa_cons (pe_op op_catA (pe_fld (pv 0) rfl) (pv 1)) (pa_cons (pv 2) pa_nil))))
    (pss_cons (ps_set (i := 5) scSa.nd rfl (Or.inl rfl) (pe_call GO hr rfl gO kO bO .nil pass0 (pa_cons (pe_op op_catA (pv 1) (pe_fld (pv 0) rfl)) (pa_cons (pv 2) pa_nil))))
    (pss_cons (ps_if (PW.pt (pw_or (pt_cmpR op_isN (pv 4) pe_non (nomark _)) (pw_or1 (pt_cmpR op_isN (pv 5) pe_non (nomark _))))) (pss_one (ps_ret (pe_glob (v := .int 2) rfl g2 ⟨_, rfl⟩))) pss_nil)
    (pss_cons (ps_set (i := 6) scSa.nd rfl (Or.inl rfl) (pe_ix ix_tup (pe_glob (v := .ref SA) rfl TS.g rfl) (pe_fld (pv 0) rfl) (fun _ _ => rfl)))
    (pss_one (ps_ret (pe_ifExp (pt_val (pe_callR (i := 6) (S := fun f sp => ∃ j : Nat, ss[j]? = some f ∧ sp = spStand j) (fun f sp q => by obtain ⟨j, hj, rfl⟩ := q; exact TS.ok j f hj) hr rfl (Or.inl rfl) (pa_cons (pv 4) (pa_cons (pv 5) pa_nil))))
      (pe_glob (v := .int 0) rfl g0 ⟨_, rfl⟩) (pe_glob (v := .int 1) rfl g1 ⟨_, rfl⟩))))))))), ?_⟩)
  · obtain ⟨a, p, r, q, pr, x, rfl, _⟩ := h
    rfl
  · obtain ⟨a, p, r, q, pr, x, rfl, hq, hp, hr0, hx, k⟩ := h
    obtain ⟨da, ia, oa, ea, Pi, Po⟩ := id hq
    obtain ⟨j, hj, hj5⟩ := Vm.condNum_kind q.cond
    obtain ⟨fj, hfj⟩ : ∃ fj, cs[j]? = some fj := ⟨cs[j]'(by rw [TC.len]; omega), List.getElem?_eq_getElem _⟩
    obtain ⟨i, hi, hi6⟩ := Vm.relNumber_kind q.rel
    obtain ⟨fi, hfi⟩ : ∃ fi, ss[i]? = some fi := ⟨ss[i]'(by rw [TS.len]; omega), List.getElem?_eq_getElem _⟩
    have hxl := len40 hx
    have off : ∀ H', Same H H' → VametBase.verdict pr q x = .off → Q (.int 2) H' := fun H' s e => by
      have := k H' s
      rw [e] at this
      exact this
    refine ⟨_, rfl, a, CQ, da, _, _, rfl, ea, T.cl, T.nC, qF_c _ _ _ _ _, QA, _, _, .ref fj, rfl, rfl, TC.sq H, by rw [hj]; exact atI_nat (by rw [List.getElem?_map, hfj]; rfl), ?_⟩
    refine ⟨fj, _, rfl, ⟨j, hfj, rfl⟩, _, rfl, _, rfl, a, CQ, da, _, _, rfl, ea, T.cl, T.nK, qF_k _ _ _ _ _, q.cond, r, _, x, rfl, Prod.ext hj rfl, hr0, by omega, fun H1 s1 => ⟨_, rfl, ?_⟩⟩
    refine if_2 (fun z => ?_) fun z => ?_
    · exact off H1 s1 (Vm.verdict_off (not_t z))
    · have hfit := not_f z
      refine ⟨_, rfl, a, CQ, da, _, _, rfl, s1 _ _ ea, T.cl, T.nI, qF_i _ _ _ _ _, _, rfl, ?_⟩
      refine catP (Pi.same s1) (hp.same s1) (by decide) fun H2 t2 s2 P2 => ?_
      refine ⟨_, rfl, t2, r, _, x, rfl, P2, s2 _ _ (s1 _ _ hr0), hx, fun H3 v3 s3 o3 => ?_⟩
      have s13 : Same H H3 := (s1.trans s2).trans s3
      refine ⟨_, rfl, _, rfl, a, CQ, da, _, _, rfl, s13 _ _ ea, T.cl, T.nO, qF_o _ _ _ _ _, ?_⟩
      refine catP (hp.same s13) (Po.same s13) (by decide) fun H4 t4 s4 P4 => ?_
      refine ⟨_, rfl, t4, r, _, x, rfl, P4, s4 _ _ (s13 _ _ hr0), hx, fun H5 v5 s5 o5 => ?_⟩
      have s15 : Same H H5 := (s13.trans s4).trans s5
      have o3' : OutAt H5 v3 (VametBase.run (q.input ++ pr) x) := o3.same (s4.trans s5)
      rcases o3' with ⟨rfl, n3⟩ | ⟨u3, y3, rfl, n3, h3⟩
      · refine ⟨_, rfl, rfl, _, rfl, if_t rfl (if_t rfl ?_)⟩
        exact off H5 s15 (Vm.verdict_none (.inl n3))
      · rcases o5 with ⟨rfl, n5⟩ | ⟨u5, y5, rfl, n5, h5⟩
        · refine ⟨_, rfl, rfl, _, rfl, if_f rfl ⟨_, rfl, rfl, _, rfl, if_t rfl ?_⟩⟩
          exact off H5 s15 (Vm.verdict_none (.inr n5))
        · have w3 := len40 (Vm.run_within hx n3)
          have w5 := len40 (Vm.run_within hx n5)
          refine ⟨_, rfl, rfl, _, rfl, if_f rfl ⟨_, rfl, rfl, _, rfl, if_f rfl ?_⟩⟩
          refine ⟨_, rfl, a, CQ, da, _, _, rfl, s15 _ _ ea, T.cl, T.nS, qF_s _ _ _ _ _, SA, _, _, .ref fi, rfl, rfl, TS.sq H5, by rw [hi]; exact atI_nat (by rw [List.getElem?_map, hfi]; rfl), ?_⟩
          refine ⟨fi, _, rfl, ⟨i, hfi, rfl⟩, _, rfl, _, rfl, q.rel, u3, u5, y3, y5, rfl, hi, h3, h5, by omega, by omega, fun H6 s6 => ⟨_, rfl, ?_⟩⟩
          have := k H6 (s15.trans s6)
          rw [Vm.verdict_both hfit n3 n5] at this
          refine if_2 (fun z => ?_) fun z => ?_
          · rw [z] at this
            exact this
          · rw [z] at this
            exact this
end
end Tg
set_option Elab.async false
set_option linter.all false
set_option maxRecDepth 100000
set_option maxHeartbeats 4000000
namespace Tg
open PySem PySem.Spec PyProof.Rows L2
abbrev sChain : Stmt := top 104
abbrev sKept : Stmt := top 105
/-- the defs about relations, as the calls use them -/
structure Rls (K : PySem.W.Frag) (P : Program) (w : World) (mg : Str → Option Value) (base : Heap) (CN CQ : Addr) : Prop where
  whole : ∃ (f : Addr) (fd : FuncData), FnOk P w K mg base (L2.CX P w) 7 f fd ["numbers"] (spWholeRel K CQ CN) ∧ Binds K fd ["numbers"] [] ∧ mg "whole_relation" = some (.ref f) ∧ PySem.W.keepIn K (.ref f) = true
  nums : ∃ (f : Addr) (fd : FuncData), FnOk P w K mg base CX0 2 f fd ["relation"] (spRelNums CQ) ∧ Binds K fd ["relation"] [] ∧ mg "relation_numbers" = some (.ref f) ∧ PySem.W.keepIn K (.ref f) = true
  are : ∃ (f : Addr) (fd : FuncData), FnOk P w K mg base CX0 1 f fd ["first", "second"] (spAreChained CQ) ∧ Binds K fd ["first", "second"] [] ∧ mg "are_chained" = some (.ref f) ∧ PySem.W.keepIn K (.ref f) = true
  chained : ∃ (f : Addr) (fd : FuncData), FnOk P w K mg base CX0 3 f fd ["first", "second"] (spChained CQ) ∧ Binds K fd ["first", "second"] [] ∧ mg "chained" = some (.ref f) ∧ PySem.W.keepIn K (.ref f) = true
  state : ∃ (f : Addr) (fd : FuncData), FnOk P w K mg base CX0 3 f fd ["relation", "program", "row"] (spState CQ) ∧ Binds K fd ["relation", "program", "row"] [] ∧ mg "state_at" = some (.ref f) ∧ PySem.W.keepIn K (.ref f) = true
theorem flatRel_len {CQ : Addr} {H : Hp} {a : Addr} {q : VametBase.Relation} (h : RelAt CQ H a q) : (VametBase.flatRelation q).length ≤ 1000 := by
  obtain ⟨_, _, _, _, ⟨_, _, _, h3, _⟩, ⟨_, _, _, g3, _⟩⟩ := h
  have h1 := Vm.flat_length q.input
  have h2 := Vm.flat_length q.output
  have h4 : (VametBase.flatCond q.cond).length ≤ 2 := by cases q.cond <;> simp [VametBase.flatCond]
  unfold VametBase.flatRelation VametBase.flatProgram
  simp only [List.length_append, List.length_cons]
  omega
section
variable {P : Program} {w : World} {K : PySem.W.Frag} {mg : Str → Option Value} {base : Heap} {CR CN CS CQ : Addr}
theorem scCn : FnScope ["setting", "reader", "first_numbers", "second_numbers", "first", "second"] ["setting", "reader"] (defScope sChain) := ⟨rfl, rfl, rfl, by decide +kernel, rfl, by decide +kernel, by decide +kernel⟩
theorem ok_chain {f : Addr} {fd : FuncData} (F : Fun K "answer_chain" "answer_chain" sChain f fd) (M : MkR K P w mg base CR CN) (TS : TxS K mg CS) (L : Rls K P w mg base CN CQ) : FnOk P w K mg base CX0 8 f fd ["setting", "reader"] (spAns K CR CS 11) := by
  have T := M.T
  obtain ⟨fC, fdC, GC, bC, mC⟩ := M.counted
  obtain ⟨fW, fdW, GW, bW, gW, kW⟩ := L.whole
  obtain ⟨fN, fdN, GN, bN, gN, kN⟩ := L.nums
  obtain ⟨fA, fdA, GA, bA, gA, kA⟩ := L.are
  obtain ⟨fH, fdH, GH, bH, gH, kH⟩ := L.chained
  refine F.ok scCn (fun vs H Q E h => ?_) (fun cdv A outer s H vs Q E hr h => ⟨_, pss_cons (ps_set (i := 2) scCn.nd rfl (Or.inl rfl) (pe_meth0 (pv 1) T.cl mC GC (hr.mono (by decide)) bC .nil pass0))
    (pss_cons (ps_set (i := 3) scCn.nd rfl (Or.inl rfl) (pe_meth0 (pv 1) T.cl mC GC (hr.mono (by decide)) bC .nil pass0))
    (pss_cons (ps_try_only (tb := fun W => tSeq (tAsg (tCallS (spWholeRel K CQ CN) (WE W) (tCons (tVar 2) tNil)) (gName 4)) (tAsg (tCallS (spWholeRel K CQ CN) (WE W) (tCons (tVar 3) tNil)) (gName 5))) (ts := fun _ _ _ => tRet (tLst (tCons (tUn (rU fun i => .int (-i)) (tC (.int 5))) tNil))) (Wout := fun _ _ _ _ => False) rfl rfl ⟨rfl, by decide, .inl T.gN⟩ takes0
        (fun W pn xe tk _ => pss_cons (ps_set (i := 4) scCn.nd rfl (Or.inl rfl) (pe_callS GW hr rfl gW kW bW (fun σ => passAt tk σ) (pa_cons (pv 2) pa_nil)))
          (pss_one (ps_set (i := 5) scCn.nd rfl (Or.inl rfl) (pe_callS GW hr rfl gW kW bW (fun σ => passAt tk σ) (pa_cons (pv 3) pa_nil)))))
        (fun _ _ _ _ _ _ _ => pss_one (ps_ret (pe_lst (pa_cons (pe_un un_neg pe_int) pa_nil)))))
    (pss_cons (ps_if (pt_not (pt_val (pe_call GA (hr.mono (by decide)) rfl gA kA bA .nil pass0 (pa_cons (pv 4) (pa_cons (pv 5) pa_nil))))) (pss_one (ps_ret (pe_lst (pa_cons pe_int pa_nil)))) pss_nil)
    (pss_one (ps_ret (pe_op op_cat (pe_lst (pa_cons pe_int pa_nil)) (pe_call GN (hr.mono (by decide)) rfl gN kN bN .nil pass0 (pa_cons (pe_call GH (hr.mono (by decide)) rfl gH kH bH .nil pass0 (pa_cons (pv 4) (pa_cons (pv 5) pa_nil))) pa_nil)))))))), ?_⟩)
  · obtain ⟨s, pl, a, l, st, ns, p, c, rest, rfl, _⟩ := h
    rfl
  · obtain ⟨s, pl, a, l, st, ns, p, c, rest, rfl, hS, R, hl, hc, k⟩ := h
    obtain ⟨ks, rs, hd, rfl⟩ := Vm.call02 rfl hc
    obtain ⟨hx, hd1, hp1⟩ := Vm.drop_cons hd
    obtain ⟨ht2, hd2, hp2⟩ := Vm.drop_app hd1 hp1
    obtain ⟨hy, hd3, hp3⟩ := Vm.drop_cons hd2
    obtain ⟨ht4, hd4, hp4⟩ := Vm.drop_app hd3 hp3
    have ew : VameteNeutral.step st (PyVamete.whole [[11], ks, rs]) = Vamete.step st (.chain ks rs) := Vm.step_some rfl
    rw [ew] at k
    obtain ⟨nsa, npa, nps⟩ := set_ne hS R
    obtain ⟨dx, e⟩ := id R.at_
    refine ⟨_, rfl, a, dx, _, rfl, e, rF_counted l _, a, l, ns, p, ks.length, rfl, R, hx, hp2, hl, fun H1 n1 hn1 R1 c1 h1 => ?_⟩
    rw [ht2] at h1
    obtain ⟨dx1, e1⟩ := id R1.at_
    refine ⟨_, rfl, a, dx1, _, rfl, e1, rF_counted l _, a, l, ns, _, rs.length, rfl, R1, hy, hp4, hl, fun H2 n2 hn2 R2 c2 h2 => ?_⟩
    rw [ht4] at h2
    have h1' : H2 n1 = some (.lst (ks.map V.int)) := c2 _ _ (by intro z; rw [List.mem_singleton.mp z, e1] at h1; cases h1) h1
    have c12 : Chg [a] H H2 := c1.trans c2
    have S2 : SetAt CS H2 s pl st := hS.chg c12 nsa R.insE
    refine ⟨_, rfl, n1, ks, rfl, SqL.of h1', fun qa hqa H3 t3 ht3 s3 P3 => ?_, fun hno H3 s3 => ?_⟩
    · refine ⟨_, rfl, n2, rs, rfl, SqL.of (s3 _ _ h2), fun qb hqb H4 t4 ht4' s4 P4 => ?_, fun hno H4 s4 => ?_⟩
      · rw [Vm.step_chain hqa hqb] at k
        have sA : Same H2 H4 := s3.trans s4
        have P3' := P3.same s4
        refine ⟨_, rfl, _, rfl, t3, t4, qa, qb, rfl, P3', P4, _, rfl, ?_⟩
        refine if_2 (fun z => ?_) fun z => ?_
        · have hn := of_decide_eq_false (not_t z)
          rw [Vm.chained_no hn] at k
          exact ⟨by show 1 ≤ sizeLine; decide, fun r hr => ends k (S2.same sA) (R2.same sA) hd4 ((chg3 c12).trans (Chg.of sA)) r hr⟩
        · have hn := of_decide_eq_true (not_f z)
          rw [Vm.chained_yes hn] at k
          refine ⟨by show 1 ≤ sizeLine; decide, fun L0 hL0 => ?_⟩
          have s5 : Same H4 (upd H4 L0 (.lst [.int 1])) := Same.new hL0
          refine ⟨_, rfl, _, rfl, t3, t4, qa, qb, rfl, P3'.same s5, P4.same s5, fun H6 t6 ht6 s6 P6 => ?_⟩
          refine ⟨t6, _, rfl, P6, fun H7 t7 ht7 s7 h7 => ?_⟩
          have sB : Same H2 H7 := ((sA.trans s5).trans s6).trans s7
          refine ⟨L0, t7, _, _, rfl, rfl, s7 _ _ (s6 _ _ upd_same), h7, ?_, fun r hr => ?_⟩
          · rw [List.length_map]
            have := flatRel_len P6
            exact small_le (by simp only [List.length_cons, List.length_nil]; omega)
          · exact ends (ans := 1 :: VametBase.flatRelation ⟨qa.cond, qa.input, .equal, qb.output⟩) k (S2.same sB) (R2.same sB) hd4 ((chg3 c12).trans (Chg.of sB)) r hr
      · rw [Vm.step_chain_bad (.inr hno)] at k
        refine ⟨true, T.eN, fun _ a0 _ => ?_, fun q => Bool.noConfusion q⟩
        exact ⟨_, rfl, by show 1 ≤ sizeLine; decide, fun r hr => ends k (S2.same (s3.trans s4)) (R2.same (s3.trans s4)) hd4 ((chg3 c12).trans (Chg.of (s3.trans s4))) r hr⟩
    · rw [Vm.step_chain_bad (.inl hno)] at k
      refine ⟨true, T.eN, fun _ a0 _ => ?_, fun q => Bool.noConfusion q⟩
      exact ⟨_, rfl, by show 1 ≤ sizeLine; decide, fun r hr => ends k (S2.same s3) (R2.same s3) hd4 ((chg3 c12).trans (Chg.of s3)) r hr⟩
end
end Tg
set_option Elab.async false
set_option linter.all false
set_option maxRecDepth 100000
set_option maxHeartbeats 4000000
namespace Tg
open PySem PySem.Spec PyProof.Rows L2
section
variable {P : Program} {w : World} {K : PySem.W.Frag} {mg : Str → Option Value} {base : Heap} {CR CN CS CQ : Addr}
theorem scKp : FnScope ["setting", "reader", "which", "numbers", "relation", "program", "counts", "row", "state"] ["setting", "reader"] (defScope sKept) := ⟨rfl, rfl, rfl, by decide +kernel, rfl, by decide +kernel, by decide +kernel⟩
theorem ok_kept {f : Addr} {fd : FuncData} (F : Fun K "answer_kept" "answer_kept" sKept f fd) (M : MkR K P w mg base CR CN) (TS : TxS K mg CS) (L : Rls K P w mg base CN CQ) (LK : Lks K P w mg base CS) : FnOk P w K mg base CX0 8 f fd ["setting", "reader"] (spAns K CR CS 12) := by
  have T := M.T
  obtain ⟨fT, fdT, GT, bT, mT⟩ := M.taken
  obtain ⟨fC, fdC, GC, bC, mC⟩ := M.counted
  obtain ⟨fW, fdW, GW, bW, gW, kW⟩ := L.whole
  obtain ⟨fA, fdA, GA, bA, gA, kA⟩ := L.state
  obtain ⟨fR, fdR, GR, bR, gR, kR⟩ := LK.sizeRows
  refine F.ok scKp (fun vs H Q E h => ?_) (fun cdv A outer s H vs Q E hr h => ⟨_, pss_cons (ps_set (i := 2) scKp.nd rfl (Or.inl rfl) (pe_meth0 (pv 1) T.cl mT GT (hr.mono (by decide)) bT .nil passL))
    (pss_cons (ps_set (i := 3) scKp.nd rfl (Or.inl rfl) (pe_meth0 (pv 1) T.cl mC GC (hr.mono (by decide)) bC .nil pass0))
    (pss_cons (ps_if (PW.pt (pw_or (pt_cmpR op_lt (pv 2) pe_int (nomark _)) (pw_or1 (pt_cmpR op_gt (pv 2) pe_int (nomark _))))) (pss_one (ps_ret (pe_lst (pa_cons (pe_un un_neg pe_int) pa_nil)))) pss_nil)
    (pss_cons (ps_try_only (tb := fun W => tAsg (tCallS (spWholeRel K CQ CN) (WE W) (tCons (tVar 3) tNil)) (gName 4)) (ts := fun _ _ _ => tRet (tLst (tCons (tUn (rU fun i => .int (-i)) (tC (.int 5))) tNil))) (Wout := fun _ _ _ _ => False) rfl rfl ⟨rfl, by decide, .inl T.gN⟩ takes0
        (fun W pn xe tk _ => pss_one (ps_set (i := 4) scKp.nd rfl (Or.inl rfl) (pe_callS GW hr rfl gW kW bW (fun σ => passAt tk σ) (pa_cons (pv 3) pa_nil))))
        (fun _ _ _ _ _ _ _ => pss_one (ps_ret (pe_lst (pa_cons (pe_un un_neg pe_int) pa_nil)))))
    (pss_cons (ps_set (i := 5) scKp.nd rfl (Or.inl rfl) (pe_ifExp (pt_cmpR op_eq (pv 2) pe_int (nomark _)) (pe_op op_catA (pe_ix ix_list (pe_fld (pv 0) rfl) pe_int (fun _ _ => rfl)) (pe_ix ix_list (pe_fld (pv 0) rfl) pe_int (fun _ _ => rfl))) (pe_ix ix_list (pe_fld (pv 0) rfl) (pv 2) (fun _ _ => rfl))))
    (pss_cons (ps_set (i := 6) scKp.nd rfl (Or.inl rfl) (pe_lst (pa_cons pe_int (pa_cons pe_int (pa_cons pe_int pa_nil)))))
    (pss_cons (ps_for PassesOwn.never rfl (pi_list (pe_call GR (hr.mono (by decide)) rfl gR kR bR .nil pass0 (pa_cons (pv 0) pa_nil))) (pg_name (i := 7) scKp.nd rfl (Or.inl rfl))
      (pss_cons (ps_set (i := 8) scKp.nd rfl (Or.inl rfl) (pe_call GA (hr.mono (by decide)) rfl gA kA bA .nil pass0 (pa_cons (pv 4) (pa_cons (pv 5) (pa_cons (pv 7) pa_nil)))))
      (pss_one (ps_asg (pe_op op_add (pe_ix ix_list (pv 6) (pv 8) (fun _ _ => rfl)) pe_int) (pg_sub (pv 6) (pv 8) set_list)))))
    (pss_one (ps_ret (pv 6))))))))), ?_⟩)
  · obtain ⟨s, pl, a, l, st, ns, p, c, rest, rfl, _⟩ := h
    rfl
  · obtain ⟨s, pl, a, l, st, ns, p, c, rest, rfl, hS, R, hl, hc, k⟩ := h
    obtain ⟨x, xs, hd, rfl⟩ := Vm.call11 rfl hc
    obtain ⟨hx, hd1, _⟩ := Vm.drop_cons hd
    obtain ⟨hy, hd2, hp2⟩ := Vm.drop_cons hd1
    obtain ⟨ht2, hd3, hp3⟩ := Vm.drop_app hd2 hp2
    have ew : VameteNeutral.step st (PyVamete.whole [[12, x], xs]) = Vamete.step st (.kept x xs) := Vm.step_some rfl
    rw [ew] at k
    obtain ⟨nsa, npa, nps⟩ := set_ne hS R
    obtain ⟨dx, e⟩ := id R.at_
    refine ⟨_, rfl, a, dx, _, rfl, e, rF_taken l p, a, l, ns, p, rfl, R, fun v hv H1 R1 c1 => ?_, fun hz => absurd (hx.symm.trans hz) (by simp)⟩
    rw [hx] at hv
    cases hv
    obtain ⟨dx1, e1⟩ := id R1.at_
    refine ⟨_, rfl, a, dx1, _, rfl, e1, rF_counted l _, a, l, ns, p + 1, xs.length, rfl, R1, hy, hp3, hl, fun H2 n2 hn2 R2 c2 h2 => ?_⟩
    rw [ht2] at h2
    have c12 : Chg [a] H H2 := c1.trans c2
    have S2 : SetAt CS H2 s pl st := hS.chg c12 nsa R.insE
    have bad : ¬ (0 ≤ x ∧ x ≤ 2) → ∀ r, H2 r = none → Q (.ref r) (upd H2 r (.lst [.int (-2)])) := fun hb r hr => by
      rw [Vm.step_kept_which hb] at k
      exact ends k S2 R2 hd3 (chg3 c12) r hr
    refine ⟨_, rfl, _, _, rfl, rfl, _, rfl, ?_⟩
    refine if_2 (fun q => if_t rfl ⟨_, rfl, by show 1 ≤ sizeLine; decide, bad (by have := of_decide_eq_true q; omega)⟩) fun q1 => ?_
    refine ⟨_, rfl, _, _, rfl, rfl, _, rfl, ?_⟩
    refine if_2 (fun q => ⟨_, rfl, by show 1 ≤ sizeLine; decide, bad (by have := of_decide_eq_true q; omega)⟩) fun q2 => ?_
    have q1' : ¬ x < 0 := of_decide_eq_false q1
    have q2' : ¬ 2 < x := of_decide_eq_false q2
    obtain ⟨fw, hfw⟩ : ∃ fw, Vamete.whichOf st x = some fw := by
      unfold Vamete.whichOf
      by_cases z0 : x = 0
      · exact ⟨_, if_pos z0⟩
      · rw [if_neg z0]
        by_cases z1 : x = 1
        · exact ⟨_, if_pos z1⟩
        · rw [if_neg z1, if_pos (by omega)]
          exact ⟨_, rfl⟩
    refine ⟨_, rfl, n2, xs, rfl, SqL.of h2, fun q hq H3 t3 ht3 s3 P3 => ?_, fun hno H3 s3 => ?_⟩
    · rw [Vm.step_kept hfw hq] at k
      have S3 := S2.same s3
      have R3 := R2.same s3
      obtain ⟨ds, es⟩ := S3.ins
      obtain ⟨p0, p1, ep, P0, P1⟩ := id S3.prs
      refine ⟨_, rfl, rfl, _, rfl, ?_⟩
      refine if_2 (fun z => ?_) fun z => ?_
      focus
        have z' : x = 2 := V.int.inj (of_decide_eq_true z)
        have hfw' : fw = st.first ++ st.second := by
          rw [z'] at hfw
          exact (Option.some.inj hfw).symm
        refine ⟨_, rfl, s, CS, ds, _, _, rfl, es, TS.cl, TS.nP, sF_pr _ _ _, pl, _, _, .ref p0, rfl, rfl, SqL.of ep, atI_nat (j := 0) rfl, ?_⟩
        refine ⟨_, rfl, s, CS, ds, _, _, rfl, es, TS.cl, TS.nP, sF_pr _ _ _, pl, _, _, .ref p1, rfl, rfl, SqL.of ep, atI_nat (j := 1) rfl, ?_⟩
        refine catP P0 P1 (by decide) fun H4 t4 s4 P4 => ?_
        have P4' : ProgAtN 16 H4 t4 fw := by rw [hfw']; exact P4
        clear P4
      rotate_left
      focus
        have z' : ¬ x = 2 := fun y => of_decide_eq_false z (by rw [y])
        obtain ⟨j, t4, hj, hjv, P4⟩ : ∃ (j : Nat) (t4 : Addr), x = (j : Int) ∧ [V.ref p0, V.ref p1][j]? = some (V.ref t4) ∧ ProgAtN 8 H3 t4 fw := by
          by_cases z0 : x = 0
          · rw [z0] at hfw
            cases hfw
            exact ⟨0, p0, z0, rfl, P0⟩
          · have z1 : x = 1 := by omega
            rw [z1] at hfw
            cases hfw
            exact ⟨1, p1, z1, rfl, P1⟩
        refine ⟨_, rfl, s, CS, ds, _, _, rfl, es, TS.cl, TS.nP, sF_pr _ _ _, _, rfl, pl, _, _, .ref t4, rfl, rfl, SqL.of ep, by rw [hj]; exact atI_nat hjv, ?_⟩
        have s4 : Same H3 H3 := Same.refl H3
        have P4' : ProgAtN 16 H3 t4 fw := P4.mono (by decide)
        clear P4
      all_goals
        have S4 := S3.same s4
        have R4 := R3.same s4
        have Q4 := P3.same s4
        refine ⟨by show 3 ≤ sizeLine; decide, fun G hG => ?_⟩
        have s5 := Same.new (o := .lst [.int 0, .int 0, .int 0]) hG
        have S5 := S4.same s5
        refine ⟨_, rfl, s, pl, st, rfl, S5, fun H6 rl bs hrl s6 h6 r6 => ?_⟩
        have g6 := s6 _ _ (upd_same (H := _) (a := G) (o := .lst [.int 0, .int 0, .int 0]))
        have hGr : rl ≠ G := fun y => by rw [y, upd_same] at hrl; cases hrl
        have s46 := s5.trans s6
        refine ⟨rl, rfl, ⟨_, SqL.of h6⟩, for_list (xs := bs.map V.ref) (fun i σ H' => ∃ (y7 y8 : Option V), σ = [some (.ref s), some (.ref a), some (.int x), some (.ref n2), some (.ref t3), some (.ref t4), some (.ref G), y7, y8] ∧ Same _ H' ∧ Chg [G] H6 H' ∧ H' G = some (.lst ((Vm.tally fw q ((Vamete.rowsOf st.places st.high).take i)).map V.int)))
          ⟨none, none, rfl, s46, Chg.refl, g6⟩ (fun i σ H' _ h => by obtain ⟨_, _, _, _, y, _⟩ := h; exact SqL.of (y _ _ (by simpa using hGr) h6)) ?_ ?_⟩
        focus
          rintro i v σ H7 hv' ⟨y7, y8, rfl, s7, c7, g7⟩
          obtain ⟨b, hb, rfl⟩ := vgetR hv'
          obtain ⟨y, hy', hby⟩ := r6.get hb
          have hyw : VametBase.within y = true := Vm.rowsOf_within S2.n4 S2.h9 (List.mem_of_getElem? hy')
          have hby7 : H7 b = some (.tup (y.map V.int)) := c7 _ _ (by intro z; rw [List.mem_singleton.mp z, g6] at hby; cases hby) hby
          refine ⟨_, rfl, _, rfl, _, rfl, t3, t4, b, q, fw, y, rfl, Q4.same s7, P4'.same s7, hby7, hyw, fun H8 s8 => ?_⟩
          have g8 := s8 _ _ g7
          obtain ⟨z, hz, hz3⟩ := Vm.tally_at fw q ((Vamete.rowsOf st.places st.high).take i) (VametBase.verdict fw q y)
          have hv3 := Vm.vNum_kind (VametBase.verdict fw q y)
          refine ⟨_, rfl, _, rfl, G, _, _, .int z, rfl, rfl, SqL.of g8, atI_nat (by rw [List.getElem?_map, hz]; rfl), _, _, rfl, rfl, ?_⟩
          refine ⟨_, rfl, _, rfl, G, _, _, Vm.vNum (VametBase.verdict fw q y), rfl, rfl, g8, ?_, ?_⟩
          focus
            rw [List.length_map, hz3, ixN_int (by omega) (by omega)]
            congr 1
          refine ⟨_, _, rfl, Same.at_new (s7.trans s8) hG, (c7.trans (Chg.of s8)).trans (Chg.put (by simp)), ?_⟩
          rw [upd_same, Vm.tally_step hy', hz, List.map_set]
          rfl
        focus
          rintro σ H7 ⟨y7, y8, rfl, s7, c7, g7⟩
          have el : (bs.map V.ref).length = (Vamete.rowsOf st.places st.high).length := by rw [List.length_map, r6.length]
          rw [el, List.take_length] at g7
          exact ⟨_, rfl, k H7 G _ (((chg3 c12).trans (Chg.of (s3.trans s4))).free (Chg.some3 S4 R4) hG) (S4.same s7) (R4.same s7) hd3 ((((chg3 c12).trans (Chg.of (s3.trans s4)))).trans (Chg.of s7)) g7⟩
    · rw [Vm.step_kept_bad hfw hno] at k
      refine ⟨true, T.eN, fun _ a0 _ => ?_, fun q => Bool.noConfusion q⟩
      exact ⟨_, rfl, by show 1 ≤ sizeLine; decide, fun r hr => ends k (S2.same s3) (R2.same s3) hd3 ((chg3 c12).trans (Chg.of s3)) r hr⟩
end
end Tg
set_option Elab.async false
set_option linter.all false
set_option maxRecDepth 100000
set_option maxHeartbeats 4000000
namespace Tg
open PySem PySem.Spec PyProof.Rows L2
/-- of the Relation -/
def RelationTop (K : PySem.W.Frag) (mg : Str → Option Value) : Prop := ∃ (CQ : Addr), TxQ K mg CQ ∧ PySem.W.makesIn K CQ = true ∧ PySem.W.keepIn K (.ref CQ) = true ∧ ∃ f fd, MethAt K CQ "__init__" "Relation.__init__" sQInit ["self", "condition", "least_count", "input_turning", "stand", "output_turning"] f fd
theorem relation_top {K : PySem.W.Frag} {h : Heap} {mg : Str → Option Value} (X : K.In h) (G : h.Ns mainGlobals mg) {CQ f : Addr} {od an : Option Addr} {sl : Array (Option Value)} {oc kV dc pm cd ct : Value}
    (aQ : PySem.W.nsIn K mainGlobals "Relation" = some (some (.ref CQ)))
    (pg : PySem.W.plainGet K CQ Str.empty = true) (hd : PySem.W.hasDictIn K CQ = true) (po : PySem.W.plainOver K CQ = true) (sa : PySem.W.findIn K (.ref CQ) "__setattr__" = some (some (.builtin "object.__setattr__"))) (mk : PySem.W.makesIn K CQ = true) (kc : PySem.W.keepIn K (.ref CQ) = true)
    (nC : PySem.W.findIn K (.ref CQ) "condition" = some none) (nK : PySem.W.findIn K (.ref CQ) "least_count" = some none) (nI : PySem.W.findIn K (.ref CQ) "input_turning" = some none) (nS : PySem.W.findIn K (.ref CQ) "stand" = some none) (nO : PySem.W.findIn K (.ref CQ) "output_turning" = some none)
    (a : PySem.W.findIn K (.ref CQ) "__init__" = some (some (.ref f))) (i : PySem.W.isFn K (.ref f) = true) (l : K.lookup f = some ⟨oc, od, .func (PySem.W.fnOf "__init__" "Relation.__init__" (defArgs sQInit) (defBody sQInit) (defScope sQInit) .none kV dc pm an cd ct), sl⟩) (c : PySem.W.codeIn K cd "Relation.__init__" = true) (k : PySem.W.keepIn K (.ref f) = true)
    : RelationTop K mg :=
  ⟨CQ, ⟨⟨pg, hd, po, sa⟩, nC, nK, nI, nS, nO, PySem.W.mg_of X G aQ⟩, mk, kc, meth_mk X "__init__" "Relation.__init__" sQInit ["self", "condition", "least_count", "input_turning", "stand", "output_turning"] (fun _ _ _ _ _ _ us hl => match us, hl with | [_, _, _, _, _, _], _ => rfl) a i l c k⟩
/-! ### tables of defs -/
def NamesAt (mg : Str → Option Value) : List Str → List Addr → Prop
  | [], [] => True
  | x :: xs, f :: fs => mg x = some (.ref f) ∧ NamesAt mg xs fs
  | _, _ => False
def NamesIn (K : PySem.W.Frag) : List Str → List Addr → Prop
  | [], [] => True
  | x :: xs, f :: fs => PySem.W.nsIn K mainGlobals x = some (some (.ref f)) ∧ NamesIn K xs fs
  | _, _ => False
theorem NamesIn.mg {K : PySem.W.Frag} {h : Heap} {mg : Str → Option Value} (X : K.In h) (G : h.Ns mainGlobals mg) : ∀ {xs : List Str} {fs : List Addr}, NamesIn K xs fs → NamesAt mg xs fs
  | [], [], _ => trivial
  | _ :: _, _ :: _, q => ⟨PySem.W.mg_of X G q.1, NamesIn.mg X G q.2⟩
  | [], _ :: _, q => q.elim
  | _ :: _, [], q => q.elim
structure TabAt (K : PySem.W.Frag) (mg : Str → Option Value) (name : Str) (names : List Str) (TA : Addr) (fs : List Addr) : Prop where
  g : mg name = some (.ref TA)
  sq : ∀ H, SqT K H TA (fs.map V.ref)
  nm : NamesAt mg names fs
theorem table_top {K : PySem.W.Frag} {h : Heap} {mg : Str → Option Value} (X : K.In h) (G : h.Ns mainGlobals mg) (name : Str) (names : List Str) (fs : List Addr) {TA : Addr} {od : Option Addr} {its : Array Value} {n : Nat} {sl : Array (Option Value)} (hn : fs.length ≤ 1000)
    (a : PySem.W.nsIn K mainGlobals name = some (some (.ref TA))) (l : K.lookup TA = some ⟨.type "tuple", od, .seq its n, sl⟩) (hv : Vals (fs.map V.ref) its.toList) (nn : NamesIn K names fs) : ∃ TA fs, TabAt K mg name names TA fs :=
  ⟨TA, fs, PySem.W.mg_of X G a, fun H => .inr ⟨_, its, n, l, rfl, rfl, by have e : fs.length = its.size := (by simpa using hv.length); rw [← e]; exact small_le (by omega), hv⟩, nn.mg X G⟩
theorem NamesAt.len {mg : Str → Option Value} : ∀ {xs : List Str} {fs : List Addr}, NamesAt mg xs fs → fs.length = xs.length
  | [], [], _ => rfl
  | _ :: _, _ :: _, q => by rw [List.length_cons, List.length_cons, NamesAt.len q.2]
  | [], _ :: _, q => q.elim
  | _ :: _, [], q => q.elim
section
variable {P : Program} {w : World} {K : PySem.W.Frag} {mg : Str → Option Value} {base : Heap} {k : Nat} {sp : Nat → Sp}
def AllHeld (P : Program) (w : World) (K : PySem.W.Frag) (mg : Str → Option Value) (base : Heap) (k : Nat) (sp : Nat → Sp) : Nat → List Addr → Prop
  | _, [] => True
  | j, f :: fs => Held P w K mg base k f (sp j) ∧ AllHeld P w K mg base k sp (j + 1) fs
theorem AllHeld.get : ∀ {fs : List Addr} {j i : Nat} {f : Addr}, AllHeld P w K mg base k sp j fs → fs[i]? = some f → Held P w K mg base k f (sp (j + i))
  | [], _, _, _, _, h => by simp at h
  | g :: fs, j, 0, f, q, h => by
    have e : g = f := by simpa using h
    subst e
    exact q.1
  | g :: fs, j, i + 1, f, q, h => by
    have := AllHeld.get q.2 (i := i) (f := f) (by simpa using h)
    rw [show j + (i + 1) = j + 1 + i by omega]
    exact this
def AH (P : Program) (w : World) (K : PySem.W.Frag) (mg : Str → Option Value) (base : Heap) (k : Nat) (sp : Nat → Sp) (j : Nat) (xs : List Str) : Prop := ∀ fs, NamesAt mg xs fs → AllHeld P w K mg base k sp j fs
theorem ah_nil {j : Nat} : AH P w K mg base k sp j [] := fun fs h => match fs, h with
  | [], _ => trivial
theorem ah_cons {j i : Nat} {x : Str} {xs : List Str} {f : Addr} {fd : FuncData} {ps : List Str} {st : Stmt} (h : DefAt K mg x st ps f fd) (F : FnOk P w K mg base CX0 i f fd ps (sp j)) (hi : i ≤ k) (r : AH P w K mg base k sp (j + 1) xs) : AH P w K mg base k sp j (x :: xs) := fun fs n => match fs, n with
  | g :: fs, n => by
    have e : g = f := by
      have := n.1.symm.trans h.g
      exact Value.ref.inj (Option.some.inj this)
    subst e
    exact ⟨⟨fd, ps, F.mono hi, h.F.kp, h.b⟩, r fs n.2⟩
end
/-- more of Python's own names -/
structure Blt2 (mg : Str → Option Value) : Prop where
  any : mg "any" = none
  sum : mg "sum" = none
  max : mg "max" = none
  min : mg "min" = none
  set_ : mg "set" = none
theorem blt2_top {K : PySem.W.Frag} {h : Heap} {mg : Str → Option Value} (X : K.In h) (G : h.Ns mainGlobals mg) (z0 : PySem.W.nsIn K mainGlobals "any" = some none) (z1 : PySem.W.nsIn K mainGlobals "sum" = some none) (z2 : PySem.W.nsIn K mainGlobals "max" = some none) (z3 : PySem.W.nsIn K mainGlobals "min" = some none) (z4 : PySem.W.nsIn K mainGlobals "set" = some none) : Blt2 mg := ⟨PySem.W.mg_none_of X G z0, PySem.W.mg_none_of X G z1, PySem.W.mg_none_of X G z2, PySem.W.mg_none_of X G z3, PySem.W.mg_none_of X G z4⟩
/-- the constants -/
structure Cst (mg : Str → Option Value) : Prop where
  most_count : ∃ t, mg "MOST_COUNT" = some (.int 40 t)
  most_number : ∃ t, mg "MOST_NUMBER" = some (.int 1000000 t)
  most_places : ∃ t, mg "MOST_PLACES" = some (.int 4 t)
  any : ∃ t, mg "ANY" = some (.int 0 t)
  has_count : ∃ t, mg "HAS_COUNT" = some (.int 5 t)
  equal : ∃ t, mg "EQUAL" = some (.int 0 t)
  kept : ∃ t, mg "KEPT" = some (.int 0 t)
  broken : ∃ t, mg "BROKEN" = some (.int 1 t)
  off : ∃ t, mg "OFF" = some (.int 2 t)
theorem cst_top {K : PySem.W.Frag} {h : Heap} {mg : Str → Option Value} (X : K.In h) (G : h.Ns mainGlobals mg) {t0 t1 t2 t3 t4 t5 t6 t7 t8 : Tok} (c0 : PySem.W.nsIn K mainGlobals "MOST_COUNT" = some (some (.int 40 t0))) (c1 : PySem.W.nsIn K mainGlobals "MOST_NUMBER" = some (some (.int 1000000 t1))) (c2 : PySem.W.nsIn K mainGlobals "MOST_PLACES" = some (some (.int 4 t2))) (c3 : PySem.W.nsIn K mainGlobals "ANY" = some (some (.int 0 t3))) (c4 : PySem.W.nsIn K mainGlobals "HAS_COUNT" = some (some (.int 5 t4))) (c5 : PySem.W.nsIn K mainGlobals "EQUAL" = some (some (.int 0 t5))) (c6 : PySem.W.nsIn K mainGlobals "KEPT" = some (some (.int 0 t6))) (c7 : PySem.W.nsIn K mainGlobals "BROKEN" = some (some (.int 1 t7))) (c8 : PySem.W.nsIn K mainGlobals "OFF" = some (some (.int 2 t8))) : Cst mg := ⟨⟨_, PySem.W.mg_of X G c0⟩, ⟨_, PySem.W.mg_of X G c1⟩, ⟨_, PySem.W.mg_of X G c2⟩, ⟨_, PySem.W.mg_of X G c3⟩, ⟨_, PySem.W.mg_of X G c4⟩, ⟨_, PySem.W.mg_of X G c5⟩, ⟨_, PySem.W.mg_of X G c6⟩, ⟨_, PySem.W.mg_of X G c7⟩, ⟨_, PySem.W.mg_of X G c8⟩⟩
theorem top_doings {K : PySem.W.Frag} {h : Heap} {mg : Str → Option Value} (X : K.In h) (G : h.Ns mainGlobals mg) {f0 f1 f2 f3 f4 f5 f6 f7 f8 f9 f10 f11 f12 f13 f14 f15 f16 f17 TA : Addr} {od : Option Addr} {its : Array Value} {n : Nat} {sl : Array (Option Value)}
    (a : PySem.W.nsIn K mainGlobals "DOINGS" = some (some (.ref TA))) (l : K.lookup TA = some ⟨.type "tuple", od, .seq its n, sl⟩) (n0 : PySem.W.nsIn K mainGlobals "do_add" = some (some (.ref f0))) (n1 : PySem.W.nsIn K mainGlobals "do_times" = some (some (.ref f1))) (n2 : PySem.W.nsIn K mainGlobals "do_rest" = some (some (.ref f2))) (n3 : PySem.W.nsIn K mainGlobals "do_abs" = some (some (.ref f3))) (n4 : PySem.W.nsIn K mainGlobals "do_sort" = some (some (.ref f4))) (n5 : PySem.W.nsIn K mainGlobals "do_reverse" = some (some (.ref f5))) (n6 : PySem.W.nsIn K mainGlobals "do_rotate" = some (some (.ref f6))) (n7 : PySem.W.nsIn K mainGlobals "do_take" = some (some (.ref f7))) (n8 : PySem.W.nsIn K mainGlobals "do_drop" = some (some (.ref f8))) (n9 : PySem.W.nsIn K mainGlobals "do_above" = some (some (.ref f9))) (n10 : PySem.W.nsIn K mainGlobals "do_once" = some (some (.ref f10))) (n11 : PySem.W.nsIn K mainGlobals "do_sum" = some (some (.ref f11))) (n12 : PySem.W.nsIn K mainGlobals "do_greatest" = some (some (.ref f12))) (n13 : PySem.W.nsIn K mainGlobals "do_least" = some (some (.ref f13))) (n14 : PySem.W.nsIn K mainGlobals "do_count" = some (some (.ref f14))) (n15 : PySem.W.nsIn K mainGlobals "do_steps" = some (some (.ref f15))) (n16 : PySem.W.nsIn K mainGlobals "do_sums" = some (some (.ref f16))) (n17 : PySem.W.nsIn K mainGlobals "do_twice" = some (some (.ref f17))) (hv : Vals ([f0, f1, f2, f3, f4, f5, f6, f7, f8, f9, f10, f11, f12, f13, f14, f15, f16, f17].map V.ref) its.toList) :
    ∃ TA fs, TabAt K mg "DOINGS" ["do_add", "do_times", "do_rest", "do_abs", "do_sort", "do_reverse", "do_rotate", "do_take", "do_drop", "do_above", "do_once", "do_sum", "do_greatest", "do_least", "do_count", "do_steps", "do_sums", "do_twice"] TA fs := table_top X G "DOINGS" ["do_add", "do_times", "do_rest", "do_abs", "do_sort", "do_reverse", "do_rotate", "do_take", "do_drop", "do_above", "do_once", "do_sum", "do_greatest", "do_least", "do_count", "do_steps", "do_sums", "do_twice"] [f0, f1, f2, f3, f4, f5, f6, f7, f8, f9, f10, f11, f12, f13, f14, f15, f16, f17] (by simp) a l hv ⟨n0, n1, n2, n3, n4, n5, n6, n7, n8, n9, n10, n11, n12, n13, n14, n15, n16, n17, trivial⟩
theorem top_conditions {K : PySem.W.Frag} {h : Heap} {mg : Str → Option Value} (X : K.In h) (G : h.Ns mainGlobals mg) {f0 f1 f2 f3 f4 f5 TA : Addr} {od : Option Addr} {its : Array Value} {n : Nat} {sl : Array (Option Value)}
    (a : PySem.W.nsIn K mainGlobals "CONDITIONS" = some (some (.ref TA))) (l : K.lookup TA = some ⟨.type "tuple", od, .seq its n, sl⟩) (n0 : PySem.W.nsIn K mainGlobals "is_any" = some (some (.ref f0))) (n1 : PySem.W.nsIn K mainGlobals "has_numbers" = some (some (.ref f1))) (n2 : PySem.W.nsIn K mainGlobals "is_rising" = some (some (.ref f2))) (n3 : PySem.W.nsIn K mainGlobals "has_none_below_zero" = some (some (.ref f3))) (n4 : PySem.W.nsIn K mainGlobals "has_none_twice" = some (some (.ref f4))) (n5 : PySem.W.nsIn K mainGlobals "has_count" = some (some (.ref f5))) (hv : Vals ([f0, f1, f2, f3, f4, f5].map V.ref) its.toList) :
    ∃ TA fs, TabAt K mg "CONDITIONS" ["is_any", "has_numbers", "is_rising", "has_none_below_zero", "has_none_twice", "has_count"] TA fs := table_top X G "CONDITIONS" ["is_any", "has_numbers", "is_rising", "has_none_below_zero", "has_none_twice", "has_count"] [f0, f1, f2, f3, f4, f5] (by simp) a l hv ⟨n0, n1, n2, n3, n4, n5, trivial⟩
theorem top_stands {K : PySem.W.Frag} {h : Heap} {mg : Str → Option Value} (X : K.In h) (G : h.Ns mainGlobals mg) {f0 f1 f2 f3 f4 f5 f6 TA : Addr} {od : Option Addr} {its : Array Value} {n : Nat} {sl : Array (Option Value)}
    (a : PySem.W.nsIn K mainGlobals "STANDS" = some (some (.ref TA))) (l : K.lookup TA = some ⟨.type "tuple", od, .seq its n, sl⟩) (n0 : PySem.W.nsIn K mainGlobals "stand_equal" = some (some (.ref f0))) (n1 : PySem.W.nsIn K mainGlobals "stand_bag" = some (some (.ref f1))) (n2 : PySem.W.nsIn K mainGlobals "stand_numbers" = some (some (.ref f2))) (n3 : PySem.W.nsIn K mainGlobals "stand_most" = some (some (.ref f3))) (n4 : PySem.W.nsIn K mainGlobals "stand_least" = some (some (.ref f4))) (n5 : PySem.W.nsIn K mainGlobals "stand_begins" = some (some (.ref f5))) (n6 : PySem.W.nsIn K mainGlobals "stand_long" = some (some (.ref f6))) (hv : Vals ([f0, f1, f2, f3, f4, f5, f6].map V.ref) its.toList) :
    ∃ TA fs, TabAt K mg "STANDS" ["stand_equal", "stand_bag", "stand_numbers", "stand_most", "stand_least", "stand_begins", "stand_long"] TA fs := table_top X G "STANDS" ["stand_equal", "stand_bag", "stand_numbers", "stand_most", "stand_least", "stand_begins", "stand_long"] [f0, f1, f2, f3, f4, f5, f6] (by simp) a l hv ⟨n0, n1, n2, n3, n4, n5, n6, trivial⟩
theorem top_calls {K : PySem.W.Frag} {h : Heap} {mg : Str → Option Value} (X : K.In h) (G : h.Ns mainGlobals mg) {f0 f1 f2 f3 f4 f5 f6 f7 f8 f9 f10 f11 f12 TA : Addr} {od : Option Addr} {its : Array Value} {n : Nat} {sl : Array (Option Value)}
    (a : PySem.W.nsIn K mainGlobals "CALLS" = some (some (.ref TA))) (l : K.lookup TA = some ⟨.type "tuple", od, .seq its n, sl⟩) (n0 : PySem.W.nsIn K mainGlobals "answer_size" = some (some (.ref f0))) (n1 : PySem.W.nsIn K mainGlobals "answer_program" = some (some (.ref f1))) (n2 : PySem.W.nsIn K mainGlobals "answer_turn" = some (some (.ref f2))) (n3 : PySem.W.nsIn K mainGlobals "answer_compose" = some (some (.ref f3))) (n4 : PySem.W.nsIn K mainGlobals "answer_back" = some (some (.ref f4))) (n5 : PySem.W.nsIn K mainGlobals "answer_generated" = some (some (.ref f5))) (n6 : PySem.W.nsIn K mainGlobals "answer_orbit" = some (some (.ref f6))) (n7 : PySem.W.nsIn K mainGlobals "answer_orbits" = some (some (.ref f7))) (n8 : PySem.W.nsIn K mainGlobals "answer_alike" = some (some (.ref f8))) (n9 : PySem.W.nsIn K mainGlobals "answer_group" = some (some (.ref f9))) (n10 : PySem.W.nsIn K mainGlobals "answer_partner" = some (some (.ref f10))) (n11 : PySem.W.nsIn K mainGlobals "answer_chain" = some (some (.ref f11))) (n12 : PySem.W.nsIn K mainGlobals "answer_kept" = some (some (.ref f12))) (hv : Vals ([f0, f1, f2, f3, f4, f5, f6, f7, f8, f9, f10, f11, f12].map V.ref) its.toList) :
    ∃ TA fs, TabAt K mg "CALLS" ["answer_size", "answer_program", "answer_turn", "answer_compose", "answer_back", "answer_generated", "answer_orbit", "answer_orbits", "answer_alike", "answer_group", "answer_partner", "answer_chain", "answer_kept"] TA fs := table_top X G "CALLS" ["answer_size", "answer_program", "answer_turn", "answer_compose", "answer_back", "answer_generated", "answer_orbit", "answer_orbits", "answer_alike", "answer_group", "answer_partner", "answer_chain", "answer_kept"] [f0, f1, f2, f3, f4, f5, f6, f7, f8, f9, f10, f11, f12] (by simp) a l hv ⟨n0, n1, n2, n3, n4, n5, n6, n7, n8, n9, n10, n11, n12, trivial⟩
end Tg
set_option Elab.async false
set_option linter.all false
set_option maxRecDepth 100000
set_option maxHeartbeats 4000000
namespace Tg
open PySem PySem.Spec PyProof.Rows L2
/-- every def that the top leaves -/
structure Tops (K : PySem.W.Frag) (mg : Str → Option Value) : Prop where
  reader : ReaderTop K mg
  setting : SettingTop K mg
  relation : RelationTop K mg
  letters : ∃ S, TxL K mg S
  blt : Blt mg
  blt2 : Blt2 mg
  cst : Cst mg
  doings : ∃ TA fs, TabAt K mg "DOINGS" ["do_add", "do_times", "do_rest", "do_abs", "do_sort", "do_reverse", "do_rotate", "do_take", "do_drop", "do_above", "do_once", "do_sum", "do_greatest", "do_least", "do_count", "do_steps", "do_sums", "do_twice"] TA fs
  conditions : ∃ TA fs, TabAt K mg "CONDITIONS" ["is_any", "has_numbers", "is_rising", "has_none_below_zero", "has_none_twice", "has_count"] TA fs
  stands : ∃ TA fs, TabAt K mg "STANDS" ["stand_equal", "stand_bag", "stand_numbers", "stand_most", "stand_least", "stand_begins", "stand_long"] TA fs
  calls : ∃ TA fs, TabAt K mg "CALLS" ["answer_size", "answer_program", "answer_turn", "answer_compose", "answer_back", "answer_generated", "answer_orbit", "answer_orbits", "answer_alike", "answer_group", "answer_partner", "answer_chain", "answer_kept"] TA fs
  d_do_add : ∃ f fd, DefAt K mg "do_add" sAdd ["row", "amount"] f fd
  d_do_times : ∃ f fd, DefAt K mg "do_times" sTimes ["row", "amount"] f fd
  d_do_rest : ∃ f fd, DefAt K mg "do_rest" sRest ["row", "amount"] f fd
  d_do_abs : ∃ f fd, DefAt K mg "do_abs" sAbs ["row", "amount"] f fd
  d_do_sort : ∃ f fd, DefAt K mg "do_sort" sSort ["row", "amount"] f fd
  d_do_reverse : ∃ f fd, DefAt K mg "do_reverse" sReverse ["row", "amount"] f fd
  d_do_rotate : ∃ f fd, DefAt K mg "do_rotate" sRotate ["row", "amount"] f fd
  d_do_take : ∃ f fd, DefAt K mg "do_take" sTake ["row", "amount"] f fd
  d_do_drop : ∃ f fd, DefAt K mg "do_drop" sDrop ["row", "amount"] f fd
  d_do_above : ∃ f fd, DefAt K mg "do_above" sAbove ["row", "amount"] f fd
  d_do_once : ∃ f fd, DefAt K mg "do_once" sOnce ["row", "amount"] f fd
  d_do_sum : ∃ f fd, DefAt K mg "do_sum" sSum ["row", "amount"] f fd
  d_do_greatest : ∃ f fd, DefAt K mg "do_greatest" sGreatest ["row", "amount"] f fd
  d_do_least : ∃ f fd, DefAt K mg "do_least" sLeast ["row", "amount"] f fd
  d_do_count : ∃ f fd, DefAt K mg "do_count" sCount ["row", "amount"] f fd
  d_do_steps : ∃ f fd, DefAt K mg "do_steps" sSteps ["row", "amount"] f fd
  d_do_sums : ∃ f fd, DefAt K mg "do_sums" sSums ["row", "amount"] f fd
  d_do_twice : ∃ f fd, DefAt K mg "do_twice" sTwice ["row", "amount"] f fd
  d_is_beyond : ∃ f fd, DefAt K mg "is_beyond" sBeyond ["row"] f fd
  d_outcome_of : ∃ f fd, DefAt K mg "outcome_of" sOutcome ["program", "row"] f fd
  d_turn_count : ∃ f fd, DefAt K mg "turn_count" sTurnCount ["places"] f fd
  d_is_turn : ∃ f fd, DefAt K mg "is_turn" sIsTurn ["places", "number"] f fd
  d_idle_turn : ∃ f fd, DefAt K mg "idle_turn" sIdle ["places"] f fd
  d_turned : ∃ f fd, DefAt K mg "turned" sTurned ["turn", "row"] f fd
  d_undone : ∃ f fd, DefAt K mg "undone" sUndone ["turn"] f fd
  d_sources_of : ∃ f fd, DefAt K mg "sources_of" sSources ["turn"] f fd
  d_signs_of : ∃ f fd, DefAt K mg "signs_of" sSigns ["turn"] f fd
  d_number_of : ∃ f fd, DefAt K mg "number_of" sNumberOf ["turn"] f fd
  d_sources_ranked : ∃ f fd, DefAt K mg "sources_ranked" sRanked ["places", "rank"] f fd
  d_turn_of : ∃ f fd, DefAt K mg "turn_of" sTurnOf ["places", "number"] f fd
  d_reached : ∃ f fd, DefAt K mg "reached" sReached ["turns", "row"] f fd
  d_orbit_count : ∃ f fd, DefAt K mg "orbit_count" sOrbitCount ["turns", "rows"] f fd
  d_outcomes_at : ∃ f fd, DefAt K mg "outcomes_at" sOutcomesAt ["program", "rows"] f fd
  d_first_unlike : ∃ f fd, DefAt K mg "first_unlike" sUnlike ["turn", "outcomes"] f fd
  d_common_length : ∃ f fd, DefAt K mg "common_length" sCommon ["outcomes"] f fd
  d_goes_with : ∃ f fd, DefAt K mg "goes_with" sGoes ["turn", "pairs"] f fd
  d_first_partner : ∃ f fd, DefAt K mg "first_partner" sPartner1 ["turn", "outcomes", "places"] f fd
  d_taken_amount : ∃ f fd, DefAt K mg "taken_amount" sAmount ["reader", "letter"] f fd
  d_taken_step : ∃ f fd, DefAt K mg "taken_step" sStep ["reader"] f fd
  d_taken_program : ∃ f fd, DefAt K mg "taken_program" sProgram ["reader"] f fd
  d_whole_program : ∃ f fd, DefAt K mg "whole_program" sWholeProgram ["numbers"] f fd
  d_program_numbers : ∃ f fd, DefAt K mg "program_numbers" sProgNums ["program"] f fd
  d_is_any : ∃ f fd, DefAt K mg "is_any" sIsAny ["row", "least_count"] f fd
  d_has_numbers : ∃ f fd, DefAt K mg "has_numbers" sHasNum ["row", "least_count"] f fd
  d_is_rising : ∃ f fd, DefAt K mg "is_rising" sRising ["row", "least_count"] f fd
  d_has_none_below_zero : ∃ f fd, DefAt K mg "has_none_below_zero" sNoneBelow ["row", "least_count"] f fd
  d_has_none_twice : ∃ f fd, DefAt K mg "has_none_twice" sNoneTwice ["row", "least_count"] f fd
  d_has_count : ∃ f fd, DefAt K mg "has_count" sHasCount ["row", "least_count"] f fd
  d_stand_equal : ∃ f fd, DefAt K mg "stand_equal" sStEqual ["left", "right"] f fd
  d_stand_bag : ∃ f fd, DefAt K mg "stand_bag" sStBag ["left", "right"] f fd
  d_stand_numbers : ∃ f fd, DefAt K mg "stand_numbers" sStNumbers ["left", "right"] f fd
  d_stand_most : ∃ f fd, DefAt K mg "stand_most" sStMost ["left", "right"] f fd
  d_stand_least : ∃ f fd, DefAt K mg "stand_least" sStLeast ["left", "right"] f fd
  d_stand_begins : ∃ f fd, DefAt K mg "stand_begins" sStBegins ["left", "right"] f fd
  d_stand_long : ∃ f fd, DefAt K mg "stand_long" sStLong ["left", "right"] f fd
  d_whole_relation : ∃ f fd, DefAt K mg "whole_relation" sWholeRel ["numbers"] f fd
  d_relation_numbers : ∃ f fd, DefAt K mg "relation_numbers" sRelNums ["relation"] f fd
  d_are_chained : ∃ f fd, DefAt K mg "are_chained" sAreChained ["first", "second"] f fd
  d_chained : ∃ f fd, DefAt K mg "chained" sChained ["first", "second"] f fd
  d_state_at : ∃ f fd, DefAt K mg "state_at" sState ["relation", "program", "row"] f fd
  d_row_count : ∃ f fd, DefAt K mg "row_count" sRowCount ["places", "height"] f fd
  d_rows_of_size : ∃ f fd, DefAt K mg "rows_of_size" sRowsOf ["places", "height"] f fd
  d_whole_row : ∃ f fd, DefAt K mg "whole_row" sWholeRow ["numbers", "places"] f fd
  d_are_turns : ∃ f fd, DefAt K mg "are_turns" sAreTurns ["setting", "numbers"] f fd
  d_turns_of : ∃ f fd, DefAt K mg "turns_of" sTurnsOf ["setting", "numbers"] f fd
  d_size_rows : ∃ f fd, DefAt K mg "size_rows" sSizeRows ["setting"] f fd
  d_first_outcomes : ∃ f fd, DefAt K mg "first_outcomes" sFirstOut ["setting"] f fd
  d_answer_size : ∃ f fd, DefAt K mg "answer_size" sSize ["setting", "reader"] f fd
  d_answer_program : ∃ f fd, DefAt K mg "answer_program" sPgm ["setting", "reader"] f fd
  d_answer_turn : ∃ f fd, DefAt K mg "answer_turn" sTurn ["setting", "reader"] f fd
  d_answer_compose : ∃ f fd, DefAt K mg "answer_compose" sCompose ["setting", "reader"] f fd
  d_answer_back : ∃ f fd, DefAt K mg "answer_back" sBack ["setting", "reader"] f fd
  d_answer_generated : ∃ f fd, DefAt K mg "answer_generated" sGenerated ["setting", "reader"] f fd
  d_answer_orbit : ∃ f fd, DefAt K mg "answer_orbit" sOrbit ["setting", "reader"] f fd
  d_answer_orbits : ∃ f fd, DefAt K mg "answer_orbits" sOrbits ["setting", "reader"] f fd
  d_answer_alike : ∃ f fd, DefAt K mg "answer_alike" sAlike ["setting", "reader"] f fd
  d_answer_group : ∃ f fd, DefAt K mg "answer_group" sGroup ["setting", "reader"] f fd
  d_answer_partner : ∃ f fd, DefAt K mg "answer_partner" sPartner ["setting", "reader"] f fd
  d_answer_chain : ∃ f fd, DefAt K mg "answer_chain" sChain ["setting", "reader"] f fd
  d_answer_kept : ∃ f fd, DefAt K mg "answer_kept" sKept ["setting", "reader"] f fd
  d_answers : ∃ f fd, DefAt K mg "answers" sAnswers ["calls"] f fd
theorem all_ok {K : PySem.W.Frag} {mg : Str → Option Value} {fa : Addr} (t : Tops K mg) (hmg : mg "answers" = some (.ref fa)) : ∃ fd : FuncData, (∀ (s : Shared) (us : List Value), us.length = ["calls"].length → BindsTo s fd ⟨us, []⟩ ((["calls"] : List Str).zip us)) ∧
    ∀ (P : Program) (w : World) (base : Heap), FnOk P w K mg base CX0 13 fa fd ["calls"] (spAnswers K) := by
  have B := t.blt
  have B2 := t.blt2
  obtain ⟨CR, CN, TR, mkR, kcR, ⟨f1, d1, r1⟩, ⟨f2, d2, r2⟩, ⟨f3, d3, r3⟩, ⟨f4, d4, r4⟩, ⟨f5, d5, r5⟩, ⟨f6, d6, r6⟩⟩ := t.reader
  obtain ⟨CS, TS, mkS, kcS, fS, dS, rS⟩ := t.setting
  obtain ⟨CQ, TQ, mkQ, kcQ, fQ, dQ, rQ⟩ := t.relation
  obtain ⟨LA, TL⟩ := t.letters
  obtain ⟨tk_most_count, c_most_count⟩ := t.cst.most_count
  obtain ⟨tk_most_number, c_most_number⟩ := t.cst.most_number
  obtain ⟨tk_most_places, c_most_places⟩ := t.cst.most_places
  obtain ⟨tk_any, c_any⟩ := t.cst.any
  obtain ⟨tk_has_count, c_has_count⟩ := t.cst.has_count
  obtain ⟨tk_equal, c_equal⟩ := t.cst.equal
  obtain ⟨tk_kept, c_kept⟩ := t.cst.kept
  obtain ⟨tk_broken, c_broken⟩ := t.cst.broken
  obtain ⟨tk_off, c_off⟩ := t.cst.off
  obtain ⟨TA_doings, fs_doings, tab_doings⟩ := t.doings
  obtain ⟨TA_conditions, fs_conditions, tab_conditions⟩ := t.conditions
  obtain ⟨TA_stands, fs_stands, tab_stands⟩ := t.stands
  obtain ⟨TA_calls, fs_calls, tab_calls⟩ := t.calls
  obtain ⟨f_do_add, fd_do_add, h_do_add⟩ := t.d_do_add
  obtain ⟨f_do_times, fd_do_times, h_do_times⟩ := t.d_do_times
  obtain ⟨f_do_rest, fd_do_rest, h_do_rest⟩ := t.d_do_rest
  obtain ⟨f_do_abs, fd_do_abs, h_do_abs⟩ := t.d_do_abs
  obtain ⟨f_do_sort, fd_do_sort, h_do_sort⟩ := t.d_do_sort
  obtain ⟨f_do_reverse, fd_do_reverse, h_do_reverse⟩ := t.d_do_reverse
  obtain ⟨f_do_rotate, fd_do_rotate, h_do_rotate⟩ := t.d_do_rotate
  obtain ⟨f_do_take, fd_do_take, h_do_take⟩ := t.d_do_take
  obtain ⟨f_do_drop, fd_do_drop, h_do_drop⟩ := t.d_do_drop
  obtain ⟨f_do_above, fd_do_above, h_do_above⟩ := t.d_do_above
  obtain ⟨f_do_once, fd_do_once, h_do_once⟩ := t.d_do_once
  obtain ⟨f_do_sum, fd_do_sum, h_do_sum⟩ := t.d_do_sum
  obtain ⟨f_do_greatest, fd_do_greatest, h_do_greatest⟩ := t.d_do_greatest
  obtain ⟨f_do_least, fd_do_least, h_do_least⟩ := t.d_do_least
  obtain ⟨f_do_count, fd_do_count, h_do_count⟩ := t.d_do_count
  obtain ⟨f_do_steps, fd_do_steps, h_do_steps⟩ := t.d_do_steps
  obtain ⟨f_do_sums, fd_do_sums, h_do_sums⟩ := t.d_do_sums
  obtain ⟨f_do_twice, fd_do_twice, h_do_twice⟩ := t.d_do_twice
  obtain ⟨f_is_beyond, fd_is_beyond, h_is_beyond⟩ := t.d_is_beyond
  obtain ⟨f_outcome_of, fd_outcome_of, h_outcome_of⟩ := t.d_outcome_of
  obtain ⟨f_turn_count, fd_turn_count, h_turn_count⟩ := t.d_turn_count
  obtain ⟨f_is_turn, fd_is_turn, h_is_turn⟩ := t.d_is_turn
  obtain ⟨f_idle_turn, fd_idle_turn, h_idle_turn⟩ := t.d_idle_turn
  obtain ⟨f_turned, fd_turned, h_turned⟩ := t.d_turned
  obtain ⟨f_undone, fd_undone, h_undone⟩ := t.d_undone
  obtain ⟨f_sources_of, fd_sources_of, h_sources_of⟩ := t.d_sources_of
  obtain ⟨f_signs_of, fd_signs_of, h_signs_of⟩ := t.d_signs_of
  obtain ⟨f_number_of, fd_number_of, h_number_of⟩ := t.d_number_of
  obtain ⟨f_sources_ranked, fd_sources_ranked, h_sources_ranked⟩ := t.d_sources_ranked
  obtain ⟨f_turn_of, fd_turn_of, h_turn_of⟩ := t.d_turn_of
  obtain ⟨f_reached, fd_reached, h_reached⟩ := t.d_reached
  obtain ⟨f_orbit_count, fd_orbit_count, h_orbit_count⟩ := t.d_orbit_count
  obtain ⟨f_outcomes_at, fd_outcomes_at, h_outcomes_at⟩ := t.d_outcomes_at
  obtain ⟨f_first_unlike, fd_first_unlike, h_first_unlike⟩ := t.d_first_unlike
  obtain ⟨f_common_length, fd_common_length, h_common_length⟩ := t.d_common_length
  obtain ⟨f_goes_with, fd_goes_with, h_goes_with⟩ := t.d_goes_with
  obtain ⟨f_first_partner, fd_first_partner, h_first_partner⟩ := t.d_first_partner
  obtain ⟨f_taken_amount, fd_taken_amount, h_taken_amount⟩ := t.d_taken_amount
  obtain ⟨f_taken_step, fd_taken_step, h_taken_step⟩ := t.d_taken_step
  obtain ⟨f_taken_program, fd_taken_program, h_taken_program⟩ := t.d_taken_program
  obtain ⟨f_whole_program, fd_whole_program, h_whole_program⟩ := t.d_whole_program
  obtain ⟨f_program_numbers, fd_program_numbers, h_program_numbers⟩ := t.d_program_numbers
  obtain ⟨f_is_any, fd_is_any, h_is_any⟩ := t.d_is_any
  obtain ⟨f_has_numbers, fd_has_numbers, h_has_numbers⟩ := t.d_has_numbers
  obtain ⟨f_is_rising, fd_is_rising, h_is_rising⟩ := t.d_is_rising
  obtain ⟨f_has_none_below_zero, fd_has_none_below_zero, h_has_none_below_zero⟩ := t.d_has_none_below_zero
  obtain ⟨f_has_none_twice, fd_has_none_twice, h_has_none_twice⟩ := t.d_has_none_twice
  obtain ⟨f_has_count, fd_has_count, h_has_count⟩ := t.d_has_count
  obtain ⟨f_stand_equal, fd_stand_equal, h_stand_equal⟩ := t.d_stand_equal
  obtain ⟨f_stand_bag, fd_stand_bag, h_stand_bag⟩ := t.d_stand_bag
  obtain ⟨f_stand_numbers, fd_stand_numbers, h_stand_numbers⟩ := t.d_stand_numbers
  obtain ⟨f_stand_most, fd_stand_most, h_stand_most⟩ := t.d_stand_most
  obtain ⟨f_stand_least, fd_stand_least, h_stand_least⟩ := t.d_stand_least
  obtain ⟨f_stand_begins, fd_stand_begins, h_stand_begins⟩ := t.d_stand_begins
  obtain ⟨f_stand_long, fd_stand_long, h_stand_long⟩ := t.d_stand_long
  obtain ⟨f_whole_relation, fd_whole_relation, h_whole_relation⟩ := t.d_whole_relation
  obtain ⟨f_relation_numbers, fd_relation_numbers, h_relation_numbers⟩ := t.d_relation_numbers
  obtain ⟨f_are_chained, fd_are_chained, h_are_chained⟩ := t.d_are_chained
  obtain ⟨f_chained, fd_chained, h_chained⟩ := t.d_chained
  obtain ⟨f_state_at, fd_state_at, h_state_at⟩ := t.d_state_at
  obtain ⟨f_row_count, fd_row_count, h_row_count⟩ := t.d_row_count
  obtain ⟨f_rows_of_size, fd_rows_of_size, h_rows_of_size⟩ := t.d_rows_of_size
  obtain ⟨f_whole_row, fd_whole_row, h_whole_row⟩ := t.d_whole_row
  obtain ⟨f_are_turns, fd_are_turns, h_are_turns⟩ := t.d_are_turns
  obtain ⟨f_turns_of, fd_turns_of, h_turns_of⟩ := t.d_turns_of
  obtain ⟨f_size_rows, fd_size_rows, h_size_rows⟩ := t.d_size_rows
  obtain ⟨f_first_outcomes, fd_first_outcomes, h_first_outcomes⟩ := t.d_first_outcomes
  obtain ⟨f_answer_size, fd_answer_size, h_answer_size⟩ := t.d_answer_size
  obtain ⟨f_answer_program, fd_answer_program, h_answer_program⟩ := t.d_answer_program
  obtain ⟨f_answer_turn, fd_answer_turn, h_answer_turn⟩ := t.d_answer_turn
  obtain ⟨f_answer_compose, fd_answer_compose, h_answer_compose⟩ := t.d_answer_compose
  obtain ⟨f_answer_back, fd_answer_back, h_answer_back⟩ := t.d_answer_back
  obtain ⟨f_answer_generated, fd_answer_generated, h_answer_generated⟩ := t.d_answer_generated
  obtain ⟨f_answer_orbit, fd_answer_orbit, h_answer_orbit⟩ := t.d_answer_orbit
  obtain ⟨f_answer_orbits, fd_answer_orbits, h_answer_orbits⟩ := t.d_answer_orbits
  obtain ⟨f_answer_alike, fd_answer_alike, h_answer_alike⟩ := t.d_answer_alike
  obtain ⟨f_answer_group, fd_answer_group, h_answer_group⟩ := t.d_answer_group
  obtain ⟨f_answer_partner, fd_answer_partner, h_answer_partner⟩ := t.d_answer_partner
  obtain ⟨f_answer_chain, fd_answer_chain, h_answer_chain⟩ := t.d_answer_chain
  obtain ⟨f_answer_kept, fd_answer_kept, h_answer_kept⟩ := t.d_answer_kept
  obtain ⟨f_answers, fd_answers, h_answers⟩ := t.d_answers
  have ea : f_answers = fa := Value.ref.inj (Option.some.inj (h_answers.g.symm.trans hmg))
  subst ea
  refine ⟨fd_answers, ?_, fun P w base => ?_⟩
  · obtain ⟨oc, od, kV, doc, pm, an, cdv, ct, osl, rfl, lk, hcd⟩ := h_answers.F.ex
    exact fun s us hu => match us, hu with | [_], _ => .of_eq rfl
  have M : MkR K P w mg base CR CN := reader_mk TR mkR kcR r1 r2 r3 r4 r5 r6
  have MQ : MkQ K P w mg base CQ := ⟨TQ, fQ, dQ, ⟨mkQ, rQ.me.at_, rQ.me.fn, kcQ⟩, ok_qinit rQ.F TQ, rQ.b⟩
  have N : Tns K P w mg base CS := turns_mk TS B h_turn_count h_is_turn h_idle_turn h_turned h_undone h_sources_of h_signs_of h_number_of h_sources_ranked h_turn_of h_reached h_are_turns h_turns_of
  have G_turn_count : FnOk P w K mg base CX0 1 f_turn_count fd_turn_count ["places"] spTurnCount := ok_turnCount h_turn_count.F B.range
  have G_turned : FnOk P w K mg base CX0 1 f_turned fd_turned ["turn", "row"] (spTurned K) := ok_turned h_turned.F B.tuple
  have G_turn_of : FnOk P w K mg base CX0 2 f_turn_of fd_turn_of ["places", "number"] spTurnOf := ok_turnOf h_turn_of.F B.range B.zip B.tuple (ok_ranked h_sources_ranked.F B.list B.range) h_sources_ranked.b h_sources_ranked.g h_sources_ranked.F.kp
  have G_reached : FnOk P w K mg base CX0 2 f_reached fd_reached ["turns", "row"] (spReached K) := ok_reached h_reached.F B.len G_turned h_turned.b h_turned.g h_turned.F.kp
  have aD : AH P w K mg base 1 spDo 0 ["do_add", "do_times", "do_rest", "do_abs", "do_sort", "do_reverse", "do_rotate", "do_take", "do_drop", "do_above", "do_once", "do_sum", "do_greatest", "do_least", "do_count", "do_steps", "do_sums", "do_twice"] := ah_cons h_do_add (ok_add h_do_add.F B.tuple) (by decide) (ah_cons h_do_times (ok_times h_do_times.F B.tuple) (by decide) (ah_cons h_do_rest (ok_rest h_do_rest.F B.tuple) (by decide) (ah_cons h_do_abs (ok_abs h_do_abs.F B.tuple B.abs) (by decide) (ah_cons h_do_sort (ok_sort h_do_sort.F B.tuple B.sorted) (by decide) (ah_cons h_do_reverse (ok_reverse h_do_reverse.F) (by decide) (ah_cons h_do_rotate (ok_rotate h_do_rotate.F B.len) (by decide) (ah_cons h_do_take (ok_take h_do_take.F) (by decide) (ah_cons h_do_drop (ok_drop h_do_drop.F) (by decide) (ah_cons h_do_above (ok_above h_do_above.F B.tuple) (by decide) (ah_cons h_do_once (ok_once h_do_once.F B.tuple B.list) (by decide) (ah_cons h_do_sum (ok_sum h_do_sum.F B2.sum) (by decide) (ah_cons h_do_greatest (ok_greatest h_do_greatest.F B.len B2.max) (by decide) (ah_cons h_do_least (ok_least h_do_least.F B.len B2.min) (by decide) (ah_cons h_do_count (ok_count h_do_count.F B.len) (by decide) (ah_cons h_do_steps (ok_steps h_do_steps.F B.tuple B.zip) (by decide) (ah_cons h_do_sums (ok_sums h_do_sums.F B.tuple) (by decide) (ah_cons h_do_twice (ok_twice h_do_twice.F) (by decide) (ah_nil))))))))))))))))))
  have TD : TxD K P w mg base TA_doings fs_doings := ⟨tab_doings.g, tab_doings.sq, tab_doings.nm.len, fun i f h => by
    have := (aD _ tab_doings.nm).get h
    rw [Nat.zero_add] at this
    exact this⟩
  have G_outcome : FnOk P w K mg base CX0 2 f_outcome_of fd_outcome_of ["program", "row"] spOutcome := ok_outcome h_outcome_of.F TD (ok_beyond h_is_beyond.F B.len B2.any B.abs c_most_count c_most_number) h_is_beyond.b h_is_beyond.g h_is_beyond.F.kp
  have G_rowsOf : FnOk P w K mg base CX0 1 f_rows_of_size fd_rows_of_size ["places", "height"] spRowsOf := ok_rowsOf h_rows_of_size.F B.range
  have G_sizeRows : FnOk P w K mg base CX0 2 f_size_rows fd_size_rows ["setting"] (spSizeRows CS) := ok_sizeRows h_size_rows.F TS G_rowsOf h_rows_of_size.b h_rows_of_size.g h_rows_of_size.F.kp
  have G_goes : FnOk P w K mg base CX0 2 f_goes_with fd_goes_with ["turn", "pairs"] (spGoes K) := ok_goes h_goes_with.F G_turned h_turned.b h_turned.g h_turned.F.kp
  have LK : Lks K P w mg base CS := ⟨⟨f_turn_count, fd_turn_count, G_turn_count, h_turn_count.b, h_turn_count.g, h_turn_count.F.kp⟩, ⟨f_size_rows, fd_size_rows, G_sizeRows, h_size_rows.b, h_size_rows.g, h_size_rows.F.kp⟩,
    ⟨f_first_outcomes, fd_first_outcomes, ok_firstOut h_first_outcomes.F TS G_sizeRows h_size_rows.b h_size_rows.g h_size_rows.F.kp (ok_outcomesAt h_outcomes_at.F G_outcome h_outcome_of.b h_outcome_of.g h_outcome_of.F.kp) h_outcomes_at.b h_outcomes_at.g h_outcomes_at.F.kp, h_first_outcomes.b, h_first_outcomes.g, h_first_outcomes.F.kp⟩,
    ⟨f_orbit_count, fd_orbit_count, ok_orbitCount h_orbit_count.F G_reached h_reached.b h_reached.g h_reached.F.kp, h_orbit_count.b, h_orbit_count.g, h_orbit_count.F.kp⟩, ⟨f_first_unlike, fd_first_unlike, ok_unlike h_first_unlike.F B.enumerate G_turned h_turned.b h_turned.g h_turned.F.kp, h_first_unlike.b, h_first_unlike.g, h_first_unlike.F.kp⟩,
    ⟨f_common_length, fd_common_length, ok_common h_common_length.F B.len B2.any c_most_places, h_common_length.b, h_common_length.g, h_common_length.F.kp⟩,
    ⟨f_first_partner, fd_first_partner, ok_partner1 h_first_partner.F B.range G_turned h_turned.b h_turned.g h_turned.F.kp G_turn_count h_turn_count.b h_turn_count.g h_turn_count.F.kp G_turn_of h_turn_of.b h_turn_of.g h_turn_of.F.kp G_goes h_goes_with.b h_goes_with.g h_goes_with.F.kp, h_first_partner.b, h_first_partner.g, h_first_partner.F.kp⟩⟩
  have G_amount : FnOk P w K mg base (L2.CX P w) 4 f_taken_amount fd_taken_amount ["reader", "letter"] (spAmount K CR CN) := ok_amount h_taken_amount.F M
  have G_step : FnOk P w K mg base (L2.CX P w) 5 f_taken_step fd_taken_step ["reader"] (spStep K CR CN) := ok_step h_taken_step.F M TL G_amount h_taken_amount.b h_taken_amount.g h_taken_amount.F.kp
  have G_program : FnOk P w K mg base (L2.CX P w) 6 f_taken_program fd_taken_program ["reader"] (spProg K CR CN) := ok_program h_taken_program.F M B.tuple G_step h_taken_step.b h_taken_step.g h_taken_step.F.kp
  have aC : AH P w K mg base 1 spCond 0 ["is_any", "has_numbers", "is_rising", "has_none_below_zero", "has_none_twice", "has_count"] := ah_cons h_is_any (ok_isAny h_is_any.F) (by decide) (ah_cons h_has_numbers (ok_hasNum h_has_numbers.F B.len) (by decide) (ah_cons h_is_rising (ok_rising h_is_rising.F B.all B.zip) (by decide) (ah_cons h_has_none_below_zero (ok_noneBelow h_has_none_below_zero.F B.all) (by decide) (ah_cons h_has_none_twice (ok_noneTwice h_has_none_twice.F B.len B2.set_) (by decide) (ah_cons h_has_count (ok_hasCount h_has_count.F B.len) (by decide) (ah_nil))))))
  have TC : TxT K P w mg base "CONDITIONS" 1 6 spCond TA_conditions fs_conditions := ⟨tab_conditions.g, tab_conditions.sq, tab_conditions.nm.len, fun i f h => by
    have := (aC _ tab_conditions.nm).get h
    rw [Nat.zero_add] at this
    exact this⟩
  have G_most : FnOk P w K mg base CX0 1 f_stand_most fd_stand_most ["left", "right"] (spStand 3) := ok_stMost h_stand_most.F B.len B.all B.zip
  have aS : AH P w K mg base 2 spStand 0 ["stand_equal", "stand_bag", "stand_numbers", "stand_most", "stand_least", "stand_begins", "stand_long"] := ah_cons h_stand_equal (ok_stEqual h_stand_equal.F) (by decide) (ah_cons h_stand_bag (ok_stBag h_stand_bag.F B.sorted) (by decide) (ah_cons h_stand_numbers (ok_stNumbers h_stand_numbers.F B2.set_) (by decide) (ah_cons h_stand_most (ok_stMost h_stand_most.F B.len B.all B.zip) (by decide) (ah_cons h_stand_least (ok_stLeast h_stand_least.F G_most h_stand_most.b h_stand_most.g h_stand_most.F.kp) (by decide) (ah_cons h_stand_begins (ok_stBegins h_stand_begins.F B.len) (by decide) (ah_cons h_stand_long (ok_stLong h_stand_long.F B.len) (by decide) (ah_nil)))))))
  have TT : TxT K P w mg base "STANDS" 2 7 spStand TA_stands fs_stands := ⟨tab_stands.g, tab_stands.sq, tab_stands.nm.len, fun i f h => by
    have := (aS _ tab_stands.nm).get h
    rw [Nat.zero_add] at this
    exact this⟩
  have G_nums : FnOk P w K mg base CX0 1 f_program_numbers fd_program_numbers ["program"] spProgNums := ok_progNums h_program_numbers.F B.len TL
  have RL : Rls K P w mg base CN CQ := ⟨⟨f_whole_relation, fd_whole_relation, ok_wholeRel h_whole_relation.F M MQ TC TT c_has_count G_program h_taken_program.b h_taken_program.g h_taken_program.F.kp, h_whole_relation.b, h_whole_relation.g, h_whole_relation.F.kp⟩,
    ⟨f_relation_numbers, fd_relation_numbers, ok_relNums h_relation_numbers.F TQ c_has_count G_nums h_program_numbers.b h_program_numbers.g h_program_numbers.F.kp, h_relation_numbers.b, h_relation_numbers.g, h_relation_numbers.F.kp⟩,
    ⟨f_are_chained, fd_are_chained, ok_areChained h_are_chained.F TQ c_any c_equal, h_are_chained.b, h_are_chained.g, h_are_chained.F.kp⟩,
    ⟨f_chained, fd_chained, ok_chained h_chained.F MQ c_equal, h_chained.b, h_chained.g, h_chained.F.kp⟩,
    ⟨f_state_at, fd_state_at, ok_state h_state_at.F TQ TC TT c_kept c_broken c_off G_outcome h_outcome_of.b h_outcome_of.g h_outcome_of.F.kp, h_state_at.b, h_state_at.g, h_state_at.F.kp⟩⟩
  have aA : AH P w K mg base 12 (fun i => spAns K CR CS (i : Int)) 0 ["answer_size", "answer_program", "answer_turn", "answer_compose", "answer_back", "answer_generated", "answer_orbit", "answer_orbits", "answer_alike", "answer_group", "answer_partner", "answer_chain", "answer_kept"] := ah_cons h_answer_size (ok_size h_answer_size.F M TS (ok_rowCount h_row_count.F B.range) h_row_count.b h_row_count.g h_row_count.F.kp G_turn_count h_turn_count.b h_turn_count.g h_turn_count.F.kp) (by decide) (ah_cons h_answer_program (ok_pgm h_answer_program.F M TS (ok_wholeProgram h_whole_program.F M G_program h_taken_program.b h_taken_program.g h_taken_program.F.kp) h_whole_program.b h_whole_program.g h_whole_program.F.kp) (by decide) (ah_cons h_answer_turn (ok_turn h_answer_turn.F M TS N) (by decide) (ah_cons h_answer_compose (ok_compose h_answer_compose.F M TS N) (by decide) (ah_cons h_answer_back (ok_back h_answer_back.F M TS N) (by decide) (ah_cons h_answer_generated (ok_generated h_answer_generated.F M TS N B.sorted) (by decide) (ah_cons h_answer_orbit (ok_orbit h_answer_orbit.F M TS N B.sorted (ok_wholeRow h_whole_row.F M B.tuple) h_whole_row.b h_whole_row.g h_whole_row.F.kp) (by decide) (ah_cons h_answer_orbits (ok_orbits h_answer_orbits.F M TS N LK) (by decide) (ah_cons h_answer_alike (ok_alike h_answer_alike.F M TS N LK) (by decide) (ah_cons h_answer_group (ok_group h_answer_group.F M TS N LK) (by decide) (ah_cons h_answer_partner (ok_partner h_answer_partner.F M TS N LK) (by decide) (ah_cons h_answer_chain (ok_chain h_answer_chain.F M TS RL) (by decide) (ah_cons h_answer_kept (ok_kept h_answer_kept.F M TS RL LK) (by decide) (ah_nil)))))))))))))
  have TA : TxC K P w mg base CR CS TA_calls fs_calls := ⟨tab_calls.g, tab_calls.sq, tab_calls.nm.len, fun i f h => by
    have := (aA _ tab_calls.nm).get h
    rw [Nat.zero_add] at this
    exact this⟩
  exact ok_answers h_answers.F M TS TA ⟨mkS, rS.me.at_, rS.me.fn, kcS⟩ (ok_sinit rS.F TS) rS.b
end Tg
set_option Elab.async false
set_option linter.all false
set_option maxRecDepth 100000
set_option maxHeartbeats 8000000
open PySem PySem.W PyProof.Rows
theorem PySem.Challenge.cw_turngroups_s01_answers_holds : PySem.Challenge.rw_turngroups_s01_answers.Holds := by
  w_on; k_headS; (case hw => exact ⟨[.list [.int 9]], by decide +kernel, by decide +kernel⟩)
  k_fillS
  refine L2.walk_specK (r := PySem.Challenge.rw_turngroups_s01_answers) (k := 13) (CX := L2.CX0) (ps := ["calls"]) (sp := Tg.spAnswers) (by decide +kernel) rfl rfl ⟨rfl, by decide, by decide⟩ (fun w h Y => PySem.W.kIn_of Y) ?F ?S (fun _ _ _ _ z => z)
  case F =>
    intro w mg fa h Y KX G hmg
    refine' Tg.use (Tg.reader_top KX G ?u1_aR ?u1_aN ?u1_zL ?u1_zR ?u1_pg ?u1_hd ?u1_po ?u1_sa ?u1_mk ?u1_kc ?u1_nN ?u1_nP ?u1_xN ?u1_kN ?u1_bN ?u1_tN ?u1_iN ?u1_sN ?u1_a0 ?u1_i0 ?u1_l0 ?u1_c0 ?u1_k0 ?u1_a1 ?u1_i1 ?u1_l1 ?u1_c1 ?u1_k1 ?u1_a2 ?u1_i2 ?u1_l2 ?u1_c2 ?u1_k2 ?u1_a3 ?u1_i3 ?u1_l3 ?u1_c3 ?u1_k3 ?u1_a4 ?u1_i4 ?u1_l4 ?u1_c4 ?u1_k4 ?u1_a5 ?u1_i5 ?u1_l5 ?u1_c5 ?u1_k5) ?u1_rest
    (case u1_aR => k_is); (case u1_aN => k_is); (case u1_zL => k_is); (case u1_zR => k_is); (case u1_pg => k_is); (case u1_hd => k_is); (case u1_po => k_is); (case u1_sa => k_is); (case u1_mk => k_is); (case u1_kc => k_is); (case u1_nN => k_is); (case u1_nP => k_is); (case u1_xN => k_exc); (case u1_kN => k_is); (case u1_bN => k_is); (case u1_tN => k_is); (case u1_iN => k_is); (case u1_sN => first | rfl | k_is); (case u1_a0 => k_is); (case u1_i0 => k_is); (case u1_l0 => k_is); (case u1_c0 => k_is); (case u1_k0 => k_is); (case u1_a1 => k_is); (case u1_i1 => k_is); (case u1_l1 => k_is); (case u1_c1 => k_is); (case u1_k1 => k_is); (case u1_a2 => k_is); (case u1_i2 => k_is); (case u1_l2 => k_is); (case u1_c2 => k_is); (case u1_k2 => k_is); (case u1_a3 => k_is); (case u1_i3 => k_is); (case u1_l3 => k_is); (case u1_c3 => k_is); (case u1_k3 => k_is); (case u1_a4 => k_is); (case u1_i4 => k_is); (case u1_l4 => k_is); (case u1_c4 => k_is); (case u1_k4 => k_is); (case u1_a5 => k_is); (case u1_i5 => k_is); (case u1_l5 => k_is); (case u1_c5 => k_is); (case u1_k5 => k_is)
    intro hR
    refine' Tg.use (Tg.setting_top KX G ?u2_aS ?u2_pg ?u2_hd ?u2_po ?u2_sa ?u2_mk ?u2_kc ?u2_n1 ?u2_n2 ?u2_n3 ?u2_a ?u2_i ?u2_l ?u2_c ?u2_k) ?u2_rest
    (case u2_aS => k_is); (case u2_pg => k_is); (case u2_hd => k_is); (case u2_po => k_is); (case u2_sa => k_is); (case u2_mk => k_is); (case u2_kc => k_is); (case u2_n1 => k_is); (case u2_n2 => k_is); (case u2_n3 => k_is); (case u2_a => k_is); (case u2_i => k_is); (case u2_l => k_is); (case u2_c => k_is); (case u2_k => k_is)
    intro hS
    refine' Tg.use (Tg.relation_top KX G ?u3_aQ ?u3_pg ?u3_hd ?u3_po ?u3_sa ?u3_mk ?u3_kc ?u3_n1 ?u3_n2 ?u3_n3 ?u3_n4 ?u3_n5 ?u3_a ?u3_i ?u3_l ?u3_c ?u3_k) ?u3_rest
    (case u3_aQ => k_is); (case u3_pg => k_is); (case u3_hd => k_is); (case u3_po => k_is); (case u3_sa => k_is); (case u3_mk => k_is); (case u3_kc => k_is); (case u3_n1 => k_is); (case u3_n2 => k_is); (case u3_n3 => k_is); (case u3_n4 => k_is); (case u3_n5 => k_is); (case u3_a => k_is); (case u3_i => k_is); (case u3_l => k_is); (case u3_c => k_is); (case u3_k => k_is)
    intro hQ
    refine' Tg.use (Tg.letters_top KX G ?u4_a ?u4_l ?u4_v) ?u4_rest
    (case u4_a => k_is); (case u4_l => k_is); (case u4_v => exact .cons ⟨_, rfl⟩ (.cons ⟨_, rfl⟩ (.cons ⟨_, rfl⟩ (.cons ⟨_, rfl⟩ (.cons ⟨_, rfl⟩ (.cons ⟨_, rfl⟩ (.cons ⟨_, rfl⟩ (.cons ⟨_, rfl⟩ (.cons ⟨_, rfl⟩ (.cons ⟨_, rfl⟩ (.cons ⟨_, rfl⟩ (.cons ⟨_, rfl⟩ (.cons ⟨_, rfl⟩ (.cons ⟨_, rfl⟩ (.cons ⟨_, rfl⟩ (.cons ⟨_, rfl⟩ (.cons ⟨_, rfl⟩ (.cons ⟨_, rfl⟩ (.nil)))))))))))))))))))
    intro hL
    refine' Tg.use (Tg.blt_top KX G ?u5_z1 ?u5_z2 ?u5_z3 ?u5_z4 ?u5_z5 ?u5_z6 ?u5_z7 ?u5_z8 ?u5_z9) ?u5_rest
    (case u5_z1 => k_is); (case u5_z2 => k_is); (case u5_z3 => k_is); (case u5_z4 => k_is); (case u5_z5 => k_is); (case u5_z6 => k_is); (case u5_z7 => k_is); (case u5_z8 => k_is); (case u5_z9 => k_is)
    intro hB
    refine' Tg.use (Tg.blt2_top KX G ?u6_z0 ?u6_z1 ?u6_z2 ?u6_z3 ?u6_z4) ?u6_rest
    (case u6_z0 => k_is); (case u6_z1 => k_is); (case u6_z2 => k_is); (case u6_z3 => k_is); (case u6_z4 => k_is)
    intro hB2
    refine' Tg.use (Tg.cst_top KX G ?u7_c0 ?u7_c1 ?u7_c2 ?u7_c3 ?u7_c4 ?u7_c5 ?u7_c6 ?u7_c7 ?u7_c8) ?u7_rest
    (case u7_c0 => k_is); (case u7_c1 => k_is); (case u7_c2 => k_is); (case u7_c3 => k_is); (case u7_c4 => k_is); (case u7_c5 => k_is); (case u7_c6 => k_is); (case u7_c7 => k_is); (case u7_c8 => k_is)
    intro hC
    refine' Tg.use (Tg.top_doings KX G ?u8_a ?u8_l ?u8_n0 ?u8_n1 ?u8_n2 ?u8_n3 ?u8_n4 ?u8_n5 ?u8_n6 ?u8_n7 ?u8_n8 ?u8_n9 ?u8_n10 ?u8_n11 ?u8_n12 ?u8_n13 ?u8_n14 ?u8_n15 ?u8_n16 ?u8_n17 ?u8_v) ?u8_rest
    (case u8_a => k_is); (case u8_l => k_is); (case u8_n0 => k_is); (case u8_n1 => k_is); (case u8_n2 => k_is); (case u8_n3 => k_is); (case u8_n4 => k_is); (case u8_n5 => k_is); (case u8_n6 => k_is); (case u8_n7 => k_is); (case u8_n8 => k_is); (case u8_n9 => k_is); (case u8_n10 => k_is); (case u8_n11 => k_is); (case u8_n12 => k_is); (case u8_n13 => k_is); (case u8_n14 => k_is); (case u8_n15 => k_is); (case u8_n16 => k_is); (case u8_n17 => k_is); (case u8_v => exact .cons rfl (.cons rfl (.cons rfl (.cons rfl (.cons rfl (.cons rfl (.cons rfl (.cons rfl (.cons rfl (.cons rfl (.cons rfl (.cons rfl (.cons rfl (.cons rfl (.cons rfl (.cons rfl (.cons rfl (.cons rfl (.nil)))))))))))))))))))
    intro tab_doings
    refine' Tg.use (Tg.top_conditions KX G ?u9_a ?u9_l ?u9_n0 ?u9_n1 ?u9_n2 ?u9_n3 ?u9_n4 ?u9_n5 ?u9_v) ?u9_rest
    (case u9_a => k_is); (case u9_l => k_is); (case u9_n0 => k_is); (case u9_n1 => k_is); (case u9_n2 => k_is); (case u9_n3 => k_is); (case u9_n4 => k_is); (case u9_n5 => k_is); (case u9_v => exact .cons rfl (.cons rfl (.cons rfl (.cons rfl (.cons rfl (.cons rfl (.nil)))))))
    intro tab_conditions
    refine' Tg.use (Tg.top_stands KX G ?u10_a ?u10_l ?u10_n0 ?u10_n1 ?u10_n2 ?u10_n3 ?u10_n4 ?u10_n5 ?u10_n6 ?u10_v) ?u10_rest
    (case u10_a => k_is); (case u10_l => k_is); (case u10_n0 => k_is); (case u10_n1 => k_is); (case u10_n2 => k_is); (case u10_n3 => k_is); (case u10_n4 => k_is); (case u10_n5 => k_is); (case u10_n6 => k_is); (case u10_v => exact .cons rfl (.cons rfl (.cons rfl (.cons rfl (.cons rfl (.cons rfl (.cons rfl (.nil))))))))
    intro tab_stands
    refine' Tg.use (Tg.top_calls KX G ?u11_a ?u11_l ?u11_n0 ?u11_n1 ?u11_n2 ?u11_n3 ?u11_n4 ?u11_n5 ?u11_n6 ?u11_n7 ?u11_n8 ?u11_n9 ?u11_n10 ?u11_n11 ?u11_n12 ?u11_v) ?u11_rest
    (case u11_a => k_is); (case u11_l => k_is); (case u11_n0 => k_is); (case u11_n1 => k_is); (case u11_n2 => k_is); (case u11_n3 => k_is); (case u11_n4 => k_is); (case u11_n5 => k_is); (case u11_n6 => k_is); (case u11_n7 => k_is); (case u11_n8 => k_is); (case u11_n9 => k_is); (case u11_n10 => k_is); (case u11_n11 => k_is); (case u11_n12 => k_is); (case u11_v => exact .cons rfl (.cons rfl (.cons rfl (.cons rfl (.cons rfl (.cons rfl (.cons rfl (.cons rfl (.cons rfl (.cons rfl (.cons rfl (.cons rfl (.cons rfl (.nil))))))))))))))
    intro tab_calls
    refine' Tg.use (Tg.def_mk KX G "do_add" Tg.sAdd ["row", "amount"] (fun _ _ _ _ _ _ us hl => match us, hl with | [_, _], _ => rfl) ?u12_a ?u12_l ?u12_c ?u12_k) ?u12_rest
    (case u12_a => k_is); (case u12_l => k_is); (case u12_c => k_is); (case u12_k => k_is)
    intro h_do_add
    refine' Tg.use (Tg.def_mk KX G "do_times" Tg.sTimes ["row", "amount"] (fun _ _ _ _ _ _ us hl => match us, hl with | [_, _], _ => rfl) ?u13_a ?u13_l ?u13_c ?u13_k) ?u13_rest
    (case u13_a => k_is); (case u13_l => k_is); (case u13_c => k_is); (case u13_k => k_is)
    intro h_do_times
    refine' Tg.use (Tg.def_mk KX G "do_rest" Tg.sRest ["row", "amount"] (fun _ _ _ _ _ _ us hl => match us, hl with | [_, _], _ => rfl) ?u14_a ?u14_l ?u14_c ?u14_k) ?u14_rest
    (case u14_a => k_is); (case u14_l => k_is); (case u14_c => k_is); (case u14_k => k_is)
    intro h_do_rest
    refine' Tg.use (Tg.def_mk KX G "do_abs" Tg.sAbs ["row", "amount"] (fun _ _ _ _ _ _ us hl => match us, hl with | [_, _], _ => rfl) ?u15_a ?u15_l ?u15_c ?u15_k) ?u15_rest
    (case u15_a => k_is); (case u15_l => k_is); (case u15_c => k_is); (case u15_k => k_is)
    intro h_do_abs
    refine' Tg.use (Tg.def_mk KX G "do_sort" Tg.sSort ["row", "amount"] (fun _ _ _ _ _ _ us hl => match us, hl with | [_, _], _ => rfl) ?u16_a ?u16_l ?u16_c ?u16_k) ?u16_rest
    (case u16_a => k_is); (case u16_l => k_is); (case u16_c => k_is); (case u16_k => k_is)
    intro h_do_sort
    refine' Tg.use (Tg.def_mk KX G "do_reverse" Tg.sReverse ["row", "amount"] (fun _ _ _ _ _ _ us hl => match us, hl with | [_, _], _ => rfl) ?u17_a ?u17_l ?u17_c ?u17_k) ?u17_rest
    (case u17_a => k_is); (case u17_l => k_is); (case u17_c => k_is); (case u17_k => k_is)
    intro h_do_reverse
    refine' Tg.use (Tg.def_mk KX G "do_rotate" Tg.sRotate ["row", "amount"] (fun _ _ _ _ _ _ us hl => match us, hl with | [_, _], _ => rfl) ?u18_a ?u18_l ?u18_c ?u18_k) ?u18_rest
    (case u18_a => k_is); (case u18_l => k_is); (case u18_c => k_is); (case u18_k => k_is)
    intro h_do_rotate
    refine' Tg.use (Tg.def_mk KX G "do_take" Tg.sTake ["row", "amount"] (fun _ _ _ _ _ _ us hl => match us, hl with | [_, _], _ => rfl) ?u19_a ?u19_l ?u19_c ?u19_k) ?u19_rest
    (case u19_a => k_is); (case u19_l => k_is); (case u19_c => k_is); (case u19_k => k_is)
    intro h_do_take
    refine' Tg.use (Tg.def_mk KX G "do_drop" Tg.sDrop ["row", "amount"] (fun _ _ _ _ _ _ us hl => match us, hl with | [_, _], _ => rfl) ?u20_a ?u20_l ?u20_c ?u20_k) ?u20_rest
    (case u20_a => k_is); (case u20_l => k_is); (case u20_c => k_is); (case u20_k => k_is)
    intro h_do_drop
    refine' Tg.use (Tg.def_mk KX G "do_above" Tg.sAbove ["row", "amount"] (fun _ _ _ _ _ _ us hl => match us, hl with | [_, _], _ => rfl) ?u21_a ?u21_l ?u21_c ?u21_k) ?u21_rest
    (case u21_a => k_is); (case u21_l => k_is); (case u21_c => k_is); (case u21_k => k_is)
    intro h_do_above
    refine' Tg.use (Tg.def_mk KX G "do_once" Tg.sOnce ["row", "amount"] (fun _ _ _ _ _ _ us hl => match us, hl with | [_, _], _ => rfl) ?u22_a ?u22_l ?u22_c ?u22_k) ?u22_rest
    (case u22_a => k_is); (case u22_l => k_is); (case u22_c => k_is); (case u22_k => k_is)
    intro h_do_once
    refine' Tg.use (Tg.def_mk KX G "do_sum" Tg.sSum ["row", "amount"] (fun _ _ _ _ _ _ us hl => match us, hl with | [_, _], _ => rfl) ?u23_a ?u23_l ?u23_c ?u23_k) ?u23_rest
    (case u23_a => k_is); (case u23_l => k_is); (case u23_c => k_is); (case u23_k => k_is)
    intro h_do_sum
    refine' Tg.use (Tg.def_mk KX G "do_greatest" Tg.sGreatest ["row", "amount"] (fun _ _ _ _ _ _ us hl => match us, hl with | [_, _], _ => rfl) ?u24_a ?u24_l ?u24_c ?u24_k) ?u24_rest
    (case u24_a => k_is); (case u24_l => k_is); (case u24_c => k_is); (case u24_k => k_is)
    intro h_do_greatest
    refine' Tg.use (Tg.def_mk KX G "do_least" Tg.sLeast ["row", "amount"] (fun _ _ _ _ _ _ us hl => match us, hl with | [_, _], _ => rfl) ?u25_a ?u25_l ?u25_c ?u25_k) ?u25_rest
    (case u25_a => k_is); (case u25_l => k_is); (case u25_c => k_is); (case u25_k => k_is)
    intro h_do_least
    refine' Tg.use (Tg.def_mk KX G "do_count" Tg.sCount ["row", "amount"] (fun _ _ _ _ _ _ us hl => match us, hl with | [_, _], _ => rfl) ?u26_a ?u26_l ?u26_c ?u26_k) ?u26_rest
    (case u26_a => k_is); (case u26_l => k_is); (case u26_c => k_is); (case u26_k => k_is)
    intro h_do_count
    refine' Tg.use (Tg.def_mk KX G "do_steps" Tg.sSteps ["row", "amount"] (fun _ _ _ _ _ _ us hl => match us, hl with | [_, _], _ => rfl) ?u27_a ?u27_l ?u27_c ?u27_k) ?u27_rest
    (case u27_a => k_is); (case u27_l => k_is); (case u27_c => k_is); (case u27_k => k_is)
    intro h_do_steps
    refine' Tg.use (Tg.def_mk KX G "do_sums" Tg.sSums ["row", "amount"] (fun _ _ _ _ _ _ us hl => match us, hl with | [_, _], _ => rfl) ?u28_a ?u28_l ?u28_c ?u28_k) ?u28_rest
    (case u28_a => k_is); (case u28_l => k_is); (case u28_c => k_is); (case u28_k => k_is)
    intro h_do_sums
    refine' Tg.use (Tg.def_mk KX G "do_twice" Tg.sTwice ["row", "amount"] (fun _ _ _ _ _ _ us hl => match us, hl with | [_, _], _ => rfl) ?u29_a ?u29_l ?u29_c ?u29_k) ?u29_rest
    (case u29_a => k_is); (case u29_l => k_is); (case u29_c => k_is); (case u29_k => k_is)
    intro h_do_twice
    refine' Tg.use (Tg.def_mk KX G "is_beyond" Tg.sBeyond ["row"] (fun _ _ _ _ _ _ us hl => match us, hl with | [_], _ => rfl) ?u30_a ?u30_l ?u30_c ?u30_k) ?u30_rest
    (case u30_a => k_is); (case u30_l => k_is); (case u30_c => k_is); (case u30_k => k_is)
    intro h_is_beyond
    refine' Tg.use (Tg.def_mk KX G "outcome_of" Tg.sOutcome ["program", "row"] (fun _ _ _ _ _ _ us hl => match us, hl with | [_, _], _ => rfl) ?u31_a ?u31_l ?u31_c ?u31_k) ?u31_rest
    (case u31_a => k_is); (case u31_l => k_is); (case u31_c => k_is); (case u31_k => k_is)
    intro h_outcome_of
    refine' Tg.use (Tg.def_mk KX G "turn_count" Tg.sTurnCount ["places"] (fun _ _ _ _ _ _ us hl => match us, hl with | [_], _ => rfl) ?u32_a ?u32_l ?u32_c ?u32_k) ?u32_rest
    (case u32_a => k_is); (case u32_l => k_is); (case u32_c => k_is); (case u32_k => k_is)
    intro h_turn_count
    refine' Tg.use (Tg.def_mk KX G "is_turn" Tg.sIsTurn ["places", "number"] (fun _ _ _ _ _ _ us hl => match us, hl with | [_, _], _ => rfl) ?u33_a ?u33_l ?u33_c ?u33_k) ?u33_rest
    (case u33_a => k_is); (case u33_l => k_is); (case u33_c => k_is); (case u33_k => k_is)
    intro h_is_turn
    refine' Tg.use (Tg.def_mk KX G "idle_turn" Tg.sIdle ["places"] (fun _ _ _ _ _ _ us hl => match us, hl with | [_], _ => rfl) ?u34_a ?u34_l ?u34_c ?u34_k) ?u34_rest
    (case u34_a => k_is); (case u34_l => k_is); (case u34_c => k_is); (case u34_k => k_is)
    intro h_idle_turn
    refine' Tg.use (Tg.def_mk KX G "turned" Tg.sTurned ["turn", "row"] (fun _ _ _ _ _ _ us hl => match us, hl with | [_, _], _ => rfl) ?u35_a ?u35_l ?u35_c ?u35_k) ?u35_rest
    (case u35_a => k_is); (case u35_l => k_is); (case u35_c => k_is); (case u35_k => k_is)
    intro h_turned
    refine' Tg.use (Tg.def_mk KX G "undone" Tg.sUndone ["turn"] (fun _ _ _ _ _ _ us hl => match us, hl with | [_], _ => rfl) ?u36_a ?u36_l ?u36_c ?u36_k) ?u36_rest
    (case u36_a => k_is); (case u36_l => k_is); (case u36_c => k_is); (case u36_k => k_is)
    intro h_undone
    refine' Tg.use (Tg.def_mk KX G "sources_of" Tg.sSources ["turn"] (fun _ _ _ _ _ _ us hl => match us, hl with | [_], _ => rfl) ?u37_a ?u37_l ?u37_c ?u37_k) ?u37_rest
    (case u37_a => k_is); (case u37_l => k_is); (case u37_c => k_is); (case u37_k => k_is)
    intro h_sources_of
    refine' Tg.use (Tg.def_mk KX G "signs_of" Tg.sSigns ["turn"] (fun _ _ _ _ _ _ us hl => match us, hl with | [_], _ => rfl) ?u38_a ?u38_l ?u38_c ?u38_k) ?u38_rest
    (case u38_a => k_is); (case u38_l => k_is); (case u38_c => k_is); (case u38_k => k_is)
    intro h_signs_of
    refine' Tg.use (Tg.def_mk KX G "number_of" Tg.sNumberOf ["turn"] (fun _ _ _ _ _ _ us hl => match us, hl with | [_], _ => rfl) ?u39_a ?u39_l ?u39_c ?u39_k) ?u39_rest
    (case u39_a => k_is); (case u39_l => k_is); (case u39_c => k_is); (case u39_k => k_is)
    intro h_number_of
    refine' Tg.use (Tg.def_mk KX G "sources_ranked" Tg.sRanked ["places", "rank"] (fun _ _ _ _ _ _ us hl => match us, hl with | [_, _], _ => rfl) ?u40_a ?u40_l ?u40_c ?u40_k) ?u40_rest
    (case u40_a => k_is); (case u40_l => k_is); (case u40_c => k_is); (case u40_k => k_is)
    intro h_sources_ranked
    refine' Tg.use (Tg.def_mk KX G "turn_of" Tg.sTurnOf ["places", "number"] (fun _ _ _ _ _ _ us hl => match us, hl with | [_, _], _ => rfl) ?u41_a ?u41_l ?u41_c ?u41_k) ?u41_rest
    (case u41_a => k_is); (case u41_l => k_is); (case u41_c => k_is); (case u41_k => k_is)
    intro h_turn_of
    refine' Tg.use (Tg.def_mk KX G "reached" Tg.sReached ["turns", "row"] (fun _ _ _ _ _ _ us hl => match us, hl with | [_, _], _ => rfl) ?u42_a ?u42_l ?u42_c ?u42_k) ?u42_rest
    (case u42_a => k_is); (case u42_l => k_is); (case u42_c => k_is); (case u42_k => k_is)
    intro h_reached
    refine' Tg.use (Tg.def_mk KX G "orbit_count" Tg.sOrbitCount ["turns", "rows"] (fun _ _ _ _ _ _ us hl => match us, hl with | [_, _], _ => rfl) ?u43_a ?u43_l ?u43_c ?u43_k) ?u43_rest
    (case u43_a => k_is); (case u43_l => k_is); (case u43_c => k_is); (case u43_k => k_is)
    intro h_orbit_count
    refine' Tg.use (Tg.def_mk KX G "outcomes_at" Tg.sOutcomesAt ["program", "rows"] (fun _ _ _ _ _ _ us hl => match us, hl with | [_, _], _ => rfl) ?u44_a ?u44_l ?u44_c ?u44_k) ?u44_rest
    (case u44_a => k_is); (case u44_l => k_is); (case u44_c => k_is); (case u44_k => k_is)
    intro h_outcomes_at
    refine' Tg.use (Tg.def_mk KX G "first_unlike" Tg.sUnlike ["turn", "outcomes"] (fun _ _ _ _ _ _ us hl => match us, hl with | [_, _], _ => rfl) ?u45_a ?u45_l ?u45_c ?u45_k) ?u45_rest
    (case u45_a => k_is); (case u45_l => k_is); (case u45_c => k_is); (case u45_k => k_is)
    intro h_first_unlike
    refine' Tg.use (Tg.def_mk KX G "common_length" Tg.sCommon ["outcomes"] (fun _ _ _ _ _ _ us hl => match us, hl with | [_], _ => rfl) ?u46_a ?u46_l ?u46_c ?u46_k) ?u46_rest
    (case u46_a => k_is); (case u46_l => k_is); (case u46_c => k_is); (case u46_k => k_is)
    intro h_common_length
    refine' Tg.use (Tg.def_mk KX G "goes_with" Tg.sGoes ["turn", "pairs"] (fun _ _ _ _ _ _ us hl => match us, hl with | [_, _], _ => rfl) ?u47_a ?u47_l ?u47_c ?u47_k) ?u47_rest
    (case u47_a => k_is); (case u47_l => k_is); (case u47_c => k_is); (case u47_k => k_is)
    intro h_goes_with
    refine' Tg.use (Tg.def_mk KX G "first_partner" Tg.sPartner1 ["turn", "outcomes", "places"] (fun _ _ _ _ _ _ us hl => match us, hl with | [_, _, _], _ => rfl) ?u48_a ?u48_l ?u48_c ?u48_k) ?u48_rest
    (case u48_a => k_is); (case u48_l => k_is); (case u48_c => k_is); (case u48_k => k_is)
    intro h_first_partner
    refine' Tg.use (Tg.def_mk KX G "taken_amount" Tg.sAmount ["reader", "letter"] (fun _ _ _ _ _ _ us hl => match us, hl with | [_, _], _ => rfl) ?u49_a ?u49_l ?u49_c ?u49_k) ?u49_rest
    (case u49_a => k_is); (case u49_l => k_is); (case u49_c => k_is); (case u49_k => k_is)
    intro h_taken_amount
    refine' Tg.use (Tg.def_mk KX G "taken_step" Tg.sStep ["reader"] (fun _ _ _ _ _ _ us hl => match us, hl with | [_], _ => rfl) ?u50_a ?u50_l ?u50_c ?u50_k) ?u50_rest
    (case u50_a => k_is); (case u50_l => k_is); (case u50_c => k_is); (case u50_k => k_is)
    intro h_taken_step
    refine' Tg.use (Tg.def_mk KX G "taken_program" Tg.sProgram ["reader"] (fun _ _ _ _ _ _ us hl => match us, hl with | [_], _ => rfl) ?u51_a ?u51_l ?u51_c ?u51_k) ?u51_rest
    (case u51_a => k_is); (case u51_l => k_is); (case u51_c => k_is); (case u51_k => k_is)
    intro h_taken_program
    refine' Tg.use (Tg.def_mk KX G "whole_program" Tg.sWholeProgram ["numbers"] (fun _ _ _ _ _ _ us hl => match us, hl with | [_], _ => rfl) ?u52_a ?u52_l ?u52_c ?u52_k) ?u52_rest
    (case u52_a => k_is); (case u52_l => k_is); (case u52_c => k_is); (case u52_k => k_is)
    intro h_whole_program
    refine' Tg.use (Tg.def_mk KX G "program_numbers" Tg.sProgNums ["program"] (fun _ _ _ _ _ _ us hl => match us, hl with | [_], _ => rfl) ?u53_a ?u53_l ?u53_c ?u53_k) ?u53_rest
    (case u53_a => k_is); (case u53_l => k_is); (case u53_c => k_is); (case u53_k => k_is)
    intro h_program_numbers
    refine' Tg.use (Tg.def_mk KX G "is_any" Tg.sIsAny ["row", "least_count"] (fun _ _ _ _ _ _ us hl => match us, hl with | [_, _], _ => rfl) ?u54_a ?u54_l ?u54_c ?u54_k) ?u54_rest
    (case u54_a => k_is); (case u54_l => k_is); (case u54_c => k_is); (case u54_k => k_is)
    intro h_is_any
    refine' Tg.use (Tg.def_mk KX G "has_numbers" Tg.sHasNum ["row", "least_count"] (fun _ _ _ _ _ _ us hl => match us, hl with | [_, _], _ => rfl) ?u55_a ?u55_l ?u55_c ?u55_k) ?u55_rest
    (case u55_a => k_is); (case u55_l => k_is); (case u55_c => k_is); (case u55_k => k_is)
    intro h_has_numbers
    refine' Tg.use (Tg.def_mk KX G "is_rising" Tg.sRising ["row", "least_count"] (fun _ _ _ _ _ _ us hl => match us, hl with | [_, _], _ => rfl) ?u56_a ?u56_l ?u56_c ?u56_k) ?u56_rest
    (case u56_a => k_is); (case u56_l => k_is); (case u56_c => k_is); (case u56_k => k_is)
    intro h_is_rising
    refine' Tg.use (Tg.def_mk KX G "has_none_below_zero" Tg.sNoneBelow ["row", "least_count"] (fun _ _ _ _ _ _ us hl => match us, hl with | [_, _], _ => rfl) ?u57_a ?u57_l ?u57_c ?u57_k) ?u57_rest
    (case u57_a => k_is); (case u57_l => k_is); (case u57_c => k_is); (case u57_k => k_is)
    intro h_has_none_below_zero
    refine' Tg.use (Tg.def_mk KX G "has_none_twice" Tg.sNoneTwice ["row", "least_count"] (fun _ _ _ _ _ _ us hl => match us, hl with | [_, _], _ => rfl) ?u58_a ?u58_l ?u58_c ?u58_k) ?u58_rest
    (case u58_a => k_is); (case u58_l => k_is); (case u58_c => k_is); (case u58_k => k_is)
    intro h_has_none_twice
    refine' Tg.use (Tg.def_mk KX G "has_count" Tg.sHasCount ["row", "least_count"] (fun _ _ _ _ _ _ us hl => match us, hl with | [_, _], _ => rfl) ?u59_a ?u59_l ?u59_c ?u59_k) ?u59_rest
    (case u59_a => k_is); (case u59_l => k_is); (case u59_c => k_is); (case u59_k => k_is)
    intro h_has_count
    refine' Tg.use (Tg.def_mk KX G "stand_equal" Tg.sStEqual ["left", "right"] (fun _ _ _ _ _ _ us hl => match us, hl with | [_, _], _ => rfl) ?u60_a ?u60_l ?u60_c ?u60_k) ?u60_rest
    (case u60_a => k_is); (case u60_l => k_is); (case u60_c => k_is); (case u60_k => k_is)
    intro h_stand_equal
    refine' Tg.use (Tg.def_mk KX G "stand_bag" Tg.sStBag ["left", "right"] (fun _ _ _ _ _ _ us hl => match us, hl with | [_, _], _ => rfl) ?u61_a ?u61_l ?u61_c ?u61_k) ?u61_rest
    (case u61_a => k_is); (case u61_l => k_is); (case u61_c => k_is); (case u61_k => k_is)
    intro h_stand_bag
    refine' Tg.use (Tg.def_mk KX G "stand_numbers" Tg.sStNumbers ["left", "right"] (fun _ _ _ _ _ _ us hl => match us, hl with | [_, _], _ => rfl) ?u62_a ?u62_l ?u62_c ?u62_k) ?u62_rest
    (case u62_a => k_is); (case u62_l => k_is); (case u62_c => k_is); (case u62_k => k_is)
    intro h_stand_numbers
    refine' Tg.use (Tg.def_mk KX G "stand_most" Tg.sStMost ["left", "right"] (fun _ _ _ _ _ _ us hl => match us, hl with | [_, _], _ => rfl) ?u63_a ?u63_l ?u63_c ?u63_k) ?u63_rest
    (case u63_a => k_is); (case u63_l => k_is); (case u63_c => k_is); (case u63_k => k_is)
    intro h_stand_most
    refine' Tg.use (Tg.def_mk KX G "stand_least" Tg.sStLeast ["left", "right"] (fun _ _ _ _ _ _ us hl => match us, hl with | [_, _], _ => rfl) ?u64_a ?u64_l ?u64_c ?u64_k) ?u64_rest
    (case u64_a => k_is); (case u64_l => k_is); (case u64_c => k_is); (case u64_k => k_is)
    intro h_stand_least
    refine' Tg.use (Tg.def_mk KX G "stand_begins" Tg.sStBegins ["left", "right"] (fun _ _ _ _ _ _ us hl => match us, hl with | [_, _], _ => rfl) ?u65_a ?u65_l ?u65_c ?u65_k) ?u65_rest
    (case u65_a => k_is); (case u65_l => k_is); (case u65_c => k_is); (case u65_k => k_is)
    intro h_stand_begins
    refine' Tg.use (Tg.def_mk KX G "stand_long" Tg.sStLong ["left", "right"] (fun _ _ _ _ _ _ us hl => match us, hl with | [_, _], _ => rfl) ?u66_a ?u66_l ?u66_c ?u66_k) ?u66_rest
    (case u66_a => k_is); (case u66_l => k_is); (case u66_c => k_is); (case u66_k => k_is)
    intro h_stand_long
    refine' Tg.use (Tg.def_mk KX G "whole_relation" Tg.sWholeRel ["numbers"] (fun _ _ _ _ _ _ us hl => match us, hl with | [_], _ => rfl) ?u67_a ?u67_l ?u67_c ?u67_k) ?u67_rest
    (case u67_a => k_is); (case u67_l => k_is); (case u67_c => k_is); (case u67_k => k_is)
    intro h_whole_relation
    refine' Tg.use (Tg.def_mk KX G "relation_numbers" Tg.sRelNums ["relation"] (fun _ _ _ _ _ _ us hl => match us, hl with | [_], _ => rfl) ?u68_a ?u68_l ?u68_c ?u68_k) ?u68_rest
    (case u68_a => k_is); (case u68_l => k_is); (case u68_c => k_is); (case u68_k => k_is)
    intro h_relation_numbers
    refine' Tg.use (Tg.def_mk KX G "are_chained" Tg.sAreChained ["first", "second"] (fun _ _ _ _ _ _ us hl => match us, hl with | [_, _], _ => rfl) ?u69_a ?u69_l ?u69_c ?u69_k) ?u69_rest
    (case u69_a => k_is); (case u69_l => k_is); (case u69_c => k_is); (case u69_k => k_is)
    intro h_are_chained
    refine' Tg.use (Tg.def_mk KX G "chained" Tg.sChained ["first", "second"] (fun _ _ _ _ _ _ us hl => match us, hl with | [_, _], _ => rfl) ?u70_a ?u70_l ?u70_c ?u70_k) ?u70_rest
    (case u70_a => k_is); (case u70_l => k_is); (case u70_c => k_is); (case u70_k => k_is)
    intro h_chained
    refine' Tg.use (Tg.def_mk KX G "state_at" Tg.sState ["relation", "program", "row"] (fun _ _ _ _ _ _ us hl => match us, hl with | [_, _, _], _ => rfl) ?u71_a ?u71_l ?u71_c ?u71_k) ?u71_rest
    (case u71_a => k_is); (case u71_l => k_is); (case u71_c => k_is); (case u71_k => k_is)
    intro h_state_at
    refine' Tg.use (Tg.def_mk KX G "row_count" Tg.sRowCount ["places", "height"] (fun _ _ _ _ _ _ us hl => match us, hl with | [_, _], _ => rfl) ?u72_a ?u72_l ?u72_c ?u72_k) ?u72_rest
    (case u72_a => k_is); (case u72_l => k_is); (case u72_c => k_is); (case u72_k => k_is)
    intro h_row_count
    refine' Tg.use (Tg.def_mk KX G "rows_of_size" Tg.sRowsOf ["places", "height"] (fun _ _ _ _ _ _ us hl => match us, hl with | [_, _], _ => rfl) ?u73_a ?u73_l ?u73_c ?u73_k) ?u73_rest
    (case u73_a => k_is); (case u73_l => k_is); (case u73_c => k_is); (case u73_k => k_is)
    intro h_rows_of_size
    refine' Tg.use (Tg.def_mk KX G "whole_row" Tg.sWholeRow ["numbers", "places"] (fun _ _ _ _ _ _ us hl => match us, hl with | [_, _], _ => rfl) ?u74_a ?u74_l ?u74_c ?u74_k) ?u74_rest
    (case u74_a => k_is); (case u74_l => k_is); (case u74_c => k_is); (case u74_k => k_is)
    intro h_whole_row
    refine' Tg.use (Tg.def_mk KX G "are_turns" Tg.sAreTurns ["setting", "numbers"] (fun _ _ _ _ _ _ us hl => match us, hl with | [_, _], _ => rfl) ?u75_a ?u75_l ?u75_c ?u75_k) ?u75_rest
    (case u75_a => k_is); (case u75_l => k_is); (case u75_c => k_is); (case u75_k => k_is)
    intro h_are_turns
    refine' Tg.use (Tg.def_mk KX G "turns_of" Tg.sTurnsOf ["setting", "numbers"] (fun _ _ _ _ _ _ us hl => match us, hl with | [_, _], _ => rfl) ?u76_a ?u76_l ?u76_c ?u76_k) ?u76_rest
    (case u76_a => k_is); (case u76_l => k_is); (case u76_c => k_is); (case u76_k => k_is)
    intro h_turns_of
    refine' Tg.use (Tg.def_mk KX G "size_rows" Tg.sSizeRows ["setting"] (fun _ _ _ _ _ _ us hl => match us, hl with | [_], _ => rfl) ?u77_a ?u77_l ?u77_c ?u77_k) ?u77_rest
    (case u77_a => k_is); (case u77_l => k_is); (case u77_c => k_is); (case u77_k => k_is)
    intro h_size_rows
    refine' Tg.use (Tg.def_mk KX G "first_outcomes" Tg.sFirstOut ["setting"] (fun _ _ _ _ _ _ us hl => match us, hl with | [_], _ => rfl) ?u78_a ?u78_l ?u78_c ?u78_k) ?u78_rest
    (case u78_a => k_is); (case u78_l => k_is); (case u78_c => k_is); (case u78_k => k_is)
    intro h_first_outcomes
    refine' Tg.use (Tg.def_mk KX G "answer_size" Tg.sSize ["setting", "reader"] (fun _ _ _ _ _ _ us hl => match us, hl with | [_, _], _ => rfl) ?u79_a ?u79_l ?u79_c ?u79_k) ?u79_rest
    (case u79_a => k_is); (case u79_l => k_is); (case u79_c => k_is); (case u79_k => k_is)
    intro h_answer_size
    refine' Tg.use (Tg.def_mk KX G "answer_program" Tg.sPgm ["setting", "reader"] (fun _ _ _ _ _ _ us hl => match us, hl with | [_, _], _ => rfl) ?u80_a ?u80_l ?u80_c ?u80_k) ?u80_rest
    (case u80_a => k_is); (case u80_l => k_is); (case u80_c => k_is); (case u80_k => k_is)
    intro h_answer_program
    refine' Tg.use (Tg.def_mk KX G "answer_turn" Tg.sTurn ["setting", "reader"] (fun _ _ _ _ _ _ us hl => match us, hl with | [_, _], _ => rfl) ?u81_a ?u81_l ?u81_c ?u81_k) ?u81_rest
    (case u81_a => k_is); (case u81_l => k_is); (case u81_c => k_is); (case u81_k => k_is)
    intro h_answer_turn
    refine' Tg.use (Tg.def_mk KX G "answer_compose" Tg.sCompose ["setting", "reader"] (fun _ _ _ _ _ _ us hl => match us, hl with | [_, _], _ => rfl) ?u82_a ?u82_l ?u82_c ?u82_k) ?u82_rest
    (case u82_a => k_is); (case u82_l => k_is); (case u82_c => k_is); (case u82_k => k_is)
    intro h_answer_compose
    refine' Tg.use (Tg.def_mk KX G "answer_back" Tg.sBack ["setting", "reader"] (fun _ _ _ _ _ _ us hl => match us, hl with | [_, _], _ => rfl) ?u83_a ?u83_l ?u83_c ?u83_k) ?u83_rest
    (case u83_a => k_is); (case u83_l => k_is); (case u83_c => k_is); (case u83_k => k_is)
    intro h_answer_back
    refine' Tg.use (Tg.def_mk KX G "answer_generated" Tg.sGenerated ["setting", "reader"] (fun _ _ _ _ _ _ us hl => match us, hl with | [_, _], _ => rfl) ?u84_a ?u84_l ?u84_c ?u84_k) ?u84_rest
    (case u84_a => k_is); (case u84_l => k_is); (case u84_c => k_is); (case u84_k => k_is)
    intro h_answer_generated
    refine' Tg.use (Tg.def_mk KX G "answer_orbit" Tg.sOrbit ["setting", "reader"] (fun _ _ _ _ _ _ us hl => match us, hl with | [_, _], _ => rfl) ?u85_a ?u85_l ?u85_c ?u85_k) ?u85_rest
    (case u85_a => k_is); (case u85_l => k_is); (case u85_c => k_is); (case u85_k => k_is)
    intro h_answer_orbit
    refine' Tg.use (Tg.def_mk KX G "answer_orbits" Tg.sOrbits ["setting", "reader"] (fun _ _ _ _ _ _ us hl => match us, hl with | [_, _], _ => rfl) ?u86_a ?u86_l ?u86_c ?u86_k) ?u86_rest
    (case u86_a => k_is); (case u86_l => k_is); (case u86_c => k_is); (case u86_k => k_is)
    intro h_answer_orbits
    refine' Tg.use (Tg.def_mk KX G "answer_alike" Tg.sAlike ["setting", "reader"] (fun _ _ _ _ _ _ us hl => match us, hl with | [_, _], _ => rfl) ?u87_a ?u87_l ?u87_c ?u87_k) ?u87_rest
    (case u87_a => k_is); (case u87_l => k_is); (case u87_c => k_is); (case u87_k => k_is)
    intro h_answer_alike
    refine' Tg.use (Tg.def_mk KX G "answer_group" Tg.sGroup ["setting", "reader"] (fun _ _ _ _ _ _ us hl => match us, hl with | [_, _], _ => rfl) ?u88_a ?u88_l ?u88_c ?u88_k) ?u88_rest
    (case u88_a => k_is); (case u88_l => k_is); (case u88_c => k_is); (case u88_k => k_is)
    intro h_answer_group
    refine' Tg.use (Tg.def_mk KX G "answer_partner" Tg.sPartner ["setting", "reader"] (fun _ _ _ _ _ _ us hl => match us, hl with | [_, _], _ => rfl) ?u89_a ?u89_l ?u89_c ?u89_k) ?u89_rest
    (case u89_a => k_is); (case u89_l => k_is); (case u89_c => k_is); (case u89_k => k_is)
    intro h_answer_partner
    refine' Tg.use (Tg.def_mk KX G "answer_chain" Tg.sChain ["setting", "reader"] (fun _ _ _ _ _ _ us hl => match us, hl with | [_, _], _ => rfl) ?u90_a ?u90_l ?u90_c ?u90_k) ?u90_rest
    (case u90_a => k_is); (case u90_l => k_is); (case u90_c => k_is); (case u90_k => k_is)
    intro h_answer_chain
    refine' Tg.use (Tg.def_mk KX G "answer_kept" Tg.sKept ["setting", "reader"] (fun _ _ _ _ _ _ us hl => match us, hl with | [_, _], _ => rfl) ?u91_a ?u91_l ?u91_c ?u91_k) ?u91_rest
    (case u91_a => k_is); (case u91_l => k_is); (case u91_c => k_is); (case u91_k => k_is)
    intro h_answer_kept
    refine' Tg.use (Tg.def_mk KX G "answers" Tg.sAnswers ["calls"] (fun _ _ _ _ _ _ us hl => match us, hl with | [_], _ => rfl) ?u92_a ?u92_l ?u92_c ?u92_k) ?u92_rest
    (case u92_a => k_is); (case u92_l => k_is); (case u92_c => k_is); (case u92_k => k_is)
    intro h_answers
    obtain ⟨fd, hb, hok⟩ := Tg.all_ok ⟨hR, hS, hQ, hL, hB, hB2, hC, tab_doings, tab_conditions, tab_stands, tab_calls, h_do_add, h_do_times, h_do_rest, h_do_abs, h_do_sort, h_do_reverse, h_do_rotate, h_do_take, h_do_drop, h_do_above, h_do_once, h_do_sum, h_do_greatest, h_do_least, h_do_count, h_do_steps, h_do_sums, h_do_twice, h_is_beyond, h_outcome_of, h_turn_count, h_is_turn, h_idle_turn, h_turned, h_undone, h_sources_of, h_signs_of, h_number_of, h_sources_ranked, h_turn_of, h_reached, h_orbit_count, h_outcomes_at, h_first_unlike, h_common_length, h_goes_with, h_first_partner, h_taken_amount, h_taken_step, h_taken_program, h_whole_program, h_program_numbers, h_is_any, h_has_numbers, h_is_rising, h_has_none_below_zero, h_has_none_twice, h_has_count, h_stand_equal, h_stand_bag, h_stand_numbers, h_stand_most, h_stand_least, h_stand_begins, h_stand_long, h_whole_relation, h_relation_numbers, h_are_chained, h_chained, h_state_at, h_row_count, h_rows_of_size, h_whole_row, h_are_turns, h_turns_of, h_size_rows, h_first_outcomes, h_answer_size, h_answer_program, h_answer_turn, h_answer_compose, h_answer_back, h_answer_generated, h_answer_orbit, h_answer_orbits, h_answer_alike, h_answer_group, h_answer_partner, h_answer_chain, h_answer_kept, h_answers⟩ hmg
    exact ⟨fd, hb, fun base _ _ => hok _ _ base⟩
  case S =>
    intro K H xs a hO hwi hask hx
    cases hx with
    | cons h1 h2 =>
      cases h2
      cases h1 with
      | lst hs ha =>
        have e := L2.ints_dw a.1 _ ha
        subst e
        have q : ((Codec.inLen 0 1845 a.1 && a.1.all (Codec.inInt (-1000000000000000000) 1000000000000000000)) && true) = true := hwi
        rw [Bool.and_eq_true, Bool.and_eq_true] at q
        exact ⟨_, a.1, rfl, hs, (Codec.inNat_iff.mp q.1.1).2, hask, fun H' p hp => .lst (L2.SqL.of hp) (L2.dw_ints _)⟩
