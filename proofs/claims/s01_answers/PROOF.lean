import PyProof.Rows.All
import Wide.All
import OpenK.AllK
import Wide.FinOn
import Open.SpecLaws
import KE.OsGo
import HandS.ForSpec
import HandS.Deep
import HandS.TupAny
import HandS.Rev
import HandS.WideBits
import HandS.ForMost
import KE.SortKeyHeap
import HandS.Nested
import KE.KMinKey
import HandS.More
import PySem.Challenge.RW_missingaxioms_s01_answers
/-! What is possible does not hang on which list of atoms is taken. -/
namespace Mx
open Oc (C Axiom)

theorem bit_eq (m k : Nat) : Oc.bit m k = m.testBit k := by
  rw [Oc.bit, Nat.testBit_eq_decide_div_mod_eq]
  rfl

theorem bits_exist : ∀ (n : Nat) (P : Nat → Prop), ∃ t, t < 2 ^ n ∧ ∀ k, k < n → (Oc.bit t k = true ↔ P k)
  | 0, P => ⟨0, by simp, fun k h => absurd h (Nat.not_lt_zero k)⟩
  | n + 1, P => by
    obtain ⟨t, h1, h2⟩ := bits_exist n (fun k => P (k + 1))
    have hp : 2 ^ (n + 1) = 2 * 2 ^ n := by rw [Nat.pow_succ, Nat.mul_comm]
    by_cases h0 : P 0
    · refine ⟨2 * t + 1, by omega, fun k hk => ?_⟩
      cases k with
      | zero => simp [bit_eq, h0, Nat.testBit_zero]
      | succ k =>
        rw [bit_eq, Nat.testBit_succ, show (2 * t + 1) / 2 = t by omega, ← bit_eq]
        exact h2 k (by omega)
    · refine ⟨2 * t, by omega, fun k hk => ?_⟩
      cases k with
      | zero => simp [bit_eq, h0, Nat.testBit_zero]
      | succ k =>
        rw [bit_eq, Nat.testBit_succ, show (2 * t) / 2 = t by omega, ← bit_eq]
        exact h2 k (by omega)

/-- A model's worlds, names and roles; what has a concept. -/
def sat {W : Type} (nm : Nat → W → Prop) (rel : Nat → W → W → Prop) : C → W → Prop
  | .top, _ => True
  | .bot, _ => False
  | .name a, w => nm a w
  | .and c d, w => sat nm rel c w ∧ sat nm rel d w
  | .or c d, w => sat nm rel c w ∨ sat nm rel d w
  | .not c, w => ¬ sat nm rel c w
  | .some r c, w => ∃ u, rel r w u ∧ sat nm rel c u
  | .all r c, w => ∀ u, rel r w u → sat nm rel c u

def Atomic : C → Prop
  | .name _ => True
  | .some _ _ => True
  | .all _ _ => True
  | _ => False

/-- A list of atoms that has each atom within its atoms. -/
structure Closed (L : List C) : Prop where
  atomic : ∀ x ∈ L, Atomic x
  inner : ∀ x ∈ L, ∀ y ∈ x.atoms, y ∈ L

theorem idx_some {L : List C} {x : C} (h : x ∈ L) : ∃ k, L.idxOf? x = some k ∧ ∃ hk : k < L.length, L[k] = x := by
  have : (L.idxOf? x).isSome = true := by simpa using h
  obtain ⟨k, hk⟩ := Option.isSome_iff_exists.mp this
  refine ⟨k, hk, ?_⟩
  rw [List.idxOf?, List.findIdx?_eq_some_iff_getElem] at hk
  obtain ⟨h1, h2, _⟩ := hk
  exact ⟨h1, by simpa using h2⟩

section
variable {W : Type} {nm : Nat → W → Prop} {rel : Nat → W → W → Prop}

/-- t states of w which atoms it has. -/
def isType (nm : Nat → W → Prop) (rel : Nat → W → W → Prop) (L : List C) (t : Nat) (w : W) : Prop :=
  t < 2 ^ L.length ∧ ∀ k (h : k < L.length), Oc.bit t k = true ↔ sat nm rel L[k] w

theorem type_exists (nm : Nat → W → Prop) (rel : Nat → W → W → Prop) (L : List C) (w : W) : ∃ t, isType nm rel L t w := by
  obtain ⟨t, h1, h2⟩ := bits_exist L.length (fun k => ∃ h : k < L.length, sat nm rel L[k] w)
  refine ⟨t, h1, fun k h => (h2 k h).trans ⟨fun ⟨_, e⟩ => e, fun e => ⟨h, e⟩⟩⟩

theorem holds_sat {L : List C} {t : Nat} {w : W} (ht : isType nm rel L t w) :
    ∀ c : C, (∀ y ∈ c.atoms, y ∈ L) → (Oc.holds L t c = true ↔ sat nm rel c w)
  | .top, _ => by simp [Oc.holds, sat]
  | .bot, _ => by simp [Oc.holds, sat]
  | .name a, h => by
    obtain ⟨k, e, hk, ek⟩ := idx_some (h (.name a) (by simp [C.atoms]))
    simp only [Oc.holds, e]
    rw [ht.2 k hk, ek]
  | .and c d, h => by
    simp only [Oc.holds, sat, Bool.and_eq_true]
    rw [holds_sat ht c (fun y hy => h y (by simp [C.atoms, hy])), holds_sat ht d (fun y hy => h y (by simp [C.atoms, hy]))]
  | .or c d, h => by
    simp only [Oc.holds, sat, Bool.or_eq_true]
    rw [holds_sat ht c (fun y hy => h y (by simp [C.atoms, hy])), holds_sat ht d (fun y hy => h y (by simp [C.atoms, hy]))]
  | .not c, h => by
    have := holds_sat ht c (fun y hy => h y (by simpa [C.atoms] using hy))
    simp only [Oc.holds, sat, ← this]
    simp
  | .some r c, h => by
    obtain ⟨k, e, hk, ek⟩ := idx_some (h (.some r c) (by simp [C.atoms]))
    simp only [Oc.holds, e]
    rw [ht.2 k hk, ek]
  | .all r c, h => by
    obtain ⟨k, e, hk, ek⟩ := idx_some (h (.all r c) (by simp [C.atoms]))
    simp only [Oc.holds, e]
    rw [ht.2 k hk, ek]

theorem self_atom {x : C} (h : Atomic x) : x ∈ x.atoms := by
  cases x <;> simp_all [Atomic, C.atoms]

theorem fits_rel {L : List C} (hL : Closed L) {r : Nat} {w v : W} {t u : Nat} (ht : isType nm rel L t w) (hu : isType nm rel L u v)
    (h : rel r w v) : Oc.fits L r t u = true := by
  rw [Oc.fits, List.all_eq_true]
  intro x hx
  have hin := hL.inner x hx
  cases x with
  | some s c =>
    have e1 := holds_sat ht (.some s c) hin
    have e2 := holds_sat hu c (fun y hy => hin y (by simp [C.atoms, hy]))
    by_cases hs : s = r
    · subst hs
      by_cases hc : Oc.holds L u c = true
      · have : Oc.holds L t (.some s c) = true := e1.2 ⟨v, h, e2.1 hc⟩
        simp [this]
      · simp [hc]
    · simp [hs]
  | all s c =>
    have e1 := holds_sat ht (.all s c) hin
    have e2 := holds_sat hu c (fun y hy => hin y (by simp [C.atoms, hy]))
    by_cases hs : s = r
    · subst hs
      by_cases hc : Oc.holds L t (.all s c) = true
      · have : Oc.holds L u c = true := e2.2 (e1.1 hc v h)
        simp [this]
      · simp [hc]
    · simp [hs]
  | _ => rfl

theorem borne_type {L : List C} (hL : Closed L) {l : List Nat} (hl : ∀ v u, isType nm rel L u v → u ∈ l) {w : W} {t : Nat}
    (ht : isType nm rel L t w) : Oc.borne L l t = true := by
  rw [Oc.borne, List.all_eq_true]
  intro x hx
  have hin := hL.inner x hx
  cases x with
  | some r c =>
    have e1 := holds_sat ht (.some r c) hin
    by_cases hc : Oc.holds L t (.some r c) = true
    · obtain ⟨v, h1, h2⟩ := e1.1 hc
      obtain ⟨u, hu⟩ := type_exists nm rel L v
      have e2 := holds_sat hu c (fun y hy => hin y (by simp [C.atoms, hy]))
      have : (l.any fun u => Oc.fits L r t u && Oc.holds L u c) = true := by
        rw [List.any_eq_true]
        exact ⟨u, hl v u hu, by rw [fits_rel hL ht hu h1, e2.2 h2]; rfl⟩
      simp only [this, Bool.or_true]
    · simp [hc]
  | all r c =>
    have e1 := holds_sat ht (.all r c) hin
    by_cases hc : Oc.holds L t (.all r c) = true
    · simp [hc]
    · have : ¬ sat nm rel (.all r c) w := fun h => hc (e1.2 h)
      have : ∃ v, rel r w v ∧ ¬ sat nm rel c v := by
        refine Classical.byContradiction fun hn => this fun v hv => ?_
        exact Classical.byContradiction fun h => hn ⟨v, hv, h⟩
      obtain ⟨v, h1, h2⟩ := this
      obtain ⟨u, hu⟩ := type_exists nm rel L v
      have e2 := holds_sat hu c (fun y hy => hin y (by simp [C.atoms, hy]))
      have : (l.any fun u => Oc.fits L r t u && !Oc.holds L u c) = true := by
        rw [List.any_eq_true]
        refine ⟨u, hl v u hu, ?_⟩
        rw [fits_rel hL ht hu h1]
        have : ¬ Oc.holds L u c = true := fun h => h2 (e2.1 h)
        simp [this]
      simp only [this, Bool.or_true]
  | _ => rfl

theorem settle_keeps {L : List C} (hL : Closed L) : ∀ (n : Nat) (l : List Nat),
    (∀ (v : W) u, isType nm rel L u v → u ∈ l) → ∀ (v : W) u, isType nm rel L u v → u ∈ Oc.settle L n l
  | 0, _, h => h
  | n + 1, l, h => by
    have h' : ∀ (v : W) u, isType nm rel L u v → u ∈ l.filter (Oc.borne L l) := fun v u hu =>
      List.mem_filter.2 ⟨h v u hu, borne_type hL h hu⟩
    simp only [Oc.settle]
    split
    · exact h
    · exact settle_keeps hL n _ h'

theorem types_sound {L : List C} (hL : Closed L) {ax : List Axiom} (ha : ∀ a ∈ ax, (∀ y ∈ a.1.atoms, y ∈ L) ∧ ∀ y ∈ a.2.atoms, y ∈ L)
    (hm : ∀ a ∈ ax, ∀ w : W, sat nm rel a.1 w → sat nm rel a.2 w) {w : W} {t : Nat} (ht : isType nm rel L t w) : t ∈ Oc.types L ax := by
  refine settle_keeps hL _ _ (fun v u hu => ?_) w t ht
  refine List.mem_filter.2 ⟨List.mem_range.2 hu.1, ?_⟩
  rw [Oc.keeps, List.all_eq_true]
  intro a hh
  have e1 := holds_sat hu a.1 (ha a hh).1
  have e2 := holds_sat hu a.2 (ha a hh).2
  by_cases h1 : Oc.holds L u a.1 = true
  · simp [e2.2 (hm a hh v (e1.1 h1))]
  · simp [h1]

end

theorem settle_sub {L : List C} : ∀ (n : Nat) (l : List Nat) t, t ∈ Oc.settle L n l → t ∈ l
  | 0, _, _, h => h
  | n + 1, l, t, h => by
    simp only [Oc.settle] at h
    split at h
    · exact h
    · exact (List.mem_filter.1 (settle_sub n _ t h)).1

theorem filter_same {p : Nat → Bool} {l : List Nat} (h : (l.filter p).length = l.length) : ∀ t ∈ l, p t = true := by
  intro t ht
  have := List.filter_eq_self.1 ((List.filter_sublist (l := l) (p := p)).eq_of_length h)
  exact this t ht

theorem settle_borne {L : List C} : ∀ (n : Nat) (l : List Nat), l.length < n → ∀ t ∈ Oc.settle L n l, Oc.borne L (Oc.settle L n l) t = true
  | 0, _, h => by omega
  | n + 1, l, h => by
    simp only [Oc.settle]
    split
    · next e => exact filter_same e
    · next e =>
      have := List.length_filter_le (Oc.borne L l) l
      exact settle_borne n _ (by omega)

theorem types_borne (L : List C) (ax : List Axiom) : ∀ t ∈ Oc.types L ax, Oc.borne L (Oc.types L ax) t = true := by
  refine settle_borne _ _ ?_
  have := List.length_filter_le (Oc.keeps L ax) (List.range (2 ^ L.length))
  rw [List.length_range] at this
  omega

theorem types_keeps {L : List C} {ax : List Axiom} {t : Nat} (h : t ∈ Oc.types L ax) : Oc.keeps L ax t = true :=
  (List.mem_filter.1 (settle_sub _ _ t h)).2

def cnm (L : List C) (l : List Nat) (a : Nat) (t : { t : Nat // t ∈ l }) : Prop := Oc.holds L t.1 (.name a) = true
def crl (L : List C) (l : List Nat) (r : Nat) (t u : { t : Nat // t ∈ l }) : Prop := Oc.fits L r t.1 u.1 = true

/-- The canonical model: the possible types themselves. -/
theorem canon {L : List C} {l : List Nat} (hb : ∀ t ∈ l, Oc.borne L l t = true) :
    ∀ (c : C), (∀ y ∈ c.atoms, y ∈ L) → ∀ (t : Nat) (ht : t ∈ l),
      (sat (cnm L l) (crl L l) c ⟨t, ht⟩ ↔
        Oc.holds L t c = true)
  | .top, _, t, ht => by simp [Oc.holds, sat]
  | .bot, _, t, ht => by simp [Oc.holds, sat]
  | .name a, h, t, ht => Iff.rfl
  | .and c d, h, t, ht => by
    simp only [Oc.holds, sat, Bool.and_eq_true]
    rw [canon hb c (fun y hy => h y (by simp [C.atoms, hy])), canon hb d (fun y hy => h y (by simp [C.atoms, hy]))]
  | .or c d, h, t, ht => by
    simp only [Oc.holds, sat, Bool.or_eq_true]
    rw [canon hb c (fun y hy => h y (by simp [C.atoms, hy])), canon hb d (fun y hy => h y (by simp [C.atoms, hy]))]
  | .not c, h, t, ht => by
    have := canon hb c (fun y hy => h y (by simpa [C.atoms] using hy)) t ht
    simp only [Oc.holds, sat, this]
    simp
  | .some r c, h, t, ht => by
    have hx : C.some r c ∈ L := h _ (by simp [C.atoms])
    have hc : ∀ y ∈ c.atoms, y ∈ L := fun y hy => h y (by simp [C.atoms, hy])
    constructor
    · rintro ⟨⟨u, hu⟩, h1, h2⟩
      have h2' := (canon hb c hc u hu).1 h2
      have := List.all_eq_true.1 h1 _ hx
      simpa [h2'] using this
    · intro h1
      have := List.all_eq_true.1 (hb t ht) _ hx
      simp only [h1, Bool.not_true, Bool.false_or, List.any_eq_true, Bool.and_eq_true] at this
      obtain ⟨u, hu, h2, h3⟩ := this
      exact ⟨⟨u, hu⟩, h2, (canon hb c hc u hu).2 h3⟩
  | .all r c, h, t, ht => by
    have hx : C.all r c ∈ L := h _ (by simp [C.atoms])
    have hc : ∀ y ∈ c.atoms, y ∈ L := fun y hy => h y (by simp [C.atoms, hy])
    constructor
    · intro h1
      refine Classical.byContradiction fun hn => ?_
      have hn' : Oc.holds L t (.all r c) = false := by simpa using hn
      have := List.all_eq_true.1 (hb t ht) _ hx
      simp only [hn', Bool.false_or, List.any_eq_true, Bool.and_eq_true] at this
      obtain ⟨u, hu, h2, h3⟩ := this
      have := (canon hb c hc u hu).1 (h1 ⟨u, hu⟩ h2)
      rw [this] at h3
      exact absurd h3 (by decide)
    · rintro h1 ⟨u, hu⟩ h2
      refine (canon hb c hc u hu).2 ?_
      have := List.all_eq_true.1 h2 _ hx
      simpa [h1] using this

/-- The list of atoms holds the atoms of axioms. -/
def Covers (L : List C) (ax : List Axiom) : Prop := ∀ a ∈ ax, (∀ y ∈ a.1.atoms, y ∈ L) ∧ ∀ y ∈ a.2.atoms, y ∈ L

theorem any_le {L K : List C} {ax : List Axiom} {e : C} (hK : Closed K) (cL : Covers L ax) (cK : Covers K ax)
    (eL : ∀ y ∈ e.atoms, y ∈ L) (eK : ∀ y ∈ e.atoms, y ∈ K)
    (h : (Oc.types L ax).any (fun t => Oc.holds L t e) = true) : (Oc.types K ax).any (fun t => Oc.holds K t e) = true := by
  rw [List.any_eq_true] at h ⊢
  obtain ⟨t, ht, h1⟩ := h
  have tr := canon (types_borne L ax)
  obtain ⟨u, hu⟩ := type_exists (cnm L (Oc.types L ax)) (crl L (Oc.types L ax)) K ⟨t, ht⟩
  refine ⟨u, types_sound hK cK (fun a ha w hw => ?_) hu, (holds_sat hu e eK).2 ((tr e eL t ht).2 h1)⟩
  obtain ⟨w, hw'⟩ := w
  have k := types_keeps hw'
  rw [Oc.keeps, List.all_eq_true] at k
  have k := k a ha
  have h1 := (tr a.1 (cL a ha).1 w hw').1 hw
  rw [h1] at k
  exact (tr a.2 (cL a ha).2 w hw').2 (by simpa using k)

/-- **Whether a concept is possible does not hang on the list of atoms.** -/
theorem any_same {L K : List C} {ax : List Axiom} {e : C} (hL : Closed L) (hK : Closed K) (cL : Covers L ax) (cK : Covers K ax)
    (eL : ∀ y ∈ e.atoms, y ∈ L) (eK : ∀ y ∈ e.atoms, y ∈ K) :
    (Oc.types L ax).any (fun t => Oc.holds L t e) = (Oc.types K ax).any (fun t => Oc.holds K t e) := by
  rw [Bool.eq_iff_iff]
  exact ⟨any_le hK cL cK eL eK, any_le hL cK cL eK eL⟩

theorem atoms_trans : ∀ (c x : C), x ∈ c.atoms → Atomic x ∧ ∀ y ∈ x.atoms, y ∈ c.atoms
  | .top, x, h => by simp [C.atoms] at h
  | .bot, x, h => by simp [C.atoms] at h
  | .name a, x, h => by
    simp only [C.atoms, List.mem_singleton] at h
    subst h
    exact ⟨trivial, fun y hy => hy⟩
  | .and c d, x, h => by
    simp only [C.atoms, List.mem_append] at h ⊢
    rcases h with h | h
    · exact ⟨(atoms_trans c x h).1, fun y hy => Or.inl ((atoms_trans c x h).2 y hy)⟩
    · exact ⟨(atoms_trans d x h).1, fun y hy => Or.inr ((atoms_trans d x h).2 y hy)⟩
  | .or c d, x, h => by
    simp only [C.atoms, List.mem_append] at h ⊢
    rcases h with h | h
    · exact ⟨(atoms_trans c x h).1, fun y hy => Or.inl ((atoms_trans c x h).2 y hy)⟩
    · exact ⟨(atoms_trans d x h).1, fun y hy => Or.inr ((atoms_trans d x h).2 y hy)⟩
  | .not c, x, h => atoms_trans c x h
  | .some r c, x, h => by
    simp only [C.atoms, List.mem_cons] at h
    rcases h with h | h
    · subst h
      exact ⟨trivial, fun y hy => hy⟩
    · exact ⟨(atoms_trans c x h).1, fun y hy => by simp [C.atoms, (atoms_trans c x h).2 y hy]⟩
  | .all r c, x, h => by
    simp only [C.atoms, List.mem_cons] at h
    rcases h with h | h
    · subst h
      exact ⟨trivial, fun y hy => hy⟩
    · exact ⟨(atoms_trans c x h).1, fun y hy => by simp [C.atoms, (atoms_trans c x h).2 y hy]⟩

theorem distinct_go (l : List C) : ∀ (m : List C) (x : C),
    x ∈ l.foldl (fun m c => if m.contains c = true then m else m ++ [c]) m ↔ x ∈ m ∨ x ∈ l := by
  induction l with
  | nil => simp
  | cons c l ih =>
    intro m x
    rw [List.foldl_cons, ih]
    split
    · next h =>
      have : c ∈ m := by simpa using h
      constructor
      · rintro (h | h)
        · exact Or.inl h
        · exact Or.inr (List.mem_cons_of_mem _ h)
      · rintro (h | h)
        · exact Or.inl h
        · rcases List.mem_cons.1 h with h | h
          · subst h; exact Or.inl this
          · exact Or.inr h
    · simp [List.mem_append, or_assoc]

theorem mem_atomsOf {l : List C} {x : C} : x ∈ Oc.atomsOf l ↔ ∃ c ∈ l, x ∈ c.atoms := by
  rw [Oc.atomsOf, Oc.distinct, distinct_go]
  simp

theorem closed_atomsOf (l : List C) : Closed (Oc.atomsOf l) where
  atomic := fun x hx => by
    obtain ⟨c, _, h⟩ := mem_atomsOf.1 hx
    exact (atoms_trans c x h).1
  inner := fun x hx y hy => by
    obtain ⟨c, h0, h⟩ := mem_atomsOf.1 hx
    exact mem_atomsOf.2 ⟨c, h0, (atoms_trans c x h).2 y hy⟩

theorem closed_atomsFor (ax : List Axiom) (l : List C) : Closed (Oc.atomsFor ax l) := closed_atomsOf _

theorem mem_atomsFor {ax : List Axiom} {l : List C} {x : C} :
    x ∈ Oc.atomsFor ax l ↔ (∃ a ∈ ax, x ∈ a.1.atoms ∨ x ∈ a.2.atoms) ∨ ∃ c ∈ l, x ∈ c.atoms := by
  rw [Oc.atomsFor, mem_atomsOf]
  constructor
  · rintro ⟨c, h, hx⟩
    rcases List.mem_append.1 h with h | h
    · obtain ⟨a, ha, hc⟩ := List.mem_flatMap.1 h
      simp only [List.mem_cons, List.not_mem_nil, or_false] at hc
      rcases hc with rfl | rfl
      · exact Or.inl ⟨a, ha, Or.inl hx⟩
      · exact Or.inl ⟨a, ha, Or.inr hx⟩
    · exact Or.inr ⟨c, h, hx⟩
  · rintro (⟨a, ha, h | h⟩ | ⟨c, hc, h⟩)
    · exact ⟨a.1, List.mem_append_left _ (List.mem_flatMap.2 ⟨a, ha, by simp⟩), h⟩
    · exact ⟨a.2, List.mem_append_left _ (List.mem_flatMap.2 ⟨a, ha, by simp⟩), h⟩
    · exact ⟨c, List.mem_append_right _ hc, h⟩

theorem some_sub (b : Oc08.Book) (l : List Nat) : ∀ a ∈ b.axioms ++ Oc08.some_ b.guesses l, a ∈ b.all := by
  intro a ha
  rcases List.mem_append.1 ha with h | h
  · exact List.mem_append_left _ h
  · refine List.mem_append_right _ ?_
    rw [Oc08.some_, List.mem_filterMap] at h
    obtain ⟨i, _, h⟩ := h
    cases e : b.guesses[i]? with
    | none => rw [e] at h; simp at h
    | some g =>
      rw [e] at h
      simp only [Option.map_some, Option.some.injEq] at h
      exact List.mem_map.2 ⟨g, List.mem_of_getElem? e, h⟩

theorem covers_for (b : Oc08.Book) (l : List Nat) (cs : List C) : Covers (Oc.atomsFor b.all cs) (b.axioms ++ Oc08.some_ b.guesses l) := by
  intro a ha
  have := some_sub b l a ha
  exact ⟨fun y hy => mem_atomsFor.2 (Or.inl ⟨a, this, Or.inl hy⟩), fun y hy => mem_atomsFor.2 (Or.inl ⟨a, this, Or.inr hy⟩)⟩

/-- What is due of a subsumption, over a wider list of atoms. -/
theorem does_over (b : Oc08.Book) (l : List Nat) (c d : C) (cs : List C) (hc : c ∈ cs) (hd : d ∈ cs) :
    b.does l c d = !((b.types (Oc.atomsFor b.all cs) l).any fun t => Oc.holds (Oc.atomsFor b.all cs) t c && !Oc.holds (Oc.atomsFor b.all cs) t d) := by
  have := any_same (e := .and c (.not d)) (closed_atomsFor b.all [c, d]) (closed_atomsFor b.all cs) (covers_for b l [c, d]) (covers_for b l cs)
    (fun y hy => by
      simp only [C.atoms, List.mem_append] at hy
      refine mem_atomsFor.2 (Or.inr ?_)
      rcases hy with h | h
      · exact ⟨c, by simp, h⟩
      · exact ⟨d, by simp, h⟩)
    (fun y hy => by
      simp only [C.atoms, List.mem_append] at hy
      refine mem_atomsFor.2 (Or.inr ?_)
      rcases hy with h | h
      · exact ⟨c, hc, h⟩
      · exact ⟨d, hd, h⟩)
  exact congrArg (fun x => !x) this

/-- What is due of the protected concepts, over a wider list of atoms. -/
theorem stays_over (b : Oc08.Book) (l : List Nat) (cs : List C) (hk : ∀ c ∈ b.keep, c ∈ cs) :
    b.stays l = b.keep.all fun c => (b.types (Oc.atomsFor b.all cs) l).any fun t => Oc.holds (Oc.atomsFor b.all cs) t c := by
  rw [Bool.eq_iff_iff]
  simp only [Oc08.Book.stays, List.all_eq_true]
  have key : ∀ c ∈ b.keep, ((b.types (Oc.atomsFor b.all b.keep) l).any fun u => Oc.holds (Oc.atomsFor b.all b.keep) u c) =
      (b.types (Oc.atomsFor b.all cs) l).any fun t => Oc.holds (Oc.atomsFor b.all cs) t c := fun c hc =>
    any_same (closed_atomsFor b.all b.keep) (closed_atomsFor b.all cs) (covers_for b l b.keep) (covers_for b l cs)
      (fun y hy => mem_atomsFor.2 (Or.inr ⟨c, hc, hy⟩)) (fun y hy => mem_atomsFor.2 (Or.inr ⟨c, hk c hc, hy⟩))
  constructor
  · intro h c hc
    rw [← key c hc]; exact h c hc
  · intro h c hc
    rw [key c hc]; exact h c hc

end Mx
/-! Concepts as numbers: where they end, where the inner ones begin. -/
namespace Mx
open Oc (C Axiom)

/-- a concept as numbers -/
def enc : C → List Nat
  | .top => [0]
  | .bot => [1]
  | .name a => [2, a]
  | .and c d => 3 :: (enc c ++ enc d)
  | .or c d => 4 :: (enc c ++ enc d)
  | .not c => 5 :: enc c
  | .some r c => 6 :: r :: enc c
  | .all r c => 7 :: r :: enc c

/-- its names are below 4, its roles below 2 -/
def Valid : C → Prop
  | .top => True
  | .bot => True
  | .name a => a < 4
  | .and c d => Valid c ∧ Valid d
  | .or c d => Valid c ∧ Valid d
  | .not c => Valid c
  | .some r c => r < 2 ∧ Valid c
  | .all r c => r < 2 ∧ Valid c

theorem enc_pos (c : C) : 0 < (enc c).length := by
  cases c <;> simp [enc]

theorem read_enc : ∀ (c : C) (r : List Nat) (n : Nat), Valid c → (enc c).length < n + 1 → Oc.read (n + 1) (enc c ++ r) = some (c, r)
  | .top, r, n, _, _ => rfl
  | .bot, r, n, _, _ => rfl
  | .name a, r, n, v, _ => by
    have v : a < 4 := v
    simp [enc, Oc.read, Oc.NAMES, v]
  | .and c d, r, n, v, h => by
    simp only [enc, List.length_cons, List.length_append] at h
    have p1 := enc_pos c
    have p2 := enc_pos d
    obtain ⟨k, rfl⟩ : ∃ k, n = k + 1 := ⟨n - 1, by omega⟩
    have e1 := read_enc c (enc d ++ r) k v.1 (by omega)
    have e2 := read_enc d r k v.2 (by omega)
    show Oc.read (k + 1 + 1) (3 :: (enc c ++ enc d ++ r)) = _
    rw [Oc.read, List.append_assoc, e1]
    simp only [e2, Option.map_some]
  | .or c d, r, n, v, h => by
    simp only [enc, List.length_cons, List.length_append] at h
    have p1 := enc_pos c
    have p2 := enc_pos d
    obtain ⟨k, rfl⟩ : ∃ k, n = k + 1 := ⟨n - 1, by omega⟩
    have e1 := read_enc c (enc d ++ r) k v.1 (by omega)
    have e2 := read_enc d r k v.2 (by omega)
    show Oc.read (k + 1 + 1) (4 :: (enc c ++ enc d ++ r)) = _
    rw [Oc.read, List.append_assoc, e1]
    simp only [e2, Option.map_some]
  | .not c, r, n, v, h => by
    simp only [enc, List.length_cons] at h
    have p1 := enc_pos c
    obtain ⟨k, rfl⟩ : ∃ k, n = k + 1 := ⟨n - 1, by omega⟩
    have e1 := read_enc c r k v (by omega)
    show Oc.read (k + 1 + 1) (5 :: (enc c ++ r)) = _
    rw [Oc.read, e1]
    rfl
  | .some q c, r, n, v, h => by
    simp only [enc, List.length_cons] at h
    have p1 := enc_pos c
    obtain ⟨k, rfl⟩ : ∃ k, n = k + 1 := ⟨n - 1, by omega⟩
    have e1 := read_enc c r k v.2 (by omega)
    show Oc.read (k + 1 + 1) (6 :: q :: (enc c ++ r)) = _
    rw [Oc.read, e1, if_pos (show q < Oc.ROLES from v.1)]
    rfl
  | .all q c, r, n, v, h => by
    simp only [enc, List.length_cons] at h
    have p1 := enc_pos c
    obtain ⟨k, rfl⟩ : ∃ k, n = k + 1 := ⟨n - 1, by omega⟩
    have e1 := read_enc c r k v.2 (by omega)
    show Oc.read (k + 1 + 1) (7 :: q :: (enc c ++ r)) = _
    rw [Oc.read, e1, if_pos (show q < Oc.ROLES from v.1)]
    rfl

theorem read_some : ∀ (n : Nat) (l : List Nat) (c : C) (r : List Nat), Oc.read n l = some (c, r) → l = enc c ++ r ∧ Valid c
  | 0, l, c, r, h => by simp [Oc.read] at h
  | n + 1, l, c, r, h => by
    unfold Oc.read at h
    split at h
    · simp only [Option.some.injEq, Prod.mk.injEq] at h
      obtain ⟨rfl, rfl⟩ := h
      exact ⟨rfl, trivial⟩
    · simp only [Option.some.injEq, Prod.mk.injEq] at h
      obtain ⟨rfl, rfl⟩ := h
      exact ⟨rfl, trivial⟩
    · split at h
      · next ha =>
        simp only [Option.some.injEq, Prod.mk.injEq] at h
        obtain ⟨rfl, rfl⟩ := h
        exact ⟨rfl, ha⟩
      · simp at h
    · split at h
      · simp at h
      · next x e =>
        simp only [Option.map_eq_some_iff] at h
        obtain ⟨y, e2, h⟩ := h
        simp only [Prod.mk.injEq] at h
        obtain ⟨rfl, rfl⟩ := h
        obtain ⟨q1, v1⟩ := read_some n _ x.1 x.2 e
        obtain ⟨q2, v2⟩ := read_some n _ y.1 y.2 e2
        exact ⟨by rw [q1, q2]; simp [enc], v1, v2⟩
    · split at h
      · simp at h
      · next x e =>
        simp only [Option.map_eq_some_iff] at h
        obtain ⟨y, e2, h⟩ := h
        simp only [Prod.mk.injEq] at h
        obtain ⟨rfl, rfl⟩ := h
        obtain ⟨q1, v1⟩ := read_some n _ x.1 x.2 e
        obtain ⟨q2, v2⟩ := read_some n _ y.1 y.2 e2
        exact ⟨by rw [q1, q2]; simp [enc], v1, v2⟩
    · simp only [Option.map_eq_some_iff] at h
      obtain ⟨y, e2, h⟩ := h
      simp only [Prod.mk.injEq] at h
      obtain ⟨rfl, rfl⟩ := h
      obtain ⟨q2, v2⟩ := read_some n _ y.1 y.2 e2
      exact ⟨by rw [q2]; simp [enc], v2⟩
    · split at h
      · next hk =>
        simp only [Option.map_eq_some_iff] at h
        obtain ⟨y, e2, h⟩ := h
        simp only [Prod.mk.injEq] at h
        obtain ⟨rfl, rfl⟩ := h
        obtain ⟨q2, v2⟩ := read_some n _ y.1 y.2 e2
        exact ⟨by rw [q2]; simp [enc], hk, v2⟩
      · simp at h
    · split at h
      · next hk =>
        simp only [Option.map_eq_some_iff] at h
        obtain ⟨y, e2, h⟩ := h
        simp only [Prod.mk.injEq] at h
        obtain ⟨rfl, rfl⟩ := h
        obtain ⟨q2, v2⟩ := read_some n _ y.1 y.2 e2
        exact ⟨by rw [q2]; simp [enc], hk, v2⟩
      · simp at h
    · cases h

/-- one concept from the front, as the specification reads it with enough room -/
def rd (l : List Nat) : Option (C × List Nat) := Oc.read (l.length + 1) l

theorem rd_iff {l : List Nat} {c : C} {r : List Nat} : rd l = some (c, r) ↔ l = enc c ++ r ∧ Valid c := by
  constructor
  · exact read_some _ _ _ _
  · rintro ⟨rfl, v⟩
    exact read_enc c r _ v (by simp [List.length_append]; omega)

theorem enc_inj {c d : C} {r s : List Nat} (vc : Valid c) (vd : Valid d) (h : enc c ++ r = enc d ++ s) : c = d ∧ r = s := by
  have e1 := (rd_iff (l := enc c ++ r)).2 ⟨rfl, vc⟩
  have e2 := (rd_iff (l := enc d ++ s)).2 ⟨rfl, vd⟩
  rw [h, e2] at e1
  simp only [Option.some.injEq, Prod.mk.injEq] at e1
  exact ⟨e1.1.symm, e1.2.symm⟩

/-- how many numbers stand ahead of the inner concepts; 0: no concept begins so -/
def hw : List Nat → Nat
  | 0 :: _ => 1
  | 1 :: _ => 1
  | 3 :: _ => 1
  | 4 :: _ => 1
  | 5 :: _ => 1
  | 2 :: a :: _ => if a < 4 then 2 else 0
  | 6 :: k :: _ => if k < 2 then 2 else 0
  | 7 :: k :: _ => if k < 2 then 2 else 0
  | _ => 0
/-- how many concepts follow -/
def inner : Nat → Nat
  | 3 => 2
  | 4 => 2
  | 5 => 1
  | 6 => 1
  | 7 => 1
  | _ => 0

/-- so many concepts from the front: what is left -/
def rds : Nat → List Nat → Option (List Nat)
  | 0, l => some l
  | m + 1, l => match rd l with
    | none => none
    | some x => rds m x.2

theorem rds_enc {m : Nat} {c : C} {r : List Nat} (v : Valid c) : rds (m + 1) (enc c ++ r) = rds m r := by
  rw [rds, rd_iff.2 ⟨rfl, v⟩]

theorem rds_zero_w {m : Nat} {l : List Nat} (h : hw l = 0) : rds (m + 1) l = none := by
  rw [rds]
  cases e : rd l with
  | none => rfl
  | some x =>
    obtain ⟨c, r⟩ := x
    obtain ⟨rfl, v⟩ := rd_iff.1 e
    cases c <;> simp_all [hw, enc, Valid]

theorem rds_of {m : Nat} {l : List Nat} {r : List Nat} (h : rds (m + 1) l = some r) : ∃ c s, l = enc c ++ s ∧ Valid c ∧ rds m s = some r := by
  rw [rds] at h
  cases e : rd l with
  | none => rw [e] at h; simp at h
  | some x =>
    rw [e] at h
    obtain ⟨q, v⟩ := rd_iff.1 (show rd l = some (x.1, x.2) from e)
    exact ⟨x.1, x.2, q, v, h⟩

/-- two partial readings that agree wherever one of them succeeds -/
theorem opt_ext {a b : Option (List Nat)} (h1 : ∀ r, a = some r → b = some r) (h2 : ∀ r, b = some r → a = some r) : a = b := by
  cases a with
  | none =>
    cases b with
    | none => rfl
    | some r => exact h2 r rfl
  | some r => exact (h1 r rfl).symm

theorem rds_step {m h : Nat} {l : List Nat} (hh : l[0]? = some h) (hz : hw l ≠ 0) : rds (m + 1) l = rds (m + inner h) (l.drop (hw l)) := by
  cases l with
  | nil => simp at hh
  | cons x r =>
    simp only [List.getElem?_cons_zero, Option.some.injEq] at hh
    subst hh
    refine opt_ext (fun q e => ?_) (fun q e => ?_)
    · obtain ⟨c, s, e1, v, e2⟩ := rds_of e
      cases c with
      | top => simp only [enc, List.cons_append, List.nil_append, List.cons.injEq] at e1; obtain ⟨rfl, rfl⟩ := e1; simpa [hw, inner] using e2
      | bot => simp only [enc, List.cons_append, List.nil_append, List.cons.injEq] at e1; obtain ⟨rfl, rfl⟩ := e1; simpa [hw, inner] using e2
      | name a =>
        have v : a < 4 := v
        simp only [enc, List.cons_append, List.nil_append, List.cons.injEq] at e1; obtain ⟨rfl, rfl⟩ := e1; simpa [hw, inner, v] using e2
      | and c d =>
        simp only [enc, List.cons_append, List.cons.injEq] at e1; obtain ⟨rfl, rfl⟩ := e1
        have : hw (3 :: (enc c ++ enc d ++ s)) = 1 := rfl
        rw [this]
        simp only [inner, List.drop_succ_cons, List.drop_zero]
        rw [List.append_assoc, rds_enc v.1, rds_enc v.2]
        exact e2
      | or c d =>
        simp only [enc, List.cons_append, List.cons.injEq] at e1; obtain ⟨rfl, rfl⟩ := e1
        have : hw (4 :: (enc c ++ enc d ++ s)) = 1 := rfl
        rw [this]
        simp only [inner, List.drop_succ_cons, List.drop_zero]
        rw [List.append_assoc, rds_enc v.1, rds_enc v.2]
        exact e2
      | not c =>
        simp only [enc, List.cons_append, List.cons.injEq] at e1; obtain ⟨rfl, rfl⟩ := e1
        have : hw (5 :: (enc c ++ s)) = 1 := rfl
        rw [this]
        simp only [inner, List.drop_succ_cons, List.drop_zero]
        rw [rds_enc (c := c) v]
        exact e2
      | some k c =>
        have v1 : k < 2 := v.1
        simp only [enc, List.cons_append, List.cons.injEq] at e1; obtain ⟨rfl, rfl⟩ := e1
        have : hw (6 :: k :: (enc c ++ s)) = 2 := by simp [hw, v1]
        rw [this]
        simp only [inner, List.drop_succ_cons, List.drop_zero]
        rw [rds_enc v.2]
        exact e2
      | all k c =>
        have v1 : k < 2 := v.1
        simp only [enc, List.cons_append, List.cons.injEq] at e1; obtain ⟨rfl, rfl⟩ := e1
        have : hw (7 :: k :: (enc c ++ s)) = 2 := by simp [hw, v1]
        rw [this]
        simp only [inner, List.drop_succ_cons, List.drop_zero]
        rw [rds_enc v.2]
        exact e2
    · match x, r, hz, e with
      | 0, r, _, e =>
        have e : rds m r = some q := by simpa [hw, inner] using e
        rw [← e]
        exact rds_enc (c := .top) (r := r) trivial
      | 1, r, _, e =>
        have e : rds m r = some q := by simpa [hw, inner] using e
        rw [← e]
        exact rds_enc (c := .bot) (r := r) trivial
      | 2, [], hz, e => simp [hw] at hz
      | 2, a :: r, hz, e =>
        have ha : a < 4 := by
          simp only [hw] at hz
          split at hz
          · assumption
          · exact absurd rfl hz
        have e : rds m r = some q := by simpa [hw, inner, ha] using e
        rw [← e]
        exact rds_enc (c := .name a) (r := r) ha
      | 3, r, _, e =>
        have e : rds (m + 2) r = some q := by simpa [hw, inner] using e
        obtain ⟨c, s, rfl, vc, e⟩ := rds_of e
        obtain ⟨d, s, rfl, vd, e⟩ := rds_of e
        rw [← e, ← List.append_assoc]
        exact rds_enc (c := .and c d) ⟨vc, vd⟩
      | 4, r, _, e =>
        have e : rds (m + 2) r = some q := by simpa [hw, inner] using e
        obtain ⟨c, s, rfl, vc, e⟩ := rds_of e
        obtain ⟨d, s, rfl, vd, e⟩ := rds_of e
        rw [← e, ← List.append_assoc]
        exact rds_enc (c := .or c d) ⟨vc, vd⟩
      | 5, r, _, e =>
        have e : rds (m + 1) r = some q := by simpa [hw, inner] using e
        obtain ⟨c, s, rfl, vc, e⟩ := rds_of e
        rw [← e]
        exact rds_enc (c := .not c) vc
      | 6, [], hz, e => simp [hw] at hz
      | 6, k :: r, hz, e =>
        have hk : k < 2 := by
          simp only [hw] at hz
          split at hz
          · assumption
          · exact absurd rfl hz
        have e : rds (m + 1) r = some q := by simpa [hw, inner, hk] using e
        obtain ⟨c, s, rfl, vc, e⟩ := rds_of e
        rw [← e]
        exact rds_enc (c := .some k c) ⟨hk, vc⟩
      | 7, [], hz, e => simp [hw] at hz
      | 7, k :: r, hz, e =>
        have hk : k < 2 := by
          simp only [hw] at hz
          split at hz
          · assumption
          · exact absurd rfl hz
        have e : rds (m + 1) r = some q := by simpa [hw, inner, hk] using e
        obtain ⟨c, s, rfl, vc, e⟩ := rds_of e
        rw [← e]
        exact rds_enc (c := .all k c) ⟨hk, vc⟩
      | x + 8, r, hz, e => exact absurd rfl hz

theorem hw_le (l : List Nat) : hw l ≤ l.length := by
  unfold hw
  split <;> simp <;> split <;> omega

/-- **Where the concept that begins at a place ends**; 0 if there is none. -/
def cend (ns : List Nat) (i : Nat) : Nat := match rds 1 (ns.drop i) with
  | none => 0
  | some r => ns.length - r.length

theorem cend_none {ns : List Nat} {i : Nat} (h : rds 1 (ns.drop i) = none) : cend ns i = 0 := by rw [cend, h]
theorem cend_some {ns : List Nat} {i e : Nat} (he : e ≤ ns.length) (h : rds 1 (ns.drop i) = some (ns.drop e)) : cend ns i = e := by
  rw [cend, h]
  simp only [List.length_drop]
  omega
theorem cend_enc {pre post : List Nat} {c : C} (v : Valid c) : cend (pre ++ (enc c ++ post)) pre.length = pre.length + (enc c).length := by
  refine cend_some (by simp) ?_
  rw [List.drop_left, rds_enc v]
  show some post = _
  have : (pre ++ (enc c ++ post)).drop (pre.length + (enc c).length) = post := by
    rw [← List.append_assoc, ← List.length_append, List.drop_left]
  rw [this]

/-- **The places where concepts begin** -/
def starts : Nat → List Nat → Nat → List Nat
  | 0, _, _ => []
  | f + 1, l, o => match l with
    | [] => []
    | _ :: _ => o :: starts f (l.drop (hw l)) (o + hw l)

/-- the concepts within a concept, with their places -/
def marks : C → Nat → List (Nat × C)
  | .top, o => [(o, .top)]
  | .bot, o => [(o, .bot)]
  | .name a, o => [(o, .name a)]
  | .and c d, o => (o, .and c d) :: (marks c (o + 1) ++ marks d (o + 1 + (enc c).length))
  | .or c d, o => (o, .or c d) :: (marks c (o + 1) ++ marks d (o + 1 + (enc c).length))
  | .not c, o => (o, .not c) :: marks c (o + 1)
  | .some r c, o => (o, .some r c) :: marks c (o + 2)
  | .all r c, o => (o, .all r c) :: marks c (o + 2)

theorem hw_enc {c : C} (v : Valid c) (r : List Nat) : 0 < hw (enc c ++ r) := by
  cases c <;> simp_all [hw, enc, Valid]

theorem marks_length_le : ∀ (c : C) (o : Nat), (marks c o).length ≤ (enc c).length
  | .top, o => by simp [marks, enc]
  | .bot, o => by simp [marks, enc]
  | .name a, o => by simp [marks, enc]
  | .and c d, o => by have := marks_length_le c (o + 1); have := marks_length_le d (o + 1 + (enc c).length); simp [marks, enc]; omega
  | .or c d, o => by have := marks_length_le c (o + 1); have := marks_length_le d (o + 1 + (enc c).length); simp [marks, enc]; omega
  | .not c, o => by have := marks_length_le c (o + 1); simp [marks, enc]; omega
  | .some r c, o => by have := marks_length_le c (o + 2); simp [marks, enc]; omega
  | .all r c, o => by have := marks_length_le c (o + 2); simp [marks, enc]; omega

theorem starts_enc : ∀ (c : C) (r : List Nat) (o f : Nat), Valid c →
    starts (f + (marks c o).length) (enc c ++ r) o = (marks c o).map (·.1) ++ starts f r (o + (enc c).length)
  | .top, r, o, f, v => rfl
  | .bot, r, o, f, v => rfl
  | .name a, r, o, f, v => by
    have v : a < 4 := v
    simp [marks, enc, starts, hw, v]
  | .and c d, r, o, f, v => by
    have e1 := starts_enc c (enc d ++ r) (o + 1) (f + (marks d (o + 1 + (enc c).length)).length) v.1
    have e2 := starts_enc d r (o + 1 + (enc c).length) f v.2
    have h1 : hw (3 :: (enc c ++ enc d ++ r)) = 1 := rfl
    have hf : f + (marks (.and c d) o).length = f + (marks d (o + 1 + (enc c).length)).length + (marks c (o + 1)).length + 1 := by
      simp [marks]; omega
    rw [hf]
    show o :: starts _ ((3 :: (enc c ++ enc d ++ r)).drop (hw (3 :: (enc c ++ enc d ++ r)))) (o + hw (3 :: (enc c ++ enc d ++ r))) = _
    rw [h1]
    simp only [List.drop_succ_cons, List.drop_zero]
    rw [List.append_assoc, e1, e2]
    simp [marks, enc, List.map_append, List.append_assoc]
    congr 1
    omega
  | .or c d, r, o, f, v => by
    have e1 := starts_enc c (enc d ++ r) (o + 1) (f + (marks d (o + 1 + (enc c).length)).length) v.1
    have e2 := starts_enc d r (o + 1 + (enc c).length) f v.2
    have h1 : hw (4 :: (enc c ++ enc d ++ r)) = 1 := rfl
    have hf : f + (marks (.or c d) o).length = f + (marks d (o + 1 + (enc c).length)).length + (marks c (o + 1)).length + 1 := by
      simp [marks]; omega
    rw [hf]
    show o :: starts _ ((4 :: (enc c ++ enc d ++ r)).drop (hw (4 :: (enc c ++ enc d ++ r)))) (o + hw (4 :: (enc c ++ enc d ++ r))) = _
    rw [h1]
    simp only [List.drop_succ_cons, List.drop_zero]
    rw [List.append_assoc, e1, e2]
    simp [marks, enc, List.map_append, List.append_assoc]
    congr 1
    omega
  | .not c, r, o, f, v => by
    have e1 := starts_enc c r (o + 1) f v
    have h1 : hw (5 :: (enc c ++ r)) = 1 := rfl
    have hf : f + (marks (.not c) o).length = f + (marks c (o + 1)).length + 1 := by simp [marks]; omega
    rw [hf]
    show o :: starts _ ((5 :: (enc c ++ r)).drop (hw (5 :: (enc c ++ r)))) (o + hw (5 :: (enc c ++ r))) = _
    rw [h1]
    simp only [List.drop_succ_cons, List.drop_zero]
    rw [e1]
    simp [marks, enc]
    congr 1
    omega
  | .some k c, r, o, f, v => by
    have vk : k < 2 := v.1
    have e1 := starts_enc c r (o + 2) f v.2
    have h1 : hw (6 :: k :: (enc c ++ r)) = 2 := by simp [hw, vk]
    have hf : f + (marks (.some k c) o).length = f + (marks c (o + 2)).length + 1 := by simp [marks]; omega
    rw [hf]
    show o :: starts _ ((6 :: k :: (enc c ++ r)).drop (hw (6 :: k :: (enc c ++ r)))) (o + hw (6 :: k :: (enc c ++ r))) = _
    rw [h1]
    simp only [List.drop_succ_cons, List.drop_zero]
    rw [e1]
    simp [marks, enc]
    congr 1
    omega
  | .all k c, r, o, f, v => by
    have vk : k < 2 := v.1
    have e1 := starts_enc c r (o + 2) f v.2
    have h1 : hw (7 :: k :: (enc c ++ r)) = 2 := by simp [hw, vk]
    have hf : f + (marks (.all k c) o).length = f + (marks c (o + 2)).length + 1 := by simp [marks]; omega
    rw [hf]
    show o :: starts _ ((7 :: k :: (enc c ++ r)).drop (hw (7 :: k :: (enc c ++ r)))) (o + hw (7 :: k :: (enc c ++ r))) = _
    rw [h1]
    simp only [List.drop_succ_cons, List.drop_zero]
    rw [e1]
    simp [marks, enc]
    congr 1
    omega

theorem starts_all (c : C) (v : Valid c) : starts ((marks c 0).length) (enc c) 0 = (marks c 0).map (·.1) := by
  have := starts_enc c [] 0 0 v
  simpa [starts] using this


/-- what stands at the place of an inner concept -/
theorem marks_at : ∀ (c : C) (o : Nat) (p : Nat × C), p ∈ marks c o → Valid c → Valid p.2 ∧ ∃ pre post, enc c = pre ++ (enc p.2 ++ post) ∧ p.1 = o + pre.length
  | .top, o, p, h, v => by simp only [marks, List.mem_singleton] at h; subst h; exact ⟨v, [], [], by simp, rfl⟩
  | .bot, o, p, h, v => by simp only [marks, List.mem_singleton] at h; subst h; exact ⟨v, [], [], by simp, rfl⟩
  | .name a, o, p, h, v => by simp only [marks, List.mem_singleton] at h; subst h; exact ⟨v, [], [], by simp, rfl⟩
  | .and c d, o, p, h, v => by
    simp only [marks, List.mem_cons, List.mem_append] at h
    rcases h with rfl | h | h
    · exact ⟨v, [], [], by simp, rfl⟩
    · obtain ⟨vp, pre, post, e, q⟩ := marks_at c _ p h v.1
      exact ⟨vp, 3 :: pre, post ++ enc d, by simp [enc, e, List.append_assoc], by simp; omega⟩
    · obtain ⟨vp, pre, post, e, q⟩ := marks_at d _ p h v.2
      exact ⟨vp, 3 :: (enc c ++ pre), post, by simp [enc, e, List.append_assoc], by simp; omega⟩
  | .or c d, o, p, h, v => by
    simp only [marks, List.mem_cons, List.mem_append] at h
    rcases h with rfl | h | h
    · exact ⟨v, [], [], by simp, rfl⟩
    · obtain ⟨vp, pre, post, e, q⟩ := marks_at c _ p h v.1
      exact ⟨vp, 4 :: pre, post ++ enc d, by simp [enc, e, List.append_assoc], by simp; omega⟩
    · obtain ⟨vp, pre, post, e, q⟩ := marks_at d _ p h v.2
      exact ⟨vp, 4 :: (enc c ++ pre), post, by simp [enc, e, List.append_assoc], by simp; omega⟩
  | .not c, o, p, h, v => by
    simp only [marks, List.mem_cons] at h
    rcases h with rfl | h
    · exact ⟨v, [], [], by simp, rfl⟩
    · obtain ⟨vp, pre, post, e, q⟩ := marks_at c _ p h v
      exact ⟨vp, 5 :: pre, post, by simp [enc, e], by simp; omega⟩
  | .some k c, o, p, h, v => by
    simp only [marks, List.mem_cons] at h
    rcases h with rfl | h
    · exact ⟨v, [], [], by simp, rfl⟩
    · obtain ⟨vp, pre, post, e, q⟩ := marks_at c _ p h v.2
      exact ⟨vp, 6 :: k :: pre, post, by simp [enc, e], by simp; omega⟩
  | .all k c, o, p, h, v => by
    simp only [marks, List.mem_cons] at h
    rcases h with rfl | h
    · exact ⟨v, [], [], by simp, rfl⟩
    · obtain ⟨vp, pre, post, e, q⟩ := marks_at c _ p h v.2
      exact ⟨vp, 7 :: k :: pre, post, by simp [enc, e], by simp; omega⟩

/-- whether a concept is an atom -/
def isAt : C → Bool
  | .name _ => true
  | .some _ _ => true
  | .all _ _ => true
  | _ => false

theorem isAt_enc (c : C) : isAt c = ((enc c).headD 0 == 2 || (enc c).headD 0 == 6 || (enc c).headD 0 == 7) := by
  cases c <;> rfl

/-- the atoms of a concept are the atoms among the concepts within it -/
theorem marks_atoms : ∀ (c : C) (o : Nat), ((marks c o).map (·.2)).filter isAt = c.atoms
  | .top, o => rfl
  | .bot, o => rfl
  | .name a, o => rfl
  | .and c d, o => by
    simp only [marks, List.map_cons, List.map_append, List.filter_cons, isAt, List.filter_append, marks_atoms c, marks_atoms d, C.atoms]
    simp
  | .or c d, o => by
    simp only [marks, List.map_cons, List.map_append, List.filter_cons, isAt, List.filter_append, marks_atoms c, marks_atoms d, C.atoms]
    simp
  | .not c, o => by
    simp only [marks, List.map_cons, List.filter_cons, isAt, marks_atoms c, C.atoms]
    simp
  | .some r c, o => by
    simp only [marks, List.map_cons, List.filter_cons, isAt, marks_atoms c, C.atoms]
    simp
  | .all r c, o => by
    simp only [marks, List.map_cons, List.filter_cons, isAt, marks_atoms c, C.atoms]
    simp

end Mx
/-! A list of numbers as concepts, one behind another. -/
namespace Mx
open Oc (C Axiom)

/-- cs are the concepts that the numbers consist of; none if they are not just concepts -/
def Splits (ns : List Nat) (cs : List C) : Prop :=
  (ns = cs.flatMap enc ∧ ∀ c ∈ cs, Valid c) ∨ (cs = [] ∧ ∀ ds : List C, (∀ c ∈ ds, Valid c) → ns ≠ ds.flatMap enc)

theorem flat_ne (c : C) (l : List C) (r : List Nat) : (c :: l).flatMap enc ++ r ≠ [] := by
  intro h
  have e := enc_pos c
  rw [List.flatMap_cons, List.append_assoc] at h
  have h := (List.append_eq_nil_iff.1 h).1
  rw [h] at e
  exact absurd e (by decide)

theorem flat_inj : ∀ (a b : List C), (∀ x ∈ a, Valid x) → (∀ x ∈ b, Valid x) → a.flatMap enc = b.flatMap enc → a = b
  | [], [], _, _, _ => rfl
  | [], y :: b, _, _, h => absurd (by rw [List.append_nil]; exact h.symm) (flat_ne y b [])
  | x :: a, [], _, _, h => absurd (by rw [List.append_nil]; exact h) (flat_ne x a [])
  | x :: a, y :: b, ha, hb, h => by
    simp only [List.flatMap_cons] at h
    obtain ⟨rfl, h2⟩ := enc_inj (ha x (by simp)) (hb y (by simp)) h
    rw [flat_inj a b (fun c hc => ha c (by simp [hc])) (fun c hc => hb c (by simp [hc])) h2]

theorem flat_strip : ∀ (done ds : List C) (l : List Nat), (∀ c ∈ done, Valid c) → (∀ c ∈ ds, Valid c) →
    done.flatMap enc ++ l = ds.flatMap enc → ∃ es : List C, (∀ c ∈ es, Valid c) ∧ l = es.flatMap enc
  | [], ds, l, _, hv, h => ⟨ds, hv, by simpa using h⟩
  | c :: done, [], l, _, _, h => absurd h (flat_ne c done l)
  | c :: done, d :: ds, l, hd, hv, h => by
    simp only [List.flatMap_cons, List.append_assoc] at h
    obtain ⟨_, h2⟩ := enc_inj (hd c (by simp)) (hv d (by simp)) h
    exact flat_strip done ds l (fun c hc => hd c (by simp [hc])) (fun c hc => hv c (by simp [hc])) h2

theorem splits_fail {ns l : List Nat} {done : List C} (hd : ∀ c ∈ done, Valid c) (e : ns = done.flatMap enc ++ l) (hl : l ≠ []) (hn : rds 1 l = none) : Splits ns [] := by
  refine .inr ⟨rfl, fun ds hv h => ?_⟩
  obtain ⟨es, he, h⟩ := flat_strip done ds l hd hv (e.symm.trans h)
  cases es with
  | nil => exact hl h
  | cons c es =>
    rw [h, List.flatMap_cons, rds_enc (he c (by simp))] at hn
    simp [rds] at hn

theorem splits_done {ns : List Nat} {done : List C} (hd : ∀ c ∈ done, Valid c) (e : ns = done.flatMap enc) : Splits ns done := .inl ⟨e, hd⟩

theorem concept_iff {l : List Nat} {c : C} : Oc.concept l = some c ↔ l = enc c ∧ Valid c := by
  unfold Oc.concept
  constructor
  · intro h
    split at h
    · next d e =>
      simp only [Option.some.injEq] at h
      subst h
      obtain ⟨e1, v⟩ := rd_iff.1 e
      exact ⟨by simpa using e1, v⟩
    · cases h
  · rintro ⟨rfl, v⟩
    have e := (rd_iff (l := enc c) (c := c) (r := [])).2 ⟨by simp, v⟩
    unfold rd at e
    rw [e]

theorem two_iff {l : List Nat} {c d : C} : Oc.two l = some (c, d) ↔ l = enc c ++ enc d ∧ Valid c ∧ Valid d := by
  unfold Oc.two
  constructor
  · intro h
    split at h
    · next c' r e =>
      simp only [Option.map_eq_some_iff, Prod.mk.injEq] at h
      obtain ⟨d', e2, rfl, rfl⟩ := h
      obtain ⟨e1, v⟩ := rd_iff.1 e
      obtain ⟨rfl, v2⟩ := concept_iff.1 e2
      exact ⟨e1, v, v2⟩
    · cases h
  · rintro ⟨rfl, v, v2⟩
    have e := (rd_iff (l := enc c ++ enc d) (c := c) (r := enc d)).2 ⟨rfl, v⟩
    unfold rd at e
    rw [e]
    show (Oc.concept (enc d)).map _ = _
    rw [concept_iff.2 ⟨rfl, v2⟩]
    rfl

theorem splits_two {ns : List Nat} {cs : List C} (h : Splits ns cs) : Oc.two ns = match cs with
    | [c, d] => some (c, d)
    | _ => none := by
  have key : ∀ c d, Oc.two ns = some (c, d) → cs = [c, d] := by
    intro c d e
    obtain ⟨e1, v1, v2⟩ := two_iff.1 e
    have hv : ∀ x ∈ [c, d], Valid x := by simp [v1, v2]
    have hf : ns = [c, d].flatMap enc := by simp [e1]
    rcases h with ⟨h, hcs⟩ | ⟨_, hn⟩
    · exact flat_inj cs [c, d] hcs hv (h.symm.trans hf)
    · exact absurd hf (hn _ hv)
  have other : (∀ c d, cs ≠ [c, d]) → Oc.two ns = none := by
    intro hne
    cases e : Oc.two ns with
    | none => rfl
    | some p => exact absurd (key p.1 p.2 e) (hne p.1 p.2)
  rcases cs with _ | ⟨c, _ | ⟨d, _ | ⟨x, r⟩⟩⟩
  · exact other (by simp)
  · exact other (by simp)
  · rcases h with ⟨h, hcs⟩ | ⟨h, _⟩
    · exact two_iff.2 ⟨by simpa using h, hcs c (by simp), hcs d (by simp)⟩
    · cases h
  · exact other (by simp)

theorem splits_one {ns : List Nat} {cs : List C} (h : Splits ns cs) : Oc.concept ns = match cs with
    | [c] => some c
    | _ => none := by
  have key : ∀ c, Oc.concept ns = some c → cs = [c] := by
    intro c e
    obtain ⟨e1, v1⟩ := concept_iff.1 e
    have hv : ∀ x ∈ [c], Valid x := by simp [v1]
    have hf : ns = [c].flatMap enc := by simp [e1]
    rcases h with ⟨h, hcs⟩ | ⟨_, hn⟩
    · exact flat_inj cs [c] hcs hv (h.symm.trans hf)
    · exact absurd hf (hn _ hv)
  have other : (∀ c, cs ≠ [c]) → Oc.concept ns = none := by
    intro hne
    cases e : Oc.concept ns with
    | none => rfl
    | some p => exact absurd (key p e) (hne p)
  rcases cs with _ | ⟨c, _ | ⟨x, r⟩⟩
  · exact other (by simp)
  · rcases h with ⟨h, hcs⟩ | ⟨h, _⟩
    · exact concept_iff.2 ⟨by simpa using h, hcs c (by simp)⟩
    · cases h
  · exact other (by simp)

end Mx
/-! The concepts within a concept, in the order in which their numbers stand; the atoms. -/
namespace Mx
open Oc (C Axiom)

/-- how many numbers stand ahead of the inner concepts -/
def wid : C → Nat
  | .name _ => 2
  | .some _ _ => 2
  | .all _ _ => 2
  | _ => 1
def args : C → List C
  | .and c d => [c, d]
  | .or c d => [c, d]
  | .not c => [c]
  | .some _ c => [c]
  | .all _ c => [c]
  | _ => []
def marksL : List C → Nat → List (Nat × C)
  | [], _ => []
  | c :: cs, o => marks c o ++ marksL cs (o + (enc c).length)
theorem marks_eq (c : C) (o : Nat) : marks c o = (o, c) :: marksL (args c) (o + wid c) := by
  cases c <;> simp [marks, marksL, args, wid]
theorem marksL_app : ∀ (cs ds : List C) (o : Nat), marksL (cs ++ ds) o = marksL cs o ++ marksL ds (o + (cs.flatMap enc).length)
  | [], ds, o => by simp [marksL]
  | c :: cs, ds, o => by
    simp only [List.cons_append, marksL, marksL_app cs ds, List.append_assoc, List.flatMap_cons, List.length_append, Nat.add_assoc]
theorem hw_wid {c : C} (v : Valid c) (r : List Nat) : hw (enc c ++ r) = wid c := by
  cases c <;> simp_all [hw, enc, Valid, wid]
theorem wid_pos (c : C) : 0 < wid c := by cases c <;> simp [wid]
theorem wid_le (c : C) : wid c ≤ (enc c).length := by cases c <;> simp [wid, enc]
theorem drop_wid (c : C) (r : List Nat) : (enc c ++ r).drop (wid c) = (args c).flatMap enc ++ r := by
  cases c <;> simp [wid, enc, args]
theorem enc_len (c : C) : (enc c).length = wid c + ((args c).flatMap enc).length := by
  cases c <;> simp [wid, enc, args] <;> omega
theorem args_valid {c : C} (v : Valid c) : ∀ x ∈ args c, Valid x := by
  cases c <;> simp_all [args, Valid]
/-- one step of the walk over the places -/
theorem marksL_step (c : C) (cs : List C) (o : Nat) : marksL (c :: cs) o = (o, c) :: marksL (args c ++ cs) (o + wid c) := by
  rw [marksL, marks_eq, marksL_app, enc_len]
  simp [Nat.add_assoc]

/-- an atom into the list of atoms -/
def ins (m : List C) (c : C) : List C := if m.contains c = true then m else m ++ [c]
theorem distinct_eq (l : List C) : Oc.distinct l = l.foldl ins [] := rfl
/-- .. that only atoms get into -/
def insA (m : List C) (c : C) : List C := if isAt c = true then ins m c else m
theorem foldl_insA : ∀ (l m : List C), l.foldl insA m = (l.filter isAt).foldl ins m
  | [], m => rfl
  | c :: l, m => by
    rw [List.foldl_cons, foldl_insA l, List.filter_cons]
    unfold insA
    split <;> rfl
theorem foldl_marks (c : C) (o : Nat) (m : List C) : ((marks c o).map (·.2)).foldl insA m = c.atoms.foldl ins m := by
  rw [foldl_insA, marks_atoms]
theorem atomsOf_eq (cs : List C) : Oc.atomsOf cs = cs.foldl (fun m c => c.atoms.foldl ins m) [] := by
  rw [Oc.atomsOf, distinct_eq, List.foldl_flatMap]
theorem ins_len (m : List C) (c : C) : (ins m c).length ≤ m.length + 1 := by
  unfold ins
  split <;> simp
theorem insA_len (m : List C) (c : C) : (insA m c).length ≤ m.length + 1 := by
  unfold insA
  split
  · exact ins_len m c
  · omega
theorem valid_atoms : ∀ (c : C), Valid c → ∀ x ∈ c.atoms, Valid x
  | .top, _, x, h => by simp [C.atoms] at h
  | .bot, _, x, h => by simp [C.atoms] at h
  | .name a, v, x, h => by simp only [C.atoms, List.mem_singleton] at h; subst h; exact v
  | .and c d, v, x, h => by
    simp only [C.atoms, List.mem_append] at h
    rcases h with h | h
    · exact valid_atoms c v.1 x h
    · exact valid_atoms d v.2 x h
  | .or c d, v, x, h => by
    simp only [C.atoms, List.mem_append] at h
    rcases h with h | h
    · exact valid_atoms c v.1 x h
    · exact valid_atoms d v.2 x h
  | .not c, v, x, h => valid_atoms c v x h
  | .some r c, v, x, h => by
    simp only [C.atoms, List.mem_cons] at h
    rcases h with rfl | h
    · exact v
    · exact valid_atoms c v.2 x h
  | .all r c, v, x, h => by
    simp only [C.atoms, List.mem_cons] at h
    rcases h with rfl | h
    · exact v
    · exact valid_atoms c v.2 x h
theorem valid_atomsOf {cs : List C} (h : ∀ c ∈ cs, Valid c) : ∀ x ∈ Oc.atomsOf cs, Valid x := by
  intro x hx
  obtain ⟨c, hc, hx⟩ := mem_atomsOf.1 hx
  exact valid_atoms c (h c hc) x hx
theorem enc_atoms_le : ∀ (c : C), ∀ x ∈ c.atoms, (enc x).length ≤ (enc c).length
  | .top, x, h => by simp [C.atoms] at h
  | .bot, x, h => by simp [C.atoms] at h
  | .name a, x, h => by simp only [C.atoms, List.mem_singleton] at h; subst h; omega
  | .and c d, x, h => by
    simp only [C.atoms, List.mem_append] at h
    rcases h with h | h
    · have := enc_atoms_le c x h; simp [enc]; omega
    · have := enc_atoms_le d x h; simp [enc]; omega
  | .or c d, x, h => by
    simp only [C.atoms, List.mem_append] at h
    rcases h with h | h
    · have := enc_atoms_le c x h; simp [enc]; omega
    · have := enc_atoms_le d x h; simp [enc]; omega
  | .not c, x, h => by have := enc_atoms_le c x h; simp [enc]; omega
  | .some r c, x, h => by
    simp only [C.atoms, List.mem_cons] at h
    rcases h with rfl | h
    · omega
    · have := enc_atoms_le c x h; simp [enc]; omega
  | .all r c, x, h => by
    simp only [C.atoms, List.mem_cons] at h
    rcases h with rfl | h
    · omega
    · have := enc_atoms_le c x h; simp [enc]; omega
theorem marks_valid {c : C} (v : Valid c) {o : Nat} {p : Nat × C} (h : p ∈ marks c o) : Valid p.2 := (marks_at c o p h v).1
theorem enc_eq_iff {c d : C} (vc : Valid c) (vd : Valid d) : enc c = enc d ↔ c = d := by
  constructor
  · intro h
    exact (enc_inj (r := []) (s := []) vc vd (by rw [h])).1
  · intro h; rw [h]
end Mx
/-! Sets of types as whole numbers: bit t tells whether t is in. -/
namespace Mx
open Oc (C Axiom)

/-- the set of those below N of which P holds -/
def msk : Nat → (Nat → Bool) → Nat
  | 0, _ => 0
  | n + 1, P => (if P n = true then 2 ^ n else 0) + msk n P

theorem msk_lt : ∀ (n : Nat) (P : Nat → Bool), msk n P < 2 ^ n
  | 0, P => by simp [msk]
  | n + 1, P => by
    have := msk_lt n P
    have hp : 2 ^ (n + 1) = 2 * 2 ^ n := by rw [Nat.pow_succ, Nat.mul_comm]
    simp only [msk]
    split <;> omega

theorem msk_bit : ∀ (n : Nat) (P : Nat → Bool) (t : Nat), (msk n P).testBit t = (decide (t < n) && P t)
  | 0, P, t => by simp [msk]
  | n + 1, P, t => by
    have hl := msk_lt n P
    have ih := msk_bit n P t
    simp only [msk]
    by_cases hn : P n = true
    · rw [if_pos hn]
      rcases Nat.lt_trichotomy t n with h | h | h
      · rw [Nat.testBit_two_pow_add_gt h, ih]
        simp [h, Nat.lt_succ_of_lt h]
      · subst h
        rw [Nat.testBit_two_pow_add_eq, Nat.testBit_lt_two_pow hl]
        simp [hn]
      · have hp : 2 ^ (n + 1) = 2 * 2 ^ n := by rw [Nat.pow_succ, Nat.mul_comm]
        rw [Nat.testBit_lt_two_pow (Nat.lt_of_lt_of_le (show 2 ^ n + msk n P < 2 ^ (n + 1) by omega) (Nat.pow_le_pow_right (by decide) h))]
        have : ¬ t < n + 1 := by omega
        simp [this]
    · rw [if_neg hn, Nat.zero_add, ih]
      by_cases h : t = n
      · subst h
        simp [hn]
      · have : (t < n + 1) = (t < n) := by apply propext; omega
        simp [this]

theorem msk_ext {n : Nat} {P Q : Nat → Bool} (h : ∀ t, t < n → P t = Q t) : msk n P = msk n Q := by
  refine Nat.eq_of_testBit_eq fun t => ?_
  rw [msk_bit, msk_bit]
  by_cases ht : t < n
  · rw [h t ht]
  · simp [ht]
theorem msk_inj {n : Nat} {P Q : Nat → Bool} (h : msk n P = msk n Q) : ∀ t, t < n → P t = Q t := by
  intro t ht
  have := congrArg (fun m => Nat.testBit m t) h
  simpa [msk_bit, ht] using this
theorem msk_and (n : Nat) (P Q : Nat → Bool) : msk n P &&& msk n Q = msk n fun t => P t && Q t := by
  refine Nat.eq_of_testBit_eq fun t => ?_
  rw [Nat.testBit_and, msk_bit, msk_bit, msk_bit]
  cases decide (t < n) <;> simp
theorem msk_or (n : Nat) (P Q : Nat → Bool) : msk n P ||| msk n Q = msk n fun t => P t || Q t := by
  refine Nat.eq_of_testBit_eq fun t => ?_
  rw [Nat.testBit_or, msk_bit, msk_bit, msk_bit]
  cases decide (t < n) <;> simp
theorem msk_full (n : Nat) : msk n (fun _ => true) = 2 ^ n - 1 := by
  refine Nat.eq_of_testBit_eq fun t => ?_
  rw [msk_bit, Nat.testBit_two_pow_sub_one]
  simp
theorem msk_not (n : Nat) (P : Nat → Bool) : (2 ^ n - 1) ^^^ msk n P = msk n fun t => !P t := by
  rw [← msk_full]
  refine Nat.eq_of_testBit_eq fun t => ?_
  rw [Nat.testBit_xor, msk_bit, msk_bit, msk_bit]
  cases decide (t < n) <;> simp
theorem msk_none (n : Nat) : msk n (fun _ => false) = 0 := by
  refine Nat.eq_of_testBit_eq fun t => ?_
  rw [msk_bit]
  simp
theorem msk_zero {n : Nat} {P : Nat → Bool} : msk n P = 0 ↔ ∀ t, t < n → P t = false := by
  rw [← msk_none n]
  exact ⟨fun h => msk_inj h, fun h => msk_ext h⟩
theorem msk_ne_zero {n : Nat} {P : Nat → Bool} : msk n P ≠ 0 ↔ ∃ t, t < n ∧ P t = true := by
  rw [Ne, msk_zero]
  constructor
  · intro h
    refine Classical.byContradiction fun hn => h fun t ht => ?_
    cases e : P t with
    | false => rfl
    | true => exact absurd ⟨t, ht, e⟩ hn
  · rintro ⟨t, ht, e⟩ h
    rw [h t ht] at e
    cases e
/-- as the program sums it up -/
theorem msk_sum (n : Nat) (P : Nat → Bool) : (((List.range n).filter P).map fun t => 2 ^ t).sum = msk n P := by
  induction n with
  | zero => rfl
  | succ n ih =>
    rw [List.range_succ, List.filter_append, List.map_append, List.sum_append_nat, ih, msk]
    by_cases h : P n = true
    · simp [h, Nat.add_comm]
    · simp [h]

/-- the set of types that have a concept -/
def ext (L : List C) (c : C) : Nat := msk (2 ^ L.length) fun t => Oc.holds L t c
theorem ext_and (L : List C) (c d : C) : ext L c &&& ext L d = ext L (.and c d) := msk_and _ _ _
theorem ext_or (L : List C) (c d : C) : ext L c ||| ext L d = ext L (.or c d) := msk_or _ _ _
theorem ext_not (L : List C) (c : C) : (2 ^ 2 ^ L.length - 1) ^^^ ext L c = ext L (.not c) := msk_not _ _
theorem ext_top (L : List C) : ext L .top = 2 ^ 2 ^ L.length - 1 := msk_full _
theorem ext_bot (L : List C) : ext L .bot = 0 := msk_none _
theorem atom_holds {L : List C} {x : C} (hx : Atomic x) {k : Nat} (hk : L.idxOf? x = some k) (t : Nat) : Oc.holds L t x = Oc.bit t k := by
  cases x <;> simp_all [Atomic, Oc.holds]
theorem ext_atom {L : List C} {x : C} (hx : Atomic x) {k : Nat} (hk : L.idxOf? x = some k) : ext L x = msk (2 ^ L.length) fun t => Oc.bit t k :=
  msk_ext fun t _ => atom_holds hx hk t

/-! ### what a type is related to -/
/-- a row that the program makes for an atom with a role: its place, whether it begins with 6, its role, the types it speaks of -/
structure Rel where
  bit : Nat
  pos : Bool
  role : Nat
  ext : Nat
def relOf (L : List C) (k : Nat) : C → Option Rel
  | .some r c => some ⟨k, true, r, Mx.ext L c⟩
  | .all r c => some ⟨k, false, r, (2 ^ 2 ^ L.length - 1) ^^^ Mx.ext L c⟩
  | _ => none
/-- the rows of the atoms from place k on -/
def relsFrom (L : List C) : Nat → List C → List Rel
  | _, [] => []
  | k, x :: xs => (relOf L k x).toList ++ relsFrom L (k + 1) xs
def rels (L : List C) : List Rel := relsFrom L 0 L
/-- whether a type wants such a one -/
def wants (t : Nat) (r : Rel) : Bool := Oc.bit t r.bit == r.pos
/-- the state of the program's loop: what role 0 and role 1 may lead to, what is wanted -/
structure DSt where
  a0 : Nat
  a1 : Nat
  wanted : List (Nat × Nat)
def dturn (full t : Nat) (s : DSt) (r : Rel) : DSt :=
  if wants t r = true then { s with wanted := s.wanted ++ [(r.role, r.ext)] }
  else if r.role = 0 then { s with a0 := s.a0 &&& (full ^^^ r.ext) } else { s with a1 := s.a1 &&& (full ^^^ r.ext) }
def DSt.at (s : DSt) (r : Nat) : Nat := if r = 0 then s.a0 else s.a1
def drun (full t : Nat) (rs : List Rel) : DSt := rs.foldl (dturn full t) ⟨full, full, []⟩
def dems (full t : Nat) (rs : List Rel) : List Nat := (drun full t rs).wanted.map fun w => (drun full t rs).at w.1 &&& w.2

/-- what a row says of a type that is related to: the atom's concept, or not it -/
def relP (L : List C) : C → Nat → Bool
  | .some _ c, u => Oc.holds L u c
  | .all _ c, u => !Oc.holds L u c
  | _, _ => false
def roleOf : C → Option Nat
  | .some r _ => some r
  | .all r _ => some r
  | _ => none
def posOf : C → Bool
  | .some _ _ => true
  | _ => false
theorem relOf_eq {L : List C} {k : Nat} {x : C} : relOf L k x = (roleOf x).map fun r => ⟨k, posOf x, r, msk (2 ^ L.length) (relP L x)⟩ := by
  cases x with
  | all r c => show some (Rel.mk _ _ _ _) = some _; rw [show (2 ^ 2 ^ L.length - 1) ^^^ Mx.ext L c = msk (2 ^ L.length) (fun t => !Oc.holds L t c) from msk_not _ _]; rfl
  | _ => rfl
/-- one atom's part in whether a type may be related to another by a role -/
def fit1 (L : List C) (t r u : Nat) (k : Nat) (x : C) : Bool := match roleOf x with
  | some s => s != r || (Oc.bit t k == posOf x) || !relP L x u
  | none => true
/-- one atom's part in whether a type finds what it wants -/
def borne1 (L : List C) (l : List Nat) (t : Nat) (k : Nat) (x : C) : Bool := match roleOf x with
  | some s => !(Oc.bit t k == posOf x) || l.any fun u => Oc.fits L s t u && relP L x u
  | none => true

/-- the atoms with their places -/
def placed (xs : List C) (k : Nat) : List (Nat × C) := match xs with
  | [] => []
  | x :: xs => (k, x) :: placed xs (k + 1)

theorem placed_mem : ∀ (xs : List C) (k : Nat) (p : Nat × C), p ∈ placed xs k → ∃ i, p.1 = k + i ∧ xs[i]? = some p.2
  | [], k, p, h => by simp [placed] at h
  | x :: xs, k, p, h => by
    simp only [placed, List.mem_cons] at h
    rcases h with rfl | h
    · exact ⟨0, rfl, rfl⟩
    · obtain ⟨i, h1, h2⟩ := placed_mem xs (k + 1) p h
      exact ⟨i + 1, by omega, by simpa using h2⟩
theorem placed_snd : ∀ (xs : List C) (k : Nat), (placed xs k).map (·.2) = xs
  | [], k => rfl
  | x :: xs, k => by simp [placed, placed_snd xs]

theorem idx_of_nodup {L : List C} (nd : L.Nodup) {i : Nat} {x : C} (h : L[i]? = some x) : L.idxOf? x = some i := by
  obtain ⟨hi, e⟩ := List.getElem?_eq_some_iff.mp h
  rw [List.idxOf?, List.findIdx?_eq_some_iff_getElem]
  refine ⟨hi, by simp [e], fun j hj => ?_⟩
  have hne : L[j]'(by omega) ≠ x := by
    intro z
    rw [← e] at z
    have := (List.getElem_inj nd).1 z
    omega
  simpa using hne

theorem fits_eq {L : List C} (hL : Closed L) (nd : L.Nodup) (t r u : Nat) : Oc.fits L r t u = (placed L 0).all fun p => fit1 L t r u p.1 p.2 := by
  have h1 : Oc.fits L r t u = ((placed L 0).map (·.2)).all fun x => match x with
    | .some s c => s != r || (Oc.holds L t x || !Oc.holds L u c)
    | .all s c => s != r || (!Oc.holds L t x || Oc.holds L u c)
    | _ => true := by rw [placed_snd]; rfl
  rw [h1, List.all_map]
  rw [Bool.eq_iff_iff, List.all_eq_true, List.all_eq_true]
  refine forall_congr' fun p => forall_congr' fun hp => ?_
  obtain ⟨i, e1, e2⟩ := placed_mem L 0 p hp
  have e1 : p.1 = i := by omega
  have hx := hL.atomic p.2 (List.mem_of_getElem? e2)
  have hh := atom_holds hx (idx_of_nodup nd e2) t
  rw [← e1] at hh
  obtain ⟨k, x⟩ := p
  simp only at hh
  cases x with
  | some s c =>
    simp only [Function.comp, fit1, roleOf, posOf, relP, hh]
    cases (s != r) <;> cases Oc.bit t k <;> cases Oc.holds L u c <;> simp
  | all s c =>
    simp only [Function.comp, fit1, roleOf, posOf, relP, hh]
    cases (s != r) <;> cases Oc.bit t k <;> cases Oc.holds L u c <;> simp
  | _ => simp [fit1, roleOf]

theorem borne_eq {L : List C} (hL : Closed L) (nd : L.Nodup) (l : List Nat) (t : Nat) : Oc.borne L l t = (placed L 0).all fun p => borne1 L l t p.1 p.2 := by
  have h1 : Oc.borne L l t = ((placed L 0).map (·.2)).all fun x => match x with
    | .some r c => !Oc.holds L t x || l.any fun u => Oc.fits L r t u && Oc.holds L u c
    | .all r c => Oc.holds L t x || l.any fun u => Oc.fits L r t u && !Oc.holds L u c
    | _ => true := by rw [placed_snd]; rfl
  rw [h1, List.all_map]
  rw [Bool.eq_iff_iff, List.all_eq_true, List.all_eq_true]
  refine forall_congr' fun p => forall_congr' fun hp => ?_
  obtain ⟨i, e1, e2⟩ := placed_mem L 0 p hp
  have e1 : p.1 = i := by omega
  have hx := hL.atomic p.2 (List.mem_of_getElem? e2)
  have hh := atom_holds hx (idx_of_nodup nd e2) t
  rw [← e1] at hh
  obtain ⟨k, x⟩ := p
  simp only at hh
  cases x with
  | some s c =>
    simp only [Function.comp, borne1, roleOf, posOf, relP, hh]
    cases Oc.bit t k <;> simp
  | all s c =>
    simp only [Function.comp, borne1, roleOf, posOf, relP, hh]
    cases Oc.bit t k <;> simp
  | _ => simp [borne1, roleOf]

end Mx
/-! What the program's demands and its taking away mean. -/
namespace Mx
open Oc (C Axiom)

/-- the roles of the atoms are 0 and 1 -/
def RolesOk (L : List C) : Prop := ∀ x ∈ L, ∀ s, roleOf x = some s → s < 2
theorem roles_of_valid {L : List C} (h : ∀ x ∈ L, Valid x) : RolesOk L := by
  intro x hx s hs
  have v := h x hx
  cases x <;> simp_all [roleOf, Valid]

def wantOf (L : List C) (t : Nat) (p : Nat × C) : Option (Nat × Nat) := match roleOf p.2 with
  | some s => if (Oc.bit t p.1 == posOf p.2) = true then some (s, msk (2 ^ L.length) (relP L p.2)) else none
  | none => none

theorem fit1_some {L : List C} {t r u k : Nat} {x : C} {s : Nat} (e : roleOf x = some s) : fit1 L t r u k x = (s != r || (Oc.bit t k == posOf x) || !relP L x u) := by
  unfold fit1; rw [e]
theorem fit1_none {L : List C} {t r u k : Nat} {x : C} (e : roleOf x = none) : fit1 L t r u k x = true := by
  unfold fit1; rw [e]
theorem wantOf_some {L : List C} {t k : Nat} {x : C} {s : Nat} (e : roleOf x = some s) : wantOf L t (k, x) = if (Oc.bit t k == posOf x) = true then some (s, msk (2 ^ L.length) (relP L x)) else none := by
  unfold wantOf; simp only [e]
theorem wantOf_none {L : List C} {t k : Nat} {x : C} (e : roleOf x = none) : wantOf L t (k, x) = none := by
  unfold wantOf; simp only [e]

theorem drun_from (L : List C) (t : Nat) : ∀ (xs : List C) (k : Nat) (s : DSt) (P0 P1 : Nat → Bool),
    (∀ x ∈ xs, ∀ r, roleOf x = some r → r < 2) → s.a0 = msk (2 ^ L.length) P0 → s.a1 = msk (2 ^ L.length) P1 →
    ((relsFrom L k xs).foldl (dturn (2 ^ 2 ^ L.length - 1) t) s).a0 = msk (2 ^ L.length) (fun u => P0 u && (placed xs k).all fun p => fit1 L t 0 u p.1 p.2) ∧
    ((relsFrom L k xs).foldl (dturn (2 ^ 2 ^ L.length - 1) t) s).a1 = msk (2 ^ L.length) (fun u => P1 u && (placed xs k).all fun p => fit1 L t 1 u p.1 p.2) ∧
    ((relsFrom L k xs).foldl (dturn (2 ^ 2 ^ L.length - 1) t) s).wanted = s.wanted ++ (placed xs k).filterMap (wantOf L t)
  | [], k, s, P0, P1, _, h0, h1 => by
    refine ⟨?_, ?_, ?_⟩
    · simpa [relsFrom, placed] using h0
    · simpa [relsFrom, placed] using h1
    · simp [relsFrom, placed]
  | x :: xs, k, s, P0, P1, hr, h0, h1 => by
    have hr' : ∀ y ∈ xs, ∀ r, roleOf y = some r → r < 2 := fun y hy => hr y (by simp [hy])
    simp only [relsFrom, List.foldl_append, relOf_eq, placed, List.all_cons, List.filterMap_cons]
    cases e : roleOf x with
    | none =>
      simp only [Option.map_none, Option.toList_none, List.foldl_nil, fit1_none e, wantOf_none e, Bool.true_and]
      exact drun_from L t xs (k + 1) s P0 P1 hr' h0 h1
    | some q =>
      have hq := hr x (by simp) q e
      simp only [Option.map_some, Option.toList_some, List.foldl_cons, List.foldl_nil, fit1_some e, wantOf_some e]
      cases hw : (Oc.bit t k == posOf x) with
      | true =>
        have ed : dturn (2 ^ 2 ^ L.length - 1) t s ⟨k, posOf x, q, msk (2 ^ L.length) (relP L x)⟩ = { s with wanted := s.wanted ++ [(q, msk (2 ^ L.length) (relP L x))] } := by
          unfold dturn wants
          simp only [hw, if_pos]
        rw [ed]
        have ih := drun_from L t xs (k + 1) { s with wanted := s.wanted ++ [(q, msk (2 ^ L.length) (relP L x))] } P0 P1 hr' h0 h1
        simp only [Bool.or_true, Bool.true_or, Bool.true_and, if_pos]
        refine ⟨ih.1, ih.2.1, ?_⟩
        rw [ih.2.2]
        simp
      | false =>
        by_cases h00 : q = 0
        · subst h00
          have ed : dturn (2 ^ 2 ^ L.length - 1) t s ⟨k, posOf x, 0, msk (2 ^ L.length) (relP L x)⟩ = { s with a0 := s.a0 &&& ((2 ^ 2 ^ L.length - 1) ^^^ msk (2 ^ L.length) (relP L x)) } := by
            unfold dturn wants
            simp [hw]
          rw [ed]
          have ih := drun_from L t xs (k + 1) { s with a0 := s.a0 &&& ((2 ^ 2 ^ L.length - 1) ^^^ msk (2 ^ L.length) (relP L x)) } (fun u => P0 u && !relP L x u) P1 hr'
            (by show s.a0 &&& _ = _; rw [h0, msk_not, msk_and]) h1
          refine ⟨?_, ?_, ?_⟩
          · rw [ih.1]
            exact msk_ext fun u _ => by simp [Bool.and_assoc]
          · rw [ih.2.1]
            exact msk_ext fun u _ => by simp
          · rw [ih.2.2]
            simp
        · obtain rfl : q = 1 := by omega
          have ed : dturn (2 ^ 2 ^ L.length - 1) t s ⟨k, posOf x, 1, msk (2 ^ L.length) (relP L x)⟩ = { s with a1 := s.a1 &&& ((2 ^ 2 ^ L.length - 1) ^^^ msk (2 ^ L.length) (relP L x)) } := by
            unfold dturn wants
            simp [hw]
          rw [ed]
          have ih := drun_from L t xs (k + 1) { s with a1 := s.a1 &&& ((2 ^ 2 ^ L.length - 1) ^^^ msk (2 ^ L.length) (relP L x)) } P0 (fun u => P1 u && !relP L x u) hr'
            h0 (by show s.a1 &&& _ = _; rw [h1, msk_not, msk_and])
          refine ⟨?_, ?_, ?_⟩
          · rw [ih.1]
            exact msk_ext fun u _ => by simp
          · rw [ih.2.1]
            exact msk_ext fun u _ => by simp [Bool.and_assoc]
          · rw [ih.2.2]
            simp

theorem drun_is {L : List C} (hL : Closed L) (nd : L.Nodup) (hr : RolesOk L) (t : Nat) :
    (drun (2 ^ 2 ^ L.length - 1) t (rels L)).a0 = msk (2 ^ L.length) (fun u => Oc.fits L 0 t u) ∧
    (drun (2 ^ 2 ^ L.length - 1) t (rels L)).a1 = msk (2 ^ L.length) (fun u => Oc.fits L 1 t u) ∧
    (drun (2 ^ 2 ^ L.length - 1) t (rels L)).wanted = (placed L 0).filterMap (wantOf L t) := by
  obtain ⟨h0, h1, h2⟩ := drun_from L t L 0 ⟨2 ^ 2 ^ L.length - 1, 2 ^ 2 ^ L.length - 1, []⟩ (fun _ => true) (fun _ => true) hr (msk_full _).symm (msk_full _).symm
  refine ⟨?_, ?_, ?_⟩
  · rw [drun, rels, h0]
    exact msk_ext fun u _ => by rw [fits_eq hL nd, Bool.true_and]
  · rw [drun, rels, h1]
    exact msk_ext fun u _ => by rw [fits_eq hL nd, Bool.true_and]
  · rw [drun, rels, h2]
    rfl

/-- a set below N as the list of its members -/
def lst (N : Nat) (P : Nat → Bool) : List Nat := (List.range N).filter P
theorem mem_lst {N : Nat} {P : Nat → Bool} {t : Nat} : t ∈ lst N P ↔ t < N ∧ P t = true := by
  rw [lst, List.mem_filter, List.mem_range]

theorem all_filterMap {α β : Type} (f : α → Option β) (p : β → Bool) : ∀ l : List α, (l.filterMap f).all p = l.all fun a => match f a with
    | some b => p b
    | none => true
  | [] => rfl
  | a :: l => by
    rw [List.filterMap_cons, List.all_cons, ← all_filterMap f p l]
    cases f a <;> simp

/-- **What the program asks of a type is what is due.** -/
theorem dems_borne {L : List C} (hL : Closed L) (nd : L.Nodup) (hr : RolesOk L) (t : Nat) (P : Nat → Bool) :
    ((dems (2 ^ 2 ^ L.length - 1) t (rels L)).all fun m => (m &&& msk (2 ^ L.length) P) != 0) = Oc.borne L (lst (2 ^ L.length) P) t := by
  obtain ⟨h0, h1, h2⟩ := drun_is hL nd hr t
  rw [dems, List.all_map, h2, all_filterMap, borne_eq hL nd]
  rw [Bool.eq_iff_iff, List.all_eq_true, List.all_eq_true]
  refine forall_congr' fun p => forall_congr' fun hp => ?_
  obtain ⟨i, e1, e2⟩ := placed_mem L 0 p hp
  have hx := List.mem_of_getElem? e2
  have hr := hr p.2 hx
  obtain ⟨k, x⟩ := p
  simp only at hr hx
  simp only [wantOf, borne1]
  cases e : roleOf x with
  | none => simp
  | some s =>
    have hs := hr s e
    simp only []
    cases hw : (Oc.bit t k == posOf x) with
    | false => simp
    | true =>
      simp only [if_pos, Bool.not_true, Bool.false_or, Function.comp]
      have hat : (drun (2 ^ 2 ^ L.length - 1) t (rels L)).at s = msk (2 ^ L.length) (fun u => Oc.fits L s t u) := by
        unfold DSt.at
        by_cases z : s = 0
        · subst z
          rw [if_pos rfl, h0]
        · obtain rfl : s = 1 := by omega
          rw [if_neg z, h1]
      rw [hat, msk_and, msk_and, bne_iff_ne, msk_ne_zero, List.any_eq_true]
      constructor
      · rintro ⟨u, hu, h⟩
        simp only [Bool.and_eq_true] at h
        exact ⟨u, mem_lst.2 ⟨hu, h.2⟩, by simp [h.1.1, h.1.2]⟩
      · rintro ⟨u, hu, h⟩
        obtain ⟨hu, hp⟩ := mem_lst.1 hu
        exact ⟨u, hu, by simp only [Bool.and_eq_true] at h; simp [h.1, h.2, hp]⟩

/-! ### taking away -/
def stepP (L : List C) (P : Nat → Bool) (t : Nat) : Bool := P t && Oc.borne L (lst (2 ^ L.length) P) t
theorem lst_step (L : List C) (P : Nat → Bool) : lst (2 ^ L.length) (stepP L P) = (lst (2 ^ L.length) P).filter (Oc.borne L (lst (2 ^ L.length) P)) := by
  rw [show lst (2 ^ L.length) P = (List.range (2 ^ L.length)).filter P from rfl, List.filter_filter]
  refine List.filter_congr fun t _ => ?_
  show (P t && Oc.borne L _ t) = _
  rw [Bool.and_comm]
  rfl
theorem lst_ext {N : Nat} {P Q : Nat → Bool} (h : ∀ t, t < N → P t = Q t) : lst N P = lst N Q :=
  List.filter_congr fun t ht => h t (List.mem_range.1 ht)
theorem lst_len (N : Nat) (P : Nat → Bool) : (lst N P).length ≤ N := by
  have := List.length_filter_le P (List.range N)
  rw [List.length_range] at this
  exact this

/-- what the loop keeps: with some room the specification's taking away goes on from here to its end -/
def Goes (L : List C) (ax : List Axiom) (P : Nat → Bool) : Prop := ∃ f, (lst (2 ^ L.length) P).length < f ∧ Oc.settle L f (lst (2 ^ L.length) P) = Oc.types L ax
theorem goes_start (L : List C) (ax : List Axiom) : Goes L ax (Oc.keeps L ax) :=
  ⟨2 ^ L.length + 1, Nat.lt_succ_of_le (lst_len _ _), rfl⟩
theorem goes_step {L : List C} {ax : List Axiom} {P : Nat → Bool} (h : Goes L ax P) : Goes L ax (stepP L P) := by
  obtain ⟨f, hf, e⟩ := h
  obtain ⟨f, rfl⟩ : ∃ k, f = k + 1 := ⟨f - 1, by omega⟩
  by_cases hl : (lst (2 ^ L.length) (stepP L P)).length = (lst (2 ^ L.length) P).length
  · have : lst (2 ^ L.length) (stepP L P) = lst (2 ^ L.length) P := by
      rw [lst_step] at hl ⊢
      exact (List.filter_sublist (l := lst (2 ^ L.length) P) (p := Oc.borne L (lst (2 ^ L.length) P))).eq_of_length hl
    exact ⟨f + 1, by rw [this]; exact hf, by rw [this]; exact e⟩
  · refine ⟨f, ?_, ?_⟩
    · have h2 : (lst (2 ^ L.length) (stepP L P)).length ≤ (lst (2 ^ L.length) P).length := by
        rw [lst_step]; exact List.length_filter_le _ _
      omega
    · rw [← e]
      simp only [Oc.settle]
      rw [if_neg (by rw [← lst_step]; exact hl), lst_step]
theorem goes_end {L : List C} {ax : List Axiom} {P : Nat → Bool} (h : Goes L ax P) (hc : ∀ t, t < 2 ^ L.length → stepP L P t = P t) : lst (2 ^ L.length) P = Oc.types L ax := by
  obtain ⟨f, hf, e⟩ := h
  obtain ⟨f, rfl⟩ : ∃ k, f = k + 1 := ⟨f - 1, by omega⟩
  rw [← e]
  simp only [Oc.settle]
  rw [if_pos (by rw [← lst_step, lst_ext hc])]
/-- how many there are -/
def cnt (N A : Nat) : Nat := (lst N fun t => A.testBit t).length
theorem cnt_msk (N : Nat) (P : Nat → Bool) : cnt N (msk N P) = (lst N P).length := by
  rw [cnt]
  congr 1
  exact lst_ext fun t ht => by simp [msk_bit, ht]
theorem cnt_step {L : List C} {P : Nat → Bool} (h : msk (2 ^ L.length) (stepP L P) ≠ msk (2 ^ L.length) P) :
    cnt (2 ^ L.length) (msk (2 ^ L.length) (stepP L P)) < cnt (2 ^ L.length) (msk (2 ^ L.length) P) := by
  rw [cnt_msk, cnt_msk]
  have h2 : (lst (2 ^ L.length) (stepP L P)).length ≤ (lst (2 ^ L.length) P).length := by
    rw [lst_step]; exact List.length_filter_le _ _
  refine Nat.lt_of_le_of_ne h2 fun hl => h ?_
  have e : lst (2 ^ L.length) (stepP L P) = lst (2 ^ L.length) P := by
    rw [lst_step] at hl ⊢
    exact (List.filter_sublist (l := lst (2 ^ L.length) P) (p := Oc.borne L (lst (2 ^ L.length) P))).eq_of_length hl
  refine msk_ext fun t ht => ?_
  rw [Bool.eq_iff_iff]
  have := congrArg (fun l => t ∈ l) e
  simp only [mem_lst, ht, true_and] at this
  exact this ▸ Iff.rfl

/-- the set of the possible types -/
def poss (L : List C) (ax : List Axiom) : Nat := msk (2 ^ L.length) fun t => (Oc.types L ax).contains t
theorem types_lt {L : List C} {ax : List Axiom} {t : Nat} (h : t ∈ Oc.types L ax) : t < 2 ^ L.length := by
  have := settle_sub _ _ t h
  exact List.mem_range.1 (List.mem_filter.1 this).1
theorem poss_end {L : List C} {ax : List Axiom} {P : Nat → Bool} (h : lst (2 ^ L.length) P = Oc.types L ax) : msk (2 ^ L.length) P = poss L ax := by
  refine msk_ext fun t ht => ?_
  rw [Bool.eq_iff_iff, List.contains_iff_mem, ← h, mem_lst]
  exact ⟨fun e => ⟨ht, e⟩, fun e => e.2⟩
theorem keeps_mask (L : List C) : ∀ (ax : List Axiom) (P : Nat → Bool), ax.foldl (fun m a => m &&& (((2 ^ 2 ^ L.length - 1) ^^^ ext L a.1) ||| ext L a.2)) (msk (2 ^ L.length) P) =
    msk (2 ^ L.length) fun t => P t && Oc.keeps L ax t
  | [], P => by simp [Oc.keeps]
  | a :: ax, P => by
    rw [List.foldl_cons]
    have e : msk (2 ^ L.length) P &&& (((2 ^ 2 ^ L.length - 1) ^^^ ext L a.1) ||| ext L a.2) = msk (2 ^ L.length) fun t => P t && (!Oc.holds L t a.1 || Oc.holds L t a.2) := by
      rw [ext, ext, msk_not, msk_or, msk_and]
    rw [e, keeps_mask L ax]
    exact msk_ext fun t _ => by simp [Oc.keeps, Bool.and_assoc]
theorem alive_start (L : List C) (ax : List Axiom) : ax.foldl (fun m a => m &&& (((2 ^ 2 ^ L.length - 1) ^^^ ext L a.1) ||| ext L a.2)) (2 ^ 2 ^ L.length - 1) = msk (2 ^ L.length) (Oc.keeps L ax) := by
  have := keeps_mask L ax fun _ => true
  rw [msk_full] at this
  rw [this]
  exact msk_ext fun t _ => by simp
/-- a concept is had by some possible type -/
theorem had_iff (L : List C) (ax : List Axiom) (c : C) : ((ext L c &&& poss L ax) != 0) = (Oc.types L ax).any fun t => Oc.holds L t c := by
  rw [ext, poss, msk_and, Bool.eq_iff_iff, bne_iff_ne, msk_ne_zero, List.any_eq_true]
  constructor
  · rintro ⟨t, ht, h⟩
    simp only [Bool.and_eq_true, List.contains_iff_mem] at h
    exact ⟨t, h.2, h.1⟩
  · rintro ⟨t, ht, h⟩
    exact ⟨t, types_lt ht, by simp [h, ht]⟩
theorem sub_iff (L : List C) (ax : List Axiom) (c d : C) : (((ext L c &&& ((2 ^ 2 ^ L.length - 1) ^^^ ext L d)) &&& poss L ax) == 0) = !(Oc.types L ax).any fun t => Oc.holds L t c && !Oc.holds L t d := by
  have h := had_iff L ax (.and c (.not d))
  rw [← ext_and, ← ext_not] at h
  rw [show ((Oc.types L ax).any fun t => Oc.holds L t c && !Oc.holds L t d) = (Oc.types L ax).any fun t => Oc.holds L t (.and c (.not d)) from rfl, ← h]
  simp [bne]
end Mx
/-! The walk over the concepts within a concept from the back, with a stack. -/
namespace Mx
open Oc (C Axiom)

/-- what is still to come at the k-th place -/
def fr (c : C) : Nat → List C
  | 0 => [c]
  | k + 1 => match fr c k with
    | [] => []
    | d :: es => args d ++ es
theorem marksL_nil {es : List C} {p : Nat} (h : marksL es p = []) : es = [] := by
  cases es with
  | nil => rfl
  | cons c es => rw [marksL_step] at h; cases h
theorem marks_drop (c : C) : ∀ k, k ≤ (marks c 0).length → ∃ p, (marks c 0).drop k = marksL (fr c k) p
  | 0, _ => ⟨0, by simp [fr, marksL]⟩
  | k + 1, h => by
    obtain ⟨p, e⟩ := marks_drop c k (by omega)
    have e2 : (marks c 0).drop (k + 1) = ((marks c 0).drop k).tail := by rw [List.tail_drop]
    rw [e2, e]
    cases ef : fr c k with
    | nil =>
      rw [ef] at e
      have := congrArg List.length e
      simp only [List.length_drop, marksL, List.length_nil] at this
      omega
    | cons d es =>
      rw [marksL_step]
      exact ⟨p + wid d, by simp [fr, ef]⟩
theorem fr_end (c : C) : fr c (marks c 0).length = [] := by
  obtain ⟨p, e⟩ := marks_drop c _ (Nat.le_refl _)
  rw [List.drop_length] at e
  exact marksL_nil e.symm
theorem fr_at {c : C} {k o : Nat} {d : C} (h : (marks c 0)[k]? = some (o, d)) : ∃ es, fr c k = d :: es ∧ fr c (k + 1) = args d ++ es := by
  have hk := (List.getElem?_eq_some_iff.mp h).1
  obtain ⟨p, e⟩ := marks_drop c k (by omega)
  have e0 : ((marks c 0).drop k)[0]? = some (o, d) := by rw [List.getElem?_drop]; simpa using h
  rw [e] at e0
  cases ef : fr c k with
  | nil => rw [ef] at e0; simp [marksL] at e0
  | cons x es =>
    rw [ef, marksL_step] at e0
    simp only [List.getElem?_cons_zero, Option.some.injEq, Prod.mk.injEq] at e0
    obtain ⟨_, rfl⟩ := e0
    exact ⟨es, rfl, by simp [fr, ef]⟩
theorem fr_len (c : C) : ∀ k, ((fr c k).flatMap enc).length ≤ (enc c).length
  | 0 => by simp [fr]
  | k + 1 => by
    have ih := fr_len c k
    simp only [fr]
    split
    · simp
    · next d es e =>
      rw [e, List.flatMap_cons, List.length_append, enc_len] at ih
      rw [List.flatMap_append, List.length_append]
      omega
theorem flat_len : ∀ (es : List C), es.length ≤ (es.flatMap enc).length
  | [] => by simp
  | c :: es => by
    have := flat_len es
    have := enc_pos c
    rw [List.flatMap_cons, List.length_append, List.length_cons]
    omega
theorem fr_short (c : C) (k : Nat) : (fr c k).length ≤ (enc c).length := Nat.le_trans (flat_len _) (fr_len c k)
theorem mark_atom {c d : C} {o : Nat} {q : Nat} (h : (o, d) ∈ marks c q) (ha : isAt d = true) : d ∈ c.atoms := by
  rw [← marks_atoms c q, List.mem_filter]
  exact ⟨List.mem_map.2 ⟨_, h, rfl⟩, ha⟩
theorem enc_head (d : C) : ∃ h r, enc d = h :: r ∧ ((h = 0 ∧ d = .top) ∨ (h = 1 ∧ d = .bot) ∨ (h = 3 ∧ ∃ a b, d = .and a b) ∨ (h = 4 ∧ ∃ a b, d = .or a b) ∨ (h = 5 ∧ ∃ a, d = .not a) ∨
    (h = 2 ∧ isAt d = true ∧ args d = []) ∨ ((h = 6 ∨ h = 7) ∧ isAt d = true ∧ ∃ a, args d = [a])) := by
  cases d with
  | top => exact ⟨0, [], rfl, .inl ⟨rfl, rfl⟩⟩
  | bot => exact ⟨1, [], rfl, .inr (.inl ⟨rfl, rfl⟩)⟩
  | name a => exact ⟨2, [a], rfl, .inr (.inr (.inr (.inr (.inr (.inl ⟨rfl, rfl, rfl⟩)))))⟩
  | and a b => exact ⟨3, _, rfl, .inr (.inr (.inl ⟨rfl, a, b, rfl⟩))⟩
  | or a b => exact ⟨4, _, rfl, .inr (.inr (.inr (.inl ⟨rfl, a, b, rfl⟩)))⟩
  | not a => exact ⟨5, _, rfl, .inr (.inr (.inr (.inr (.inl ⟨rfl, a, rfl⟩))))⟩
  | some r a => exact ⟨6, _, rfl, .inr (.inr (.inr (.inr (.inr (.inr ⟨.inl rfl, rfl, a, rfl⟩)))))⟩
  | all r a => exact ⟨7, _, rfl, .inr (.inr (.inr (.inr (.inr (.inr ⟨.inr rfl, rfl, a, rfl⟩)))))⟩
end Mx
namespace Mx
open Oc (C Axiom)
theorem relsFrom_app (L : List C) : ∀ (xs : List C) (k : Nat) (ys : List C), relsFrom L k (xs ++ ys) = relsFrom L k xs ++ relsFrom L (k + xs.length) ys
  | [], k, ys => by simp [relsFrom]
  | x :: xs, k, ys => by
    simp only [List.cons_append, relsFrom, relsFrom_app L xs, List.append_assoc, List.length_cons]
    rw [show k + 1 + xs.length = k + (xs.length + 1) by omega]
theorem rels_take {L : List C} {i : Nat} {x : C} (h : L[i]? = some x) : relsFrom L 0 (L.take (i + 1)) = relsFrom L 0 (L.take i) ++ (relOf L i x).toList := by
  have hi := (List.getElem?_eq_some_iff.mp h).1
  rw [List.take_add_one, h, Option.toList_some, relsFrom_app]
  simp only [relsFrom, List.append_nil, Nat.zero_add, List.length_take]
  rw [Nat.min_eq_left (by omega)]
theorem relsFrom_len (L : List C) : ∀ (xs : List C) (k : Nat), (relsFrom L k xs).length ≤ xs.length
  | [], k => by simp [relsFrom]
  | x :: xs, k => by
    have := relsFrom_len L xs (k + 1)
    simp only [relsFrom, List.length_append, List.length_cons]
    cases relOf L k x <;> simp <;> omega
theorem rels_role {L : List C} (hr : RolesOk L) : ∀ (xs : List C) (k : Nat), (∀ x ∈ xs, x ∈ L) → ∀ r ∈ relsFrom L k xs, r.role < 2
  | [], k, _, r, h => by simp [relsFrom] at h
  | x :: xs, k, hx, r, h => by
    simp only [relsFrom, List.mem_append] at h
    rcases h with h | h
    · rw [relOf_eq] at h
      cases e : roleOf x with
      | none => rw [e] at h; simp at h
      | some s =>
        rw [e] at h
        simp at h
        subst h
        exact hr x (hx x (by simp)) s e
    · exact rels_role hr xs (k + 1) (fun y hy => hx y (by simp [hy])) r h
/-- which form an atom has -/
theorem atom_head {x : C} (hx : Atomic x) : (∃ a, x = .name a) ∨ (∃ r c, x = .some r c) ∨ (∃ r c, x = .all r c) := by
  cases x <;> simp_all [Atomic]
end Mx
set_option Elab.async false
set_option maxRecDepth 100000
set_option maxHeartbeats 2000000
namespace Mx
open PySem PySem.Spec PyProof.Rows L2
def top (i : Nat) : Stmt := PySem.Challenge.pw_missingaxioms_s01_answers.main.body.getD i (.Pass ⟨0, 0, 0, 0⟩)
abbrev sHw : Stmt := top 3
abbrev sCe : Stmt := top 4
/-- whole numbers as values -/
def Nv (ns : List Nat) : List V := ns.map fun (n : Nat) => V.int (n : Int)
theorem Nv_at {ns : List Nat} {i n : Nat} (h : ns[i]? = some n) : (Nv ns)[i]? = some (V.int (n : Int)) := by
  rw [Nv, List.getElem?_map, h]; rfl
theorem Nv_len (ns : List Nat) : (Nv ns).length = ns.length := by rw [Nv, List.length_map]
def SqN (K : PySem.W.Frag) (H : Hp) (a : Addr) (ns : List Nat) : Prop := SqL K H a (Nv ns) ∨ SqT K H a (Nv ns)
def spHw (K : PySem.W.Frag) : Sp := fun vs H Q _ => ∃ (a : Addr) (ns : List Nat) (i : Nat), vs = [.ref a, .int (i : Int)] ∧ SqN K H a ns ∧ Q (.int (hw (ns.drop i) : Nat)) H
/-- the numbers of the two tables -/
def inT : List Nat := [0, 0, 0, 2, 2, 1, 1, 1]
def liT : List Nat := [0, 0, 4, 0, 0, 0, 2, 2]
structure Txt1 (K : PySem.W.Frag) (mg : Str → Option Value) : Prop where
  len : mg "len" = none
  inn : ∃ a, mg "INNER_CONCEPTS" = some (.ref a) ∧ ∀ H, SqT K H a (Nv inT)
  lim : ∃ a, mg "ARGUMENT_LIMITS" = some (.ref a) ∧ ∀ H, SqT K H a (Nv liT)

theorem rIx_of {K : PySem.W.Frag} {a : Addr} {ns : List Nat} {i n : Nat} {H : Hp} {Q : VK} (h : SqN K H a ns) (e : ns[i]? = some n) (q : Q (.int (n : Int)) H) :
    rIx K (.ref a) (.int (i : Int)) H Q := by
  rcases h with h | h
  · exact .inl ⟨a, _, _, _, rfl, rfl, h, atI_nat (Nv_at e), q⟩
  · exact .inr (.inl ⟨a, _, _, _, rfl, rfl, h, atI_nat (Nv_at e), q⟩)

theorem pgl {X : Cx} {x : Str} {a : Addr} {pos : Pos} (hm : X.mg x = some (.ref a)) (hg : Gl X x := by rfl) (hd : (x == ("__debug__" : Str)) = false := by decide) : PE X (.Name x pos) (tC (.ref a)) :=
  pe_glob hg hm rfl hd
theorem hw_zero {ns : List Nat} {i : Nat} (h : ns.length ≤ i) : hw (ns.drop i) = 0 := by
  rw [List.drop_eq_nil_of_le h]; rfl
theorem drop_cons {ns : List Nat} {i n : Nat} (h : ns[i]? = some n) : ns.drop i = n :: ns.drop (i + 1) := by
  obtain ⟨h1, e⟩ := List.getElem?_eq_some_iff.mp h
  rw [List.drop_eq_getElem_cons h1, e]
theorem get_lt {ns : List Nat} {i : Nat} (h : i < ns.length) : ∃ n, ns[i]? = some n := ⟨ns[i], List.getElem?_eq_getElem h⟩
theorem lt_of_get {ns : List Nat} {i n : Nat} (h : ns[i]? = some n) : i < ns.length := (List.getElem?_eq_some_iff.mp h).1
theorem hw_big {n : Nat} {l : List Nat} (h : 8 ≤ n) : hw (n :: l) = 0 := by
  match n, h with
  | k + 8, _ => rfl
theorem inT_at {n : Nat} (h : n < 8) : inT[n]? = some (inner n) := by
  match n, h with
  | 0, _ | 1, _ | 2, _ | 3, _ | 4, _ | 5, _ | 6, _ | 7, _ => rfl
def lim : Nat → Nat
  | 2 => 4
  | 6 => 2
  | 7 => 2
  | _ => 0
theorem liT_at {n : Nat} (h : n < 8) : liT[n]? = some (lim n) := by
  match n, h with
  | 0, _ | 1, _ | 2, _ | 3, _ | 4, _ | 5, _ | 6, _ | 7, _ => rfl
theorem hw_one {n : Nat} {l : List Nat} (h : n < 8) (e : lim n = 0) : hw (n :: l) = 1 := by
  match n, h with
  | 0, _ | 1, _ | 3, _ | 4, _ | 5, _ => rfl
  | 2, _ | 6, _ | 7, _ => simp [lim] at e
theorem hw_two {n k : Nat} {l : List Nat} (h : n < 8) (e : lim n ≠ 0) : hw (n :: k :: l) = if k < lim n then 2 else 0 := by
  match n, h with
  | 0, _ | 1, _ | 3, _ | 4, _ | 5, _ => simp [lim] at e
  | 2, _ | 6, _ | 7, _ => rfl
theorem hw_cut {n : Nat} (h : n < 8) (e : lim n ≠ 0) : hw [n] = 0 := by
  match n, h with
  | 0, _ | 1, _ | 3, _ | 4, _ | 5, _ => simp [lim] at e
  | 2, _ | 6, _ | 7, _ => rfl

theorem scHw : FnScope ["numbers", "place", "limit"] ["numbers", "place"] (defScope sHw) := ⟨rfl, rfl, rfl, by decide +kernel, rfl, by decide +kernel, by decide +kernel⟩
section
variable {P : Program} {w : World} {K : PySem.W.Frag} {mg : Str → Option Value} {base : Heap}
theorem ok_hw {f : Addr} {fd : FuncData} (F : Fun K "head_width" "head_width" sHw f fd) (T : Txt1 K mg) : FnOk P w K mg base CX0 1 f fd ["numbers", "place"] (spHw K) := by
  obtain ⟨aI, gI, tI⟩ := T.inn
  obtain ⟨aL, gL, tL⟩ := T.lim
  refine F.ok scHw (fun vs H Q E h => ?_) (fun cdv A outer s H vs Q E hr h => ?_)
  · obtain ⟨a, ns, i, rfl, _⟩ := h
    rfl
  · refine ⟨_, pss_cons (ps_if (PW.pt (pw_or (pt_cmpR op_ge (pv 1) (pe_callB call_len_seq (by rfl) T.len PySem.boot_len (pa_cons (pv 0) pa_nil)) (nomark _))
        (pw_or1 (pt_cmpR op_ge (pe_ix ix_seq (pv 0) (pv 1) (fun _ _ => rfl)) (pe_callB call_len_seq (by rfl) T.len PySem.boot_len (pa_cons (pgl gI) pa_nil)) (nomark _)))))
        (pss_one (ps_ret pe_int)) pss_nil)
      (pss_cons (ps_set (i := 2) scHw.nd rfl (Or.inl rfl) (pe_ix ix_seq (pgl gL) (pe_ix ix_seq (pv 0) (pv 1) (fun _ _ => rfl)) (fun _ _ => rfl)))
      (pss_cons (ps_if (pt_cmpR op_eq (pv 2) pe_int (nomark _)) (pss_one (ps_ret pe_int)) pss_nil)
      (pss_cons (ps_if (PW.pt (pw_and (pt_cmpR op_lt (pe_op op_add (pv 1) pe_int) (pe_callB call_len_seq (by rfl) T.len PySem.boot_len (pa_cons (pv 0) pa_nil)) (nomark _))
        (pw_and1 (pt_cmpR op_lt (pe_ix ix_seq (pv 0) (pe_op op_add (pv 1) pe_int) (fun _ _ => rfl)) (pv 2) (nomark _)))))
        (pss_one (ps_ret pe_int)) pss_nil)
      (pss_one (ps_ret pe_int))))), ?_⟩
    obtain ⟨a, ns, i, rfl, hS, q⟩ := h
    have hS' : SqL K H a (Nv ns) ∨ SqT K H a (Nv ns) := hS
    refine ⟨_, rfl, _, rfl, a, _, rfl, hS', _, _, rfl, rfl, _, rfl, ?_⟩
    refine ite2 (fun c => ?_) (fun c => ?_)
    · have c := of_decide_eq_true c
      rw [Nv_len] at c
      rw [hw_zero (by omega)] at q
      exact iteT q
    have c : ¬ ((Nv ns).length : Int) ≤ (i : Int) := fun z => c (decide_eq_true z)
    rw [Nv_len] at c
    obtain ⟨n, en⟩ := get_lt (show i < ns.length by omega)
    rw [drop_cons en] at q
    refine ⟨_, rfl, _, rfl, rIx_of hS en ⟨_, _, rfl, .inr (tI _), _, _, rfl, rfl, _, rfl, ?_⟩⟩
    refine ite2 (fun c2 => ?_) (fun c2 => ?_)
    · have c2 := of_decide_eq_true c2
      rw [Nv_len] at c2
      have c2 : (8 : Int) ≤ (n : Int) := c2
      rw [hw_big (by omega)] at q
      exact q
    have c2 : ¬ ((Nv inT).length : Int) ≤ (n : Int) := fun z => c2 (decide_eq_true z)
    rw [Nv_len] at c2
    have c2 : ¬ (8 : Int) ≤ (n : Int) := c2
    have n8 : n < 8 := by omega
    refine ⟨_, rfl, _, rfl, rIx_of hS en (rIx_of (.inr (tL _)) (liT_at n8) ?_)⟩
    refine ⟨_, rfl, rfl, _, rfl, ?_⟩
    refine ite2 (fun c3 => ?_) (fun c3 => ?_)
    · have c3 := of_decide_eq_true c3
      have c3 : (lim n : Int) = 0 := V.int.inj c3
      rw [hw_one n8 (by omega)] at q
      exact q
    have c3 : lim n ≠ 0 := fun z => c3 (decide_eq_true (by rw [z]; rfl))
    refine ⟨_, rfl, _, _, rfl, rfl, _, rfl, _, _, rfl, hS', _, _, rfl, rfl, _, rfl, ?_⟩
    refine ite2 (fun c4 => ?_) (fun c4 => ?_)
    · have c4 := of_decide_eq_true c4
      rw [Nv_len] at c4
      obtain ⟨k, ek⟩ := get_lt (show i + 1 < ns.length by omega)
      rw [drop_cons ek, hw_two n8 c3] at q
      refine ⟨_, rfl, _, rfl, _, _, rfl, rfl, rIx_of (i := i + 1) hS ek ⟨_, rfl, _, _, rfl, rfl, _, rfl, ?_⟩⟩
      refine ite2 (fun c5 => ?_) (fun c5 => ?_)
      · have c5 := of_decide_eq_true c5
        rw [if_pos (by omega)] at q
        exact q
      · have c5 : ¬ (k : Int) < (lim n : Int) := fun z => c5 (decide_eq_true z)
        rw [if_neg (by omega)] at q
        exact q
    · have c4 : ¬ (i : Int) + 1 < ((Nv ns).length : Int) := fun z => c4 (decide_eq_true z)
      rw [Nv_len] at c4
      rw [List.drop_eq_nil_of_le (by omega), hw_cut n8 c3] at q
      exact iteF q
end
end Mx
set_option Elab.async false
set_option maxRecDepth 100000
set_option maxHeartbeats 2000000
namespace Mx
open PySem PySem.Spec PyProof.Rows L2
/-- a def of the program that is called by its name and keeps a promise -/
structure Called (P : Program) (w : World) (K : PySem.W.Frag) (mg : Str → Option Value) (base : Heap) (x : Str) (k : Nat) (ps : List Str) (sp : Sp) : Prop where
  ex : ∃ f fd, FnOk P w K mg base CX0 k f fd ps sp ∧ mg x = some (.ref f) ∧ PySem.W.keepIn K (.ref f) = true ∧ Binds K fd ps []
theorem pe_cl {X : Cx} {x : Str} {k : Nat} {ps : List Str} {sp : Sp} {e : Expr} {es : List Expr} {t : TA} {p pos : Pos} (c : Called X.prog X.w X.K X.mg X.base x k ps sp) (hr : Room k X.A) (ha : PA X (e :: es) t)
    (hg : Gl X x := by rfl) (hdb : (x == ("__debug__" : Str)) = false := by decide)
    (he : starEach (e :: es) X.env = (false, eval e X.env) :: starEach es X.env := by rfl)
    (hpl : (backTo pos (starEach es X.env)).any (·.1) = false := by rfl) : PE X (.Call (.Name x p) (e :: es) [] pos) (tCall sp [] E0 t) := by
  obtain ⟨f, fd, F, hm, hk, hb⟩ := c.ex
  exact pe_call F hr hg hm hk hb .nil pass0 ha hdb he hpl
theorem pe_cl0 {X : Cx} {x : Str} {k : Nat} {ps : List Str} {sp : Sp} {p pos : Pos} (c : Called X.prog X.w X.K X.mg X.base x k ps sp) (hr : Room k X.A)
    (hg : Gl X x := by rfl) (hdb : (x == ("__debug__" : Str)) = false := by decide)
    : PE X (.Call (.Name x p) [] [] pos) (tCall sp [] E0 tNil) := by
  obtain ⟨f, fd, F, hm, hk, hb⟩ := c.ex
  exact pe_call0 F hr hg hm hk hb .nil pass0 hdb
/-- a method that keeps a promise -/
structure MCalled (P : Program) (w : World) (K : PySem.W.Frag) (mg : Str → Option Value) (base : Heap) (C : Addr) (m : Str) (k : Nat) (ps : List Str) (sp : Sp) : Prop where
  ex : ∃ f fd, FnOk P w K mg base CX0 k f fd ps sp ∧ Meth K C m f ∧ Binds K fd ps []
theorem pe_cm {X : Cx} {C : Addr} {m : Str} {k : Nat} {ps : List Str} {sp : Sp} {o e : Expr} {es : List Expr} {ta : TE} {t : TA} {apos pos : Pos} {pl : Sem Bool} (he : PE X o ta) (cl : Cls X.K C)
    (c : MCalled X.prog X.w X.K X.mg X.base C m k ps sp) (hr : Room k X.A) (ha : PA X (e :: es) t)
    (hst : starEach (e :: es) X.env = (false, eval e X.env) :: starEach es X.env := by rfl)
    (hpl : (backTo pos (starEach es X.env)).any (·.1) = false := by rfl)
    (ht : eval (.Call (.Attribute o m apos) (e :: es) [] pos) X.env = (do
      let recv ← eval o X.env
      standAt apos.atName
      let (meth, lead) ← holding [recv] (getMethod recv m pl)
      callWith pos meth lead (backTo pos (starEach (e :: es) X.env)) (backToKw pos (keywordEach [] X.env))) := by rfl)
    : PE X (.Call (.Attribute o m apos) (e :: es) [] pos) (tMeth C m sp [] E0 ta t) := by
  obtain ⟨f, fd, F, hm, hb⟩ := c.ex
  exact pe_meth he cl hm F hr hb .nil pass0 ha hst hpl ht
theorem pe_cm0 {X : Cx} {C : Addr} {m : Str} {k : Nat} {ps : List Str} {sp : Sp} {o : Expr} {ta : TE} {apos pos : Pos} {pl : Sem Bool} (he : PE X o ta) (cl : Cls X.K C)
    (c : MCalled X.prog X.w X.K X.mg X.base C m k ps sp) (hr : Room k X.A)
    (hcl : eval (.Call (.Attribute o m apos) [] [] pos) X.env = (do
      let recv ← eval o X.env
      standAt apos.atName
      let (meth, lead) ← holding [recv] (getMethod recv m pl)
      callWith pos meth lead (backTo pos (starEach [] X.env)) (backToKw pos (keywordEach [] X.env))) := by rfl)
    : PE X (.Call (.Attribute o m apos) [] [] pos) (tMeth C m sp [] E0 ta tNil) := by
  obtain ⟨f, fd, F, hm, hb⟩ := c.ex
  exact pe_meth0 he cl hm F hr hb .nil pass0 hcl
/-- a class whose making keeps a promise -/
structure Made (P : Program) (w : World) (K : PySem.W.Frag) (mg : Str → Option Value) (base : Heap) (x : Str) (C : Addr) (k : Nat) (ps : List Str) (sp : Sp) : Prop where
  ex : ∃ f fd, FnOk P w K mg base CX0 k f fd ps sp ∧ Mk K C f ∧ mg x = some (.ref C) ∧ Binds K fd ps []
theorem pe_mk {X : Cx} {C : Addr} {x : Str} {k : Nat} {ps : List Str} {sp : Sp} {e : Expr} {es : List Expr} {t : TA} {p pos : Pos} (c : Made X.prog X.w X.K X.mg X.base x C k ps sp) (hr : Room (k + 1) X.A) (ha : PA X (e :: es) t)
    (hg : Gl X x := by rfl) (hdb : (x == ("__debug__" : Str)) = false := by decide)
    (he : starEach (e :: es) X.env = (false, eval e X.env) :: starEach es X.env := by rfl)
    (hpl : (backTo pos (starEach es X.env)).any (·.1) = false := by rfl) : PE X (.Call (.Name x p) (e :: es) [] pos) (tMake C sp [] E0 t) := by
  obtain ⟨f, fd, F, M, hm, hb⟩ := c.ex
  exact pe_make M F hr hg hm hb .nil pass0 ha hdb he hpl
theorem pe_mk0 {X : Cx} {C : Addr} {x : Str} {k : Nat} {ps : List Str} {sp : Sp} {p pos : Pos} (c : Made X.prog X.w X.K X.mg X.base x C k ps sp) (hr : Room (k + 1) X.A)
    (hg : Gl X x := by rfl) (hdb : (x == ("__debug__" : Str)) = false := by decide)
    : PE X (.Call (.Name x p) [] [] pos) (tMake C sp [] E0 tNil) := by
  obtain ⟨f, fd, F, M, hm, hb⟩ := c.ex
  exact pe_make0 M F hr hg hm hb .nil pass0 hdb
/-- the number in a slot -/
def stI (σ : L2.St) (k : Nat) : Int := match σ[k]? with
  | some (some (.int i)) => i
  | _ => 0
def spCe (K : PySem.W.Frag) : Sp := fun vs H Q _ => ∃ (a : Addr) (ns : List Nat) (i : Nat), vs = [.ref a, .int (i : Int)] ∧ SqN K H a ns ∧ i ≤ ns.length ∧ Q (.int (cend ns i : Nat)) H
theorem scCe : FnScope ["numbers", "start", "place", "missing", "width"] ["numbers", "start"] (defScope sCe) := ⟨rfl, rfl, rfl, by decide +kernel, rfl, by decide +kernel, by decide +kernel⟩
section
variable {P : Program} {w : World} {K : PySem.W.Frag} {mg : Str → Option Value} {base : Heap}
theorem ok_ce {f : Addr} {fd : FuncData} (F : Fun K "concept_end" "concept_end" sCe f fd) (T : Txt1 K mg) (cHw : Called P w K mg base "head_width" 1 ["numbers", "place"] (spHw K)) :
    FnOk P w K mg base CX0 2 f fd ["numbers", "start"] (spCe K) := by
  obtain ⟨aI, gI, tI⟩ := T.inn
  refine F.ok scCe (fun vs H Q E h => ?_) (fun cdv A outer s H vs Q E hr h => ?_)
  · obtain ⟨a, ns, i, rfl, _⟩ := h
    rfl
  · refine ⟨_, pss_cons (ps_set (i := 2) scCe.nd rfl (Or.inl rfl) (pv 1))
      (pss_cons (ps_set (i := 3) scCe.nd rfl (Or.inl rfl) pe_int)
      (pss_cons (ps_while PassesOwn.never (pt_cmpR op_gt (pv 3) pe_int (nomark _))
        (pss_cons (ps_set (i := 4) scCe.nd rfl (Or.inl rfl) (pe_cl cHw hr (pa_cons (pv 0) (pa_cons (pv 2) pa_nil))))
        (pss_cons (ps_if (pt_cmpR op_eq (pv 4) pe_int (nomark _)) (pss_one (ps_ret pe_int)) pss_nil)
        (pss_cons (ps_aug (i := 3) scCe.nd rfl (Or.inl rfl) (pe_op op_sub (pe_ix ix_seq (pgl gI) (pe_ix ix_seq (pv 0) (pv 2) (fun _ _ => rfl)) (fun _ _ => rfl)) pe_int) ip_add)
        (pss_one (ps_aug (i := 2) scCe.nd rfl (Or.inl rfl) (pv 4) ip_add))))))
      (pss_one (ps_ret (pv 2))))), ?_⟩
    obtain ⟨a, ns, i, rfl, hS, hi, q⟩ := h
    refine ⟨_, rfl, while_by (fun σ H' => H' = H ∧ ∃ (p m : Nat) (wv : Option V), σ = [some (.ref a), some (.int (i : Int)), some (.int (p : Int)), some (.int (m : Int)), wv] ∧ p ≤ ns.length ∧ rds m (ns.drop p) = rds 1 (ns.drop i))
      (fun σ _ => ns.length - (stI σ 2).toNat) ⟨rfl, i, 1, none, rfl, hi, rfl⟩ ?_ (fun σ H Q Q' h ⟨v, e, i, j, e1, e2, k, e3, q⟩ => ⟨v, e, i, j, e1, e2, k, e3, h _ _ q⟩)⟩
    rintro σ H' ⟨rfl, p, m, wv, rfl, hp, hm⟩
    refine ⟨_, rfl, _, _, rfl, rfl, _, rfl, ?_⟩
    refine ite2 (fun c => ?_) (fun c => ?_)
    · have c := of_decide_eq_true c
      obtain ⟨m, rfl⟩ : ∃ k, m = k + 1 := ⟨m - 1, by omega⟩
      refine ⟨_, rfl, _, rfl, a, ns, p, rfl, hS, ?_⟩
      refine ⟨_, rfl, rfl, _, rfl, ?_⟩
      refine ite2 (fun c2 => ?_) (fun c2 => ?_)
      · have c2 := V.int.inj (of_decide_eq_true c2)
        rw [rds_zero_w (by omega)] at hm
        rw [cend_none hm.symm] at q
        exact q
      · have c2 : hw (ns.drop p) ≠ 0 := fun z => c2 (decide_eq_true (by rw [z]; rfl))
        have hle := hw_le (ns.drop p)
        rw [List.length_drop] at hle
        obtain ⟨n, en⟩ := get_lt (show p < ns.length by omega)
        have n8 : n < 8 := by
          refine Nat.lt_of_not_le fun z => c2 ?_
          rw [drop_cons en, hw_big z]
        have hd : (ns.drop p)[0]? = some n := by rw [List.getElem?_drop]; simpa using en
        rw [rds_step hd c2, List.drop_drop] at hm
        refine ⟨_, rfl, _, rfl, _, rfl, rIx_of hS en (rIx_of (.inr (tI _)) (inT_at n8) ?_)⟩
        refine ⟨_, _, rfl, rfl, ?_⟩
        refine ⟨_, _, rfl, rfl, ?_⟩
        refine ⟨_, rfl, _, rfl, _, _, rfl, rfl, ?_⟩
        refine ⟨⟨rfl, p + hw (ns.drop p), m + inner n, some (.int (hw (ns.drop p) : Nat)), ?_, by omega, hm⟩, ?_⟩
        · have e1 : ((m + 1 : Nat) : Int) + ((inner n : Int) - 1) = ((m + inner n : Nat) : Int) := by omega
          have e2 : (p : Int) + (hw (ns.drop p) : Int) = ((p + hw (ns.drop p) : Nat) : Int) := by omega
          rw [← e1, ← e2]
          rfl
        · show ns.length - ((p : Int) + (hw (ns.drop p) : Int)).toNat < ns.length - ((p : Int)).toNat
          omega
    · have c : ¬ (0 : Int) < (m : Int) := fun z => c (decide_eq_true z)
      obtain rfl : m = 0 := by omega
      rw [cend_some hp hm.symm] at q
      exact ⟨_, rfl, q⟩
end
end Mx
set_option Elab.async false
set_option maxRecDepth 100000
set_option maxHeartbeats 2000000
namespace Mx
open PySem PySem.Spec PyProof.Rows L2
open Oc (C Axiom)
abbrev sSp : Stmt := top 5
/-! ### heaps -/
theorem same_upd {H : Hp} {p : Addr} {o : HO} (h : H p = none) : Same H (upd H p o) := fun b x e => by
  rw [upd_ne (ne_of_none e h)]; exact e
theorem samePut {H H' : Hp} {p : Addr} {o : HO} (s : Same H H') (h : H p = none) : Same H (upd H' p o) := fun b x e => by
  rw [upd_ne (ne_of_none e h)]; exact s b x e
theorem sameSqT {K : PySem.W.Frag} {H H' : Hp} {a : Addr} {xs : List V} (e : Same H H') (h : SqT K H a xs) : SqT K H' a xs := by
  rcases h with (h | ⟨o, h⟩) | h
  · exact .inl (.inl (e _ _ h))
  · exact .inl (.inr ⟨o, e _ _ h⟩)
  · exact .inr h
theorem sameSqN {K : PySem.W.Frag} {H H' : Hp} {a : Addr} {ns : List Nat} (e : Same H H') (h : SqN K H a ns) : SqN K H' a ns := h.imp e.seq (sameSqT e)
/-! ### concepts on the heap: a tuple each -/
def CAt (H : Hp) (a : Addr) (c : C) : Prop := H a = some (.tup (Nv (enc c)))
inductive CAll (H : Hp) : List Addr → List C → Prop where
  | nil : CAll H [] []
  | cons {a : Addr} {c : C} {as : List Addr} {cs : List C} : CAt H a c → CAll H as cs → CAll H (a :: as) (c :: cs)
theorem CAt.same {H H' : Hp} {a : Addr} {c : C} (e : Same H H') (h : CAt H a c) : CAt H' a c := e _ _ h
theorem CAll.same {H H' : Hp} {as : List Addr} {cs : List C} (e : Same H H') (h : CAll H as cs) : CAll H' as cs := by
  induction h with
  | nil => exact .nil
  | cons h _ ih => exact .cons (h.same e) ih
theorem CAll.put {H : Hp} {as : List Addr} {cs : List C} {p : Addr} {o : HO} {ys : List V} (h : CAll H as cs) (hp : H p = some (.lst ys)) : CAll (upd H p o) as cs := by
  induction h with
  | nil => exact .nil
  | cons h _ ih =>
    refine .cons ?_ ih
    show upd H p o _ = _
    rw [upd_ne (ne_of h hp (by intro z; cases z))]
    exact h
theorem CAll.app {H : Hp} {as bs : List Addr} {cs ds : List C} (h : CAll H as cs) (g : CAll H bs ds) : CAll H (as ++ bs) (cs ++ ds) := by
  induction h with
  | nil => exact g
  | cons h _ ih => exact .cons h ih
theorem CAll.len {H : Hp} {as : List Addr} {cs : List C} (h : CAll H as cs) : as.length = cs.length := by
  induction h with
  | nil => rfl
  | cons _ _ ih => rw [List.length_cons, List.length_cons, ih]
theorem CAll.get {H : Hp} {as : List Addr} {cs : List C} (h : CAll H as cs) : ∀ {i : Nat} {a : Addr}, as[i]? = some a → ∃ c, cs[i]? = some c ∧ CAt H a c := by
  induction h with
  | nil => intro i a e; simp at e
  | cons h _ ih =>
    intro i a e
    cases i with
    | zero =>
      simp only [List.getElem?_cons_zero, Option.some.injEq] at e
      subst e
      exact ⟨_, rfl, h⟩
    | succ i =>
      simp only [List.getElem?_cons_succ] at e
      exact ih e
theorem CAll.geta {H : Hp} {as : List Addr} {cs : List C} (h : CAll H as cs) : ∀ {i : Nat} {c : C}, cs[i]? = some c → ∃ a, as[i]? = some a ∧ CAt H a c := by
  induction h with
  | nil => intro i a e; simp at e
  | cons h _ ih =>
    intro i a e
    cases i with
    | zero =>
      simp only [List.getElem?_cons_zero, Option.some.injEq] at e
      subst e
      exact ⟨_, rfl, h⟩
    | succ i =>
      simp only [List.getElem?_cons_succ] at e
      exact ih e
/-- at r a list of concepts -/
def CsAt (H : Hp) (r : Addr) (cs : List C) : Prop := ∃ as : List Addr, H r = some (.lst (as.map V.ref)) ∧ CAll H as cs
theorem CsAt.same {H H' : Hp} {a : Addr} {cs : List C} (e : Same H H') (h : CsAt H a cs) : CsAt H' a cs := by
  obtain ⟨as, h1, h2⟩ := h
  exact ⟨as, e _ _ h1, h2.same e⟩
theorem small_lt {n : Nat} (h : n ≤ 100000) : n < sizeLine := Nat.lt_of_le_of_lt h (by decide)
theorem Nv_cut {ns : List Nat} {p e : Nat} (h1 : p ≤ e) (h2 : e ≤ ns.length) : cutV (Nv ns) (some (p : Int)) (some (e : Int)) = Nv ((ns.drop p).take (e - p)) := by
  unfold cutV
  rw [HT.sIx_nat, HT.sIx_nat, Nv_len, Nat.min_eq_left (show p ≤ ns.length by omega), Nat.min_eq_left h2, Nv, Nv, List.map_take, List.map_drop]
def spSp (K : PySem.W.Frag) : Sp := fun vs H Q _ => ∃ (a : Addr) (ns : List Nat), vs = [.ref a] ∧ SqL K H a (Nv ns) ∧ ns.length ≤ 1000 ∧
  ∀ (H' : Hp) (r : Addr) (cs : List C), Same H H' → H r = none → CsAt H' r cs → Splits ns cs → Q (.ref r) H'
theorem scSp : FnScope ["numbers", "concepts", "place", "end"] ["numbers"] (defScope sSp) := ⟨rfl, rfl, rfl, by decide +kernel, rfl, by decide +kernel, by decide +kernel⟩
theorem tyList {K : PySem.W.Frag} {p : Addr} {H : Hp} {xs : List V} (h : H p = some (.lst xs)) : tyV K "list" (.ref p) H := .inl ⟨rfl, _, SqL.of h⟩
section
variable {P : Program} {w : World} {K : PySem.W.Frag} {mg : Str → Option Value} {base : Heap}
theorem ok_sp {f : Addr} {fd : FuncData} (F : Fun K "split_concepts" "split_concepts" sSp f fd) (mLen : mg "len" = none) (mTup : mg "tuple" = none) (cCe : Called P w K mg base "concept_end" 2 ["numbers", "start"] (spCe K)) :
    FnOk P w K mg base CX0 3 f fd ["numbers"] (spSp K) := by
  refine F.ok scSp (fun vs H Q E h => ?_) (fun cdv A outer s H vs Q E hr h => ?_)
  · obtain ⟨a, ns, rfl, _⟩ := h
    rfl
  · refine ⟨_, pss_cons (ps_set (i := 1) scSp.nd rfl (Or.inl rfl) (pe_lst pa_nil))
      (pss_cons (ps_set (i := 2) scSp.nd rfl (Or.inl rfl) pe_int)
      (pss_cons (ps_while PassesOwn.never (pt_cmpR op_lt (pv 2) (pe_callB call_len_seq (by rfl) mLen PySem.boot_len (pa_cons (pv 0) pa_nil)) (nomark _))
        (pss_cons (ps_set (i := 3) scSp.nd rfl (Or.inl rfl) (pe_cl cCe hr (pa_cons (pv 0) (pa_cons (pv 2) pa_nil))))
        (pss_cons (ps_if (pt_cmpR op_eq (pv 3) pe_int (nomark _)) (pss_one (ps_ret (pe_lst pa_nil))) pss_nil)
        (pss_cons (ps_expr (pe_bm PySem.F.plainAttrs_list PySem.F.slot_list_append PySem.F.type_list_append mt_append (pv 1)
          (pa_cons (pe_callTy call_tuple_of (by rfl) mTup (by decide +kernel) (pa_cons (pe_slice sl_list (pv 0) (po_some (pv 2)) (po_some (pv 3))) pa_nil)) pa_nil)))
        (pss_one (ps_set (i := 2) scSp.nd rfl (Or.inl rfl) (pv 3)))))))
      (pss_one (ps_ret (pv 1))))), ?_⟩
    obtain ⟨a, ns, rfl, hS, hn, q⟩ := h
    refine ⟨by show 0 ≤ sizeLine; decide, fun r hr0 => ?_⟩
    refine while_by (fun σ H' => Same H H' ∧ ∃ (p : Nat) (ev : Option V) (as : List Addr) (done : List C), σ = [some (.ref a), some (.ref r), some (.int (p : Int)), ev] ∧ p ≤ ns.length ∧
        H' r = some (.lst (as.map V.ref)) ∧ CAll H' as done ∧ (∀ c ∈ done, Valid c) ∧ ns = done.flatMap enc ++ ns.drop p ∧ done.length ≤ p)
      (fun σ _ => ns.length - (stI σ 2).toNat) ⟨same_upd hr0, 0, none, [], [], rfl, Nat.zero_le _, upd_same, .nil, by simp, rfl, Nat.le_refl _⟩ ?_ ?_
    · rintro σ H' ⟨sm, p, ev, as, done, rfl, hp, hl, hc, hv, hns, hlen⟩
      have hS' := sm.seq hS
      refine ⟨_, rfl, _, rfl, a, _, rfl, .inl hS', _, _, rfl, rfl, _, rfl, ?_⟩
      refine ite2 (fun c => ?_) (fun c => ?_)
      · have c := of_decide_eq_true c
        rw [Nv_len] at c
        have hpl : p < ns.length := by omega
        refine ⟨_, rfl, _, rfl, a, ns, p, rfl, .inl hS', hp, ?_⟩
        refine ⟨_, rfl, rfl, _, rfl, ?_⟩
        cases e : rds 1 (ns.drop p) with
        | none =>
          rw [cend_none e]
          refine iteT ⟨by show 0 ≤ sizeLine; decide, fun l hl => ?_⟩
          refine q _ l [] (samePut sm (sm.free hl)) (sm.free hl) ⟨[], upd_same, .nil⟩ (splits_fail hv hns ?_ e)
          intro z
          have := congrArg List.length z
          rw [List.length_drop] at this
          simp at this
          omega
        | some rest =>
          obtain ⟨c, s, e1, v, e2⟩ := rds_of e
          have e2 : s = rest := Option.some.inj e2
          subst e2
          have hlen2 := congrArg List.length e1
          rw [List.length_drop, List.length_append] at hlen2
          have hpos := enc_pos c
          have hen : cend ns p = p + (enc c).length := by
            refine cend_some (by omega) ?_
            rw [e, ← List.drop_drop, e1, List.drop_left]
          rw [hen]
          refine ite2 (fun c2 => ?_) (fun _ => ?_)
          · have c2 := V.int.inj (of_decide_eq_true c2)
            exfalso
            omega
          refine ⟨_, rfl, tyList hl, _, rfl, ⟨_, rfl, _, rfl, ⟨_, rfl, _, rfl, a, _, rfl, hS', fun l hl2 => ?_⟩⟩⟩
          refine ⟨l, _, rfl, .inl ⟨SqL.of upd_same, fun l2 hl3 => ?_⟩⟩
          have ecut : cutV (Nv ns) (some (p : Int)) (some ((p + (enc c).length : Nat) : Int)) = Nv (enc c) := by
            rw [Nv_cut (by omega) (by omega), show p + (enc c).length - p = (enc c).length by omega, e1, List.take_left]
          rw [ecut]
          rw [ecut] at hl3
          have s1 : Same H' (upd H' l (.lst (Nv (enc c)))) := same_upd hl2
          have s2 : Same (upd H' l (.lst (Nv (enc c)))) (upd (upd H' l (.lst (Nv (enc c)))) l2 (.tup (Nv (enc c)))) := same_upd hl3
          have s3 := s1.trans s2
          have hr3 := s3 _ _ hl
          refine ⟨r, _, _, rfl, rfl, hr3, ?_, ?_⟩
          · rw [List.length_map, hc.len]
            exact small_lt (by omega)
          refine ⟨_, rfl, ?_⟩
          refine ⟨⟨samePut (sm.trans s3) hr0, p + (enc c).length, some (.int ((p + (enc c).length : Nat) : Int)), as ++ [l2], done ++ [c], rfl, by omega, ?_, ?_, ?_, ?_, ?_⟩, ?_⟩
          · rw [upd_same, List.map_append]; rfl
          · exact ((hc.same s3).app (.cons upd_same .nil)).put hr3
          · intro x hx
            rcases List.mem_append.1 hx with hx | hx
            · exact hv x hx
            · rw [List.mem_singleton] at hx
              subst hx
              exact v
          · rw [List.flatMap_append, List.append_assoc, ← List.drop_drop, e1, List.drop_left]
            simp only [List.flatMap_cons, List.flatMap_nil, List.append_nil]
            rw [e1] at hns
            exact hns
          · rw [List.length_append, List.length_singleton]
            omega
          · show ns.length - (((p + (enc c).length : Nat) : Int)).toNat < ns.length - ((p : Int)).toNat
            omega
      · have c : ¬ (p : Int) < ((Nv ns).length : Int) := fun z => c (decide_eq_true z)
        rw [Nv_len] at c
        refine ⟨_, rfl, q _ r done sm hr0 ⟨as, hl, hc⟩ (splits_done hv ?_)⟩
        rw [List.drop_eq_nil_of_le (by omega), List.append_nil] at hns
        exact hns
    · exact fun σ H Q Q' h ⟨v, e, v2, e2, p, ys, e3, hs, i, j, e4, e5, k, e6, q⟩ => ⟨v, e, v2, e2, p, ys, e3, hs, i, j, e4, e5, k, e6, h _ _ q⟩
end
end Mx
set_option Elab.async false
set_option maxRecDepth 100000
set_option maxHeartbeats 2000000
namespace Mx
open PySem PySem.Spec PyProof.Rows L2
open Oc (C Axiom)
abbrev sCs : Stmt := top 6
abbrev sIa : Stmt := top 7
def spCs (K : PySem.W.Frag) : Sp := fun vs H Q _ => ∃ (a : Addr) (c : C), vs = [.ref a] ∧ CAt H a c ∧ Valid c ∧ (enc c).length ≤ 1000 ∧
  ∀ (H' : Hp) (r : Addr), Same H H' → H r = none → H' r = some (.lst (Nv ((marks c 0).map (·.1)))) → Q (.ref r) H'
theorem scCs : FnScope ["concept", "starts", "place"] ["concept"] (defScope sCs) := ⟨rfl, rfl, rfl, by decide +kernel, rfl, by decide +kernel, by decide +kernel⟩
def spIa (K : PySem.W.Frag) : Sp := fun vs H Q _ => ∃ (a : Addr) (c : C), vs = [.ref a] ∧ CAt H a c ∧ ∀ (H' : Hp), Same H H' → Q (.bl (isAt c)) H'
theorem scIa : FnScope ["concept"] ["concept"] (defScope sIa) := ⟨rfl, rfl, rfl, by decide +kernel, rfl, by decide +kernel, by decide +kernel⟩
theorem Nv_app (a b : List Nat) : Nv (a ++ b) = Nv a ++ Nv b := List.map_append
theorem marksL_len : ∀ (cs : List C) (o : Nat), (marksL cs o).length ≤ (cs.flatMap enc).length
  | [], o => by simp [marksL]
  | c :: cs, o => by
    have := marks_length_le c o
    have := marksL_len cs (o + (enc c).length)
    simp only [marksL, List.length_append, List.flatMap_cons]
    omega
section
variable {P : Program} {w : World} {K : PySem.W.Frag} {mg : Str → Option Value} {base : Heap}
theorem ok_cs {f : Addr} {fd : FuncData} (F : Fun K "concept_starts" "concept_starts" sCs f fd) (mLen : mg "len" = none) (cHw : Called P w K mg base "head_width" 1 ["numbers", "place"] (spHw K)) :
    FnOk P w K mg base CX0 2 f fd ["concept"] (spCs K) := by
  refine F.ok scCs (fun vs H Q E h => ?_) (fun cdv A outer s H vs Q E hr h => ?_)
  · obtain ⟨a, ns, rfl, _⟩ := h
    rfl
  · refine ⟨_, pss_cons (ps_set (i := 1) scCs.nd rfl (Or.inl rfl) (pe_lst pa_nil))
      (pss_cons (ps_set (i := 2) scCs.nd rfl (Or.inl rfl) pe_int)
      (pss_cons (ps_while PassesOwn.never (pt_cmpR op_lt (pv 2) (pe_callB call_len_seq (by rfl) mLen PySem.boot_len (pa_cons (pv 0) pa_nil)) (nomark _))
        (pss_cons (ps_expr (pe_bm PySem.F.plainAttrs_list PySem.F.slot_list_append PySem.F.type_list_append mt_append (pv 1) (pa_cons (pv 2) pa_nil)))
        (pss_one (ps_aug (i := 2) scCs.nd rfl (Or.inl rfl) (pe_cl cHw hr (pa_cons (pv 0) (pa_cons (pv 2) pa_nil))) ip_add))))
      (pss_one (ps_ret (pv 1))))), ?_⟩
    obtain ⟨a, c, rfl, hS, hv, hn, q⟩ := h
    refine ⟨by show 0 ≤ sizeLine; decide, fun r hr0 => ?_⟩
    refine while_by (fun σ H' => Same H H' ∧ ∃ (p : Nat) (ps : List Nat) (es : List C), σ = [some (.ref a), some (.ref r), some (.int (p : Int))] ∧ (enc c).drop p = es.flatMap enc ∧ (∀ e ∈ es, Valid e) ∧
        H' r = some (.lst (Nv ps)) ∧ ps ++ (marksL es p).map (·.1) = (marks c 0).map (·.1) ∧ p ≤ (enc c).length)
      (fun σ _ => (enc c).length - (stI σ 2).toNat) ⟨same_upd hr0, 0, [], [c], rfl, by simp, by simpa using hv, upd_same, by simp [marksL], Nat.zero_le _⟩ ?_ ?_
    · rintro σ H' ⟨sm, p, ps, es, rfl, hd, he, hl, hm, hp⟩
      have hS' : SqN K H' a (enc c) := .inr (SqT.of (sm _ _ hS))
      refine ⟨_, rfl, _, rfl, a, _, rfl, hS', _, _, rfl, rfl, _, rfl, ?_⟩
      have hlen := congrArg List.length hd
      rw [List.length_drop] at hlen
      have hml := congrArg List.length hm
      rw [List.length_append, List.length_map, List.length_map] at hml
      have hmc := marks_length_le c 0
      refine ite2 (fun cc => ?_) (fun cc => ?_)
      · have cc := of_decide_eq_true cc
        rw [Nv_len] at cc
        cases es with
        | nil =>
          exfalso
          simp at hlen
          omega
        | cons e es =>
          have ve := he e (by simp)
          have hw1 : hw ((enc c).drop p) = wid e := by rw [hd, List.flatMap_cons, hw_wid ve]
          have hwl := hw_le ((enc c).drop p)
          rw [List.length_drop, hw1] at hwl
          have hwp := wid_pos e
          refine ⟨_, rfl, tyList hl, _, rfl, ⟨r, _, _, rfl, rfl, hl, ?_, ?_⟩⟩
          · rw [Nv_len]
            exact small_lt (by omega)
          have sm2 := samePut (o := HO.lst (Nv ps ++ [V.int (p : Int)])) sm hr0
          refine ⟨_, rfl, _, rfl, _, rfl, a, enc c, p, rfl, .inr (SqT.of (sm2 _ _ hS)), ?_⟩
          rw [hw1]
          refine ⟨_, _, rfl, rfl, ?_⟩
          refine ⟨⟨sm2, p + wid e, ps ++ [p], args e ++ es, ?_, ?_, ?_, ?_, ?_, by omega⟩, ?_⟩
          · have e2 : (p : Int) + (wid e : Int) = ((p + wid e : Nat) : Int) := by omega
            rw [← e2]
            rfl
          · rw [← List.drop_drop, hd, List.flatMap_cons, drop_wid, List.flatMap_append]
          · intro x hx
            rcases List.mem_append.1 hx with hx | hx
            · exact args_valid ve x hx
            · exact he x (by simp [hx])
          · rw [upd_same, Nv_app]; rfl
          · rw [marksL_step] at hm
            rw [← hm]
            simp
          · show (enc c).length - (((p : Int) + (wid e : Int))).toNat < (enc c).length - ((p : Int)).toNat
            omega
      · have cc : ¬ (p : Int) < ((Nv (enc c)).length : Int) := fun z => cc (decide_eq_true z)
        rw [Nv_len] at cc
        have hes : es = [] := by
          cases es with
          | nil => rfl
          | cons e es =>
            have := enc_pos e
            simp at hlen
            omega
        subst hes
        simp only [marksL, List.map_nil, List.append_nil] at hm
        rw [hm] at hl
        exact ⟨_, rfl, q _ r sm hr0 hl⟩
    · exact fun σ H Q Q' h ⟨v, e, v2, e2, p, ys, e3, hs, i, j, e4, e5, k, e6, q⟩ => ⟨v, e, v2, e2, p, ys, e3, hs, i, j, e4, e5, k, e6, h _ _ q⟩
theorem ok_ia {f : Addr} {fd : FuncData} (F : Fun K "is_atom" "is_atom" sIa f fd) : FnOk P w K mg base CX0 1 f fd ["concept"] (spIa K) := by
  refine F.ok scIa (fun vs H Q E h => ?_) (fun cdv A outer s H vs Q E hr h => ?_)
  · obtain ⟨a, ns, rfl, _⟩ := h
    rfl
  · refine ⟨_, pss_one (ps_ret (pe_cmpR op_in_seq (pe_ix ix_seq (pv 0) pe_int (fun _ _ => rfl)) (pe_tup (pa_cons pe_int (pa_cons pe_int (pa_cons pe_int pa_nil)))) rfl)), ?_⟩
    obtain ⟨a, c, rfl, hS, q⟩ := h
    obtain ⟨n, hn⟩ := get_lt (enc_pos c)
    refine ⟨_, rfl, rIx_of (i := 0) (.inr (SqT.of hS)) hn ⟨by show 3 ≤ sizeLine; decide, fun t ht => ?_⟩⟩
    refine ⟨t, _, rfl, .inr (SqT.of upd_same), rfl, rfl, ?_⟩
    have e : (if false = true then !inV (V.int (n : Int)) [V.int 2, V.int 6, V.int 7] else inV (V.int (n : Int)) [V.int 2, V.int 6, V.int 7]) = isAt c := by
      rw [if_neg Bool.false_ne_true, isAt_enc]
      have hd : (enc c).headD 0 = n := by
        cases h : enc c with
        | nil => rw [h] at hn; simp at hn
        | cons x r => rw [h] at hn; simpa using hn
      rw [hd]
      simp only [inV, List.any_cons, List.any_nil, eqV, Bool.or_false]
      rw [Bool.eq_iff_iff]
      simp only [Bool.or_eq_true, beq_iff_eq]
      omega
    rw [e]
    exact q _ (same_upd ht)
end
end Mx
set_option Elab.async false
set_option maxRecDepth 100000
set_option maxHeartbeats 2000000
namespace Mx
open PySem PySem.Spec PyProof.Rows L2
open Oc (C Axiom)
abbrev sAi : Stmt := top 8
theorem hu65 {A : Around} {k : Nat} (hr : Room k A) : A.units + 65 < cLine := by have := hr.un; omega
/-- numbers as data -/
def nD (ns : List Nat) : PyData := .tuple (ns.map fun (n : Nat) => PyData.int (n : Int))
theorem nD_layAll : ∀ ns : List Nat, PyData.canLayAll0 (ns.map fun (n : Nat) => PyData.int (n : Int)) = true
  | [] => by simp [PyData.canLayAll0]
  | n :: ns => by simp [PyData.canLayAll0, PyData.canLay0, nD_layAll ns]
theorem nD_depthAll : ∀ ns : List Nat, PyData.depthAll (ns.map fun (n : Nat) => PyData.int (n : Int)) ≤ 1
  | [] => by simp [PyData.depthAll]
  | n :: ns => by
    have := nD_depthAll ns
    simp only [List.map_cons, PyData.depthAll, PyData.depth]
    omega
theorem nD_lay (ns : List Nat) : (nD ns).canLay0 = true := by simp only [nD, PyData.canLay0]; exact nD_layAll ns
theorem nD_depth (ns : List Nat) : (nD ns).depth ≤ 2 := by
  have := nD_depthAll ns
  simp only [nD, PyData.depth]
  omega
theorem nD_shaped (ns : List Nat) : SeqAt.shaped (nD ns) = true := by
  have := nD_depth ns
  show ((nD ns).canLay0 && decide ((nD ns).depth ≤ 64)) = true
  rw [Bool.and_eq_true]
  exact ⟨nD_lay ns, decide_eq_true (by omega)⟩
theorem nDs_layAll : ∀ cs : List C, PyData.canLayAll0 (cs.map fun c => nD (enc c)) = true
  | [] => by simp [PyData.canLayAll0]
  | c :: cs => by simp [PyData.canLayAll0, nD_lay, nDs_layAll cs]
theorem nDs_depthAll : ∀ cs : List C, PyData.depthAll (cs.map fun c => nD (enc c)) ≤ 2
  | [] => by simp [PyData.depthAll]
  | c :: cs => by
    have := nDs_depthAll cs
    have := nD_depth (enc c)
    simp only [List.map_cons, PyData.depthAll]
    omega
theorem nDs_shaped (cs : List C) : SeqAt.shaped (.list (cs.map fun c => nD (enc c))) = true := by
  have h1 := nDs_depthAll cs
  have h2 : PyData.depth (.list (cs.map fun c => nD (enc c))) ≤ 64 := by
    simp only [PyData.depth]
    omega
  show (PyData.canLay0 (.list (cs.map fun c => nD (enc c))) && decide (PyData.depth (.list (cs.map fun c => nD (enc c))) ≤ 64)) = true
  rw [Bool.and_eq_true]
  exact ⟨by simp only [PyData.canLay0]; exact nDs_layAll cs, decide_eq_true h2⟩
theorem nD_eqvAll : ∀ a b : List Nat, PyData.eqvAll (a.map fun (n : Nat) => PyData.int (n : Int)) (b.map fun (n : Nat) => PyData.int (n : Int)) = decide (a = b)
  | [], [] => by simp [PyData.eqvAll]
  | [], y :: b => by simp [PyData.eqvAll]
  | x :: a, [] => by simp [PyData.eqvAll]
  | x :: a, y :: b => by
    simp only [List.map_cons, PyData.eqvAll, PyData.eqv, nD_eqvAll a b]
    by_cases h : x = y
    · subst h; simp
    · have : ((x : Int) == (y : Int)) = false := beq_eq_false_iff_ne.mpr (by omega)
      rw [this]
      simp [h]
theorem nD_eqv (a b : List Nat) : PyData.eqv (nD a) (nD b) = decide (a = b) := by
  simp only [nD, PyData.eqv]
  exact nD_eqvAll a b
theorem nD_ints (K : PySem.W.Frag) (H : Hp) : ∀ ns : List Nat, DpAll K H (Nv ns) (ns.map fun (n : Nat) => PyData.int (n : Int))
  | [] => .nil
  | n :: ns => .cons (.int _) (nD_ints K H ns)
theorem CAt.dp {K : PySem.W.Frag} {H : Hp} {a : Addr} {c : C} (h : CAt H a c) : Dp K H (.ref a) (nD (enc c)) := .tup (SqT.of h) (nD_ints K H _)
theorem CAll.dp {K : PySem.W.Frag} {H : Hp} {as : List Addr} {cs : List C} (h : CAll H as cs) : DpAll K H (as.map V.ref) (cs.map fun c => nD (enc c)) := by
  induction h with
  | nil => exact .nil
  | cons h _ ih => exact .cons h.dp ih
theorem any_eqv {cs : List C} {c : C} (hv : ∀ x ∈ cs, Valid x) (vc : Valid c) : ((cs.map fun c => nD (enc c)).any fun z => PyData.eqv z (nD (enc c))) = cs.contains c := by
  rw [Bool.eq_iff_iff, List.any_eq_true, List.contains_iff_mem]
  constructor
  · rintro ⟨z, hz, e⟩
    obtain ⟨x, hx, rfl⟩ := List.mem_map.1 hz
    rw [nD_eqv, decide_eq_true_eq, enc_eq_iff (hv x hx) vc] at e
    exact e ▸ hx
  · intro h
    exact ⟨_, List.mem_map.2 ⟨c, h, rfl⟩, by rw [nD_eqv]; simp⟩
/-- the tuple's part that is an inner concept -/
theorem sl_enc {K : PySem.W.Frag} {H : Hp} {a : Addr} {c d : C} {pre post : List Nat} {Q : VK} (h : CAt H a c) (e : enc c = pre ++ (enc d ++ post))
    (q : ∀ (H' : Hp) (p : Addr), Same H H' → CAt H' p d → Q (.ref p) H') :
    rSlA K (.ref a) (some (pre.length : Int)) (some ((pre.length + (enc d).length : Nat) : Int)) H Q := by
  have hl := congrArg List.length e
  simp only [List.length_append] at hl
  have ecut : cutV (Nv (enc c)) (some (pre.length : Int)) (some ((pre.length + (enc d).length : Nat) : Int)) = Nv (enc d) := by
    rw [Nv_cut (by omega) (by omega), e, List.drop_left, Nat.add_sub_cancel_left, List.take_left]
  refine ⟨a, Nv (enc c), rfl, SqT.of h, fun hw => ?_, fun _ p hp => ?_⟩
  · rw [HT.sIx_nat, HT.sIx_nat, Nv_len] at hw
    have hp := enc_pos d
    have h0 : pre.length = 0 := by omega
    have h1 : post.length = 0 := by omega
    have h0 := List.length_eq_zero_iff.1 h0
    have h1 := List.length_eq_zero_iff.1 h1
    subst h0 h1
    refine q H a (Same.refl H) ?_
    have e : enc c = enc d := by simpa using e
    unfold CAt at h ⊢
    rw [← e]
    exact h
  · rw [ecut]
    exact q _ p (same_upd hp) upd_same
def spAi (K : PySem.W.Frag) : Sp := fun vs H Q _ => ∃ (a : Addr) (as : List Addr) (cs : List C), vs = [.ref a] ∧ SqL K H a (as.map V.ref) ∧ CAll H as cs ∧ (∀ c ∈ cs, Valid c ∧ (enc c).length ≤ 1000) ∧ cs.length ≤ 1000 ∧
  ∀ (H' : Hp) (r : Addr), Same H H' → H r = none → CsAt H' r (Oc.atomsOf cs) → Q (.ref r) H'
theorem scAi : FnScope ["concepts", "atoms", "concept", "start", "inner"] ["concepts"] (defScope sAi) := ⟨rfl, rfl, rfl, by decide +kernel, rfl, by decide +kernel, by decide +kernel⟩
theorem foldl_take {α β : Type} (g : β → α → β) (b : β) {l : List α} {i : Nat} {x : α} (h : l[i]? = some x) : (l.take (i + 1)).foldl g b = g ((l.take i).foldl g b) x := by
  rw [List.take_add_one, h, Option.toList_some, List.foldl_append]
  rfl
section
variable {P : Program} {w : World} {K : PySem.W.Frag} {mg : Str → Option Value} {base : Heap}
theorem ok_ai {f : Addr} {fd : FuncData} (F : Fun K "atoms_in" "atoms_in" sAi f fd) (cCs : Called P w K mg base "concept_starts" 2 ["concept"] (spCs K))
    (cCe : Called P w K mg base "concept_end" 2 ["numbers", "start"] (spCe K)) (cIa : Called P w K mg base "is_atom" 1 ["concept"] (spIa K)) :
    FnOk P w K mg base CX0 3 f fd ["concepts"] (spAi K) := by
  refine F.ok scAi (fun vs H Q E h => ?_) (fun cdv A outer s H vs Q E hr h => ?_)
  · obtain ⟨a, as, ns, rfl, _⟩ := h
    rfl
  · refine ⟨_, pss_cons (ps_set (i := 1) scAi.nd rfl (Or.inl rfl) (pe_lst pa_nil))
      (pss_cons (ps_for PassesOwn.never rfl (pi_list (pv 0)) (pg_name (i := 2) scAi.nd rfl (Or.inl rfl))
        (pss_one (ps_for PassesOwn.never rfl (pi_list (pe_cl cCs hr (pa_cons (pv 2) pa_nil))) (pg_name (i := 3) scAi.nd rfl (Or.inl rfl))
          (pss_cons (ps_set (i := 4) scAi.nd rfl (Or.inl rfl) (pe_slice sl_tupA (pv 2) (po_some (pv 3)) (po_some (pe_cl cCe hr (pa_cons (pv 2) (pa_cons (pv 3) pa_nil))))))
          (pss_one (ps_if (PW.pt (pw_and (pt_val (pe_cl cIa (hr.mono (by decide)) (pa_cons (pv 4) pa_nil))) (pw_and1 (pt_cmpR (op_notInD (hu65 hr)) (pv 4) (pv 1) rfl))))
            (pss_one (ps_expr (pe_bm PySem.F.plainAttrs_list PySem.F.slot_list_append PySem.F.type_list_append mt_append (pv 1) (pa_cons (pv 4) pa_nil)))) pss_nil))))))
      (pss_one (ps_ret (pv 1)))), ?_⟩
    obtain ⟨a, as, cs, rfl, hS, hA, hv, hn, q⟩ := h
    refine ⟨by show 0 ≤ sizeLine; decide, fun r hr0 => ?_⟩
    refine ⟨_, rfl, a, rfl, ⟨_, (same_upd hr0).seq hS⟩, for_list (K := K) (a := a) (xs := as.map V.ref) (fun i σ H' => Same H H' ∧ ∃ (v2 v3 v4 : Option V) (bs : List Addr) (acc : List C),
      σ = [some (.ref a), some (.ref r), v2, v3, v4] ∧ H' r = some (.lst (bs.map V.ref)) ∧ CAll H' bs acc ∧ acc = (cs.take i).foldl (fun m c => c.atoms.foldl ins m) [] ∧ (∀ x ∈ acc, Valid x) ∧ acc.length ≤ 1000 * i)
      ⟨same_upd hr0, none, none, none, [], [], rfl, upd_same, .nil, rfl, by simp, Nat.le_refl _⟩ (fun i σ H' _ ⟨sm, _⟩ => sm.seq hS) ?_ ?_⟩
    · rintro i x σ H' hx ⟨sm, v2, v3, v4, bs, acc, rfl, hl, hc, hacc, hva, hlen⟩
      obtain ⟨ac, hac, rfl⟩ : ∃ ac, as[i]? = some ac ∧ x = V.ref ac := by
        rw [List.getElem?_map] at hx
        cases e : as[i]? with
        | none => rw [e] at hx; cases hx
        | some z => rw [e] at hx; exact ⟨z, rfl, (Option.some.inj hx).symm⟩
      obtain ⟨c, hci, hcat⟩ := hA.get hac
      have hcm := List.mem_of_getElem? hci
      obtain ⟨vc, lc⟩ := hv c hcm
      have hi : i < cs.length := (List.getElem?_eq_some_iff.mp hci).1
      refine ⟨_, rfl, ac, c, rfl, hcat.same sm, vc, lc, fun H1 rs s1 hrs hls => ?_⟩
      have hne : r ≠ rs := by intro z; subst z; rw [hl] at hrs; cases hrs
      refine ⟨rs, rfl, ⟨_, SqL.of hls⟩, for_list (K := K) (a := rs) (xs := Nv ((marks c 0).map (·.1))) (fun j σ H2 => Same H H2 ∧ ∃ (v3 v4 : Option V) (bs : List Addr) (acc2 : List C),
        σ = [some (.ref a), some (.ref r), some (.ref ac), v3, v4] ∧ H2 rs = some (.lst (Nv ((marks c 0).map (·.1)))) ∧ H2 r = some (.lst (bs.map V.ref)) ∧ CAll H2 bs acc2 ∧
        acc2 = (((marks c 0).map (·.2)).take j).foldl insA acc ∧ (∀ x ∈ acc2, Valid x) ∧ acc2.length ≤ 1000 * i + j)
        ⟨sm.trans s1, v3, v4, bs, acc, rfl, hls, s1 _ _ hl, hc.same s1, rfl, hva, hlen⟩ (fun j σ H2 _ ⟨_, _, _, _, _, _, h, _⟩ => SqL.of h) ?_ ?_⟩
      · rintro j y σ H2 hy ⟨sm2, v3, v4, bs, acc2, rfl, hls2, hl2, hc2, hacc2, hva2, hlen2⟩
        obtain ⟨⟨o, d⟩, hj, rfl⟩ : ∃ p : Nat × C, (marks c 0)[j]? = some p ∧ y = V.int (p.1 : Int) := by
          rw [Nv, List.getElem?_map, List.getElem?_map] at hy
          cases e : (marks c 0)[j]? with
          | none => rw [e] at hy; cases hy
          | some z => rw [e] at hy; exact ⟨z, rfl, (Option.some.inj hy).symm⟩
        have hjl := (List.getElem?_eq_some_iff.mp hj).1
        have hml := marks_length_le c 0
        obtain ⟨vd, pre, post, he, ho⟩ := marks_at c 0 _ (List.mem_of_getElem? hj) vc
        have ho : o = pre.length := (show o = 0 + pre.length from ho).trans (Nat.zero_add _)
        have vd : Valid d := vd
        have he : enc c = pre ++ (enc d ++ post) := he
        subst ho
        have hcat2 : CAt H2 ac c := hcat.same sm2
        have hle : pre.length ≤ (enc c).length := by
          have := congrArg List.length he
          rw [List.length_append] at this
          omega
        have hce : cend (enc c) pre.length = pre.length + (enc d).length := by
          have := cend_enc (pre := pre) (post := post) vd
          rw [← he] at this
          exact this
        refine ⟨_, rfl, _, rfl, _, rfl, _, rfl, _, rfl, ac, enc c, pre.length, rfl, .inr (SqT.of hcat2), hle, _, rfl, ?_⟩
        rw [hce]
        refine sl_enc hcat2 he fun H3 p s3 hp => ?_
        refine ⟨_, rfl, p, d, rfl, hp, fun H4 s4 => ⟨_, rfl, ?_⟩⟩
        have hmd : ((marks c 0).map (·.2))[j]? = some d := by rw [List.getElem?_map, hj]; rfl
        have sm4 := (sm2.trans s3).trans s4
        have s34 := s3.trans s4
        have step := foldl_take insA acc hmd
        rw [← hacc2] at step
        cases hat : isAt d with
        | false =>
          refine iteF (iteF ?_)
          refine ⟨sm4, _, _, bs, acc2, rfl, s34 _ _ hls2, s34 _ _ hl2, hc2.same s34, ?_, hva2, by omega⟩
          rw [step]
          unfold insA
          rw [hat]
          rfl
        | true =>
          refine iteT ?_
          refine ⟨_, rfl, _, rfl, nD (enc d), _, (hp.same s4).dp, .lst (SqL.of (s34 _ _ hl2)) (hc2.same s34).dp, nD_shaped _, nDs_shaped _, ?_⟩
          rw [any_eqv hva2 vd]
          refine ⟨_, rfl, ?_⟩
          cases hin : acc2.contains d with
          | true =>
            refine iteF ?_
            refine ⟨sm4, _, _, bs, acc2, rfl, s34 _ _ hls2, s34 _ _ hl2, hc2.same s34, ?_, hva2, by omega⟩
            rw [step]
            unfold insA ins
            rw [hat, if_pos rfl, hin, if_pos rfl]
          | false =>
            refine iteT ?_
            have hr4 := s34 _ _ hl2
            refine ⟨_, rfl, tyList hr4, _, rfl, r, _, _, rfl, rfl, hr4, ?_, ?_⟩
            · rw [List.length_map, hc2.len]
              exact Nat.lt_of_le_of_lt (show acc2.length ≤ 1001000 by omega) (by decide)
            refine ⟨samePut sm4 hr0, _, _, bs ++ [p], acc2 ++ [d], rfl, ?_, ?_, ?_, ?_, ?_, ?_⟩
            · rw [upd_ne (Ne.symm hne)]
              exact s34 _ _ hls2
            · rw [upd_same, List.map_append]; rfl
            · exact ((hc2.same s34).app (.cons (hp.same s4) .nil)).put hr4
            · rw [step]
              unfold insA ins
              rw [hat, if_pos rfl, hin, if_neg Bool.false_ne_true]
            · intro x hx
              rcases List.mem_append.1 hx with hx | hx
              · exact hva2 x hx
              · rw [List.mem_singleton] at hx
                exact hx ▸ vd
            · rw [List.length_append, List.length_singleton]
              omega
      · rintro σ H2 ⟨sm2, v3, v4, bs, acc2, rfl, hls2, hl2, hc2, hacc2, hva2, hlen2⟩
        rw [Nv_len, List.length_map] at hacc2 hlen2
        rw [List.take_of_length_le (by simp), foldl_marks] at hacc2
        have := marks_length_le c 0
        refine ⟨sm2, _, _, _, bs, acc2, rfl, hl2, hc2, ?_, hva2, by omega⟩
        rw [foldl_take _ _ hci, ← hacc]
        exact hacc2
    · rintro σ H' ⟨sm, v2, v3, v4, bs, acc, rfl, hl, hc, hacc, hva, hlen⟩
      rw [List.length_map, hA.len, List.take_length, ← atomsOf_eq] at hacc
      subst hacc
      exact ⟨_, rfl, q _ r sm hr0 ⟨bs, hl, hc⟩⟩
end
end Mx
set_option Elab.async false
set_option maxRecDepth 100000
set_option maxHeartbeats 2000000
namespace Mx
open PySem PySem.Spec PyProof.Rows L2
open Oc (C Axiom)
/-! ### whole numbers as bits -/
theorem and_nat (a b : Nat) : Builtin.bitAnd (a : Int) (b : Int) = ((a &&& b : Nat) : Int) := by
  rw [bitAnd_pp (by omega) (by omega), Int.toNat_natCast, Int.toNat_natCast]
theorem nat_split (a b : Nat) : (a ||| b) + (a &&& b) = a + b ∧ (a ^^^ b) + 2 * (a &&& b) = a + b := by
  induction a using Nat.strongRecOn generalizing b with
  | ind a ih =>
    by_cases ha : a = 0
    · subst ha; simp
    · obtain ⟨h1, h2⟩ := ih (a / 2) (by omega) (b / 2)
      have o : ((a ||| b) % 2 = 1) ↔ (a % 2 = 1 ∨ b % 2 = 1) := by
        have := Nat.testBit_or a b 0
        simp only [Nat.testBit_zero] at this
        rw [Bool.eq_iff_iff] at this
        simpa only [decide_eq_true_eq, Bool.or_eq_true] using this
      have d : ((a &&& b) % 2 = 1) ↔ (a % 2 = 1 ∧ b % 2 = 1) := by
        have := Nat.testBit_and a b 0
        simp only [Nat.testBit_zero] at this
        rw [Bool.eq_iff_iff] at this
        simpa only [decide_eq_true_eq, Bool.and_eq_true] using this
      have x : ((a ^^^ b) % 2 = 1) ↔ ¬ (a % 2 = 1 ↔ b % 2 = 1) := by
        have := Nat.testBit_xor a b 0
        simp only [Nat.testBit_zero] at this
        rw [Bool.eq_iff_iff] at this
        by_cases p : a % 2 = 1 <;> by_cases q : b % 2 = 1 <;> simp [p, q] at this ⊢ <;> omega
      have e1 : (a ||| b) / 2 = a / 2 ||| b / 2 := Nat.or_div_two
      have e2 : (a &&& b) / 2 = a / 2 &&& b / 2 := Nat.and_div_two
      have e3 : (a ^^^ b) / 2 = a / 2 ^^^ b / 2 := Nat.xor_div_two
      rw [← e1, ← e2] at h1
      rw [← e3, ← e2] at h2
      omega
theorem or_nat (a b : Nat) : Builtin.bitOr (a : Int) (b : Int) = ((a ||| b : Nat) : Int) := by
  have := (nat_split a b).1
  rw [bitOr_and, and_nat]
  omega
theorem xor_nat (a b : Nat) : Builtin.bitXor (a : Int) (b : Int) = ((a ^^^ b : Nat) : Int) := by
  have := (nat_split a b).2
  rw [bitXor_and, and_nat]
  omega
theorem bit_int (t k : Nat) : (Builtin.bitAnd ((0 + (t : Int)) / 2 ^ k) 1 != 0) = Oc.bit t k := by
  have e : (0 + (t : Int)) / 2 ^ k = ((t / 2 ^ k : Nat) : Int) := by
    rw [Int.zero_add]
    simp
  rw [e, show (1 : Int) = ((1 : Nat) : Int) from rfl, and_nat, Nat.and_one_is_mod, Oc.bit, Bool.eq_iff_iff, bne_iff_ne, beq_iff_eq]
  omega
theorem pow_int (k : Nat) : (2 : Int) ^ k = ((2 ^ k : Nat) : Int) := by simp
theorem rngLo (n : Nat) : -(2 ^ 62 : Int) ≤ (n : Int) := by omega
theorem rngHi {n : Nat} (h : n ≤ 1000000) : (n : Int) < 2 ^ 62 := by omega
/-- a value's truth as a test -/
def tTru (K : PySem.W.Frag) (ta : TE) : TT := fun σ H Q => ta σ H (fun v J => ∃ yes, TruV K v J yes ∧ Q yes J)
theorem pt_tru {X : Cx} {a : Expr} {ta : TE} (K : PySem.W.Frag) (ha : PE X a ta) (hK : X.K = K := by rfl) (he : ∀ whole, isTrue a X.env whole = (do let v ← whole; standAt a.pos; holding [v] (truthy v)) := by intro _; rfl) : PT X a (tTru K ta) := hK ▸ pt_truth ha he
/-! ### the list that is summed up -/
def mL (i : Nat) (P : Nat → Bool) : List V := ((List.range i).filter P).map fun (t : Nat) => V.int ((2 ^ t : Nat) : Int)
theorem mL_succ (i : Nat) (P : Nat → Bool) : mL (i + 1) P = if P i = true then mL i P ++ [V.int ((2 ^ i : Nat) : Int)] else mL i P := by
  unfold mL
  rw [List.range_succ, List.filter_append, List.map_append]
  by_cases h : P i = true <;> simp [h]
theorem mL_len (i : Nat) (P : Nat → Bool) : (mL i P).length ≤ i := by
  unfold mL
  rw [List.length_map]
  have := List.length_filter_le P (List.range i)
  rw [List.length_range] at this
  exact this
theorem sum_cast : ∀ l : List Nat, (l.map fun (t : Nat) => (t : Int)).sum = ((l.sum : Nat) : Int)
  | [] => rfl
  | a :: l => by
    rw [List.map_cons, List.sum_cons, sum_cast l, List.sum_cons]
    omega
theorem mL_sum (N : Nat) (P : Nat → Bool) : ∃ ns : List Int, mL N P = ns.map V.int ∧ ns.sum = (msk N P : Int) := by
  refine ⟨(((List.range N).filter P).map fun t => 2 ^ t).map fun (t : Nat) => (t : Int), ?_, ?_⟩
  · unfold mL
    rw [List.map_map, List.map_map]
    rfl
  · rw [sum_cast, msk_sum]
/-! ### the object -/
structure PfTxt (K : PySem.W.Frag) (mg : Str → Option Value) (C : Addr) : Prop where
  cl : Cls K C
  nA : NoAttr K C "atoms"
  nT : NoAttr K C "total"
  nF : NoAttr K C "full"
  nD : NoAttr K C "demands"
def dF : Option Addr → List (Str × V)
  | none => []
  | some ld => [("demands", .ref ld)]
def pF (la : Addr) (n : Nat) (tl : Option Addr) : List (Str × V) := ("atoms", .ref la) :: ("total", .int ((2 ^ n : Nat) : Int)) :: ("full", .int ((2 ^ 2 ^ n - 1 : Nat) : Int)) :: dF tl
theorem lk_here {k : Str} {v : V} {r : List (Str × V)} : List.lookup k ((k, v) :: r) = some v := by
  have e : (k == k) = true := beq_self_eq_true k
  simp only [List.lookup, e]
theorem lk_past {k g : Str} {v : V} {r : List (Str × V)} (h : (k == g) = false) : List.lookup k ((g, v) :: r) = List.lookup k r := by
  simp only [List.lookup, h]
theorem pF_atoms {la : Addr} {n : Nat} {tl : Option Addr} : (pF la n tl).lookup ("atoms" : Str) = some (.ref la) := lk_here
theorem pF_total {la : Addr} {n : Nat} {tl : Option Addr} : (pF la n tl).lookup ("total" : Str) = some (.int ((2 ^ n : Nat) : Int)) := (lk_past (by decide +kernel)).trans lk_here
theorem pF_full {la : Addr} {n : Nat} {tl : Option Addr} : (pF la n tl).lookup ("full" : Str) = some (.int ((2 ^ 2 ^ n - 1 : Nat) : Int)) := (lk_past (by decide +kernel)).trans ((lk_past (by decide +kernel)).trans lk_here)
theorem pF_dem {la ld : Addr} {n : Nat} : (pF la n (some ld)).lookup ("demands" : Str) = some (.ref ld) := (lk_past (by decide +kernel)).trans ((lk_past (by decide +kernel)).trans ((lk_past (by decide +kernel)).trans lk_here))
theorem pF_no {la : Addr} {n : Nat} {tl : Option Addr} {m : Str} (h1 : (m == ("atoms" : Str)) = false) (h2 : (m == ("total" : Str)) = false) (h3 : (m == ("full" : Str)) = false) (h4 : (m == ("demands" : Str)) = false) : (pF la n tl).lookup m = none := by
  refine (lk_past h1).trans ((lk_past h2).trans ((lk_past h3).trans ?_))
  cases tl with
  | none => rfl
  | some ld => exact (lk_past h4).trans rfl
structure Good (L : List C) : Prop where
  closed : Closed L
  nodup : L.Nodup
  valid : ∀ x ∈ L, Valid x
  short : ∀ x ∈ L, (enc x).length ≤ 1000
  len : L.length ≤ 5
def ProfAt (C : Addr) (H : Hp) (p : Addr) (L : List Oc.C) (tl : Option Addr) : Prop :=
  ∃ (dx la : Addr) (as : List Addr), H p = some (.ins C dx (pF la L.length tl)) ∧ H la = some (.lst (as.map V.ref)) ∧ CAll H as L
theorem ProfAt.same {C : Addr} {H H' : Hp} {p : Addr} {L : List Oc.C} {tl : Option Addr} (e : Same H H') (h : ProfAt C H p L tl) : ProfAt C H' p L tl := by
  obtain ⟨dx, la, as, h1, h2, h3⟩ := h
  exact ⟨dx, la, as, e _ _ h1, e _ _ h2, h3.same e⟩
theorem Good.total {L : List C} (g : Good L) : 2 ^ L.length ≤ 32 := Nat.le_trans (Nat.pow_le_pow_right (by decide) g.len) (by decide)

abbrev sAe : Stmt := inClass (top 10) 1
def spAe (K : PySem.W.Frag) (C : Addr) : Sp := fun vs H Q _ => ∃ (p a : Addr) (L : List Oc.C) (tl : Option Addr) (x : Oc.C), vs = [.ref p, .ref a] ∧ ProfAt C H p L tl ∧ CAt H a x ∧ Good L ∧ x ∈ L ∧
  ∀ (H' : Hp), Same H H' → Q (.int (ext L x : Nat)) H'
theorem scAe : FnScope ["self", "atom", "bit", "profile"] ["self", "atom"] (defScope sAe) := ⟨rfl, rfl, rfl, by decide +kernel, rfl, by decide +kernel, by decide +kernel⟩
section
variable {P : Program} {w : World} {K : PySem.W.Frag} {mg : Str → Option Value} {base : Heap} {C : Addr}
theorem ok_ae {f : Addr} {fd : FuncData} (F : Fun K "atom_extent" "Profiles.atom_extent" sAe f fd) (T : PfTxt K mg C) (mSum : mg "sum" = none) (mRange : mg "range" = none) :
    FnOk P w K mg base CX0 1 f fd ["self", "atom"] (spAe K C) := by
  refine F.ok scAe (fun vs H Q E h => ?_) (fun cdv A outer s H vs Q E hr h => ?_)
  · obtain ⟨p, a, L, tl, x, rfl, _⟩ := h
    rfl
  · refine ⟨_, pss_cons (ps_set (i := 2) scAe.nd rfl (Or.inr rfl) (pe_bm PySem.F.plainAttrs_list PySem.F.slot_list_index PySem.F.type_list_index (mt_indexD (hu65 hr)) (pe_fld (pv 0) rfl) (pa_cons (pv 1) pa_nil)))
      (pss_one (ps_ret (pe_callB (cr_sum rfl) (by rfl) mSum (by decide +kernel) (pa_cons
        (pe_lc (own := [("profile", 3)]) (g := gName 3) (by rfl) scAe.nd (pi_range1 rfl mRange (pa_cons (pe_fld (pv 0) rfl) pa_nil))
          (blkOk_by (own := [("profile", 3)]) (N := ["self", "atom", "bit", "profile"]) (sc := defScope sAe) (by decide +kernel))
          (fun _ _ _ _ _ => pg_name (i := 3) scAe.nd rfl (Or.inl rfl))
          (fun _ _ _ _ _ => pts_one (pt_tru K (pe_op op_and (pe_op op_shrN (pv 3) (pv 2)) pe_int)))
          (fun _ _ _ _ _ => pe_op op_oneShl pe_int (pv 3)))
        pa_nil)))), ?_⟩
    obtain ⟨p, a, L, tl, x, rfl, ⟨dx, la, as, hp, hla, hA⟩, hx, g, hxL, q⟩ := h
    obtain ⟨j, hj, hjl, ej⟩ := idx_some hxL
    refine ⟨_, rfl, p, C, dx, _, _, rfl, hp, T.cl, T.nA, pF_atoms, tyList hla, _, rfl, ?_⟩
    refine ⟨la, _, nD (enc x), L.map fun c => nD (enc c), j, nD (enc x), rfl, rfl, .lst (SqL.of hla) hA.dp, hx.dp, nDs_shaped _, nD_shaped _, ?_, by rw [nD_eqv]; simp, ?_, ?_⟩
    · rw [List.getElem?_map, List.getElem?_eq_getElem hjl, ej]; rfl
    · intro m z hm hz
      rw [List.getElem?_map] at hz
      have hml : m < L.length := by omega
      rw [List.getElem?_eq_getElem hml] at hz
      have hz : nD (enc L[m]) = z := Option.some.inj hz
      rw [← hz, nD_eqv, decide_eq_false_iff_not, enc_eq_iff (g.valid _ (List.getElem_mem hml)) (g.valid x hxL)]
      intro e
      rw [← ej] at e
      have := (List.getElem_inj g.nodup).1 e
      omega
    have hN := g.total
    refine ⟨_, rfl, p, C, dx, _, _, rfl, hp, T.cl, T.nT, pF_total, _, rfl, rngLo _, rngHi (Nat.le_trans hN (by decide)), fun D hD => ?_⟩
    refine lc_range (lo := 0) (n := ((2 ^ L.length : Nat) : Int).toNat) (fun i H' => Same H H' ∧ H' D = some (.lst (mL i fun t => Oc.bit t j))) ⟨same_upd hD, upd_same⟩ ?_ ?_
    · rintro i H' hi ⟨sm, hl⟩
      rw [Int.toNat_natCast] at hi
      refine ⟨rfl, ?_⟩
      refine ⟨_, rfl, _, rfl, _, _, rfl, rfl, _, _, rfl, rfl, _, rfl, ?_⟩
      rw [bit_int]
      have ms := mL_succ i fun t => Oc.bit t j
      cases hb : Oc.bit i j with
      | false =>
        rw [hb, if_neg Bool.false_ne_true] at ms
        refine iteF ⟨sm, ?_⟩
        rw [ms]
        exact hl
      | true =>
        rw [hb, if_pos rfl] at ms
        refine iteT ⟨_, rfl, i, rfl, by rw [Int.zero_add], by omega, _, hl, ?_, ?_, ?_⟩
        · have := mL_len i fun t => Oc.bit t j
          exact small_lt (by omega)
        · exact samePut sm hD
        · rw [upd_same, ms, pow_int]
    · rintro H' ⟨sm, hl⟩
      rw [Int.toNat_natCast] at hl
      obtain ⟨ns, e1, e2⟩ := mL_sum (2 ^ L.length) fun t => Oc.bit t j
      refine ⟨D, ns, rfl, SqL.of (by rw [hl, e1]), ?_⟩
      rw [e2, ← ext_atom (g.closed.atomic x hxL) hj]
      exact q H' sm
end
end Mx
set_option Elab.async false
set_option maxRecDepth 100000
set_option maxHeartbeats 2000000
namespace Mx
open PySem PySem.Spec PyProof.Rows L2
open Oc (C Axiom)
/-- over a list from its back -/
theorem for_rev {K : PySem.W.Frag} {a : Addr} {xs : List V} {g : TG} {tb : TS} {D : Ends} {σ : L2.St} {H : Hp} (Pv : Nat → L2.St → Hp → Prop) (h0 : Pv 0 σ H) (hl : ∀ i σ H, i ≤ xs.length → Pv i σ H → SqL K H a xs)
    (hs : ∀ i x σ H, i < xs.length → xs[xs.length - 1 - i]? = some x → Pv i σ H → g x σ H fun σ2 H2 => tb { D with nx := Pv (i + 1), ct := Pv (i + 1), bk := D.nx } σ2 H2) (hd : ∀ σ H, Pv xs.length σ H → D.nx σ H) :
    ∃ W : Nat → Nat → L2.St → Hp → Prop, (∃ left, W 0 left σ H) ∧ ∀ i m σ H, W i m σ H →
      ((Itv K a xs.length).stop i H ∧ D.nx σ H) ∨ ((Itv K a xs.length).go i H ∧ ∃ N : L2.St → Hp → Prop, (∀ σ' H', N σ' H' → ∃ m', m' < m ∧ W (i + 1) m' σ' H') ∧ ∀ x H', (Itv K a xs.length).yld i H x H' → g x σ H' fun σ2 H2 => tb { D with nx := N, ct := N, bk := D.nx } σ2 H2) := by
  refine ⟨fun j left τ J => left + j = xs.length ∧ Pv j τ J, ⟨xs.length, Nat.add_zero _, h0⟩, ?_⟩
  rintro i m σ H ⟨sum, p⟩
  have hi : i ≤ xs.length := by omega
  obtain rfl : m = xs.length - i := by omega
  have q := hl i σ H hi p
  by_cases hlt : i < xs.length
  · have hx : xs[xs.length - 1 - i]? = some (xs[xs.length - 1 - i]'(by omega)) := List.getElem?_eq_getElem (by omega)
    refine .inr ⟨⟨hlt, xs, _, q, hx⟩, Pv (i + 1), fun σ' H' p' => ⟨xs.length - (i + 1), by omega, by omega, p'⟩, fun x H' y => ?_⟩
    obtain ⟨e, y⟩ := y
    subst e
    exact hs i x σ _ hlt (y xs q) p
  · obtain rfl : i = xs.length := by omega
    exact .inl (And.intro (Nat.le_refl _) (hd σ H p))
/-- over enumerate of a list: a new tuple each -/
theorem for_enum {K : PySem.W.Frag} {a : Addr} {xs : List V} {g : TG} {tb : TS} {D : Ends} {σ : L2.St} {H : Hp} (Pv : Nat → L2.St → Hp → Prop) (h0 : Pv 0 σ H) (hl : ∀ i σ H, i ≤ xs.length → Pv i σ H → SqL K H a xs)
    (hs : ∀ i x σ H T, xs[i]? = some x → Pv i σ H → H T = none → g (.ref T) σ (upd H T (.tup [.int (i : Nat), x])) fun σ2 H2 => tb { D with nx := Pv (i + 1), ct := Pv (i + 1), bk := D.nx } σ2 H2) (hd : ∀ σ H, Pv xs.length σ H → D.nx σ H) :
    ∃ W : Nat → Nat → L2.St → Hp → Prop, (∃ left, W 0 left σ H) ∧ ∀ i m σ H, W i m σ H →
      ((Ite K a).stop i H ∧ D.nx σ H) ∨ ((Ite K a).go i H ∧ ∃ N : L2.St → Hp → Prop, (∀ σ' H', N σ' H' → ∃ m', m' < m ∧ W (i + 1) m' σ' H') ∧ ∀ x H', (Ite K a).yld i H x H' → g x σ H' fun σ2 H2 => tb { D with nx := N, ct := N, bk := D.nx } σ2 H2) := by
  refine ⟨fun j left τ J => left + j = xs.length ∧ Pv j τ J, ⟨xs.length, Nat.add_zero _, h0⟩, ?_⟩
  rintro i m σ H ⟨sum, p⟩
  have hi : i ≤ xs.length := by omega
  obtain rfl : m = xs.length - i := by omega
  have q := hl i σ H hi p
  by_cases hlt : i < xs.length
  · refine .inr ⟨⟨xs, xs[i], q, by simp [hlt]⟩, Pv (i + 1), fun σ' H' p' => ⟨xs.length - (i + 1), by omega, by omega, p'⟩, fun v H' y => ?_⟩
    obtain ⟨T, x, rfl, hT, rfl, y⟩ := y
    exact hs i x σ H T (y xs q) p hT
  · obtain rfl : i = xs.length := by omega
    exact .inl (And.intro ⟨xs, q, Nat.le_refl _⟩ (hd σ H p))
/-- the stack -/
def stk (L : List C) (es : List C) : List V := (es.map fun e => V.int ((ext L e : Nat) : Int)).reverse
theorem stk_cons (L : List C) (d : C) (es : List C) : stk L (d :: es) = stk L es ++ [V.int ((ext L d : Nat) : Int)] := by
  unfold stk
  rw [List.map_cons, List.reverse_cons]
theorem stk_len (L : List C) (es : List C) : (stk L es).length = es.length := by
  unfold stk
  rw [List.length_reverse, List.length_map]
theorem last_app {xs : List V} {x : V} : (xs ++ [x])[(xs ++ [x]).length - 1]? = some x := by
  rw [List.length_append, List.length_singleton, Nat.add_sub_cancel, List.getElem?_append_right (Nat.le_refl _), Nat.sub_self]
  rfl
theorem pop_app {xs : List V} {x : V} : (xs ++ [x]).dropLast = xs := List.dropLast_concat
theorem ifT {c : Bool} {A B : Prop} (hc : c = true) (h : A) : if c = true then A else B := by rw [if_pos hc]; exact h
theorem ifF {c : Bool} {A B : Prop} (hc : c = false) (h : B) : if c = true then A else B := by rw [hc, if_neg Bool.false_ne_true]; exact h
theorem vT {a : Int} : decide (V.int a = V.int a) = true := decide_eq_true rfl
theorem vF {a b : Int} (h : a ≠ b) : decide (V.int a = V.int b) = false := decide_eq_false fun e => h (V.int.inj e)
theorem vNF {a : Int} : (!decide (V.int a = V.int a)) = false := by rw [vT]; rfl
theorem vNT {a b : Int} (h : a ≠ b) : (!decide (V.int a = V.int b)) = true := by rw [vF h]; rfl
theorem int_eq_f {a b : Nat} (h : a ≠ b) : ¬ decide (V.int (a : Int) = V.int (b : Int)) = true := by
  intro e
  have e := V.int.inj (of_decide_eq_true e)
  omega
theorem int_eq_t (a : Nat) : decide (V.int (a : Int) = V.int (a : Int)) = true := decide_eq_true rfl

abbrev sEx : Stmt := inClass (top 10) 2
def spEx (K : PySem.W.Frag) (C : Addr) : Sp := fun vs H Q _ => ∃ (p a : Addr) (L : List Oc.C) (tl : Option Addr) (c : Oc.C), vs = [.ref p, .ref a] ∧ ProfAt C H p L tl ∧ CAt H a c ∧ Good L ∧ Valid c ∧ (enc c).length ≤ 1000 ∧ (∀ y ∈ c.atoms, y ∈ L) ∧
  ∀ (H' : Hp), Same H H' → Q (.int (ext L c : Nat)) H'
theorem scEx : FnScope ["self", "concept", "extents", "start", "head"] ["self", "concept"] (defScope sEx) := ⟨rfl, rfl, rfl, by decide +kernel, rfl, by decide +kernel, by decide +kernel⟩
section
variable {P : Program} {w : World} {K : PySem.W.Frag} {mg : Str → Option Value} {base : Heap} {C : Addr}
theorem ok_ex {f : Addr} {fd : FuncData} (F : Fun K "extent" "Profiles.extent" sEx f fd) (T : PfTxt K mg C) (mRev : mg "reversed" = none) (cCs : Called P w K mg base "concept_starts" 2 ["concept"] (spCs K))
    (cCe : Called P w K mg base "concept_end" 2 ["numbers", "start"] (spCe K)) (cAe : MCalled P w K mg base C "atom_extent" 1 ["self", "atom"] (spAe K C)) :
    FnOk P w K mg base CX0 3 f fd ["self", "concept"] (spEx K C) := by
  refine F.ok scEx (fun vs H Q E h => ?_) (fun cdv A outer s H vs Q E hr h => ?_)
  · obtain ⟨p, a, L, tl, x, rfl, _⟩ := h
    rfl
  · refine ⟨_, pss_cons (ps_set (i := 2) scEx.nd rfl (Or.inl rfl) (pe_lst pa_nil))
      (pss_cons (ps_for PassesOwn.never rfl (pi_reversed (by rfl) mRev (pa_cons (pe_cl cCs hr (pa_cons (pv 1) pa_nil)) pa_nil)) (pg_name (i := 3) scEx.nd rfl (Or.inl rfl))
        (pss_cons (ps_set (i := 4) scEx.nd rfl (Or.inl rfl) (pe_ix ix_seq (pv 1) (pv 3) (fun _ _ => rfl)))
        (pss_one (ps_if (pt_cmpR op_eq (pv 4) pe_int (nomark _))
          (pss_one (ps_expr (pe_bm PySem.F.plainAttrs_list PySem.F.slot_list_append PySem.F.type_list_append mt_append (pv 2) (pa_cons (pe_fld (pv 0) rfl) pa_nil))))
          (pss_one (ps_if (pt_cmpR op_eq (pv 4) pe_int (nomark _))
            (pss_one (ps_expr (pe_bm PySem.F.plainAttrs_list PySem.F.slot_list_append PySem.F.type_list_append mt_append (pv 2) (pa_cons pe_int pa_nil))))
            (pss_one (ps_if (pt_cmpR op_eq (pv 4) pe_int (nomark _))
              (pss_one (ps_expr (pe_bm PySem.F.plainAttrs_list PySem.F.slot_list_append PySem.F.type_list_append mt_append (pv 2) (pa_cons
                (pe_op op_and (pe_bm0 PySem.F.plainAttrs_list PySem.F.slot_list_pop PySem.F.type_list_pop mt_pop (pv 2)) (pe_bm0 PySem.F.plainAttrs_list PySem.F.slot_list_pop PySem.F.type_list_pop mt_pop (pv 2))) pa_nil))))
              (pss_one (ps_if (pt_cmpR op_eq (pv 4) pe_int (nomark _))
                (pss_one (ps_expr (pe_bm PySem.F.plainAttrs_list PySem.F.slot_list_append PySem.F.type_list_append mt_append (pv 2) (pa_cons
                  (pe_op op_or (pe_bm0 PySem.F.plainAttrs_list PySem.F.slot_list_pop PySem.F.type_list_pop mt_pop (pv 2)) (pe_bm0 PySem.F.plainAttrs_list PySem.F.slot_list_pop PySem.F.type_list_pop mt_pop (pv 2))) pa_nil))))
                (pss_one (ps_if (pt_cmpR op_eq (pv 4) pe_int (nomark _))
                  (pss_one (ps_expr (pe_bm PySem.F.plainAttrs_list PySem.F.slot_list_append PySem.F.type_list_append mt_append (pv 2) (pa_cons
                    (pe_op op_xor (pe_fld (pv 0) rfl) (pe_bm0 PySem.F.plainAttrs_list PySem.F.slot_list_pop PySem.F.type_list_pop mt_pop (pv 2))) pa_nil))))
                  (pss_cons (ps_if (pt_cmpR op_ne (pv 4) pe_int (nomark _)) (pss_one (ps_expr (pe_bm0 PySem.F.plainAttrs_list PySem.F.slot_list_pop PySem.F.type_list_pop mt_pop (pv 2)))) pss_nil)
                  (pss_one (ps_expr (pe_bm PySem.F.plainAttrs_list PySem.F.slot_list_append PySem.F.type_list_append mt_append (pv 2) (pa_cons
                    (pe_cm (pv 0) T.cl cAe (hr.mono (by decide)) (pa_cons (pe_slice sl_tupA (pv 1) (po_some (pv 3)) (po_some (pe_cl cCe hr (pa_cons (pv 1) (pa_cons (pv 3) pa_nil))))) pa_nil)) pa_nil)))))))))))))))))
      (pss_one (ps_ret (pe_ix ix_list (pv 2) pe_int (fun _ _ => rfl))))), ?_⟩
    obtain ⟨p, a, L, tl, c, rfl, hP, hc, g, vc, lc, hat, q⟩ := h
    refine ⟨by show 0 ≤ sizeLine; decide, fun r hr0 => ?_⟩
    have s0 : Same H (upd H r (.lst [])) := same_upd hr0
    refine ⟨_, rfl, a, c, rfl, hc.same s0, vc, lc, fun H1 rs s1 hrs hls => ?_⟩
    have hne : r ≠ rs := by intro z; subst z; rw [upd_same] at hrs; cases hrs
    have hmlen : (Nv ((marks c 0).map (·.1))).length = (marks c 0).length := by rw [Nv_len, List.length_map]
    refine ⟨rs, _, rfl, SqL.of hls, for_rev (K := K) (a := rs) (xs := Nv ((marks c 0).map (·.1))) (fun i σ H' => Same H H' ∧ ∃ (v3 v4 : Option V), σ = [some (.ref p), some (.ref a), some (.ref r), v3, v4] ∧
      H' rs = some (.lst (Nv ((marks c 0).map (·.1)))) ∧ H' r = some (.lst (stk L (fr c ((marks c 0).length - i)))))
      ⟨s0.trans s1, none, none, rfl, hls, ?_⟩ (fun i σ H' _ ⟨_, _, _, _, h, _⟩ => SqL.of h) ?_ ?_⟩
    · rw [Nat.sub_zero, fr_end]
      exact s1 _ _ upd_same
    · rintro i x σ H' hi hx ⟨sm, v3, v4, rfl, hls', hl⟩
      rw [hmlen] at hx hi
      obtain ⟨⟨o, d⟩, hk, rfl⟩ : ∃ m : Nat × Oc.C, (marks c 0)[(marks c 0).length - 1 - i]? = some m ∧ x = V.int (m.1 : Int) := by
        rw [Nv, List.getElem?_map, List.getElem?_map] at hx
        cases e : (marks c 0)[(marks c 0).length - 1 - i]? with
        | none => rw [e] at hx; cases hx
        | some z => rw [e] at hx; exact ⟨z, rfl, (Option.some.inj hx).symm⟩
      have hmem := List.mem_of_getElem? hk
      obtain ⟨es, f1, f2⟩ := fr_at hk
      have fl := fr_short c ((marks c 0).length - 1 - i)
      rw [f1, List.length_cons] at fl
      have e1 : (marks c 0).length - i = (marks c 0).length - 1 - i + 1 := by omega
      have e2 : (marks c 0).length - (i + 1) = (marks c 0).length - 1 - i := by omega
      rw [e1, f2] at hl
      rw [e2, f1]
      obtain ⟨vd, pre, post, he, ho⟩ := marks_at c 0 _ hmem vc
      have ho : o = pre.length := (show o = 0 + pre.length from ho).trans (Nat.zero_add _)
      have vd : Valid d := vd
      have he : enc c = pre ++ (enc d ++ post) := he
      subst ho
      have hc' := hc.same sm
      obtain ⟨h, rest, hd, hcase⟩ := enc_head d
      have eh : (enc c)[pre.length]? = some h := by
        rw [he, List.getElem?_append_right (Nat.le_refl _), Nat.sub_self, hd]
        rfl
      refine ⟨_, rfl, _, rfl, rIx_of (.inr (SqT.of hc')) eh ?_⟩
      obtain ⟨dx, la, as, hp, hla, hA⟩ := hP.same sm
      have hul : ∀ n : Nat, n ≤ 100000 → n < sizeLine := fun n h => small_lt h
      have fin : ∀ (H3 : Hp), Same H H3 → H3 rs = some (.lst (Nv ((marks c 0).map (·.1)))) → H3 r = some (.lst (stk L es ++ [V.int ((ext L d : Nat) : Int)])) →
          (Same H H3 ∧ ∃ (v3 v4 : Option V), ([some (.ref p), some (.ref a), some (.ref r), some (.int (pre.length : Int)), some (.int (h : Int))] : L2.St) = [some (.ref p), some (.ref a), some (.ref r), v3, v4] ∧
            H3 rs = some (.lst (Nv ((marks c 0).map (·.1)))) ∧ H3 r = some (.lst (stk L (d :: es)))) := fun H3 s3 h1 h2 => ⟨s3, _, _, rfl, h1, by rw [stk_cons]; exact h2⟩
      have hple : pre.length ≤ (enc c).length := by
        have := congrArg List.length he
        rw [List.length_append] at this
        omega
      have hce : cend (enc c) pre.length = pre.length + (enc d).length := by
        have := cend_enc (pre := pre) (post := post) vd
        rw [← he] at this
        exact this
      have rsr : ∀ (H3 : Hp) (o : HO), (upd H3 r o) rs = H3 rs := fun H3 o => upd_ne (Ne.symm hne)
      refine ⟨_, rfl, rfl, _, rfl, ?_⟩
      rcases hcase with ⟨rfl, rfl⟩ | ⟨rfl, rfl⟩ | ⟨rfl, c1, c2, rfl⟩ | ⟨rfl, c1, c2, rfl⟩ | ⟨rfl, c1, rfl⟩ | ⟨rfl, hia, hargs⟩ | ⟨h67, hia, c1, hargs⟩
      · -- all
        refine ifT vT ⟨_, rfl, tyList hl, _, rfl, p, C, dx, _, _, rfl, hp, T.cl, T.nF, pF_full, r, _, _, rfl, rfl, hl, ?_, ?_⟩
        · rw [stk_len]
          exact hul _ (by simp [args]; omega)
        · refine fin _ (samePut sm hr0) ((rsr _ _).trans hls') ?_
          rw [upd_same, ext_top]
          rfl
      · -- none
        refine ifF (vF (by decide)) ⟨_, rfl, rfl, _, rfl, ?_⟩
        refine ifT vT ⟨_, rfl, tyList hl, r, _, _, rfl, rfl, hl, ?_, ?_⟩
        · rw [stk_len]
          exact hul _ (by simp [args]; omega)
        · refine fin _ (samePut sm hr0) ((rsr _ _).trans hls') ?_
          rw [upd_same, ext_bot]
          rfl
      · -- both
        have hl : H' r = some (.lst (stk L es ++ [V.int ((ext L c2 : Nat) : Int)] ++ [V.int ((ext L c1 : Nat) : Int)])) := by rw [hl, args, List.cons_append, List.cons_append, List.nil_append, stk_cons, stk_cons]
        refine ifF (vF (by decide)) ⟨_, rfl, rfl, _, rfl, ?_⟩
        refine ifF (vF (by decide)) ⟨_, rfl, rfl, _, rfl, ?_⟩
        refine ifT vT ⟨_, rfl, tyList hl, ?_⟩
        refine ⟨_, rfl, tyList hl, r, _, _, rfl, rfl, hl, last_app, ?_⟩
        rw [pop_app]
        refine ⟨_, rfl, tyList upd_same, r, _, _, rfl, rfl, upd_same, last_app, ?_⟩
        rw [pop_app, upd_upd]
        refine ⟨_, _, rfl, rfl, r, _, _, rfl, rfl, upd_same, ?_, ?_⟩
        · rw [stk_len]
          exact hul _ (by omega)
        · rw [upd_upd]
          refine fin _ (samePut sm hr0) ((rsr _ _).trans hls') ?_
          rw [upd_same, ← ext_and, ← and_nat]
      · -- at least one
        have hl : H' r = some (.lst (stk L es ++ [V.int ((ext L c2 : Nat) : Int)] ++ [V.int ((ext L c1 : Nat) : Int)])) := by rw [hl, args, List.cons_append, List.cons_append, List.nil_append, stk_cons, stk_cons]
        refine ifF (vF (by decide)) ⟨_, rfl, rfl, _, rfl, ?_⟩
        refine ifF (vF (by decide)) ⟨_, rfl, rfl, _, rfl, ?_⟩
        refine ifF (vF (by decide)) ⟨_, rfl, rfl, _, rfl, ?_⟩
        refine ifT vT ⟨_, rfl, tyList hl, ?_⟩
        refine ⟨_, rfl, tyList hl, r, _, _, rfl, rfl, hl, last_app, ?_⟩
        rw [pop_app]
        refine ⟨_, rfl, tyList upd_same, r, _, _, rfl, rfl, upd_same, last_app, ?_⟩
        rw [pop_app, upd_upd]
        refine ⟨_, _, rfl, rfl, r, _, _, rfl, rfl, upd_same, ?_, ?_⟩
        · rw [stk_len]
          exact hul _ (by omega)
        · rw [upd_upd]
          refine fin _ (samePut sm hr0) ((rsr _ _).trans hls') ?_
          rw [upd_same, ← ext_or, ← or_nat]
      · -- not
        have hl : H' r = some (.lst (stk L es ++ [V.int ((ext L c1 : Nat) : Int)])) := by rw [hl, args, List.cons_append, List.nil_append, stk_cons]
        refine ifF (vF (by decide)) ⟨_, rfl, rfl, _, rfl, ?_⟩
        refine ifF (vF (by decide)) ⟨_, rfl, rfl, _, rfl, ?_⟩
        refine ifF (vF (by decide)) ⟨_, rfl, rfl, _, rfl, ?_⟩
        refine ifF (vF (by decide)) ⟨_, rfl, rfl, _, rfl, ?_⟩
        refine ifT vT ⟨_, rfl, tyList hl, ?_⟩
        refine ⟨_, rfl, p, C, dx, _, _, rfl, hp, T.cl, T.nF, pF_full, ?_⟩
        refine ⟨_, rfl, tyList hl, r, _, _, rfl, rfl, hl, last_app, ?_⟩
        rw [pop_app]
        refine ⟨_, _, rfl, rfl, r, _, _, rfl, rfl, upd_same, ?_, ?_⟩
        · rw [stk_len]
          exact hul _ (by omega)
        · rw [upd_upd]
          refine fin _ (samePut sm hr0) ((rsr _ _).trans hls') ?_
          rw [upd_same, ← ext_not, ← xor_nat]
      · -- a name
        have hl : H' r = some (.lst (stk L es)) := by rw [hl, hargs]; rfl
        refine ifF (vF (by decide)) ⟨_, rfl, rfl, _, rfl, ?_⟩
        refine ifF (vF (by decide)) ⟨_, rfl, rfl, _, rfl, ?_⟩
        refine ifF (vF (by decide)) ⟨_, rfl, rfl, _, rfl, ?_⟩
        refine ifF (vF (by decide)) ⟨_, rfl, rfl, _, rfl, ?_⟩
        refine ifF (vF (by decide)) ⟨_, rfl, rfl, _, rfl, ?_⟩
        refine ifF vNF ⟨_, rfl, tyList hl, _, rfl, p, dx, _, rfl, hp, pF_no (by decide +kernel) (by decide +kernel) (by decide +kernel) (by decide +kernel), ?_⟩
        refine ⟨_, rfl, _, rfl, _, rfl, _, rfl, _, rfl, ?_⟩
        refine ⟨a, enc c, pre.length, rfl, .inr (SqT.of hc'), hple, _, rfl, ?_⟩
        rw [hce]
        refine sl_enc hc' he fun H3 pp s3 hpp => ?_
        refine ⟨p, pp, L, tl, d, rfl, hP.same (sm.trans s3), hpp, g, hat d (mark_atom hmem hia), fun H4 s4 => ?_⟩
        have s5 := s3.trans s4
        refine ⟨r, _, _, rfl, rfl, s5 _ _ hl, ?_, ?_⟩
        · rw [stk_len]
          exact hul _ (by omega)
        · refine fin _ (samePut (sm.trans s5) hr0) ((rsr _ _).trans (s5 _ _ hls')) ?_
          rw [upd_same]
      · -- a role
        have hl : H' r = some (.lst (stk L es ++ [V.int ((ext L c1 : Nat) : Int)])) := by rw [hl, hargs, List.cons_append, List.nil_append, stk_cons]
        have hh : (h : Int) ≠ 0 ∧ (h : Int) ≠ 1 ∧ (h : Int) ≠ 3 ∧ (h : Int) ≠ 4 ∧ (h : Int) ≠ 5 ∧ (h : Int) ≠ 2 := by omega
        refine ifF (vF hh.1) ⟨_, rfl, rfl, _, rfl, ?_⟩
        refine ifF (vF hh.2.1) ⟨_, rfl, rfl, _, rfl, ?_⟩
        refine ifF (vF hh.2.2.1) ⟨_, rfl, rfl, _, rfl, ?_⟩
        refine ifF (vF hh.2.2.2.1) ⟨_, rfl, rfl, _, rfl, ?_⟩
        refine ifF (vF hh.2.2.2.2.1) ⟨_, rfl, rfl, _, rfl, ?_⟩
        refine ifT (vNT hh.2.2.2.2.2) ⟨_, rfl, tyList hl, r, _, _, rfl, rfl, hl, last_app, ?_⟩
        rw [pop_app]
        have hpr : p ≠ r := ne_of hp hl (by intro z; cases z)
        refine ⟨_, rfl, tyList upd_same, _, rfl, p, dx, _, rfl, (upd_ne hpr).trans hp, pF_no (by decide +kernel) (by decide +kernel) (by decide +kernel) (by decide +kernel), ?_⟩
        refine ⟨_, rfl, _, rfl, _, rfl, _, rfl, _, rfl, ?_⟩
        have sm2 := samePut (o := HO.lst (stk L es)) sm hr0
        have hc2 := hc.same sm2
        refine ⟨a, enc c, pre.length, rfl, .inr (SqT.of hc2), hple, _, rfl, ?_⟩
        rw [hce]
        refine sl_enc hc2 he fun H3 pp s3 hpp => ?_
        refine ⟨p, pp, L, tl, d, rfl, hP.same (sm2.trans s3), hpp, g, hat d (mark_atom hmem hia), fun H4 s4 => ?_⟩
        have s5 := s3.trans s4
        refine ⟨r, _, _, rfl, rfl, s5 _ _ upd_same, ?_, ?_⟩
        · rw [stk_len]
          exact hul _ (by omega)
        · refine fin _ (samePut (sm2.trans s5) hr0) ((rsr _ _).trans (s5 _ _ ((rsr _ _).trans hls'))) ?_
          rw [upd_same]
    · rintro σ H' ⟨sm, v3, v4, rfl, hls', hl⟩
      rw [hmlen, Nat.sub_self] at hl
      refine ⟨_, rfl, r, _, _, _, rfl, rfl, SqL.of hl, (atI_nat (j := 0) rfl), q H' sm⟩
end
end Mx
set_option Elab.async false
set_option maxRecDepth 100000
set_option maxHeartbeats 2000000
namespace Mx
open PySem PySem.Spec PyProof.Rows L2
open Oc (C Axiom)
/-- objects of one kind at addresses -/
inductive OAll {β : Type} (f : β → HO) (H : Hp) : List Addr → List β → Prop where
  | nil : OAll f H [] []
  | cons {a : Addr} {b : β} {as : List Addr} {bs : List β} : H a = some (f b) → OAll f H as bs → OAll f H (a :: as) (b :: bs)
section
variable {β : Type} {f : β → HO}
theorem OAll.same {H H' : Hp} {as : List Addr} {bs : List β} (e : Same H H') (h : OAll f H as bs) : OAll f H' as bs := by
  induction h with
  | nil => exact .nil
  | cons h _ ih => exact .cons (e _ _ h) ih
theorem OAll.put {H : Hp} {as : List Addr} {bs : List β} {p : Addr} {o u : HO} (h : OAll f H as bs) (hp : H p = some u) (hu : ∀ b, f b ≠ u) : OAll f (upd H p o) as bs := by
  induction h with
  | nil => exact .nil
  | cons h _ ih =>
    refine .cons ?_ ih
    rw [upd_ne (ne_of h hp (hu _))]
    exact h
theorem OAll.app {H : Hp} {as cs : List Addr} {bs ds : List β} (h : OAll f H as bs) (g : OAll f H cs ds) : OAll f H (as ++ cs) (bs ++ ds) := by
  induction h with
  | nil => exact g
  | cons h _ ih => exact .cons h ih
theorem OAll.len {H : Hp} {as : List Addr} {bs : List β} (h : OAll f H as bs) : as.length = bs.length := by
  induction h with
  | nil => rfl
  | cons _ _ ih => rw [List.length_cons, List.length_cons, ih]
theorem OAll.get {H : Hp} {as : List Addr} {bs : List β} (h : OAll f H as bs) : ∀ {i : Nat} {a : Addr}, as[i]? = some a → ∃ b, bs[i]? = some b ∧ H a = some (f b) := by
  induction h with
  | nil => intro i a e; simp at e
  | cons h _ ih =>
    intro i a e
    cases i with
    | zero =>
      simp only [List.getElem?_cons_zero, Option.some.injEq] at e
      subst e
      exact ⟨_, rfl, h⟩
    | succ i =>
      simp only [List.getElem?_cons_succ] at e
      exact ih e
theorem OAll.geta {H : Hp} {as : List Addr} {bs : List β} (h : OAll f H as bs) : ∀ {i : Nat} {b : β}, bs[i]? = some b → ∃ a, as[i]? = some a ∧ H a = some (f b) := by
  induction h with
  | nil => intro i a e; simp at e
  | cons h _ ih =>
    intro i a e
    cases i with
    | zero =>
      simp only [List.getElem?_cons_zero, Option.some.injEq] at e
      subst e
      exact ⟨_, rfl, h⟩
    | succ i =>
      simp only [List.getElem?_cons_succ] at e
      exact ih e
end
theorem ref_at {as : List Addr} {i : Nat} {x : V} (hx : (as.map V.ref)[i]? = some x) : ∃ a, as[i]? = some a ∧ x = V.ref a := by
  rw [List.getElem?_map] at hx
  cases e : as[i]? with
  | none => rw [e] at hx; cases hx
  | some z => rw [e] at hx; exact ⟨z, rfl, (Option.some.inj hx).symm⟩
def rO (r : Rel) : HO := .tup [.int (r.bit : Int), .bl r.pos, .int (r.role : Int), .int (r.ext : Int)]
def wO (w : Nat × Nat) : HO := .tup [.int (w.1 : Int), .int (w.2 : Int)]
theorem tup_ne {xs : List V} {f : Rel → HO} (h : ∀ r, ∃ l, f r = .tup l) : ∀ r, f r ≠ .lst xs := fun r e => by
  obtain ⟨l, e2⟩ := h r
  rw [e2] at e
  cases e
/-- what stands behind a role in an atom -/
theorem sl_tail {K : PySem.W.Frag} {σ : L2.St} {H : Hp} {a : Addr} {x c : C} {h r : Nat} {Q : VK} (hx : CAt H a x) (e : enc x = h :: r :: enc c)
    (q : ∀ p : Addr, H p = none → Q (.ref p) (upd H p (.tup (Nv (enc c))))) : tNoPart σ H fun u H3 => rSlA K (.ref a) (some 2) u H3 Q := by
  show rSlA K (.ref a) (some 2) none H Q
  have hl := congrArg List.length e
  simp only [List.length_cons] at hl
  have hs : HT.sIx (Nv (enc x)).length 0 (some 2) = 2 := by
    rw [show (2 : Int) = ((2 : Nat) : Int) from rfl, HT.sIx_nat, Nv_len]
    omega
  have ecut : cutV (Nv (enc x)) (some 2) none = Nv (enc c) := by
    unfold cutV
    rw [hs, HT.sIx_none, Nv_len, e]
    simp only [Nv, List.map_cons, List.drop_succ_cons, List.drop_zero, List.length_cons]
    exact List.take_of_length_le (by rw [List.length_map]; omega)
  refine ⟨a, Nv (enc x), rfl, SqT.of hx, fun hw => ?_, fun _ p hp => ?_⟩
  · rw [hs] at hw
    omega
  · rw [ecut]
    exact q p hp
abbrev sRa : Stmt := inClass (top 10) 3
def spRa (K : PySem.W.Frag) (C : Addr) : Sp := fun vs H Q _ => ∃ (p : Addr) (L : List Oc.C) (tl : Option Addr), vs = [.ref p] ∧ ProfAt C H p L tl ∧ Good L ∧
  ∀ (H' : Hp) (r : Addr) (as : List Addr), Same H H' → H r = none → H' r = some (.lst (as.map V.ref)) → OAll rO H' as (rels L) → Q (.ref r) H'
theorem scRa : FnScope ["self", "relations", "bit", "atom"] ["self"] (defScope sRa) := ⟨rfl, rfl, rfl, by decide +kernel, rfl, by decide +kernel, by decide +kernel⟩
section
variable {P : Program} {w : World} {K : PySem.W.Frag} {mg : Str → Option Value} {base : Heap} {C : Addr}
theorem ok_ra {f : Addr} {fd : FuncData} (F : Fun K "relation_atoms" "Profiles.relation_atoms" sRa f fd) (T : PfTxt K mg C) (mEn : mg "enumerate" = none)
    (cEx : MCalled P w K mg base C "extent" 3 ["self", "concept"] (spEx K C)) : FnOk P w K mg base CX0 4 f fd ["self"] (spRa K C) := by
  refine F.ok scRa (fun vs H Q E h => ?_) (fun cdv A outer s H vs Q E hr h => ?_)
  · obtain ⟨p, L, tl, rfl, _⟩ := h
    rfl
  · refine ⟨_, pss_cons (ps_set (i := 1) scRa.nd rfl (Or.inl rfl) (pe_lst pa_nil))
      (pss_cons (ps_for PassesOwn.never rfl (pi_enum (by rfl) mEn (pa_cons (pe_fld (pv 0) rfl) pa_nil)) (pg_tup rfl (pgs_cons (pg_name (i := 2) scRa.nd rfl (Or.inl rfl)) (pgs_cons (pg_name (i := 3) scRa.nd rfl (Or.inl rfl)) pgs_nil)))
        (pss_one (ps_if (pt_cmpR op_eq (pe_ix ix_seq (pv 3) pe_int (fun _ _ => rfl)) pe_int (nomark _))
          (pss_one (ps_expr (pe_bm PySem.F.plainAttrs_list PySem.F.slot_list_append PySem.F.type_list_append mt_append (pv 1) (pa_cons
            (pe_tup (pa_cons (pv 2) (pa_cons pe_bl (pa_cons (pe_ix ix_seq (pv 3) pe_int (fun _ _ => rfl)) (pa_cons (pe_cm (pv 0) T.cl cEx hr (pa_cons (pe_slice sl_tupA (pv 3) (po_some pe_int) po_none) pa_nil)) pa_nil))))) pa_nil))))
          (pss_one (ps_if (pt_cmpR op_eq (pe_ix ix_seq (pv 3) pe_int (fun _ _ => rfl)) pe_int (nomark _))
            (pss_one (ps_expr (pe_bm PySem.F.plainAttrs_list PySem.F.slot_list_append PySem.F.type_list_append mt_append (pv 1) (pa_cons
              (pe_tup (pa_cons (pv 2) (pa_cons pe_bl (pa_cons (pe_ix ix_seq (pv 3) pe_int (fun _ _ => rfl)) (pa_cons (pe_op op_xor (pe_fld (pv 0) rfl) (pe_cm (pv 0) T.cl cEx hr (pa_cons (pe_slice sl_tupA (pv 3) (po_some pe_int) po_none) pa_nil))) pa_nil))))) pa_nil))))
            pss_nil)))))
      (pss_one (ps_ret (pv 1)))), ?_⟩
    obtain ⟨p, L, tl, rfl, hP, g, q⟩ := h
    refine ⟨by show 0 ≤ sizeLine; decide, fun r hr0 => ?_⟩
    have s0 : Same H (upd H r (.lst [])) := same_upd hr0
    obtain ⟨dx, la, as, hp, hla, hA⟩ := hP
    refine ⟨_, rfl, p, C, dx, _, _, rfl, s0 _ _ hp, T.cl, T.nA, pF_atoms, la, _, rfl, SqL.of (s0 _ _ hla), ?_⟩
    refine for_enum (K := K) (a := la) (xs := as.map V.ref) (fun i σ H' => Same H H' ∧ ∃ (v2 v3 : Option V) (bs : List Addr), σ = [some (.ref p), some (.ref r), v2, v3] ∧
      H' r = some (.lst (bs.map V.ref)) ∧ OAll rO H' bs (relsFrom L 0 (L.take i))) ⟨s0, none, none, [], rfl, upd_same, .nil⟩ (fun i σ H' _ ⟨sm, _⟩ => SqL.of (sm _ _ hla)) ?_ ?_
    · rintro i x σ H' tu hx ⟨sm, v2, v3, bs, rfl, hl, hO⟩ hT
      obtain ⟨ax, hax, rfl⟩ := ref_at hx
      obtain ⟨d, hd, hcat⟩ := hA.get hax
      have hdm := List.mem_of_getElem? hd
      have hil := (List.getElem?_eq_some_iff.mp hd).1
      have step := rels_take hd
      have sT : Same H' (upd H' tu (.tup [.int (i : Nat), V.ref ax])) := same_upd hT
      have hlr := relsFrom_len L (L.take i) 0
      rw [List.length_take] at hlr
      have hbl := hO.len
      have hsm : bs.length ≤ 100000 := by have := g.len; omega
      refine ⟨tu, _, rfl, SqT.of upd_same, rfl, _, _, rfl, _, _, rfl, rfl, ?_⟩
      have sm2 := sm.trans sT
      have hat2 := hcat.same sm2
      have hP2 : ProfAt C (upd H' tu (.tup [.int (i : Nat), V.ref ax])) p L tl := ProfAt.same sm2 ⟨dx, la, as, hp, hla, hA⟩
      have vd := g.valid d hdm
      have ld := g.short d hdm
      have atd := g.closed.inner d hdm
      rcases atom_head (g.closed.atomic d hdm) with ⟨a, rfl⟩ | ⟨k, c, rfl⟩ | ⟨k, c, rfl⟩
      · refine ⟨_, rfl, rIx_of (i := 0) (n := 2) (.inr (SqT.of hat2)) rfl ⟨rfl, _, rfl, ?_⟩⟩
        refine ifF (vF (by decide)) ?_
        refine ⟨_, rfl, rIx_of (i := 0) (n := 2) (.inr (SqT.of hat2)) rfl ⟨rfl, _, rfl, ?_⟩⟩
        refine ifF (vF (by decide)) ?_
        refine ⟨sm2, _, _, bs, rfl, sT _ _ hl, ?_⟩
        rw [step]
        simp only [relOf, Option.toList_none, List.append_nil]
        exact hO.same sT
      · refine ⟨_, rfl, rIx_of (i := 0) (n := 6) (.inr (SqT.of hat2)) rfl ⟨rfl, _, rfl, ?_⟩⟩
        refine ifT vT ?_
        refine ⟨_, rfl, tyList (sT _ _ hl), _, rfl, _, rfl, rIx_of (i := 1) (n := k) (.inr (SqT.of hat2)) rfl ?_⟩
        refine ⟨_, rfl, p, dx, _, rfl, sm2 _ _ hp, pF_no (by decide +kernel) (by decide +kernel) (by decide +kernel) (by decide +kernel), ?_⟩
        refine ⟨_, rfl, _, rfl, ?_⟩
        refine sl_tail hat2 rfl fun p2 hp2 => ?_
        have s3 := same_upd (o := HO.tup (Nv (enc c))) hp2
        have ec : (enc (.some k c)).length = (enc c).length + 2 := rfl
        refine ⟨p, p2, L, tl, c, rfl, hP2.same s3, upd_same, g, vd.2, by omega, fun y hy => atd y (by simp [Oc.C.atoms, hy]), fun H4 s4 => ?_⟩
        have s5 := s3.trans s4
        have s6 := sT.trans s5
        refine ⟨by show 4 ≤ sizeLine; decide, fun t ht => ?_⟩
        have s7 := s6.trans (same_upd (o := HO.tup [V.int (i : Nat), V.bl true, V.int (k : Nat), V.int ((ext L c : Nat) : Int)]) ht)
        refine ⟨r, _, _, rfl, rfl, s7 _ _ hl, ?_, ?_⟩
        · rw [List.length_map]
          exact small_lt hsm
        refine ⟨samePut (sm.trans s7) hr0, _, _, bs ++ [t], rfl, ?_, ?_⟩
        · rw [upd_same, List.map_append]; rfl
        · rw [step]
          exact ((hO.same s7).app (.cons (b := ⟨i, true, k, ext L c⟩) upd_same .nil)).put (s7 _ _ hl) (fun b => by intro e; cases e)
      · refine ⟨_, rfl, rIx_of (i := 0) (n := 7) (.inr (SqT.of hat2)) rfl ⟨rfl, _, rfl, ?_⟩⟩
        refine ifF (vF (by decide)) ?_
        refine ⟨_, rfl, rIx_of (i := 0) (n := 7) (.inr (SqT.of hat2)) rfl ⟨rfl, _, rfl, ?_⟩⟩
        refine ifT vT ?_
        refine ⟨_, rfl, tyList (sT _ _ hl), _, rfl, _, rfl, rIx_of (i := 1) (n := k) (.inr (SqT.of hat2)) rfl ?_⟩
        refine ⟨_, rfl, p, C, dx, _, _, rfl, sm2 _ _ hp, T.cl, T.nF, pF_full, ?_⟩
        refine ⟨_, rfl, p, dx, _, rfl, sm2 _ _ hp, pF_no (by decide +kernel) (by decide +kernel) (by decide +kernel) (by decide +kernel), ?_⟩
        refine ⟨_, rfl, _, rfl, ?_⟩
        refine sl_tail hat2 rfl fun p2 hp2 => ?_
        have s3 := same_upd (o := HO.tup (Nv (enc c))) hp2
        have ec : (enc (.all k c)).length = (enc c).length + 2 := rfl
        refine ⟨p, p2, L, tl, c, rfl, hP2.same s3, upd_same, g, vd.2, by omega, fun y hy => atd y (by simp [Oc.C.atoms, hy]), fun H4 s4 => ?_⟩
        refine ⟨_, _, rfl, rfl, ?_⟩
        have s5 := s3.trans s4
        have s6 := sT.trans s5
        refine ⟨by show 4 ≤ sizeLine; decide, fun t ht => ?_⟩
        have s7 := s6.trans (same_upd (o := HO.tup [V.int (i : Nat), V.bl false, V.int (k : Nat), V.int (Builtin.bitXor ((2 ^ 2 ^ L.length - 1 : Nat) : Int) ((ext L c : Nat) : Int))]) ht)
        refine ⟨r, _, _, rfl, rfl, s7 _ _ hl, ?_, ?_⟩
        · rw [List.length_map]
          exact small_lt hsm
        refine ⟨samePut (sm.trans s7) hr0, _, _, bs ++ [t], rfl, ?_, ?_⟩
        · rw [upd_same, List.map_append]; rfl
        · rw [step]
          refine ((hO.same s7).app (.cons (b := ⟨i, false, k, (2 ^ 2 ^ L.length - 1) ^^^ ext L c⟩) ?_ .nil)).put (s7 _ _ hl) (fun b => by intro e; cases e)
          rw [rO, ← xor_nat]
          exact upd_same
    · rintro σ H' ⟨sm, v2, v3, bs, rfl, hl, hO⟩
      rw [List.length_map, hA.len, List.take_length] at hO
      exact ⟨_, rfl, q H' r bs sm hr0 hl hO⟩
end
end Mx
set_option Elab.async false
set_option maxRecDepth 100000
set_option maxHeartbeats 2000000
namespace Mx
open PySem PySem.Spec PyProof.Rows L2
open Oc (C Axiom)
abbrev sDo : Stmt := inClass (top 10) 4
def spDo (K : PySem.W.Frag) (C : Addr) : Sp := fun vs H Q _ => ∃ (p : Addr) (t : Nat) (ra : Addr) (L : List Oc.C) (tl : Option Addr) (as : List Addr) (rs : List Rel), vs = [.ref p, .int (t : Int), .ref ra] ∧ ProfAt C H p L tl ∧
  H ra = some (.lst (as.map V.ref)) ∧ OAll rO H as rs ∧ (∀ r ∈ rs, r.role < 2) ∧ rs.length ≤ 1000 ∧
  ∀ (H' : Hp) (d : Addr), Same H H' → H d = none → H' d = some (.lst (Nv (dems (2 ^ 2 ^ L.length - 1) t rs))) → Q (.ref d) H'
theorem scDo : FnScope ["self", "profile", "relations", "allowed", "wanted", "bit", "positive", "role", "extent"] ["self", "profile", "relations"] (defScope sDo) := ⟨rfl, rfl, rfl, by decide +kernel, rfl, by decide +kernel, by decide +kernel⟩
/-- o[i] of a list, by values -/
def rGetL (K : PySem.W.Frag) : V → V → Hp → VK → Prop := fun x y H Q => ∃ (p : Addr) (xs : List V) (j : Nat) (v : V), x = .ref p ∧ y = .int (j : Int) ∧ SqL K H p xs ∧ xs[j]? = some v ∧ Q v H
theorem get_list {X : Cx} : PGet X (rGetL X.K) := by
  intro pins s σ H _ _ v u Q I rx ry h
  obtain ⟨p, xs, j, z, rfl, rfl, hq, he, q⟩ := h
  cases rx
  obtain ⟨t, rfl⟩ := ry
  obtain ⟨its, r, pl, hz⟩ := I.list hq
  obtain ⟨w, ew, rw'⟩ := r.get he
  have hl := r.length
  have hj := (List.getElem?_eq_some_iff.mp ew).1
  have hn := line63
  exact wpAny_getItem_list pl.isList (by omega) (by omega) (by simpa using ew) ⟨z, H, I, rw', q⟩
theorem at_two {s : DSt} {r : Nat} (h : r < 2) : atI [V.int (s.a0 : Int), V.int (s.a1 : Int)] (r : Int) = some (V.int ((s.at r : Nat) : Int)) := by
  refine atI_nat ?_
  match r, h with
  | 0, _ => rfl
  | 1, _ => rfl
theorem want_int (t k : Nat) : decide (V.int (Builtin.bitAnd ((t : Int) / 2 ^ k) 1) = V.int 1) = Oc.bit t k := by
  have := bit_int t k
  rw [Int.zero_add] at this
  have e : (t : Int) / 2 ^ k = ((t / 2 ^ k : Nat) : Int) := by simp
  rw [e] at this ⊢
  rw [show (1 : Int) = ((1 : Nat) : Int) from rfl, and_nat, Nat.and_one_is_mod] at this ⊢
  rw [← this, Bool.eq_iff_iff, decide_eq_true_eq, bne_iff_ne, V.int.injEq]
  omega
theorem bl_eq (a b : Bool) : decide (V.bl a = V.bl b) = (a == b) := by
  cases a <;> cases b <;> simp
theorem dturn_yes {full t : Nat} {s : DSt} {r : Rel} (h : wants t r = true) : dturn full t s r = { s with wanted := s.wanted ++ [(r.role, r.ext)] } := by
  unfold dturn; rw [if_pos h]
theorem dturn_no0 {full t : Nat} {s : DSt} {r : Rel} (h : wants t r = false) (e : r.role = 0) : dturn full t s r = { s with a0 := s.a0 &&& (full ^^^ r.ext) } := by
  unfold dturn; rw [h, if_neg Bool.false_ne_true, if_pos e]
theorem dturn_no1 {full t : Nat} {s : DSt} {r : Rel} (h : wants t r = false) (e : r.role = 1) : dturn full t s r = { s with a1 := s.a1 &&& (full ^^^ r.ext) } := by
  unfold dturn; rw [h, if_neg Bool.false_ne_true, if_neg (by omega)]
theorem dturn_wanted {full t : Nat} {s : DSt} {r : Rel} (hr : r.role < 2) (hs : ∀ w ∈ s.wanted, w.1 < 2) : ∀ w ∈ (dturn full t s r).wanted, w.1 < 2 := by
  unfold dturn
  split
  · intro w hw
    rcases List.mem_append.1 hw with hw | hw
    · exact hs w hw
    · rw [List.mem_singleton] at hw
      rw [hw]
      exact hr
  · split <;> exact hs
theorem dturn_len {full t : Nat} {s : DSt} {r : Rel} : (dturn full t s r).wanted.length ≤ s.wanted.length + 1 := by
  unfold dturn
  split
  · simp
  · split <;> simp
section
variable {P : Program} {w : World} {K : PySem.W.Frag} {mg : Str → Option Value} {base : Heap} {C : Addr}
theorem ok_do {f : Addr} {fd : FuncData} (F : Fun K "demands_of" "Profiles.demands_of" sDo f fd) (T : PfTxt K mg C) : FnOk P w K mg base CX0 1 f fd ["self", "profile", "relations"] (spDo K C) := by
  refine F.ok scDo (fun vs H Q E h => ?_) (fun cdv A outer s H vs Q E hr h => ?_)
  · obtain ⟨p, t, ra, L, tl, as, rs, rfl, _⟩ := h
    rfl
  · refine ⟨_, pss_cons (ps_set (i := 3) scDo.nd rfl (Or.inr rfl) (pe_lst (pa_cons (pe_fld (pv 0) rfl) (pa_cons (pe_fld (pv 0) rfl) pa_nil))))
      (pss_cons (ps_set (i := 4) scDo.nd rfl (Or.inl rfl) (pe_lst pa_nil))
      (pss_cons (ps_for PassesOwn.never rfl (pi_list (pv 2)) (pg_tup rfl (pgs_cons (pg_name (i := 5) scDo.nd rfl (Or.inl rfl)) (pgs_cons (pg_name (i := 6) scDo.nd rfl (Or.inl rfl)) (pgs_cons (pg_name (i := 7) scDo.nd rfl (Or.inl rfl)) (pgs_cons (pg_name (i := 8) scDo.nd rfl (Or.inl rfl)) pgs_nil)))))
        (pss_one (ps_if (pt_cmpR op_eq (pe_cmpR op_eq (pe_op op_and (pe_op op_shrN (pv 1) (pv 5)) pe_int) pe_int (nomark _)) (pv 6) (nomark _))
          (pss_one (ps_expr (pe_bm PySem.F.plainAttrs_list PySem.F.slot_list_append PySem.F.type_list_append mt_append (pv 4) (pa_cons (pe_tup (pa_cons (pv 7) (pa_cons (pv 8) pa_nil))) pa_nil))))
          (pss_one (ps_augS (pv 3) (pv 7) get_list (pe_op op_xor (pe_fld (pv 0) rfl) (pv 8)) iop_and set_list)))))
      (pss_one (ps_ret (pe_lc (own := [("role", 7), ("extent", 8)]) (g := gTup K 2 (gCons (gName 7) (gCons (gName 8) gNil))) (by rfl) scDo.nd (pi_list (pv 4))
        (blkOk_by (own := [("role", 7), ("extent", 8)]) (N := ["self", "profile", "relations", "allowed", "wanted", "bit", "positive", "role", "extent"]) (sc := defScope sDo) (by decide +kernel))
        (fun _ _ _ _ _ => pg_tup rfl (pgs_cons (pg_name (i := 7) scDo.nd rfl (Or.inl rfl)) (pgs_cons (pg_name (i := 8) scDo.nd rfl (Or.inl rfl)) pgs_nil)))
        (fun _ _ _ _ _ => pts_nil)
        (fun _ _ _ _ _ => pe_op op_and (pe_ix (r := rIxL K) ix_list (pv 3) (pv 7) (fun _ _ => rfl)) (pv 8))))))), ?_⟩
    obtain ⟨p, t, ra, L, tl, as, rs, rfl, ⟨dx, la, cs, hp, hla, hA⟩, hra, hO, hro, hlen, q⟩ := h
    have full : Nat := 2 ^ 2 ^ L.length - 1
    refine ⟨_, rfl, p, C, dx, _, _, rfl, hp, T.cl, T.nF, pF_full, _, rfl, p, C, dx, _, _, rfl, hp, T.cl, T.nF, pF_full, by show 2 ≤ sizeLine; decide, fun al hal => ?_⟩
    refine ⟨by show 0 ≤ sizeLine; decide, fun wl hwl => ?_⟩
    have s1 := same_upd (o := HO.lst [V.int ((2 ^ 2 ^ L.length - 1 : Nat) : Int), V.int ((2 ^ 2 ^ L.length - 1 : Nat) : Int)]) hal
    have s2 := s1.trans (same_upd (o := HO.lst []) hwl)
    have hne : al ≠ wl := by intro z; subst z; rw [upd_same] at hwl; cases hwl
    have hw0 := s1.free hwl
    refine ⟨_, rfl, ra, rfl, ⟨_, SqL.of (s2 _ _ hra)⟩, for_list (K := K) (a := ra) (xs := as.map V.ref) (fun i σ H' => Same H H' ∧ ∃ (v5 v6 v7 v8 : Option V) (ws : List Addr) (s : DSt),
      σ = [some (.ref p), some (.int (t : Int)), some (.ref ra), some (.ref al), some (.ref wl), v5, v6, v7, v8] ∧ s = (rs.take i).foldl (dturn (2 ^ 2 ^ L.length - 1) t) ⟨2 ^ 2 ^ L.length - 1, 2 ^ 2 ^ L.length - 1, []⟩ ∧
      H' al = some (.lst [V.int (s.a0 : Int), V.int (s.a1 : Int)]) ∧ H' wl = some (.lst (ws.map V.ref)) ∧ OAll wO H' ws s.wanted ∧ (∀ w ∈ s.wanted, w.1 < 2) ∧ s.wanted.length ≤ i)
      ⟨s2, none, none, none, none, [], _, rfl, rfl, (upd_ne hne).trans upd_same, upd_same, .nil, by simp, Nat.le_refl _⟩ (fun i σ H' _ ⟨sm, _⟩ => SqL.of (sm _ _ hra)) ?_ ?_⟩
    · rintro i x σ H' hx ⟨sm, v5, v6, v7, v8, ws, s, rfl, hs, hal', hwl', hW, hw2, hwn⟩
      obtain ⟨ax, hax, rfl⟩ := ref_at hx
      obtain ⟨r, hri, hrt⟩ := hO.get hax
      have hrm := List.mem_of_getElem? hri
      have hil := (List.getElem?_eq_some_iff.mp hri).1
      have hr2 := hro r hrm
      have step := foldl_take (dturn (2 ^ 2 ^ L.length - 1) t) ⟨2 ^ 2 ^ L.length - 1, 2 ^ 2 ^ L.length - 1, []⟩ hri
      rw [← hs] at step
      have hW2 := dturn_wanted (full := 2 ^ 2 ^ L.length - 1) (t := t) hr2 hw2
      have hWl := dturn_len (full := 2 ^ 2 ^ L.length - 1) (t := t) (s := s) (r := r)
      refine ⟨ax, _, rfl, SqT.of (sm _ _ hrt), rfl, _, _, rfl, _, _, rfl, _, _, rfl, _, _, rfl, rfl, ?_⟩
      refine ⟨_, rfl, _, rfl, _, r.bit, rfl, rfl, _, _, rfl, rfl, rfl, _, rfl, rfl, _, rfl, ?_⟩
      rw [want_int, bl_eq]
      have hpn : al ≠ p := by intro z; subst z; rw [hp] at hal; cases hal
      have hal2 : H al = none := hal
      cases hw : wants t r with
      | true =>
        refine ifT hw ?_
        rw [dturn_yes hw] at step hW2 hWl
        refine ⟨_, rfl, tyList hwl', _, rfl, _, rfl, by show 2 ≤ sizeLine; decide, fun tq htq => ?_⟩
        have sq : Same H' (upd H' tq (wO (r.role, r.ext))) := same_upd htq
        refine ⟨wl, _, _, rfl, rfl, sq _ _ hwl', ?_, ?_⟩
        · rw [List.length_map, hW.len]
          exact small_lt (by omega)
        refine ⟨samePut (sm.trans sq) hw0, _, _, _, _, ws ++ [tq], { s with wanted := s.wanted ++ [(r.role, r.ext)] }, rfl, step.symm, ?_, ?_, ?_, hW2, ?_⟩
        · exact (upd_ne hne).trans (sq _ _ hal')
        · rw [upd_same, List.map_append]; rfl
        · exact ((hW.same sq).app (.cons (b := (r.role, r.ext)) upd_same .nil)).put (sq _ _ hwl') (fun b => by intro e; cases e)
        · rw [List.length_append, List.length_singleton]
          omega
      | false =>
        refine ifF hw ?_
        have hget : ([V.int (s.a0 : Int), V.int (s.a1 : Int)] : List V)[r.role]? = some (V.int ((s.at r.role : Nat) : Int)) := by
          obtain h | h : r.role = 0 ∨ r.role = 1 := by omega
          · rw [h]; rfl
          · rw [h]; rfl
        refine ⟨_, rfl, _, rfl, al, _, r.role, _, rfl, rfl, SqL.of hal', hget, ?_⟩
        refine ⟨_, rfl, p, C, dx, _, _, rfl, sm _ _ hp, T.cl, T.nF, pF_full, _, rfl, _, _, rfl, rfl, _, _, rfl, rfl, ?_⟩
        refine ⟨al, _, _, r.role, rfl, rfl, hal', ?_, ?_⟩
        · unfold ixN
          rw [if_pos (by omega), if_pos (by show (r.role : Int) < 2; omega), Int.toNat_natCast]
        rw [xor_nat]
        have hwal : wl ≠ al := Ne.symm hne
        obtain h | h : r.role = 0 ∨ r.role = 1 := by omega
        · have hat : s.at r.role = s.a0 := by rw [h]; rfl
          rw [hat]
          rw [dturn_no0 hw h] at step
          refine ⟨samePut sm hal2, _, _, _, _, ws, { s with a0 := s.a0 &&& ((2 ^ 2 ^ L.length - 1) ^^^ r.ext) }, rfl, step.symm, ?_, ?_, ?_, hw2, by show s.wanted.length ≤ i + 1; omega⟩
          · rw [upd_same, h]
            show _ = some (HO.lst [V.int ((s.a0 &&& ((2 ^ 2 ^ L.length - 1) ^^^ r.ext) : Nat) : Int), V.int (s.a1 : Int)])
            rw [← and_nat]
            rfl
          · exact (upd_ne hwal).trans hwl'
          · exact hW.put hal' (fun b => by intro e; cases e)
        · have hat : s.at r.role = s.a1 := by rw [h]; rfl
          rw [hat]
          rw [dturn_no1 hw h] at step
          refine ⟨samePut sm hal2, _, _, _, _, ws, { s with a1 := s.a1 &&& ((2 ^ 2 ^ L.length - 1) ^^^ r.ext) }, rfl, step.symm, ?_, ?_, ?_, hw2, by show s.wanted.length ≤ i + 1; omega⟩
          · rw [upd_same, h]
            show _ = some (HO.lst [V.int (s.a0 : Int), V.int ((s.a1 &&& ((2 ^ 2 ^ L.length - 1) ^^^ r.ext) : Nat) : Int)])
            rw [← and_nat]
            rfl
          · exact (upd_ne hwal).trans hwl'
          · exact hW.put hal' (fun b => by intro e; cases e)
    · rintro σ H' ⟨sm, v5, v6, v7, v8, ws, s, rfl, hs, hal', hwl', hW, hw2, hwn⟩
      rw [List.length_map, hO.len, List.take_length] at hs
      rw [List.length_map, hO.len] at hwn
      refine ⟨_, rfl, wl, rfl, ⟨_, SqL.of hwl'⟩, fun D hD => ?_⟩
      have sD : Same H' (upd H' D (.lst [])) := same_upd hD
      refine lc_list (K := K) (a := wl) (xs := ws.map V.ref) (fun i H2 => Same H H2 ∧ H2 al = some (.lst [V.int (s.a0 : Int), V.int (s.a1 : Int)]) ∧ H2 wl = some (.lst (ws.map V.ref)) ∧ OAll wO H2 ws s.wanted ∧
        H2 D = some (.lst (Nv ((s.wanted.take i).map fun w => s.at w.1 &&& w.2))))
        ⟨sm.trans sD, sD _ _ hal', sD _ _ hwl', hW.same sD, upd_same⟩ (fun i H2 _ ⟨_, _, h, _⟩ => SqL.of h) ?_ ?_
      · rintro i x H2 hx ⟨sm2, hal2, hwl2, hW2, hD2⟩
        obtain ⟨ax, hax, rfl⟩ := ref_at hx
        obtain ⟨wr, hwi, hwt⟩ := hW2.get hax
        have hr2 := hw2 wr (List.mem_of_getElem? hwi)
        have hil := (List.getElem?_eq_some_iff.mp hwi).1
        refine ⟨ax, _, rfl, SqT.of hwt, rfl, _, _, rfl, _, _, rfl, rfl, rfl, ?_⟩
        refine ⟨_, rfl, _, rfl, al, _, _, _, rfl, rfl, SqL.of hal2, at_two hr2, _, rfl, _, _, rfl, rfl, _, hD2, ?_, ?_⟩
        · rw [Nv_len, List.length_map, List.length_take]
          exact small_lt (by omega)
        have hDne : ∀ (b : Addr) (o : HO), H2 b = some o → b ≠ D → (upd H2 D (.lst (Nv ((s.wanted.take i).map fun w => s.at w.1 &&& w.2) ++ [V.int (Builtin.bitAnd ((s.at wr.1 : Nat) : Int) (wr.2 : Int))]))) b = some o := fun b o e h => (upd_ne h).trans e
        have hal3 : al ≠ D := ne_of_none hal' hD
        have hwl3 : wl ≠ D := ne_of_none hwl' hD
        refine ⟨samePut sm2 (sm.free hD), hDne _ _ hal2 hal3, hDne _ _ hwl2 hwl3, hW2.put hD2 (fun b => by intro e; cases e), ?_⟩
        rw [upd_same, List.take_add_one, hwi, Option.toList_some, List.map_append, Nv_app]
        show _ = some (HO.lst (_ ++ [V.int ((s.at wr.1 &&& wr.2 : Nat) : Int)]))
        rw [← and_nat]
      · rintro H2 ⟨sm2, hal2, hwl2, hW2, hD2⟩
        rw [List.length_map, hW.len, List.take_length] at hD2
        refine q H2 D sm2 (sm.free hD) ?_
        rw [hD2, dems, drun, ← hs]
end
end Mx
set_option Elab.async false
set_option maxRecDepth 100000
set_option maxHeartbeats 2000000
namespace Mx
open PySem PySem.Spec PyProof.Rows L2
open Oc (C Axiom)
theorem put_here {f : Str} {v x : V} {r : List (Str × V)} : putF f v ((f, x) :: r) = (f, v) :: r := if_pos rfl
theorem put_past {f g : Str} {v x : V} {r : List (Str × V)} (h : ¬ g = f) : putF f v ((g, x) :: r) = (g, x) :: putF f v r := if_neg h
def f1 (la : Addr) : List (Str × V) := [("atoms", .ref la)]
def f2 (la : Addr) (n : Nat) : List (Str × V) := [("atoms", .ref la), ("total", .int ((2 ^ n : Nat) : Int))]
theorem f1_new {la : Addr} : putF "atoms" (.ref la) [] = f1 la := rfl
theorem f2_new {la : Addr} {n : Nat} : putF "total" (.int ((2 ^ n : Nat) : Int)) (f1 la) = f2 la n := (put_past (by decide +kernel)).trans rfl
theorem f3_new {la : Addr} {n : Nat} : putF "full" (.int ((2 ^ 2 ^ n - 1 : Nat) : Int)) (f2 la n) = pF la n none := (put_past (by decide +kernel)).trans (congrArg _ ((put_past (by decide +kernel)).trans rfl))
theorem f4_new {la ld : Addr} {n : Nat} : putF "demands" (.ref ld) (pF la n none) = pF la n (some ld) :=
  (put_past (by decide +kernel)).trans (congrArg _ ((put_past (by decide +kernel)).trans (congrArg _ ((put_past (by decide +kernel)).trans rfl))))
theorem f1_atoms {la : Addr} : (f1 la).lookup ("atoms" : Str) = some (.ref la) := lk_here
theorem f2_total {la : Addr} {n : Nat} : (f2 la n).lookup ("total" : Str) = some (.int ((2 ^ n : Nat) : Int)) := (lk_past (by decide +kernel)).trans lk_here
theorem full_int (n : Nat) : (2 : Int) ^ (2 ^ n) - 1 = ((2 ^ 2 ^ n - 1 : Nat) : Int) := by
  have : 0 < 2 ^ 2 ^ n := Nat.two_pow_pos _
  rw [pow_int]
  omega
theorem CAll.keep {H H' : Hp} {as : List Addr} {cs : List C} (h : CAll H as cs) (k : ∀ b xs, H b = some (.tup xs) → H' b = some (.tup xs)) : CAll H' as cs := by
  induction h with
  | nil => exact .nil
  | cons h _ ih => exact .cons (k _ _ h) ih
theorem f3_newR {la : Addr} {n : Nat} : putF "full" ((fun i j => V.int (i - j)) ((2 : Int) ^ (2 ^ n)) 1) (f2 la n) = pF la n none := by
  show putF "full" (V.int ((2 : Int) ^ (2 ^ n) - 1)) (f2 la n) = pF la n none
  rw [full_int]
  exact f3_new
/-- a list of lists of numbers -/
def dO (ms : List Nat) : HO := .lst (Nv ms)
theorem OAll.putN {β : Type} {f : β → HO} {H : Hp} {as : List Addr} {bs : List β} {p : Addr} {o : HO} (h : OAll f H as bs) (hp : p ∉ as) : OAll f (upd H p o) as bs := by
  induction h with
  | nil => exact .nil
  | cons h _ ih =>
    simp only [List.mem_cons, not_or] at hp
    refine .cons ?_ (ih hp.2)
    rw [upd_ne (Ne.symm hp.1)]
    exact h
/-- the object when it is made -/
def ProfF (C : Addr) (H : Hp) (p : Addr) (L : List Oc.C) : Prop :=
  ∃ ld : Addr, ProfAt C H p L (some ld) ∧ ∃ ds : List Addr, H ld = some (.lst (ds.map V.ref)) ∧ OAll dO H ds ((List.range (2 ^ L.length)).map fun t => dems (2 ^ 2 ^ L.length - 1) t (rels L))
theorem ProfF.same {C : Addr} {H H' : Hp} {p : Addr} {L : List Oc.C} (e : Same H H') (h : ProfF C H p L) : ProfF C H' p L := by
  obtain ⟨ld, h1, ds, h2, h3⟩ := h
  exact ⟨ld, h1.same e, ds, e _ _ h2, h3.same e⟩
abbrev sPi : Stmt := inClass (top 10) 0
def spPi (K : PySem.W.Frag) (C : Addr) : Sp := fun vs H Q _ => ∃ (p dx a : Addr) (as : List Addr) (L : List Oc.C), vs = [.ref p, .ref a] ∧ H p = some (.ins C dx []) ∧ H a = some (.lst (as.map V.ref)) ∧ CAll H as L ∧ Good L ∧
  ∀ (H' : Hp), ProfF C H' p L → (∀ b o, H b = some o → b ≠ p → H' b = some o) → Q .non H'
theorem scPi : FnScope ["self", "atoms", "relations", "profile"] ["self", "atoms"] (defScope sPi) := ⟨rfl, rfl, rfl, by decide +kernel, rfl, by decide +kernel, by decide +kernel⟩
section
variable {P : Program} {w : World} {K : PySem.W.Frag} {mg : Str → Option Value} {base : Heap} {C : Addr}
theorem ok_pi {f : Addr} {fd : FuncData} (F : Fun K "__init__" "Profiles.__init__" sPi f fd) (T : PfTxt K mg C) (mLen : mg "len" = none) (mList : mg "list" = none) (mRange : mg "range" = none)
    (cRa : MCalled P w K mg base C "relation_atoms" 4 ["self"] (spRa K C)) (cDo : MCalled P w K mg base C "demands_of" 1 ["self", "profile", "relations"] (spDo K C)) :
    FnOk P w K mg base CX0 5 f fd ["self", "atoms"] (spPi K C) := by
  refine F.ok scPi (fun vs H Q E h => ?_) (fun cdv A outer s H vs Q E hr h => ?_)
  · obtain ⟨p, dx, a, as, L, rfl, _⟩ := h
    rfl
  · refine ⟨_, pss_cons (ps_fld (pv 0) (pe_callTy call_list_of (by rfl) mList PyProof.Rows.boot_list (pa_cons (pv 1) pa_nil)) rfl)
      (pss_cons (ps_fld (pv 0) (pe_op op_oneShl pe_int (pe_callB call_len_seq (by rfl) mLen PySem.boot_len (pa_cons (pe_fld (pv 0) rfl) pa_nil))) rfl)
      (pss_cons (ps_fld (pv 0) (pe_op op_sub (pe_op op_oneShl pe_int (pe_fld (pv 0) rfl)) pe_int) rfl)
      (pss_cons (ps_set (i := 2) scPi.nd rfl (Or.inr rfl) (pe_cm0 (pv 0) T.cl cRa hr))
      (pss_one (ps_fld (pv 0) (pe_lc (own := [("profile", 3)]) (g := gName 3) (by rfl) scPi.nd (pi_range1 rfl mRange (pa_cons (pe_fld (pv 0) rfl) pa_nil))
          (blkOk_by (own := [("profile", 3)]) (N := ["self", "atoms", "relations", "profile"]) (sc := defScope sPi) (by decide +kernel))
          (fun _ _ _ _ _ => pg_name (i := 3) scPi.nd rfl (Or.inl rfl))
          (fun _ _ _ _ _ => pts_nil)
          (fun _ _ _ _ _ => pe_cm (pv 0) T.cl cDo (hr.mono (by decide)) (pa_cons (pv 3) (pa_cons (pv 2) pa_nil)))) rfl))))), ?_⟩
    obtain ⟨p, dx, a, as, L, rfl, hp, ha, hA, g, q⟩ := h
    refine ⟨_, rfl, a, _, rfl, .inl (SqL.of ha), fun la hla => ?_⟩
    have s1 : Same H (upd H la (.lst (as.map V.ref))) := same_upd hla
    refine ⟨_, rfl, p, C, dx, [], rfl, s1 _ _ hp, T.cl, T.nA, by show 0 < 1000; decide, ?_⟩
    rw [f1_new]
    have hpla : la ≠ p := by intro z; subst z; rw [hp] at hla; cases hla
    have hN := g.total
    have hlen : (as.map V.ref).length = L.length := by rw [List.length_map, hA.len]
    have hg5 := g.len
    refine ⟨_, rfl, p, C, dx, _, _, rfl, upd_same, T.cl, T.nA, f1_atoms, la, _, rfl, .inl (SqL.of ((upd_ne hpla).trans upd_same)), _, rfl, rfl, by omega, ?_⟩
    refine ⟨_, rfl, p, C, dx, _, rfl, upd_same, T.cl, T.nT, by show 1 < 1000; decide, ?_⟩
    rw [hlen, pow_int, f2_new, upd_upd]
    refine ⟨_, rfl, p, C, dx, _, _, rfl, upd_same, T.cl, T.nT, f2_total, _, rfl, rfl, by omega, _, _, rfl, rfl, ?_⟩
    refine ⟨_, rfl, p, C, dx, _, rfl, upd_same, T.cl, T.nF, by show 2 < 1000; decide, ?_⟩
    rw [f3_newR, upd_upd]
    have sb : ∀ (b : Addr) (o : HO), H b = some o → b ≠ p → (upd (upd H la (.lst (as.map V.ref))) p (.ins C dx (pF la L.length none))) b = some o := fun b o e h => by
      rw [upd_ne h]
      exact s1 _ _ e
    have hla3 : (upd (upd H la (.lst (as.map V.ref))) p (.ins C dx (pF la L.length none))) la = some (.lst (as.map V.ref)) := (upd_ne hpla).trans upd_same
    have hp3 : (upd (upd H la (.lst (as.map V.ref))) p (.ins C dx (pF la L.length none))) p = some (.ins C dx (pF la L.length none)) := upd_same
    generalize hH3 : (upd (upd H la (.lst (as.map V.ref))) p (.ins C dx (pF la L.length none))) = H3 at hp3 hla3 sb
    have hA3 : CAll H3 as L := hA.keep fun b xs e => sb _ _ e (by intro z; subst z; rw [hp] at e; cases e)
    have hP3 : ProfAt C H3 p L none := ⟨dx, la, as, hp3, hla3, hA3⟩
    have sbn : ∀ b, H3 b = none → H b = none := fun b e => by
      cases h : H b with
      | none => rfl
      | some o =>
        by_cases hb : b = p
        · subst hb; rw [hp3] at e; cases e
        · rw [sb b o h hb] at e; cases e
    refine ⟨_, rfl, p, dx, _, rfl, hp3, pF_no (by decide +kernel) (by decide +kernel) (by decide +kernel) (by decide +kernel), p, L, none, rfl, hP3, g, fun H4 r rs s4 hr0 hl4 hO4 => ?_⟩
    have hp4 := s4 _ _ hp3
    refine ⟨_, rfl, p, C, dx, _, _, rfl, hp4, T.cl, T.nT, pF_total, _, rfl, rngLo _, rngHi (Nat.le_trans hN (by decide)), fun D hD => ?_⟩
    have hDp : D ≠ p := by intro z; subst z; rw [hp4] at hD; cases hD
    refine lc_range (lo := 0) (n := ((2 ^ L.length : Nat) : Int).toNat) (fun i H' => Same H4 H' ∧ ∃ ds : List Addr, H' D = some (.lst (ds.map V.ref)) ∧ D ∉ ds ∧ OAll dO H' ds ((List.range i).map fun t => dems (2 ^ 2 ^ L.length - 1) t (rels L)))
      ⟨same_upd hD, [], upd_same, by simp, .nil⟩ ?_ ?_
    · rintro i H' hi ⟨sm, ds, hl, hnd, hd⟩
      rw [Int.toNat_natCast] at hi
      refine ⟨rfl, ?_⟩
      refine ⟨_, rfl, p, dx, _, rfl, sm _ _ hp4, pF_no (by decide +kernel) (by decide +kernel) (by decide +kernel) (by decide +kernel), _, rfl, _, rfl, ?_⟩
      have sm3 := s4.trans sm
      refine ⟨p, i, r, L, none, rs, rels L, by rw [Int.zero_add]; rfl, hP3.same sm3, sm _ _ hl4, hO4.same sm, rels_role (roles_of_valid g.valid) L 0 (fun x h => h), ?_, fun H5 d s5 hd0 hd5 => ?_⟩
      · have := relsFrom_len L L 0
        show (relsFrom L 0 L).length ≤ 1000
        omega
      · refine ⟨_, s5 _ _ hl, ?_, ?_, ds ++ [d], ?_, ?_, ?_⟩
        · have := hd.len
          rw [List.length_map, List.length_range] at this
          rw [List.length_map]
          exact small_lt (by omega)
        · exact samePut (sm.trans s5) hD
        · rw [upd_same, List.map_append]; rfl
        · intro h
          rcases List.mem_append.1 h with h | h
          · exact hnd h
          · rw [List.mem_singleton] at h
            subst h
            rw [hl] at hd0
            cases hd0
        · rw [List.range_succ, List.map_append]
          refine OAll.putN ((hd.same s5).app (.cons (b := dems (2 ^ 2 ^ L.length - 1) i (rels L)) hd5 .nil)) ?_
          intro h
          rcases List.mem_append.1 h with h | h
          · exact hnd h
          · rw [List.mem_singleton] at h
            subst h
            rw [hl] at hd0
            cases hd0
    · rintro H' ⟨sm, ds, hl, hnd, hd⟩
      rw [Int.toNat_natCast] at hd
      have hp' := sm _ _ hp4
      refine ⟨_, rfl, p, C, dx, _, rfl, hp', T.cl, T.nD, by show 3 < 1000; decide, ?_⟩
      rw [f4_new]
      have sm3 := s4.trans sm
      have hu : ∀ (b : Addr) (o : HO), H' b = some o → b ≠ p → (upd H' p (.ins C dx (pF la L.length (some D)))) b = some o := fun b o e h => (upd_ne h).trans e
      refine q _ ⟨D, ⟨dx, la, as, upd_same, hu _ _ (sm3 _ _ hla3) hpla, (hA3.same sm3).keep fun b xs e => hu _ _ e (by intro z; subst z; rw [hp'] at e; cases e)⟩, ds, hu _ _ hl hDp, ?_⟩ ?_
      · exact hd.put hp' (fun b => by intro e; cases e)
      · intro b o e h
        exact hu _ _ (sm3 _ _ (sb b o e h)) h
end
end Mx
set_option Elab.async false
set_option maxRecDepth 100000
set_option maxHeartbeats 2000000
namespace Mx
open PySem PySem.Spec PyProof.Rows L2
open Oc (C Axiom)
abbrev sDm : Stmt := inClass (top 10) 5
def spDm (K : PySem.W.Frag) (C : Addr) : Sp := fun vs H Q _ => ∃ (p : Addr) (t A : Nat) (L : List Oc.C), vs = [.ref p, .int (t : Int), .int (A : Int)] ∧ ProfF C H p L ∧ Good L ∧ t < 2 ^ L.length ∧
  ∀ (H' : Hp), Same H H' → Q (.bl ((dems (2 ^ 2 ^ L.length - 1) t (rels L)).all fun m => (m &&& A) != 0)) H'
theorem scDm : FnScope ["self", "profile", "alive", "demand"] ["self", "profile", "alive"] (defScope sDm) := ⟨rfl, rfl, rfl, by decide +kernel, rfl, by decide +kernel, by decide +kernel⟩
theorem drun_wlen (full t : Nat) : ∀ (rs : List Rel) (s : DSt), (rs.foldl (dturn full t) s).wanted.length ≤ s.wanted.length + rs.length
  | [], s => by simp
  | r :: rs, s => by
    have h1 := drun_wlen full t rs (dturn full t s r)
    have h2 := dturn_len (full := full) (t := t) (s := s) (r := r)
    rw [List.foldl_cons, List.length_cons]
    omega
theorem dems_len (full t : Nat) (rs : List Rel) : (dems full t rs).length ≤ rs.length := by
  have := drun_wlen full t rs ⟨full, full, []⟩
  rw [dems, List.length_map]
  simpa [drun] using this
theorem rels_len (L : List C) : (rels L).length ≤ L.length := relsFrom_len L L 0
theorem vNE {a b : Nat} : (!decide (V.int (a : Int) = V.int (b : Int))) = (a != b) := by
  by_cases h : a = b
  · subst h; simp
  · have : (V.int (a : Int) = V.int (b : Int)) = False := by
      apply propext
      constructor
      · intro e; exact h (by have := V.int.inj e; omega)
      · exact False.elim
    simp [this, h]
section
variable {P : Program} {w : World} {K : PySem.W.Frag} {mg : Str → Option Value} {base : Heap} {C : Addr}
theorem ok_dm {f : Addr} {fd : FuncData} (F : Fun K "demands_met" "Profiles.demands_met" sDm f fd) (T : PfTxt K mg C) (mAll : mg "all" = none) : FnOk P w K mg base CX0 1 f fd ["self", "profile", "alive"] (spDm K C) := by
  refine F.ok scDm (fun vs H Q E h => ?_) (fun cdv A outer s H vs Q E hr h => ?_)
  · obtain ⟨p, t, A, L, rfl, _⟩ := h
    rfl
  · refine ⟨_, pss_one (ps_ret (pe_callB (cr_all rfl) (by rfl) mAll (by decide +kernel) (pa_cons
      (pe_lc (own := [("demand", 3)]) (g := gName 3) (by rfl) scDm.nd (pi_list (pe_ix ix_list (pe_fld (pv 0) rfl) (pv 1) (fun _ _ => rfl)))
          (blkOk_by (own := [("demand", 3)]) (N := ["self", "profile", "alive", "demand"]) (sc := defScope sDm) (by decide +kernel))
          (fun _ _ _ _ _ => pg_name (i := 3) scDm.nd rfl (Or.inl rfl))
          (fun _ _ _ _ _ => pts_nil)
          (fun _ _ _ _ _ => pe_cmpR op_ne (pe_op op_and (pv 3) (pv 2)) pe_int (nomark _))) pa_nil))), ?_⟩
    obtain ⟨p, t, A, L, rfl, ⟨ld, hP, ds, hld, hds⟩, g, ht, q⟩ := h
    obtain ⟨dx, la, as, hp, hla, hA⟩ := hP
    have hrange : ((List.range (2 ^ L.length)).map fun t => dems (2 ^ 2 ^ L.length - 1) t (rels L))[t]? = some (dems (2 ^ 2 ^ L.length - 1) t (rels L)) := by
      rw [List.getElem?_map, List.getElem?_range ht]; rfl
    obtain ⟨d, hd, hdo⟩ := hds.geta hrange
    have hdl := Nat.le_trans (dems_len (2 ^ 2 ^ L.length - 1) t (rels L)) (rels_len L)
    have hg5 := g.len
    refine ⟨_, rfl, p, C, dx, _, _, rfl, hp, T.cl, T.nD, pF_dem, _, rfl, ld, _, _, _, rfl, rfl, SqL.of hld, atI_nat (show (ds.map V.ref)[t]? = some (V.ref d) by rw [List.getElem?_map, hd]; rfl), ?_⟩
    refine ⟨d, rfl, ⟨_, SqL.of hdo⟩, fun D hD => ?_⟩
    refine lc_list (K := K) (a := d) (xs := Nv (dems (2 ^ 2 ^ L.length - 1) t (rels L))) (fun i H' => Same H H' ∧ H' D = some (.lst ((((dems (2 ^ 2 ^ L.length - 1) t (rels L)).take i).map fun m => (m &&& A) != 0).map V.bl)))
      ⟨same_upd hD, upd_same⟩ (fun i H' _ ⟨sm, _⟩ => SqL.of (sm _ _ hdo)) ?_ ?_
    · rintro i x H' hx ⟨sm, hl⟩
      rw [Nv, List.getElem?_map] at hx
      cases hm : (dems (2 ^ 2 ^ L.length - 1) t (rels L))[i]? with
      | none => rw [hm] at hx; cases hx
      | some m =>
        rw [hm] at hx
        obtain rfl := (Option.some.inj hx).symm
        have hil := (List.getElem?_eq_some_iff.mp hm).1
        refine ⟨rfl, ?_⟩
        refine ⟨_, rfl, _, rfl, _, _, rfl, rfl, rfl, _, hl, ?_, samePut sm hD, ?_⟩
        · rw [List.length_map, List.length_map, List.length_take]
          exact small_lt (by omega)
        · rw [upd_same, List.take_add_one, hm, Option.toList_some, List.map_append, List.map_append]
          show _ = some (HO.lst (_ ++ [V.bl ((m &&& A) != 0)]))
          rw [← vNE, ← and_nat]
          rfl
    · rintro H' ⟨sm, hl⟩
      rw [Nv_len, List.take_length] at hl
      refine ⟨D, _, rfl, SqL.of hl, ?_⟩
      rw [List.all_map]
      exact q H' sm
end
end Mx
set_option Elab.async false
set_option maxRecDepth 100000
set_option maxHeartbeats 2000000
namespace Mx
open PySem PySem.Spec PyProof.Rows L2
open Oc (C Axiom)
/-- things of one kind at addresses -/
inductive Al2 {β : Type} (R : Addr → β → Prop) : List Addr → List β → Prop where
  | nil : Al2 R [] []
  | cons {a : Addr} {b : β} {as : List Addr} {bs : List β} : R a b → Al2 R as bs → Al2 R (a :: as) (b :: bs)
section
variable {β : Type} {R S : Addr → β → Prop}
theorem Al2.imp {as : List Addr} {bs : List β} (h : Al2 R as bs) (k : ∀ a b, R a b → S a b) : Al2 S as bs := by
  induction h with
  | nil => exact .nil
  | cons h _ ih => exact .cons (k _ _ h) ih
theorem Al2.app {as cs : List Addr} {bs ds : List β} (h : Al2 R as bs) (g : Al2 R cs ds) : Al2 R (as ++ cs) (bs ++ ds) := by
  induction h with
  | nil => exact g
  | cons h _ ih => exact .cons h ih
theorem Al2.len {as : List Addr} {bs : List β} (h : Al2 R as bs) : as.length = bs.length := by
  induction h with
  | nil => rfl
  | cons _ _ ih => rw [List.length_cons, List.length_cons, ih]
theorem Al2.get {as : List Addr} {bs : List β} (h : Al2 R as bs) : ∀ {i : Nat} {a : Addr}, as[i]? = some a → ∃ b, bs[i]? = some b ∧ R a b := by
  induction h with
  | nil => intro i a e; simp at e
  | cons h _ ih =>
    intro i a e
    cases i with
    | zero =>
      simp only [List.getElem?_cons_zero, Option.some.injEq] at e
      subst e
      exact ⟨_, rfl, h⟩
    | succ i =>
      simp only [List.getElem?_cons_succ] at e
      exact ih e
theorem Al2.geta {as : List Addr} {bs : List β} (h : Al2 R as bs) : ∀ {i : Nat} {b : β}, bs[i]? = some b → ∃ a, as[i]? = some a ∧ R a b := by
  induction h with
  | nil => intro i a e; simp at e
  | cons h _ ih =>
    intro i a e
    cases i with
    | zero =>
      simp only [List.getElem?_cons_zero, Option.some.injEq] at e
      subst e
      exact ⟨_, rfl, h⟩
    | succ i =>
      simp only [List.getElem?_cons_succ] at e
      exact ih e
end
/-- an axiom: a tuple of two concepts -/
def AxAt (H : Hp) (t : Addr) (a : Axiom) : Prop := ∃ x y : Addr, H t = some (.tup [.ref x, .ref y]) ∧ CAt H x a.1 ∧ CAt H y a.2
theorem AxAt.same {H H' : Hp} {t : Addr} {a : Axiom} (e : Same H H') (h : AxAt H t a) : AxAt H' t a := by
  obtain ⟨x, y, h1, h2, h3⟩ := h
  exact ⟨x, y, e _ _ h1, h2.same e, h3.same e⟩
theorem AxAt.keep {H H' : Hp} {t : Addr} {a : Axiom} (h : AxAt H t a) (k : ∀ b xs, H b = some (.tup xs) → H' b = some (.tup xs)) : AxAt H' t a := by
  obtain ⟨x, y, h1, h2, h3⟩ := h
  exact ⟨x, y, k _ _ h1, k _ _ h2, k _ _ h3⟩
/-- a concept that may be asked of the object -/
structure Asks (L : List C) (c : C) : Prop where
  valid : Valid c
  short : (enc c).length ≤ 1000
  atoms : ∀ y ∈ c.atoms, y ∈ L
abbrev sPo : Stmt := inClass (top 10) 6
def spPo (K : PySem.W.Frag) (C : Addr) : Sp := fun vs H Q _ => ∃ (p xa : Addr) (ts : List Addr) (axs : List Axiom) (L : List Oc.C), vs = [.ref p, .ref xa] ∧ ProfF C H p L ∧ Good L ∧ H xa = some (.lst (ts.map V.ref)) ∧ Al2 (AxAt H) ts axs ∧
  (∀ a ∈ axs, Asks L a.1 ∧ Asks L a.2) ∧ ∀ (H' : Hp), Same H H' → Q (.int (poss L axs : Nat)) H'
theorem scPo : FnScope ["self", "axioms", "alive", "first", "second", "before", "profile"] ["self", "axioms"] (defScope sPo) := ⟨rfl, rfl, rfl, by decide +kernel, rfl, by decide +kernel, by decide +kernel⟩
theorem bit_int2 (b t : Nat) : (Builtin.bitAnd ((b : Int) / 2 ^ t) 1 != 0) = b.testBit t := by
  rw [← bit_eq, ← bit_int, Int.zero_add]
/-- the axioms' part of alive -/
def axm (L : List C) (m : Nat) (a : Axiom) : Nat := m &&& (((2 ^ 2 ^ L.length - 1) ^^^ ext L a.1) ||| ext L a.2)
section
variable {P : Program} {w : World} {K : PySem.W.Frag} {mg : Str → Option Value} {base : Heap} {C : Addr}
theorem ok_po {f : Addr} {fd : FuncData} (F : Fun K "possible" "Profiles.possible" sPo f fd) (T : PfTxt K mg C) (mSum : mg "sum" = none) (mRange : mg "range" = none)
    (cEx : MCalled P w K mg base C "extent" 3 ["self", "concept"] (spEx K C)) (cDm : MCalled P w K mg base C "demands_met" 1 ["self", "profile", "alive"] (spDm K C)) :
    FnOk P w K mg base CX0 4 f fd ["self", "axioms"] (spPo K C) := by
  refine F.ok scPo (fun vs H Q E h => ?_) (fun cdv A outer s H vs Q E hr h => ?_)
  · obtain ⟨p, xa, ts, axs, L, rfl, _⟩ := h
    rfl
  · refine ⟨_, pss_cons (ps_set (i := 2) scPo.nd rfl (Or.inl rfl) (pe_fld (pv 0) rfl))
      (pss_cons (ps_for PassesOwn.never rfl (pi_list (pv 1)) (pg_tup rfl (pgs_cons (pg_name (i := 3) scPo.nd rfl (Or.inl rfl)) (pgs_cons (pg_name (i := 4) scPo.nd rfl (Or.inl rfl)) pgs_nil)))
        (pss_one (ps_aug (i := 2) scPo.nd rfl (Or.inl rfl) (pe_op op_or (pe_op op_xor (pe_fld (pv 0) rfl) (pe_cm (pv 0) T.cl cEx hr (pa_cons (pv 3) pa_nil))) (pe_cm (pv 0) T.cl cEx hr (pa_cons (pv 4) pa_nil))) iop_and)))
      (pss_cons (ps_set (i := 5) scPo.nd rfl (Or.inr rfl) pe_int)
      (pss_cons (ps_while PassesOwn.never (pt_cmpR op_ne (pv 2) (pv 5) (nomark _))
        (pss_cons (ps_set (i := 5) scPo.nd rfl (Or.inr rfl) (pv 2))
        (pss_one (ps_set (i := 2) scPo.nd rfl (Or.inl rfl) (pe_callB (cr_sum rfl) (by rfl) mSum (by decide +kernel) (pa_cons
          (pe_lc (own := [("profile", 6)]) (g := gName 6) (by rfl) scPo.nd (pi_range1 rfl mRange (pa_cons (pe_fld (pv 0) rfl) pa_nil))
            (blkOk_by (own := [("profile", 6)]) (N := ["self", "axioms", "alive", "first", "second", "before", "profile"]) (sc := defScope sPo) (by decide +kernel))
            (fun _ _ _ _ _ => pg_name (i := 6) scPo.nd rfl (Or.inl rfl))
            (fun _ _ _ _ _ => pts_one (PW.pt (pw_and (pt_tru K (pe_op op_and (pe_op op_shrN (pv 5) (pv 6)) pe_int)) (pw_and1 (pt_val (pe_cm (pv 0) T.cl cDm (hr.mono (by decide)) (pa_cons (pv 6) (pa_cons (pv 5) pa_nil))))))))
            (fun _ _ _ _ _ => pe_op op_oneShl pe_int (pv 6))) pa_nil))))))
      (pss_one (ps_ret (pv 2)))))), ?_⟩
    obtain ⟨p, xa, ts, axs, L, rfl, hP, g, hxa, hax, hask, q⟩ := h
    have hP0 := hP
    obtain ⟨ld, ⟨dx, la, as, hp, hla, hA⟩, ds, hld, hds⟩ := hP
    have hN := g.total
    refine ⟨_, rfl, p, C, dx, _, _, rfl, hp, T.cl, T.nF, pF_full, ?_⟩
    refine ⟨_, rfl, xa, rfl, ⟨_, SqL.of hxa⟩, for_list (K := K) (a := xa) (xs := ts.map V.ref) (fun i σ H' => Same H H' ∧ ∃ (v3 v4 : Option V),
      σ = [some (.ref p), some (.ref xa), some (.int (((axs.take i).foldl (axm L) (2 ^ 2 ^ L.length - 1) : Nat) : Int)), v3, v4, none, none])
      ⟨Same.refl H, none, none, rfl⟩ (fun i σ H' _ ⟨sm, _⟩ => SqL.of (sm _ _ hxa)) ?_ ?_⟩
    · rintro i x σ H' hx ⟨sm, v3, v4, rfl⟩
      obtain ⟨t, ht, rfl⟩ := ref_at hx
      obtain ⟨a, hai, x, y, htt, hcx, hcy⟩ := hax.get ht
      obtain ⟨k1, k2⟩ := hask a (List.mem_of_getElem? hai)
      have step := foldl_take (axm L) (2 ^ 2 ^ L.length - 1) hai
      refine ⟨t, _, rfl, SqT.of (sm _ _ htt), rfl, _, _, rfl, _, _, rfl, rfl, ?_⟩
      refine ⟨_, rfl, _, rfl, p, C, dx, _, _, rfl, sm _ _ hp, T.cl, T.nF, pF_full, ?_⟩
      refine ⟨_, rfl, p, dx, _, rfl, sm _ _ hp, pF_no (by decide +kernel) (by decide +kernel) (by decide +kernel) (by decide +kernel), _, rfl, ?_⟩
      refine ⟨p, x, L, some ld, a.1, rfl, ProfAt.same sm ⟨dx, la, as, hp, hla, hA⟩, hcx.same sm, g, k1.valid, k1.short, k1.atoms, fun H2 s2 => ?_⟩
      have sm2 := sm.trans s2
      refine ⟨_, _, rfl, rfl, ?_⟩
      refine ⟨_, rfl, p, dx, _, rfl, sm2 _ _ hp, pF_no (by decide +kernel) (by decide +kernel) (by decide +kernel) (by decide +kernel), _, rfl, ?_⟩
      refine ⟨p, y, L, some ld, a.2, rfl, ProfAt.same sm2 ⟨dx, la, as, hp, hla, hA⟩, hcy.same sm2, g, k2.valid, k2.short, k2.atoms, fun H3 s3 => ?_⟩
      refine ⟨_, _, rfl, rfl, _, _, rfl, rfl, sm2.trans s3, some (.ref x), some (.ref y), ?_⟩
      rw [step]
      unfold axm
      rw [← and_nat, ← or_nat, ← xor_nat]
      rfl
    · rintro σ H' ⟨sm, v3, v4, rfl⟩
      have hst : (axs.take (ts.map V.ref).length).foldl (axm L) (2 ^ 2 ^ L.length - 1) = msk (2 ^ L.length) (Oc.keeps L axs) := by
        rw [List.length_map, hax.len, List.take_length]
        exact alive_start L axs
      rw [hst]
      refine while_by (fun σ H' => Same H H' ∧ ∃ (Pf : Nat → Bool) (b : Nat), σ = [some (.ref p), some (.ref xa), some (.int ((msk (2 ^ L.length) Pf : Nat) : Int)), v3, v4, some (.int (b : Int)), none] ∧ Goes L axs Pf ∧
          (b = msk (2 ^ L.length) Pf → ∀ t, t < 2 ^ L.length → stepP L Pf t = Pf t))
        (fun σ _ => 2 * cnt (2 ^ L.length) (stI σ 2).toNat + if stI σ 2 = stI σ 5 then 0 else 1) ⟨sm, Oc.keeps L axs, 0, rfl, goes_start L axs, fun e t ht => ?_⟩ ?_
        (fun σ H Q Q' h ⟨v, e, v2, e2, sc, k, ek, q⟩ => ⟨v, e, v2, e2, sc, k, ek, h _ _ q⟩)
      · have := msk_zero.1 e.symm t ht
        rw [stepP, this]
        rfl
      · rintro σ H' ⟨sm, Pf, b, rfl, hg, hcl⟩
        refine ⟨_, rfl, _, rfl, rfl, _, rfl, ?_⟩
        rw [vNE]
        cases hne : (msk (2 ^ L.length) Pf != b) with
        | false =>
          have e : msk (2 ^ L.length) Pf = b := by simpa using hne
          have := goes_end hg (hcl e.symm)
          refine iteF ⟨_, rfl, ?_⟩
          rw [poss_end this]
          exact q H' sm
        | true =>
          have e : msk (2 ^ L.length) Pf ≠ b := by simpa using hne
          refine iteT ⟨_, rfl, ?_⟩
          refine ⟨_, rfl, p, C, dx, _, _, rfl, sm _ _ hp, T.cl, T.nT, pF_total, _, rfl, rngLo _, rngHi (Nat.le_trans hN (by decide)), fun D hD => ?_⟩
          refine lc_range (lo := 0) (n := ((2 ^ L.length : Nat) : Int).toNat) (fun i H2 => Same H' H2 ∧ H2 D = some (.lst (mL i (stepP L Pf)))) ⟨same_upd hD, upd_same⟩ ?_ ?_
          · rintro i H2 hi ⟨sm2, hl⟩
            rw [Int.toNat_natCast] at hi
            refine ⟨rfl, ?_⟩
            refine ⟨_, rfl, _, rfl, _, i, rfl, by rw [Int.zero_add], _, _, rfl, rfl, _, rfl, ?_⟩
            rw [bit_int2, msk_bit, decide_eq_true hi, Bool.true_and]
            have ms := mL_succ i (stepP L Pf)
            cases hb : Pf i with
            | false =>
              have hs : stepP L Pf i = false := by rw [stepP, hb]; rfl
              rw [hs, if_neg Bool.false_ne_true] at ms
              refine iteF (iteF ⟨sm2, ?_⟩)
              rw [ms]
              exact hl
            | true =>
              refine iteT ?_
              have sm3 := sm.trans sm2
              refine ⟨_, rfl, p, dx, _, rfl, sm3 _ _ hp, pF_no (by decide +kernel) (by decide +kernel) (by decide +kernel) (by decide +kernel), _, rfl, _, rfl, ?_⟩
              refine ⟨p, i, msk (2 ^ L.length) Pf, L, by rw [Int.zero_add]; rfl, hP0.same sm3, g, hi, fun H4 s4 => ⟨_, rfl, ?_⟩⟩
              rw [dems_borne g.closed g.nodup (roles_of_valid g.valid)]
              have hs : stepP L Pf i = Oc.borne L (lst (2 ^ L.length) Pf) i := by rw [stepP, hb]; rfl
              rw [← hs]
              cases hb2 : stepP L Pf i with
              | false =>
                rw [hb2, if_neg Bool.false_ne_true] at ms
                refine iteF ⟨sm2.trans s4, ?_⟩
                rw [ms]
                exact s4 _ _ hl
              | true =>
                rw [hb2, if_pos rfl] at ms
                refine iteT ⟨_, rfl, i, rfl, by rw [Int.zero_add], by omega, _, s4 _ _ hl, ?_, ?_, ?_⟩
                · have := mL_len i (stepP L Pf)
                  exact small_lt (by omega)
                · exact samePut (sm2.trans s4) hD
                · rw [upd_same, ms, pow_int]
          · rintro H2 ⟨sm2, hl⟩
            rw [Int.toNat_natCast] at hl
            obtain ⟨ns, e1, e2⟩ := mL_sum (2 ^ L.length) (stepP L Pf)
            refine ⟨D, ns, rfl, SqL.of (by rw [hl, e1]), ?_⟩
            rw [e2]
            refine ⟨⟨sm.trans sm2, stepP L Pf, msk (2 ^ L.length) Pf, rfl, goes_step hg, fun e2 t ht => ?_⟩, ?_⟩
            · have hP : ∀ t, t < 2 ^ L.length → Pf t = stepP L Pf t := msk_inj e2
              rw [stepP, ← lst_ext hP]
              cases hh : stepP L Pf t with
              | false => rfl
              | true =>
                rw [stepP, Bool.and_eq_true] at hh
                rw [hh.2]
                rfl
            · show 2 * cnt (2 ^ L.length) (((msk (2 ^ L.length) (stepP L Pf) : Nat) : Int)).toNat + (if ((msk (2 ^ L.length) (stepP L Pf) : Nat) : Int) = ((msk (2 ^ L.length) Pf : Nat) : Int) then 0 else 1) <
                2 * cnt (2 ^ L.length) (((msk (2 ^ L.length) Pf : Nat) : Int)).toNat + (if ((msk (2 ^ L.length) Pf : Nat) : Int) = (b : Int) then 0 else 1)
              rw [if_neg (show ¬ ((msk (2 ^ L.length) Pf : Nat) : Int) = (b : Int) by omega), Int.toNat_natCast, Int.toNat_natCast]
              by_cases h : msk (2 ^ L.length) (stepP L Pf) = msk (2 ^ L.length) Pf
              · rw [h, if_pos rfl]
                omega
              · have := cnt_step h
                split <;> omega
end
end Mx
set_option Elab.async false
set_option maxRecDepth 100000
set_option maxHeartbeats 2000000
namespace Mx
open PySem PySem.Spec PyProof.Rows L2
/-- xs.extend(t), t a tuple -/
theorem ext_tup (l : Addr) (items : Array Value) (n : Nat) (b : Addr) (items2 : Array Value) (n2 : Nat) (d2 : Option Addr) (sl2 : Array (Option Value)) (hs0 : ¬(!items.isEmpty && Builtin.List.listTooLong (items.size + items2.size)) = true) (hs1 : items.size ≤ sizeLine) (hs2 : items.size + items2.size ≤ sizeLine + 1) :
    Meets (Builtin.«list.extend» ⟨[.ref l, .ref b], []⟩) (fun _ R s => s.heap.get? l = some { cls := .type "list", dict := none, data := .seq items n, slots := #[] } ∧ s.heap.get? b = some { cls := .type "tuple", dict := d2, data := .seq items2 n2, slots := sl2 } ∧ R (.ok (.ret Value.none)) { s with heap := s.heap.update l (Obj.mapSeq fun x => x ++ items2), toks := s.toks }) :=
  .of_wp fun _ _ _ _ s h => by
    obtain ⟨_, _, _, _, _⟩ := s; obtain ⟨hl, hb, h⟩ := h; have f1 := AutoSeq1.idx_int; have f2 := AutoSeq1.sub_tuple_tuple; have f3 := AutoSeq1.sub_list_list; have f4 := AutoSeq1.sub_tuple_list; have f5 := AutoSeq1.sub_list_tuple;
    have room : (items ++ items2).size ≤ sizeLine + 1 := Array.size_append ▸ hs2
    wp_walk using (wpAny_updateSeq hl rfl (hz := hs1) (_hz' := room)), AutoSeq1.wpAny_loadPart' hl, AutoSeq1.wpAny_loadPart' hb; exact ⟨_, rfl, h⟩
def rExtT (K : PySem.W.Frag) : V → List V → Hp → VK → Prop := fun x vs H Q => ∃ l b xs zs, x = .ref l ∧ vs = [.ref b] ∧ H l = some (.lst xs) ∧ SqT K H b zs ∧ xs.length + zs.length ≤ sizeLine ∧ Q .non (upd H l (.lst (xs ++ zs)))
theorem mt_extT {X : Cx} : MtM X "list.extend" (rExtT X.K) := by
  intro pins s σ H _ _ v us Q I rx rv ⟨l, b, xs, zs, ex, evs, hH, hB, hz, q⟩
  subst ex evs
  cases rx
  obtain ⟨u, rfl, ru⟩ := rv.one
  cases ru
  obtain ⟨_, old, n, r, hl, e⟩ := I.lstM hH
  obtain ⟨new, r2, ⟨⟨cls, dd, data, sls⟩, e2, hc, n2, hd⟩, hz2⟩ := I.tuple hB
  simp only at hc hd
  subst hc hd
  have hl2 := r2.length
  have fits : old.toArray.size + new.toArray.size ≤ sizeLine := by
    simp only [List.size_toArray]
    omega
  have short : ¬ (!old.toArray.isEmpty && Builtin.List.listTooLong (old.toArray.size + new.toArray.size)) = true := fun z => by
    rw [notLongL fits, Bool.and_false] at z
    cases z
  have meets := ext_tup l old.toArray n b new.toArray n2 dd sls short (by rw [List.size_toArray]; omega) (by omega)
  refine call_meets F.slot_list_extend ⟨_, e, rfl⟩ F.entry_list_extend (F.args_list_extend_2 _ _) meets ⟨e, e2, .non, _, I.lset (its' := old ++ new) hH e (by simp) (r.append r2) ?_, rfl, q⟩
  rw [List.length_append]
  omega
end Mx
set_option Elab.async false
set_option linter.all false
set_option maxRecDepth 100000
set_option maxHeartbeats 4000000
/-! sorted(xs, key=f): xs a list of lists of whole numbers, f a function of the program that makes a tuple of a number and the list. -/
namespace Mx
open PySem PySem.Spec PyProof.Rows L2
open PySem.W (KeepsBut EachIs AllAlike Sortable SortsAt dataKind KeyedOut keyH_end keyedOut_each dataLe each_snoc copyHeap copyHeap_at copyHeap_old sorted_of_sort)
/-- an item: where it stands, its numbers -/
abbrev SIt := Addr × List Nat
def keyD (x : SIt) : PyData := .tuple [.int (x.2.length : Nat), .list (x.2.map fun (n : Nat) => PyData.int (n : Int))]
def KeyAt (H : Hp) (u : Value) (x : SIt) : Prop := ∃ t : Addr, u = Value.ref t ∧ H t = some (.tup [.int (x.2.length : Nat), .ref x.1]) ∧ H x.1 = some (.lst (Nv x.2))
def ItAt (u : Value) (x : SIt) : Prop := u = Value.ref x.1
theorem KeyAt.same {H H' : Hp} (s : Same H H') {u : Value} {x : SIt} (h : KeyAt H u x) : KeyAt H' u x := by
  obtain ⟨t, rfl, h1, h2⟩ := h
  exact ⟨t, rfl, s _ _ h1, s _ _ h2⟩
section
variable {X : Cx}
/-- how far the sorting has come: kS holds the keys so far, a is the list that is sorted; both are ours alone -/
structure Mid (X : Cx) (s0 : Shared) (H0 : Hp) (kS a : Addr) (H : Hp) (s : Shared) : Prop where
  os : s.os = s0.os
  bare : AllBare s.gens
  un : Un (frs X.stack) [] H0 H s0.heap s.heap
  hok : HOk X.prog X.w H s.heap
  same : Same H0 H
  nk : H kS = none
  na : H a = none
variable {s0 s : Shared} {H0 H : Hp} {kS a : Addr} {pins : List (Addr × Obj)} {σ : L2.St}
theorem Mid.inv (I : Inv X pins σ H0 s0) (m : Mid X s0 H0 kS a H s) : Inv X pins σ H s :=
  I.call' m.os m.un m.hok m.bare (fun _ z => nomatch z)
/-- our two lists have changed -/
theorem Mid.but {h' : Heap} {tk : Nat} (m : Mid X s0 H0 kS a H s) (gk : s0.heap.objs.size ≤ kS) (ga : s0.heap.objs.size ≤ a) (k : ∀ b o, b ≠ kS → b ≠ a → s.heap.get? b = some o → h'.get? b = some o) :
    Mid X s0 H0 kS a H { s with heap := h', toks := tk } := by
  have old : ∀ b o, s0.heap.get? b = some o → b ≠ kS ∧ b ≠ a := fun b o e => by
    have := Heap.lt_size e
    exact ⟨Nat.ne_of_lt (Nat.lt_of_lt_of_le this gk), Nat.ne_of_lt (Nat.lt_of_lt_of_le this ga)⟩
  refine ⟨m.os, m.bare, ⟨fun b o e n hf hx => ?_, fun b o e n hf hx => ?_, m.un.free, fun b o e hx => ?_, m.un.tups, m.un.frzs, m.un.tbls⟩, fun b u e => ?_, m.same, m.nk, m.na⟩
  · exact k b o (old b o e).1 (old b o e).2 (m.un.keep b o e n hf hx)
  · obtain ⟨sl, q⟩ := m.un.slot b o e n hf hx
    exact ⟨sl, k b _ (old b o e).1 (old b o e).2 q⟩
  · obtain ⟨o', q⟩ := m.un.there b o e hx
    exact ⟨o', k b _ (old b o e).1 (old b o e).2 q⟩
  · have nk : ∀ {c : Addr} {v : HO}, H c = some v → c ≠ kS ∧ c ≠ a := fun {c v} q => ⟨fun z => (by rw [z, m.nk] at q; cases q), fun z => (by rw [z, m.na] at q; cases q)⟩
    refine (m.hok b u e).stay (fun c v hc q => ?_) (fun _ q => q) (fun _ _ q => q)
    rcases hc with z | z
    · subst z
      exact k c v (nk e).1 (nk e).2 q
    · exact k c v (nk z).1 (nk z).2 q
/-- the key function's call -/
def Turn (X : Cx) (A : Around) (f : Value) (s0 : Shared) (H0 : Hp) (bs : List SIt) : Prop :=
  ∀ (x : SIt) (s : Shared) (H : Hp) (pins : List (Addr × Obj)) (σ : L2.St), x ∈ bs → Inv X pins σ H s → Same H0 H → Un (frs X.stack) [] H0 H s0.heap s.heap → H x.1 = some (.lst (Nv x.2)) →
    wpAny (model X.prog X.w) A (call f [Value.ref x.1]) (fun u s' => ∃ H', s'.os = s.os ∧ AllBare s'.gens ∧ Un (frs X.stack) [] H H' s.heap s'.heap ∧ HOk X.prog X.w H' s'.heap ∧ Same H H' ∧ KeyAt H' u x) (fun _ _ => False) s
theorem keys_read {H : Hp} {s : Shared} (I : Inv X pins σ H s) : ∀ {us : List Value} {bs : List SIt}, EachIs (KeyAt H) us bs → EachIs (fun v k => ∃ as, Reads s.heap v k as) us (bs.map keyD)
  | _, _, .nil => .nil
  | _, _, .cons (b := x) h t => by
    obtain ⟨p, rfl, h1, h2⟩ := h
    have d : Dp X.K H (.ref p) (keyD x) := .tup (SqT.of h1) (.cons (.int _) (.cons (.lst (SqL.of h2) (nD_ints X.K H x.2)) .nil))
    exact .cons (Dp.reads I _ _ _ d rfl) (keys_read I t)
theorem keyD_alike : ∀ xs ys : List Nat, PySem.W.alikeAll (xs.map fun (n : Nat) => PyData.int (n : Int)) (ys.map fun (n : Nat) => PyData.int (n : Int)) = true
  | [], _ => by simp [PySem.W.alikeAll]
  | x :: xs, [] => by simp [PySem.W.alikeAll]
  | x :: xs, y :: ys => by
    simp only [List.map_cons, PySem.W.alikeAll, PySem.W.alike, Bool.true_and]
    exact keyD_alike xs ys
theorem keyDs_alike (bs : List SIt) : AllAlike (bs.map keyD) := by
  intro d hd d' hd'
  obtain ⟨x, _, rfl⟩ := List.mem_map.1 hd
  obtain ⟨y, _, rfl⟩ := List.mem_map.1 hd'
  simp only [keyD, PySem.W.alike, PySem.W.alikeAll, Bool.true_and, Bool.and_true]
  exact keyD_alike x.2 y.2
theorem keyDs_sortable (bs : List SIt) : Sortable (bs.map keyD) := .inl fun d hd => by
  obtain ⟨x, _, rfl⟩ := List.mem_map.1 hd
  exact ⟨_, _, rfl⟩
theorem keyD_depth (x : SIt) : (keyD x).depth ≤ 3 := by
  have := nD_depthAll x.2
  simp only [keyD, PyData.depth, PyData.depthAll]
  omega
/-- the keys are made one by one, then the machine sorts -/
theorem srt_rest {A : Around} {f : Value} {P : PySem.Fin → Shared → Prop} {E : Value → Shared → Prop} {vs : List Value} {bs : List SIt} {e1 : Nat} (I0 : Inv X pins σ H0 s0) (gk : s0.heap.objs.size ≤ kS) (ga : s0.heap.objs.size ≤ a) (hka : kS ≠ a)
    (m : Mid X s0 H0 kS a H0 s) (nk : s.heap.get? kS = some (seqObj "list" #[] 0)) (na : s.heap.get? a = some (seqObj "list" #[] e1)) (ev : EachIs ItAt vs bs) (hb : ∀ x ∈ bs, H0 x.1 = some (.lst (Nv x.2))) (hL : vs.length ≤ sizeLine)
    (hu : A.units + 3 < cLine) (turn : Turn X A f s0 H0 bs)
    (fin : ∀ (H : Hp) (s' : Shared) (out : List Value) (c : Nat), Mid X s0 H0 kS a H s' → s'.heap.get? a = some (seqObj "list" out.toArray c) → out.length = bs.length → EachIs ItAt out (bs.mergeSort (dataLe false keyD)) → P (.done (.ret .none)) s') :
    wpAny (model X.prog X.w) A (PyProof.Rows.ksk_rest a f false vs.toArray e1 (.ref kS)) P E s := by
  have hlen : vs.length = bs.length := ev.length
  have fresh : ∀ {c : Addr}, s0.heap.objs.size ≤ c → c ∉ frs X.stack := fun {c} g z => by
    have := I0.stkSub c z
    rcases List.mem_cons.1 this with z | z
    · have l := I0.lt
      rw [← z] at l
      exact Nat.lt_irrefl _ (Nat.lt_of_lt_of_le l g)
    · exact I0.nofs g z
  unfold PyProof.Rows.ksk_rest
  refine wpAny_bind (wpAny_rule ?_)
  rw [List.forIn_toArray]
  refine wpAny_bind (PyProof.Rows.ksk_fold (fun i s' => ∃ H kA e, Mid X s0 H0 kS a H s' ∧ s'.heap.get? kS = some (seqObj "list" kA e) ∧ s'.heap.get? a = some (seqObj "list" #[] e1) ∧ EachIs (KeyAt H) kA.toList (bs.take i)) vs 0 s
    ⟨H0, #[], 0, m, nk, na, by rw [List.take_zero]; exact .nil⟩ ?_ ?_)
  · rintro j x s' hx ⟨H, kA, e, m, nk, na, hk⟩
    simp only [Nat.zero_add] at hk ⊢
    have hj : j < bs.length := by
      have := (List.getElem?_eq_some_iff.mp hx).1
      omega
    obtain ⟨y, hy⟩ : ∃ y, bs[j]? = some y := ⟨_, List.getElem?_eq_getElem hj⟩
    have hym := List.mem_of_getElem? hy
    have exy : x = Value.ref y.1 := ev.zip (x, y) (List.mem_of_getElem? (i := j) (by rw [List.getElem?_zip_eq_some]; exact ⟨hx, hy⟩))
    subst exy
    have hkl := hk.length
    rw [Array.length_toList, List.length_take] at hkl
    refine wpAny_bind (wpAny_attempt (wpAny_mono (turn y s' H pins σ hym (m.inv I0) m.same m.un (m.same _ _ (hb y hym))) (fun u s2 hq => ?_) fun _ _ q => q.elim))
    obtain ⟨H2, o2, b2, u2, k2, sm2, kt2⟩ := hq
    have nk2 : s2.heap.get? kS = some (seqObj "list" kA e) := u2.keep kS _ nk m.nk (fresh gk) (by simp)
    have na2 : s2.heap.get? a = some (seqObj "list" #[] e1) := u2.keep a _ na m.na (fresh ga) (by simp)
    have m2 : Mid X s0 H0 kS a H2 s2 := ⟨o2.trans m.os, b2, m.un.trans u2, k2, m.same.trans sm2, u2.free kS _ nk m.nk (by simp), u2.free a _ na m.na (by simp)⟩
    have sb := Heap.SameBut.update s2.heap kS (Obj.mapSeq (·.push u))
    obtain ⟨c2, hc2⟩ : ∃ c2, (s2.heap.update kS (Obj.mapSeq (·.push u))).get? kS = some (seqObj "list" (kA.push u) c2) := ⟨_, get?_update_seq nk2 (·.push u)⟩
    have hz : kA.size ≤ sizeLine := by omega
    refine wpAny_bind (listUpdate_at nk2 rfl ?_ hz (by rw [Array.size_push]; omega))
    refine wpAny_pure ⟨rfl, H2, kA.push u, c2, m2.but gk ga (fun b o h1 _ q => (sb.2 b h1).trans q), hc2, (sb.2 a hka.symm).trans na2, ?_⟩
    rw [Array.toList_push, List.take_add_one, hy, Option.toList_some]
    exact each_snoc kt2 (hk.mono fun u d q => q.same sm2)
  · rintro s' ⟨H, kA, e, m, nk, na, hk⟩
    have hfull : bs.take (0 + vs.length) = bs := List.take_of_length_le (by omega)
    rw [hfull] at hk
    have hkr := keys_read (m.inv I0) hk
    have hsz : kA.size = vs.length := by
      have := hk.length
      rw [Array.length_toList] at this
      omega
    refine wpAny_bind (listItems_at nk rfl ?_)
    have hid : ∀ b : Addr, b ≠ kS → (fun b : Addr => if b = kS then some (HO.lst []) else none) b = none := fun b hb => if_neg hb
    refine keyH_end (κ := dataKind s'.heap (bs.map keyD)) (h₁ := hidT s'.heap fun b => if b = kS then some (HO.lst []) else none) (fun b o _ q => (of_hidT q).1) ?_ nk na hka
      (SortsAt.data hkr (keyDs_alike bs) (keyDs_sortable bs) fun d hd => ?_) hsz hL fun h' tk c kp hout => ?_
    · cases q : (hidT s'.heap fun b => if b = kS then some (HO.lst []) else none).get? kS with
      | none => rfl
      | some o =>
        have := (of_hidT q).2
        rw [if_pos rfl] at this
        cases this
    · obtain ⟨x, _, rfl⟩ := List.mem_map.1 hd
      have := keyD_depth x
      omega
    · have ko : KeyedOut false (bs.map keyD) vs (PySem.W.sortVals (dataKind s'.heap (bs.map keyD)) false kA.toList vs) := ⟨s'.heap, kA.toList, keyDs_alike bs, rfl, hkr⟩
      refine fin H _ _ c (m.but gk ga fun b o h1 h2 q => kp b o h2 (hidT_get q (hid b h1))) hout ?_ (keyedOut_each keyD ko ev)
      rw [ko.length (by rw [List.length_map]; exact hlen.symm), hlen]
theorem srt_tree {A : Around} {f : Value} {P : PySem.Fin → Shared → Prop} {E : Value → Shared → Prop} {vs : List Value} {bs : List SIt} {n : Nat} (I0 : Inv X pins σ H0 s0) (ga : s0.heap.objs.size ≤ a)
    (m : ∀ kS, s.heap.objs.size ≤ kS → Mid X s0 H0 kS a H0 s) (ho : s.heap.get? a = some (seqObj "list" vs.toArray n)) (ev : EachIs ItAt vs bs) (hb : ∀ x ∈ bs, H0 x.1 = some (.lst (Nv x.2))) (hL : vs.length ≤ sizeLine)
    (hu : A.units + 3 < cLine) (turn : Turn X A f s0 H0 bs)
    (fin : ∀ (kS : Addr) (H : Hp) (s' : Shared) (out : List Value) (c : Nat), Mid X s0 H0 kS a H s' → s'.heap.get? a = some (seqObj "list" out.toArray c) → out.length = bs.length → EachIs ItAt out (bs.mergeSort (dataLe false keyD)) → P (.done (.ret .none)) s') :
    wpAny (model X.prog X.w) A (PyProof.Rows.ksk_tree a f false) P E s := by
  have inside : a < s.heap.objs.size := Heap.lt_size ho
  have sb := Heap.SameBut.update s.heap a (Obj.mapSeq fun _ => (#[] : Array Value))
  obtain ⟨ep, emptied⟩ : ∃ ep, (s.heap.update a (Obj.mapSeq fun _ => (#[] : Array Value))).get? a = some (seqObj "list" #[] ep) := ⟨_, get?_update_seq ho fun _ => #[]⟩
  have hs1 : (s.heap.update a (Obj.mapSeq fun _ => (#[] : Array Value))).objs.size = s.heap.objs.size := Heap.size_update ..
  have hs2 : ((s.heap.update a (Obj.mapSeq fun _ => (#[] : Array Value))).push (seqObj "tuple" vs.toArray 0)).objs.size = s.heap.objs.size + 1 := by rw [size_push', hs1]
  unfold PyProof.Rows.ksk_tree
  refine wpAny_bind (listItems_at ho rfl (wpAny_bind (listUpdate_at ho rfl ?_ (by rw [List.size_toArray]; exact hL) (Nat.zero_le _))))
  refine wpAny_bind (seqEpoch_at emptied rfl (wpAny_bind (wpAny_newTuple (wpAny_bind (wpAny_newList ?_ (Nat.zero_le _))) (by show vs.length ≤ _; exact hL))))
  refine wpAny_holding ?_
  have hkS : ((s.heap.update a (Obj.mapSeq fun _ => (#[] : Array Value))).push (seqObj "tuple" vs.toArray 0)).objs.size ≠ a := by rw [hs2]; exact Nat.ne_of_gt (Nat.lt_succ_of_lt inside)
  have m' := m _ (show s.heap.objs.size ≤ ((s.heap.update a (Obj.mapSeq fun _ => (#[] : Array Value))).push (seqObj "tuple" vs.toArray 0)).objs.size by rw [hs2]; exact Nat.le_succ _)
  have h0 : s0.heap.objs.size ≤ ((s.heap.update a (Obj.mapSeq fun _ => (#[] : Array Value))).push (seqObj "tuple" vs.toArray 0)).objs.size := by rw [hs2]; exact Nat.le_of_lt (Nat.lt_of_le_of_lt ga (Nat.lt_succ_of_lt inside))
  exact srt_rest (s := { s with heap := ((s.heap.update a (Obj.mapSeq fun _ => (#[] : Array Value))).push (seqObj "tuple" vs.toArray 0)).push (seqObj "list" #[] 0) }) I0 h0 ga hkS
    (m'.but h0 ga fun b o _ h2 q => Heap.get?_push_of_some _ (Heap.get?_push_of_some _ ((sb.2 b h2).trans q))) (Heap.get?_push_size _ rfl) (Heap.get?_push_of_some _ (Heap.get?_push_of_some _ emptied)) ev hb hL hu turn (fin _)
/-- sorted(xs, key=f) -/
theorem srt_call {f : Value} {l : Addr} {Q : VK} {as : List Addr} {bs : List SIt} {q : Addr} (hf : f = Value.ref q) (I : Inv X pins σ H s) (hl : SqL X.K H l (as.map V.ref)) (eb : bs.map (·.1) = as) (hb : ∀ x ∈ bs, H x.1 = some (.lst (Nv x.2)))
    (hu : X.A.units + 5 < cLine) (turn : Turn X X.A.in1.in1 f s H bs)
    (fin : ∀ (H' : Hp) (p : Addr), Same H H' → H p = none → H' p = some (.lst ((bs.mergeSort (dataLe false keyD)).map fun x => V.ref x.1)) → Q (.ref p) H') :
    wpAny (model X.prog X.w) X.A (call (.builtin "sorted") [Value.ref l] [(Str.ofString "key", f)]) (EP X pins σ Q) X.xe s := by
  subst hf
  obtain ⟨vs, rv, hpl, hz⟩ := I.list hl
  have hvl := rv.length
  have ev : EachIs ItAt vs bs := by
    subst eb
    clear hl hpl hz hvl hb turn fin
    induction bs generalizing vs with
    | nil => cases rv; exact .nil
    | cons x bs ih =>
      cases rv with
      | cons r1 r2 => exact .cons r1 (ih _ r2)
  have hbl : bs.length = vs.length := ev.length.symm
  rw [hvl] at hz
  refine sorted_of_sort hpl.isList hz (PyProof.Rows.ksk_s1 _ _) (fun _ => PyProof.Rows.ksk_l1 _ _) fun E' => ?_
  rw [PyProof.Rows.ksk_t1]
  have hca := copyHeap_at s.heap vs
  have hH0 : ∀ {c : Addr}, s.heap.objs.size ≤ c → H c = none := fun {c} g => I.hok.fresh g
  have kp : ∀ b o, s.heap.get? b = some o → (copyHeap s.heap vs).get? b = some o := fun b o q => copyHeap_old q
  have sz : s.heap.objs.size + 1 < (copyHeap s.heap vs).objs.size := Heap.lt_size hca
  refine srt_tree (s0 := s) (s := { s with heap := copyHeap s.heap vs }) (H0 := H) I (Nat.le_succ _) (fun kS g => ⟨rfl, I.bare, Un.kept kp, I.hok.kept kp, Same.refl H, hH0 (Nat.le_trans (Nat.le_of_lt (Nat.lt_of_succ_lt sz)) g), hH0 (Nat.le_succ _)⟩)
    hca ev hb hz (by show X.A.units + 1 + 1 + 3 < cLine; omega) turn fun kS H' s' out c m hout hol hall => ⟨rfl, ?_⟩
  have hvals : Vals ((bs.mergeSort (dataLe false keyD)).map fun x => V.ref x.1) out := by
    generalize bs.mergeSort (dataLe false keyD) = cs at hall
    clear hout hol
    induction hall with
    | nil => exact .nil
    | cons h _ ih =>
      have h : _ = Value.ref _ := h
      subst h
      exact .cons rfl ih
  have hcl := hvals.length
  have J : Inv X pins σ (upd H' (s.heap.objs.size + 1) (.lst ((bs.mergeSort (dataLe false keyD)).map fun x => V.ref x.1))) s' := by
    have hpn : H' (s.heap.objs.size + 1) = none := m.na
    have un2 : Un (frs X.stack) [] H (upd H' (s.heap.objs.size + 1) (.lst ((bs.mergeSort (dataLe false keyD)).map fun x => V.ref x.1))) s.heap s'.heap := by
      have ne : ∀ b o, s.heap.get? b = some o → b ≠ s.heap.objs.size + 1 := fun b o q => Nat.ne_of_lt (Nat.lt_succ_of_lt (Heap.lt_size q))
      have tne : ∀ {b : Addr} {o : HO}, H b = some o → b ≠ s.heap.objs.size + 1 := fun {b o} q => ne_of_none q (hH0 (Nat.le_succ _))
      refine ⟨m.un.keep, m.un.slot, fun b o e n hx => ?_, m.un.there, fun b xs e => ?_, fun b o u e => ?_, fun b ps e => ?_⟩
      · rw [upd_ne (ne b o e)]
        exact m.un.free b o e n hx
      · rw [upd_ne (tne e)]
        exact m.un.tups b xs e
      · rw [upd_ne (tne e)]
        exact m.un.frzs b o u e
      · rw [upd_ne (tne e)]
        exact m.un.tbls b ps e
    refine I.call' m.os un2 (fun b u e => ?_) m.bare (fun _ z => nomatch z)
    by_cases hb : b = s.heap.objs.size + 1
    · subst hb
      rw [upd_same] at e
      cases e
      exact ⟨by rw [hcl, hol, hbl]; exact hz, out, c, hvals, hout⟩
    · rw [upd_ne hb] at e
      refine (m.hok b u e).stay (fun d v _ q => q) (fun d q => ?_) (fun d xs q => ?_)
      · rw [upd_ne (ne_of_none q hpn)]
        exact q
      · rw [upd_ne (ne_of_none q hpn)]
        exact q
  exact ⟨.ref _, _, J, rfl, fin _ _ (samePut m.same (hH0 (Nat.le_succ _))) (hH0 (Nat.le_succ _)) upd_same⟩
end
end Mx
set_option Elab.async false
set_option linter.all false
set_option maxRecDepth 100000
set_option maxHeartbeats 4000000
/-! A lambda of one parameter that captures nothing, made where it is handed on as a key. -/
namespace Mx
open PySem PySem.Spec PyProof.Rows L2 LamX NdefX
/-- its words -/
structure LF where
  qual : Str
  params : Arguments
  body : Expr
  scope : Scope
  c : Addr
def LF.nf (L : LF) : NF := ⟨"<lambda>", L.qual, L.params, [], L.scope, [], L.c⟩
section
variable {CX : CXT} {P : Program} {w : World} {K : PySem.W.Frag} {mg : Str → Option Value} {base : Heap} {N ps : List Str} {L : LF} {f : Addr} {A : Around} {outer : List Env} {s : Shared} {H : Hp} {E : XK} {Q : VK} {us : List Value} {vs : List V} {k : Nat}
theorem lam_call (S : NScope N ps [] L.scope) (hbind : ∀ (pm ctv : Value) (us : List Value), us.length = ps.length → bindArgs (PySem.W.kla_fn "<lambda>" L.qual L.params L.body L.scope [] pm (.ref L.c) ctv) ⟨us, []⟩ = pure (ps.zip us))
    (hr : Room (k + 1) A) (e0 : Env0 P w K mg base A outer s H) {pm ctv : Value} (ho : s.heap.get? f = some (PySem.W.kla_obj "<lambda>" L.qual L.params L.body L.scope [] pm L.c ctv)) (hc : H L.c = some (CodeO L.c L.qual)) (r : Vals vs us) (hl : vs.length = ps.length)
    {t : TE} (hbody : PE (ncx CX P w K mg base N L.nf f A outer s H E) L.body t) (hq : t (startF N vs []) H Q) : codeAny (model P w) A (.call (.ref f) ⟨us, []⟩) (CR CX outer P w H s Q E) s := by
  have free : s.heap.NoLimit := e0.mod.nolimit.keeps fun b o z => (e0.bs b o z).1
  refine PySem.W.kla_callFunE hr.depth ho rfl S.co S.gen rfl (codeO_at e0.hok hc) ?_
  rw [hbind pm ctv us (by rw [← r.length]; exact hl)]
  refine wpAny_pure (wpAny_newFunctionEnv S.nocell (fun ⟨n, _⟩ hy => S.par n (List.of_mem_zip hy).1) (fun h₁ hns hsb => ⟨free.fresh _ hsb, ?_⟩) S.kind)
  have kp : ∀ b o, s.heap.get? b = some o → h₁.get? b = some o := fun b o there => hsb.extBut b o (Nat.ne_of_lt (Heap.lt_size there)) (Heap.get?_push_of_some _ there)
  have cells : CellsAt L.nf.cl [] [] s.heap H := ⟨rfl, fun y c z => absurd (show (none : Option Addr) = some c from z) (by simp), fun x y c z => absurd (show (none : Option Addr) = some c from z) (by simp), fun i y z => absurd z (by simp)⟩
  have I : L2.Inv (ncx CX P w K mg base N L.nf f A outer s H E) [] (startF N vs []) H { s with heap := h₁, toks := s.toks + (ps.zip us).length } := inv_startN S hr.hd e0 hl r cells hns kp
  show codeAny _ _ (.expr L.body (envF L.nf f s.heap.objs.size)) _ _
  refine PySem.W.kla_codeExpr (wpAny_mono (hbody.run [] _ (startF N vs []) H Q I hq) (fun v s' hs => ?_) fun e s' hs => hs)
  obtain ⟨v', H', J, rv, q⟩ := hs
  exact ⟨v', H', J.os, J.bare, J.base, J.hok, rv, q⟩
end
/-- lambda x: (len(x), x), as a text -/
structure KeyLam (x : Str) (params : Arguments) (body : Expr) (scope : Scope) : Prop where
  hbody : ∃ p1 p2 p3 p4 p5 k, body = .Tuple [.Call (.Name "len" p1) [.Name x p2] [] p3, .Name x p4] k p5
  hscope : NScope [x] [x] [] scope
  hlen : scope.names.lookup ("len" : Str) = some NameKind.globalImplicit
  nodebug : (x == ("__debug__" : Str)) = false
  noclass : (x == ("__classdict__" : Str)) = false
  bind : ∀ (qual : Str) (c : Addr) (pm ctv : Value) (us : List Value), us.length = 1 → bindArgs (PySem.W.kla_fn "<lambda>" qual params body scope [] pm (.ref c) ctv) ⟨us, []⟩ = pure ([x].zip us)
section
variable {X : Cx} {s s0 : Shared} {H H0 : Hp} {pins : List (Addr × Obj)} {σ : L2.St} {k : Nat} {x : Str} {params : Arguments} {body : Expr} {scope : Scope}
theorem lam_turn (kl : KeyLam x params body scope) (hr : Room (k + 3) X.A) (mLen : X.mg "len" = none) {q : Str} {f c : Addr} {pm ctv : Value} {bs : List SIt} (ho : s0.heap.get? f = some (PySem.W.kla_obj "<lambda>" q params body scope [] pm c ctv)) (hf : H0 f = none) (hfr : f ∉ frs X.stack)
    (hc : H0 c = some (CodeO c q)) : Turn X X.A.in1.in1 (.ref f) s0 H0 bs := by
  intro y s H pins σ hy I sm un hl
  have ho' : s.heap.get? f = some (PySem.W.kla_obj "<lambda>" q params body scope [] pm c ctv) := un.keep f _ ho hf hfr (by simp)
  have e0 : Env0 X.prog X.w X.K X.mg X.base X.A.in1.in1 X.stack s H := by
    have e := I.env0
    exact ⟨e.frames, e.mod, e.bs, e.bsz, e.funs, e.frf, e.hok, e.bare⟩
  obtain ⟨p1, p2, p3, p4, p5, kk, hb⟩ := kl.hbody
  have r1 : Room (k + 1) X.A.in1.in1 := Room.in1 (Room.in1 hr)
  refine wpAny_call (codeAny_mono (lam_call (L := ⟨q, params, body, scope, c⟩) (CX := CX0) (E := E0) (N := [x]) (ps := [x]) (vs := [V.ref y.1]) (us := [Value.ref y.1])
    (Q := fun v H' => Same H H' ∧ ∃ t : Addr, v = V.ref t ∧ H' t = some (.tup [.int (y.2.length : Nat), .ref y.1]) ∧ H' y.1 = some (.lst (Nv y.2))) kl.hscope (fun pm ctv us h => kl.bind q c pm ctv us h) r1 e0 ho' (sm _ _ hc) (.cons rfl .nil) rfl
    (t := tTup (tCons (tCB (fun xs H Q => ∃ p ys, xs = [V.ref p] ∧ (SqL X.K H p ys ∨ SqT X.K H p ys) ∧ Q (.int ys.length) H) (tCons (tVar 0) tNil)) (tCons (tVar 0) tNil))) ?_ ?_) fun r s' hq => ?_)
  · show PE _ body _
    rw [hb]
    have hv : ∀ {Y : Cx}, Y.env.scope = scope → Vis Y.env.scope x := fun {Y} e => by rw [e]; exact .inl (kl.hscope.par x (by simp))
    exact pe_tup (pa_cons (pe_callB call_len_seq kl.hlen mLen PySem.boot_len (pa_cons (pv 0 rfl (hv rfl) kl.nodebug kl.noclass) pa_nil)) (pa_cons (pv 0 rfl (hv rfl) kl.nodebug kl.noclass) pa_nil))
  · refine ⟨_, rfl, y.1, _, rfl, .inl (SqL.of hl), _, rfl, by show 2 ≤ sizeLine; decide, fun t ht => ⟨same_upd ht, t, rfl, ?_, ?_⟩⟩
    · rw [upd_same, Nv_len]
    · rw [upd_ne (ne_of_none hl ht)]
      exact hl
  · cases r with
    | error e => exact False.elim hq
    | ok fl =>
      cases fl with
      | ret u =>
        obtain ⟨v, H', o', b', u', k', rv, sm', t, rfl, h1, h2⟩ := hq
        cases rv
        exact ⟨H', o', b', u', k', sm', t, rfl, h1, h2⟩
      | next => exact False.elim hq
      | brk => exact False.elim hq
      | cont => exact False.elim hq
end
end Mx
set_option Elab.async false
set_option linter.all false
set_option maxRecDepth 100000
set_option maxHeartbeats 4000000
/-! sorted(e, key=lambda x: (len(x), x)). -/
namespace Mx
open PySem PySem.Spec PyProof.Rows L2 LamX NdefX
open PySem.W (dataLe)
def rSortL (T : List (Addr × Str)) (Q : VK) (v : V) (H1 : Hp) : Prop := Tabs T H1 ∧ ∃ (l : Addr) (bs : List SIt), v = .ref l ∧ H1 l = some (.lst (bs.map fun x => V.ref x.1)) ∧ (∀ x ∈ bs, H1 x.1 = some (.lst (Nv x.2))) ∧
  ∀ (H' : Hp) (p : Addr), ExtN H1 H' → Tabs T H' → (∀ b o, H1 b = some o → (∀ ps, o ≠ .tbl ps) → b ≠ p) → H' p = some (.lst ((bs.mergeSort (dataLe false keyD)).map fun x => V.ref x.1)) → Q (.ref p) H'
def tSortL (T : List (Addr × Str)) (te : TE) : TE := fun σ H Q => te σ H fun v H1 => rSortL T Q v H1
theorem pe_sortLam {X : Cx} {T : List (Addr × Str)} {c P : Addr} {k : Nat} {x : Str} {params : Arguments} {body e : Expr} {scope : Scope} {te : TE} {p lpos kpos pos : Pos} (TB : TabB X.base X.mg c P) (hcode : X.env.code = .ref c) (hm : (P, X.env.qual ++ "<lambda>") ∈ T)
    (hu : ∀ p ∈ T, p.1 = P → p.2 = X.env.qual ++ "<lambda>") (kl : KeyLam x params body scope) (hr : Room (k + 3) X.A) (mLen : X.mg "len" = none) (mSorted : X.mg "sorted" = none) (hg : Gl X "sorted") (he : PE X e te)
    (hdef : defaultsOf params X.env = ([], []) := by rfl) (hclo : cloFrom X.env.cells scope.names [] = [] := by rfl)
    (h0 : starEach [e] X.env = (false, eval e X.env) :: starEach [] X.env := by rfl) (h1 : backTo pos (starEach [e] X.env) = (false, eval e X.env) :: backTo pos (starEach [] X.env) := by rfl) (h2 : (backTo pos (starEach [e] X.env)).any (·.1) = false := by rfl) :
    PE X (.Call (.Name "sorted" p) [e] [⟨some "key", .Lambda params body scope lpos, kpos⟩] pos) (tSortL T te) := by
  have hfree : ∀ y ∈ scope.names, y.2 = .free → ∃ c, X.env.cells.lookup y.1 = some c := fun y hy e => absurd (kl.hscope.free y hy e) (by simp)
  refine ⟨fun pins s σ H Q I h => ?_⟩
  have hv : bootBuiltins ("sorted" : Str) = some (.builtin "sorted") := by decide +kernel
  refine wpAny_Call_Name_kw (ld_blt I hg mSorted hv ?_ (by decide) (by decide))
  refine PyProof.Rows.callWith_kw (thn ((pa_cons he pa_nil h0).run pos pins s σ H (fun vs H1 => match vs with | [v] => rSortL T Q v H1 | _ => False) I h) fun us s1 ⟨vs, H1, I1, r1, q1⟩ => ?_) h1 h2 rfl rfl
  match vs, r1, q1 with
  | [v], r1, q1 =>
    obtain ⟨u, rfl, ru⟩ := vals1 r1
    obtain ⟨tb, l, bs, rfl, hl, hb, fin⟩ := q1
    cases ru
    show wpAny _ _ (evalAll ((do let v ← eval (.Lambda params body scope lpos) X.env; standAt pos; pure v) :: [])) _ _ s1
    refine wpAny_evalAll_cons (wpAny_bind (lam_make2 I1 TB hcode hm hu tb hdef hfree fun f c' pm ctv H2 s2 I2 x2 t2 ho hf hfr hc => wpAny_bind (wpAny_standAt (wpAny_pure ?_))))
    refine wpAny_evalAll_nil ?_
    have tl : ∀ (xs : List V) (ps : Array Value), HO.lst xs ≠ .tbl ps := fun xs ps z => by cases z
    rw [hclo] at ho
    refine srt_call (as := bs.map (·.1)) rfl I2 (SqL.of (by rw [List.map_map]; exact x2 _ _ hl (tl _))) rfl (fun x hx => x2 _ _ (hb x hx) (tl _)) (by have := hr.un; omega)
      (lam_turn kl hr mLen ho hf hfr hc) fun H' p sm hn hp => ?_
    exact fin H' p (x2.trans (ExtN.of sm)) (t2.ext sm) (fun b o e n => ne_of_none (x2 _ _ e n) hn) hp
end Mx
set_option maxRecDepth 100000
namespace Mx
open PySem PySem.W PyProof.Rows
theorem sorted_is {α : Type} {le : α → α → Bool} (h : TotalLe le) {l m : List α} (hp : m.Perm l) (hs : m.Pairwise fun a b => le a b = true) (anti : ∀ a ∈ m, ∀ b ∈ m, le a b = true → le b a = true → a = b) : l.mergeSort le = m := by
  refine List.Perm.eq_of_pairwise (le := fun a b => le a b = true) (fun a b ha hb => ?_) (sort_pairwise h l) hs ((List.mergeSort_perm l le).trans hp.symm)
  exact anti a (hp.symm.mem_iff.1 ((List.mergeSort_perm l le).mem_iff.1 ha)) b hb
def genS : Nat → List (List Nat)
  | 0 => [[]]
  | n + 1 => genS n ++ (genS n).map (· ++ [n])
def leS : List Nat → List Nat → Bool := dataLe false fun ys => keyD (0, ys)
theorem gen_sorted : ∀ n, n ≤ 4 → (genS n).mergeSort leS = Oc08.sets n := by
  intro n hn
  have tl : TotalLe leS := sortLe_total (listOrd itemOrd) false fun ys => keyToks (keyD (0, ys))
  match n, hn with
  | 0, _ => exact sorted_is tl (by decide +kernel) (by decide +kernel) (by decide +kernel)
  | 1, _ => exact sorted_is tl (by decide +kernel) (by decide +kernel) (by decide +kernel)
  | 2, _ => exact sorted_is tl (by decide +kernel) (by decide +kernel) (by decide +kernel)
  | 3, _ => exact sorted_is tl (by decide +kernel) (by decide +kernel) (by decide +kernel)
  | 4, _ => exact sorted_is tl (by decide +kernel) (by decide +kernel) (by decide +kernel)
theorem sorted_sets {bs : List SIt} {n : Nat} (hn : n ≤ 4) (h : bs.map (·.2) = genS n) : (bs.mergeSort (dataLe false keyD)).map (·.2) = Oc08.sets n := by
  rw [sort_maps (r := dataLe false keyD) (s := leS) (fun x : SIt => x.2) (fun a _ b _ => rfl), h, gen_sorted n hn]
end Mx
set_option Elab.async false
set_option maxRecDepth 100000
set_option maxHeartbeats 2000000
namespace Mx
open PySem PySem.Spec PyProof.Rows L2
open Oc (C Axiom)
abbrev sCo : Stmt := top 12
abbrev sIw : Stmt := top 14
/-- the concepts of axioms -/
def axC (axs : List Axiom) : List C := axs.flatMap fun a => [a.1, a.2]
def spCo (K : PySem.W.Frag) : Sp := fun vs H Q _ => ∃ (a : Addr) (ts : List Addr) (axs : List Axiom), vs = [.ref a] ∧ H a = some (.lst (ts.map V.ref)) ∧ Al2 (AxAt H) ts axs ∧ axs.length ≤ 1000 ∧
  ∀ (H' : Hp) (r : Addr), Same H H' → H r = none → CsAt H' r (axC axs) → Q (.ref r) H'
theorem scCo : FnScope ["axioms", "concepts", "axiom"] ["axioms"] (defScope sCo) := ⟨rfl, rfl, rfl, by decide +kernel, rfl, by decide +kernel, by decide +kernel⟩
def spIw (K : PySem.W.Frag) : Sp := fun vs H Q _ => ∃ (a b : Addr) (xs ys : List Nat), vs = [.ref a, .ref b] ∧ H a = some (.lst (Nv xs)) ∧ H b = some (.lst (Nv ys)) ∧ xs.length ≤ 1000 ∧
  ∀ (H' : Hp), Same H H' → Q (.bl (Oc08.within xs ys)) H'
theorem scIw : FnScope ["inner", "outer", "number"] ["inner", "outer"] (defScope sIw) := ⟨rfl, rfl, rfl, by decide +kernel, rfl, by decide +kernel, by decide +kernel⟩
theorem inV_nat (x : Nat) (ys : List Nat) : inV (V.int (x : Int)) (Nv ys) = ys.contains x := by
  rw [inV, Nv, List.any_map, Bool.eq_iff_iff, List.any_eq_true, List.contains_iff_mem]
  constructor
  · rintro ⟨y, hy, e⟩
    have e : ((y : Int) == (x : Int)) = true := e
    rw [beq_iff_eq] at e
    have : y = x := by omega
    exact this ▸ hy
  · intro h
    exact ⟨x, h, by show ((x : Int) == (x : Int)) = true; exact beq_self_eq_true _⟩
theorem flat_Nv (ys : List Nat) : (Nv ys).all flatV = true := by
  rw [Nv, List.all_map, List.all_eq_true]
  intro y _
  rfl
section
variable {P : Program} {w : World} {K : PySem.W.Frag} {mg : Str → Option Value} {base : Heap}
theorem ok_co {f : Addr} {fd : FuncData} (F : Fun K "concepts_of" "concepts_of" sCo f fd) : FnOk P w K mg base CX0 1 f fd ["axioms"] (spCo K) := by
  refine F.ok scCo (fun vs H Q E h => ?_) (fun cdv A outer s H vs Q E hr h => ?_)
  · obtain ⟨a, ts, axs, rfl, _⟩ := h
    rfl
  · refine ⟨_, pss_cons (ps_set (i := 1) scCo.nd rfl (Or.inl rfl) (pe_lst pa_nil))
      (pss_cons (ps_for PassesOwn.never rfl (pi_list (pv 0)) (pg_name (i := 2) scCo.nd rfl (Or.inl rfl))
        (pss_one (ps_expr (pe_bm PySem.F.plainAttrs_list PySem.F.slot_list_extend PySem.F.type_list_extend mt_extT (pv 1) (pa_cons (pv 2) pa_nil)))))
      (pss_one (ps_ret (pv 1)))), ?_⟩
    obtain ⟨a, ts, axs, rfl, ha, hA, hn, q⟩ := h
    refine ⟨by show 0 ≤ sizeLine; decide, fun r hr0 => ?_⟩
    have s0 : Same H (upd H r (.lst [])) := same_upd hr0
    refine ⟨_, rfl, a, rfl, ⟨_, SqL.of (s0 _ _ ha)⟩, for_list (K := K) (a := a) (xs := ts.map V.ref) (fun i σ H' => Same H H' ∧ ∃ (v2 : Option V) (bs : List Addr), σ = [some (.ref a), some (.ref r), v2] ∧
      H' r = some (.lst (bs.map V.ref)) ∧ CAll H' bs (axC (axs.take i)) ∧ bs.length ≤ 2 * i) ⟨s0, none, [], rfl, upd_same, .nil, Nat.le_refl _⟩ (fun i σ H' _ ⟨sm, _⟩ => SqL.of (sm _ _ ha)) ?_ ?_⟩
    · rintro i x σ H' hx ⟨sm, v2, bs, rfl, hl, hb, hbl⟩
      obtain ⟨t, ht, rfl⟩ := ref_at hx
      obtain ⟨ax, hai, x, y, htt, hcx, hcy⟩ := hA.get ht
      have hil := (List.getElem?_eq_some_iff.mp hai).1
      refine ⟨_, rfl, tyList hl, _, rfl, r, t, _, _, rfl, rfl, hl, SqT.of (sm _ _ htt), ?_, ?_⟩
      · rw [List.length_map]
        show bs.length + 2 ≤ sizeLine
        exact Nat.le_trans (show bs.length + 2 ≤ 100000 by omega) (by decide)
      · refine ⟨samePut sm hr0, some (.ref t), bs ++ [x, y], rfl, ?_, ?_, by simp; omega⟩
        · rw [upd_same, List.map_append]; rfl
        · rw [axC, List.take_add_one, hai, Option.toList_some, List.flatMap_append]
          exact (hb.app (.cons (hcx.same sm) (.cons (hcy.same sm) .nil))).put hl
    · rintro σ H' ⟨sm, v2, bs, rfl, hl, hb, hbl⟩
      rw [List.length_map, hA.len, List.take_length] at hb
      exact ⟨_, rfl, q H' r sm hr0 ⟨bs, hl, hb⟩⟩
theorem ok_iw {f : Addr} {fd : FuncData} (F : Fun K "is_within" "is_within" sIw f fd) (mAll : mg "all" = none) : FnOk P w K mg base CX0 1 f fd ["inner", "outer"] (spIw K) := by
  refine F.ok scIw (fun vs H Q E h => ?_) (fun cdv A outer s H vs Q E hr h => ?_)
  · obtain ⟨a, b, xs, ys, rfl, _⟩ := h
    rfl
  · refine ⟨_, pss_one (ps_ret (pe_callB (cr_all rfl) (by rfl) mAll (by decide +kernel) (pa_cons
      (pe_lc (own := [("number", 2)]) (g := gName 2) (by rfl) scIw.nd (pi_list (pv 0))
          (blkOk_by (own := [("number", 2)]) (N := ["inner", "outer", "number"]) (sc := defScope sIw) (by decide +kernel))
          (fun _ _ _ _ _ => pg_name (i := 2) scIw.nd rfl (Or.inl rfl))
          (fun _ _ _ _ _ => pts_nil)
          (fun _ _ _ _ _ => pe_cmpR (r := rIn K false) op_in_seq (pv 2) (pv 1) rfl)) pa_nil))), ?_⟩
    obtain ⟨a, b, xs, ys, rfl, ha, hb, hn, q⟩ := h
    refine ⟨_, rfl, a, rfl, ⟨_, SqL.of ha⟩, fun D hD => ?_⟩
    refine lc_list (K := K) (a := a) (xs := Nv xs) (fun i H' => Same H H' ∧ H' D = some (.lst (((xs.take i).map fun x => ys.contains x).map V.bl))) ⟨same_upd hD, upd_same⟩ (fun i H' _ ⟨sm, _⟩ => SqL.of (sm _ _ ha)) ?_ ?_
    · rintro i x H' hx ⟨sm, hl⟩
      rw [Nv, List.getElem?_map] at hx
      cases hm : xs[i]? with
      | none => rw [hm] at hx; cases hx
      | some m =>
        rw [hm] at hx
        obtain rfl := (Option.some.inj hx).symm
        have hil := (List.getElem?_eq_some_iff.mp hm).1
        refine ⟨rfl, ?_⟩
        refine ⟨_, rfl, _, rfl, b, _, rfl, .inl (SqL.of (sm _ _ hb)), rfl, flat_Nv ys, _, hl, ?_, samePut sm hD, ?_⟩
        · rw [List.length_map, List.length_map, List.length_take]
          exact small_lt (by omega)
        · rw [upd_same, List.take_add_one, hm, Option.toList_some, List.map_append, List.map_append, if_neg Bool.false_ne_true, inV_nat]
          rfl
    · rintro H' ⟨sm, hl⟩
      rw [Nv_len, List.take_length] at hl
      refine ⟨D, _, rfl, SqL.of hl, ?_⟩
      rw [List.all_map]
      exact q H' sm
end
end Mx
set_option Elab.async false
set_option maxRecDepth 100000
set_option maxHeartbeats 4000000
namespace Mx
open PySem PySem.Spec PyProof.Rows L2 LamX NdefX
open PySem.W (dataLe)
open Oc (C Axiom)
/-- a def whose code object's place is known -/
structure FunC (K : PySem.W.Frag) (x qual : Str) (st : Stmt) (f : Addr) (fd : FuncData) (c : Addr) : Prop where
  ex : ∃ (oc : Value) (od : Option Addr) (kV doc pm : Value) (an : Option Addr) (ct : Value) (osl : Array (Option Value)),
    fd = PySem.W.fnOf x qual (defArgs st) (defBody st) (defScope st) .none kV doc pm an (.ref c) ct ∧ K.lookup f = some ⟨oc, od, .func fd, osl⟩ ∧ PySem.W.codeIn K (.ref c) qual = true
section
variable {P : Program} {w : World} {K : PySem.W.Frag} {mg : Str → Option Value} {base : Heap}
theorem FunC.ok {x qual : Str} {st : Stmt} {f c : Addr} {fd : FuncData} {N ps : List Str} {k : Nat} {sp : Sp} (F : FunC K x qual st f fd c) (S : FnScope N ps (defScope st)) (len : ∀ vs H Q E, sp vs H Q E → vs.length = ps.length)
    (hbody : ∀ (A : Around) (outer : List Env) (s : Shared) (H : Hp) (vs : List V) (Q : VK) (E : XK), Room k (A.deeper (envOfC qual (defScope st) s.heap.objs.size f (.ref c))) → sp vs H Q E →
      ∃ t, PSs (cxOf CX0 P w K mg base N qual (defScope st) f (.ref c) A outer s H E).nox (defBody st) t ∧ t { nx := fun _ H' => Q .non H', rt := Q } (start N vs) H) : FnOk P w K mg base CX0 (k + 1) f fd ps sp := by
  obtain ⟨oc, od, kV, doc, pm, an, ct, osl, rfl, lk, hcd⟩ := F.ex
  refine fn_of lk hcd S len fun A outer s H vs Q E room due => ?_
  obtain ⟨t, h, q⟩ := hbody A outer s H vs Q E room due
  exact ⟨t, h.nox, q⟩
abbrev sOs : Stmt := top 13
/-- the table of ordered_sets -/
def osT (P : Addr) : List (Addr × Str) := [(P, ("ordered_sets" : Str) ++ ".<locals>." ++ "<lambda>")]
def spOs (T : List (Addr × Str)) : Sp := fun vs H Q _ => ∃ n : Nat, vs = [.int (n : Int)] ∧ n ≤ 4 ∧ Tabs T H ∧
  ∀ (H' : Hp) (p : Addr) (as : List Addr), ExtN H H' → Tabs T H' → (∀ b o, H b = some o → (∀ ps, o ≠ .tbl ps) → b ≠ p ∧ b ∉ as) → H' p = some (.lst (as.map V.ref)) → OAll dO H' as (Oc08.sets n) → Q (.ref p) H'
theorem scOs : FnScope ["count", "sets", "number", "smaller"] ["count"] (defScope sOs) := ⟨rfl, rfl, rfl, by decide +kernel, rfl, by decide +kernel, by decide +kernel⟩
theorem gen_len : ∀ n, (genS n).length = 2 ^ n
  | 0 => rfl
  | n + 1 => by
    rw [genS, List.length_append, List.length_map, gen_len n, Nat.pow_succ]
    omega
theorem gen_short : ∀ n, ∀ x ∈ genS n, x.length ≤ n
  | 0, x, h => by simp only [genS, List.mem_singleton] at h; subst h; simp
  | n + 1, x, h => by
    simp only [genS, List.mem_append, List.mem_map] at h
    rcases h with h | ⟨y, h, rfl⟩
    · have := gen_short n x h; omega
    · have := gen_short n y h; rw [List.length_append, List.length_singleton]; omega
theorem OAll.zip {β : Type} {f : β → HO} {H : Hp} {as : List Addr} {bs : List β} (h : OAll f H as bs) : ∀ x ∈ as.zip bs, H x.1 = some (f x.2) := by
  induction h with
  | nil => intro x hx; simp at hx
  | cons h _ ih =>
    intro x hx
    rw [List.zip_cons_cons] at hx
    rcases List.mem_cons.1 hx with hx | hx
    · subst hx; exact h
    · exact ih x hx
theorem OAll.ofMap {H : Hp} : ∀ {l : List SIt}, (∀ x ∈ l, H x.1 = some (dO x.2)) → OAll dO H (l.map (·.1)) (l.map (·.2))
  | [], _ => .nil
  | x :: l, h => .cons (h x (by simp)) (OAll.ofMap fun y hy => h y (by simp [hy]))
theorem ok_os {f c Pt : Addr} {fd : FuncData} (F : FunC K "ordered_sets" "ordered_sets" sOs f fd c) (TB : TabB base mg c Pt) (mLen : mg "len" = none) (mRange : mg "range" = none) (mSorted : mg "sorted" = none) : FnOk P w K mg base CX0 4 f fd ["count"] (spOs (osT Pt)) := by
  refine F.ok scOs (fun vs H Q E h => ?_) (fun A outer s H vs Q E hr h => ?_)
  · obtain ⟨n, rfl, _⟩ := h
    rfl
  · refine ⟨_, pss_cons (ps_set (i := 1) scOs.nd rfl (Or.inl rfl) (pe_lst (pa_cons (pe_lst pa_nil) pa_nil)))
      (pss_cons (ps_for PassesOwn.never rfl (pi_range1 rfl mRange (pa_cons (pv 0) pa_nil)) (pg_name (i := 2) scOs.nd rfl (Or.inr rfl))
        (pss_one (ps_set (i := 1) scOs.nd rfl (Or.inl rfl) (pe_op op_cat (pv 1)
          (pe_lc (own := [("smaller", 3)]) (g := gName 3) (by rfl) scOs.nd (pi_list (pv 1))
            (blkOk_by (own := [("smaller", 3)]) (N := ["count", "sets", "number", "smaller"]) (sc := defScope sOs) (by decide +kernel))
            (fun _ _ _ _ _ => pg_name (i := 3) scOs.nd rfl (Or.inl rfl))
            (fun _ _ _ _ _ => pts_nil)
            (fun _ _ _ _ _ => pe_op op_cat (pv 3) (pe_lst (pa_cons (pv 2) pa_nil))))))))
      (pss_one (ps_ret (pe_sortLam (T := osT Pt) (x := "numbers") TB rfl (List.mem_singleton.2 rfl) (fun p hp e => by rw [List.mem_singleton.1 hp]; rfl)
        ⟨⟨_, _, _, _, _, _, rfl⟩, nscope_by (by decide +kernel), rfl, by decide +kernel, by decide +kernel, fun _ _ _ _ us h => match us, h with | [_], _ => rfl⟩ hr mLen mSorted rfl (pv 1))))), ?_⟩
    obtain ⟨n, rfl, hn, hT, q⟩ := h
    refine ⟨by show 0 ≤ sizeLine; decide, fun e he => ⟨by show 1 ≤ sizeLine; decide, fun s0 hs0 => ?_⟩⟩
    have s1 : Same H (upd H e (.lst [])) := same_upd he
    have s2 : Same (upd H e (.lst [])) (upd (upd H e (.lst [])) s0 (.lst [.ref e])) := same_upd hs0
    refine ⟨_, rfl, _, rfl, rngLo _, rngHi (by omega), for_range (lo := 0) (n := ((n : Nat) : Int).toNat) (fun i σ H' => Same H H' ∧ ∃ (sa : Addr) (v2 v3 : Option V) (as : List Addr), σ = [some (.int (n : Int)), some (.ref sa), v2, v3] ∧
      H' sa = some (.lst (as.map V.ref)) ∧ OAll dO H' as (genS i) ∧ ∀ a ∈ as, H a = none) ⟨s1.trans s2, s0, none, none, [e], rfl, upd_same, .cons (s2 _ _ upd_same) .nil, by simpa using he⟩ ?_ ?_⟩
    · rintro i σ H' hi ⟨sm, sa, v2, v3, as, rfl, hl, hO, hfr⟩
      rw [Int.toNat_natCast] at hi
      have hal := hO.len
      rw [gen_len] at hal
      have h16 : 2 ^ i ≤ 16 := Nat.le_trans (Nat.pow_le_pow_right (by decide) (show i ≤ 4 by omega)) (by decide)
      refine ⟨_, rfl, _, rfl, sa, rfl, ⟨_, SqL.of hl⟩, fun D hD => ?_⟩
      have sD : Same H' (upd H' D (.lst [])) := same_upd hD
      refine lc_list (K := K) (a := sa) (xs := as.map V.ref) (fun j H2 => Same H' H2 ∧ ∃ bs : List Addr, H2 D = some (.lst (bs.map V.ref)) ∧ D ∉ bs ∧ OAll dO H2 bs (((genS i).take j).map (· ++ [i])) ∧ ∀ a ∈ bs, H a = none)
        ⟨sD, [], upd_same, by simp, .nil, by simp⟩ (fun j H2 _ ⟨sm2, _⟩ => SqL.of (sm2 _ _ hl)) ?_ ?_
      · rintro j x H2 hx ⟨sm2, bs, hl2, hnd, hO2, hfr2⟩
        obtain ⟨ax, hax, rfl⟩ := ref_at hx
        obtain ⟨ys, hys, hyt⟩ := hO.get hax
        have hjl := (List.getElem?_eq_some_iff.mp hys).1
        rw [gen_len] at hjl
        have hyl := gen_short i ys (List.mem_of_getElem? hys)
        have hbl := hO2.len
        rw [List.length_map, List.length_take, gen_len] at hbl
        refine ⟨rfl, ?_⟩
        refine ⟨_, rfl, _, rfl, by show 1 ≤ sizeLine; decide, fun t ht => ?_⟩
        have s3 : Same H2 (upd H2 t (.lst [V.int (0 + (i : Int))])) := same_upd ht
        refine ⟨ax, t, _, _, rfl, rfl, s3 _ _ (sm2 _ _ hyt), upd_same, ?_, fun p hp => ?_⟩
        · rw [Nv_len]
          show ys.length + 1 ≤ sizeLine
          exact Nat.le_trans (show ys.length + 1 ≤ 100 by omega) (by decide)
        have s4 := s3.trans (same_upd (o := HO.lst (Nv ys ++ [V.int (0 + (i : Int))])) hp)
        have hp2 : H2 p = none := s3.free hp
        refine ⟨_, s4 _ _ hl2, ?_, ?_, bs ++ [p], ?_, ?_, ?_, ?_⟩
        · rw [List.length_map]
          exact small_lt (by omega)
        · exact samePut (sm2.trans s4) hD
        · rw [upd_same, List.map_append]; rfl
        · intro h
          rcases List.mem_append.1 h with h | h
          · exact hnd h
          · rw [List.mem_singleton] at h
            subst h
            rw [hl2] at hp2
            cases hp2
        · rw [List.take_add_one, hys, Option.toList_some, List.map_append]
          refine OAll.putN ((hO2.same s4).app (.cons ?_ .nil)) ?_
          · rw [upd_same, dO, Nv_app, Int.zero_add]
            rfl
          · intro h
            rcases List.mem_append.1 h with h | h
            · exact hnd h
            · rw [List.mem_singleton] at h
              subst h
              rw [hl2] at hp2
              cases hp2
        · intro a ha
          rcases List.mem_append.1 ha with ha | ha
          · exact hfr2 a ha
          · rw [List.mem_singleton] at ha
            subst ha
            exact (sm.trans sm2).free hp2
      · rintro H2 ⟨sm2, bs, hl2, hnd, hO2, hfr2⟩
        rw [List.length_map, hO.len, List.take_length] at hO2
        have hbl := hO2.len
        rw [List.length_map, gen_len] at hbl
        refine ⟨sa, D, _, _, rfl, rfl, sm2 _ _ hl, hl2, ?_, fun p hp => ?_⟩
        · rw [List.length_map, List.length_map]
          exact Nat.le_trans (show as.length + bs.length ≤ 100 by omega) (by decide)
        have s5 := sm2.trans (same_upd (o := HO.lst (as.map V.ref ++ bs.map V.ref)) hp)
        refine ⟨sm.trans s5, p, _, _, as ++ bs, rfl, ?_, ?_, fun a ha => (List.mem_append.1 ha).elim (hfr a) (hfr2 a)⟩
        · rw [upd_same, List.map_append]
        · exact (hO.same s5).app (hO2.same (same_upd hp))
    · rintro σ H' ⟨sm, sa, v2, v3, as, rfl, hl, hO, hfr⟩
      rw [Int.toNat_natCast] at hO
      have hal := hO.len
      have z1 : (as.zip (genS n)).map (·.1) = as := List.map_fst_zip (by omega)
      have z2 : (as.zip (genS n)).map (·.2) = genS n := List.map_snd_zip (by omega)
      refine ⟨_, rfl, hT.ext sm, sa, as.zip (genS n), rfl, ?_, fun x hx => hO.zip x hx, fun H2 p ext tb ne hp => ?_⟩
      · have z3 : (as.zip (genS n)).map (fun x : SIt => V.ref x.1) = ((as.zip (genS n)).map (·.1)).map V.ref := by rw [List.map_map]; rfl
        rw [hl, z3, z1]
      · refine q H2 p (((as.zip (genS n)).mergeSort (dataLe false keyD)).map (·.1)) ((ExtN.of sm).trans ext) tb (fun b o e n => ⟨ne b o (sm _ _ e) n, fun hb => ?_⟩) (by rw [hp, List.map_map]; rfl) ?_
        · obtain ⟨x, hx, rfl⟩ := List.mem_map.1 hb
          have hx := (List.mergeSort_perm _ _).mem_iff.1 hx
          have := hfr x.1 (by rw [← z1]; exact List.mem_map.2 ⟨x, hx, rfl⟩)
          rw [e] at this
          cases this
        have := OAll.ofMap (H := H2) (l := (as.zip (genS n)).mergeSort (dataLe false keyD)) fun x hx => ext _ _ (hO.zip x ((List.mergeSort_perm _ _).mem_iff.1 hx)) (fun ps z => by cases z)
        rw [sorted_sets hn z2] at this
        exact this
end
end Mx
set_option Elab.async false
set_option maxRecDepth 100000
set_option maxHeartbeats 4000000
namespace Mx
open PySem PySem.Spec PyProof.Rows L2
open Oc (C Axiom)
structure ThTxt (K : PySem.W.Frag) (C : Addr) : Prop where
  cl : Cls K C
  nA : NoAttr K C "axioms"
  nH : NoAttr K C "hypotheses"
  nP : NoAttr K C "protected"
  nR : NoAttr K C "profiles"
def t1 (la : Addr) : List (Str × V) := [("axioms", .ref la)]
def t2 (la lh : Addr) : List (Str × V) := [("axioms", .ref la), ("hypotheses", .ref lh)]
def t3 (la lh lp : Addr) : List (Str × V) := [("axioms", .ref la), ("hypotheses", .ref lh), ("protected", .ref lp)]
def tF (la lh lp pp : Addr) : List (Str × V) := [("axioms", .ref la), ("hypotheses", .ref lh), ("protected", .ref lp), ("profiles", .ref pp)]
theorem t1_new {la : Addr} : putF "axioms" (.ref la) [] = t1 la := rfl
theorem t2_new {la lh : Addr} : putF "hypotheses" (.ref lh) (t1 la) = t2 la lh := (put_past (by decide +kernel)).trans rfl
theorem t3_new {la lh lp : Addr} : putF "protected" (.ref lp) (t2 la lh) = t3 la lh lp := (put_past (by decide +kernel)).trans (congrArg _ ((put_past (by decide +kernel)).trans rfl))
theorem t4_new {la lh lp pp : Addr} : putF "profiles" (.ref pp) (t3 la lh lp) = tF la lh lp pp := (put_past (by decide +kernel)).trans (congrArg _ ((put_past (by decide +kernel)).trans (congrArg _ ((put_past (by decide +kernel)).trans rfl))))
theorem t3_axioms {la lh lp : Addr} : (t3 la lh lp).lookup ("axioms" : Str) = some (.ref la) := lk_here
theorem t3_hyps {la lh lp : Addr} : (t3 la lh lp).lookup ("hypotheses" : Str) = some (.ref lh) := (lk_past (by decide +kernel)).trans lk_here
theorem t3_prot {la lh lp : Addr} : (t3 la lh lp).lookup ("protected" : Str) = some (.ref lp) := (lk_past (by decide +kernel)).trans ((lk_past (by decide +kernel)).trans lk_here)
theorem tF_axioms {la lh lp pp : Addr} : (tF la lh lp pp).lookup ("axioms" : Str) = some (.ref la) := lk_here
theorem tF_hyps {la lh lp pp : Addr} : (tF la lh lp pp).lookup ("hypotheses" : Str) = some (.ref lh) := (lk_past (by decide +kernel)).trans lk_here
theorem tF_prot {la lh lp pp : Addr} : (tF la lh lp pp).lookup ("protected" : Str) = some (.ref lp) := (lk_past (by decide +kernel)).trans ((lk_past (by decide +kernel)).trans lk_here)
theorem tF_prof {la lh lp pp : Addr} : (tF la lh lp pp).lookup ("profiles" : Str) = some (.ref pp) := (lk_past (by decide +kernel)).trans ((lk_past (by decide +kernel)).trans ((lk_past (by decide +kernel)).trans lk_here))
theorem tF_no {la lh lp pp : Addr} {m : Str} (h1 : (m == ("axioms" : Str)) = false) (h2 : (m == ("hypotheses" : Str)) = false) (h3 : (m == ("protected" : Str)) = false) (h4 : (m == ("profiles" : Str)) = false) : (tF la lh lp pp).lookup m = none :=
  (lk_past h1).trans ((lk_past h2).trans ((lk_past h3).trans ((lk_past h4).trans rfl)))
/-- the object of the class Theory -/
def TheoryAt (Ct Cp : Addr) (H : Hp) (p : Addr) (axs hyps : List Axiom) (keep L : List C) : Prop :=
  ∃ (dx la lh lp pp : Addr) (ta th tk : List Addr), H p = some (.ins Ct dx (tF la lh lp pp)) ∧ H la = some (.lst (ta.map V.ref)) ∧ Al2 (AxAt H) ta axs ∧ H lh = some (.lst (th.map V.ref)) ∧ Al2 (AxAt H) th hyps ∧
    H lp = some (.lst (tk.map V.ref)) ∧ CAll H tk keep ∧ ProfF Cp H pp L
theorem TheoryAt.same {Ct Cp : Addr} {H H' : Hp} {p : Addr} {axs hyps : List Axiom} {keep L : List C} (e : Same H H') (h : TheoryAt Ct Cp H p axs hyps keep L) : TheoryAt Ct Cp H' p axs hyps keep L := by
  obtain ⟨dx, la, lh, lp, pp, ta, th, tk, h1, h2, h3, h4, h5, h6, h7, h8⟩ := h
  exact ⟨dx, la, lh, lp, pp, ta, th, tk, e _ _ h1, e _ _ h2, h3.imp fun _ _ => AxAt.same e, e _ _ h4, h5.imp fun _ _ => AxAt.same e, e _ _ h6, h7.same e, h8.same e⟩
/-- all concepts that a theory speaks of -/
def allC (axs hyps : List Axiom) (keep asked : List C) : List C := axC axs ++ axC hyps ++ keep ++ asked
structure Fine (cs : List C) : Prop where
  each : ∀ c ∈ cs, Valid c ∧ (enc c).length ≤ 1000
  len : cs.length ≤ 1000
  atoms : (Oc.atomsOf cs).length ≤ 5
theorem distinct_nodup (l : List C) : ∀ m : List C, m.Nodup → (l.foldl ins m).Nodup := by
  induction l with
  | nil => exact fun m h => h
  | cons c l ih =>
    intro m h
    rw [List.foldl_cons]
    refine ih _ ?_
    unfold ins
    split
    · exact h
    · next hc =>
      rw [List.nodup_append]
      refine ⟨h, by simp, ?_⟩
      intro a ha b hb e
      rw [List.mem_singleton] at hb
      subst hb e
      exact hc (by simpa using ha)
theorem good_atoms {cs : List C} (h : Fine cs) : Good (Oc.atomsOf cs) where
  closed := closed_atomsOf cs
  nodup := distinct_nodup _ [] (by simp)
  valid := valid_atomsOf fun c hc => (h.each c hc).1
  short := fun x hx => by
    obtain ⟨c, hc, hx⟩ := mem_atomsOf.1 hx
    exact Nat.le_trans (enc_atoms_le c x hx) (h.each c hc).2
  len := h.atoms
theorem asks_of {cs : List C} (h : Fine cs) {c : C} (hc : c ∈ cs) : Asks (Oc.atomsOf cs) c := ⟨(h.each c hc).1, (h.each c hc).2, fun y hy => mem_atomsOf.2 ⟨c, hc, hy⟩⟩
theorem mem_axC {axs : List Axiom} {a : Axiom} (h : a ∈ axs) : a.1 ∈ axC axs ∧ a.2 ∈ axC axs := by
  unfold axC
  exact ⟨List.mem_flatMap.2 ⟨a, h, by simp⟩, List.mem_flatMap.2 ⟨a, h, by simp⟩⟩
theorem axC_len (axs : List Axiom) : (axC axs).length = 2 * axs.length := by
  induction axs with
  | nil => rfl
  | cons a axs ih =>
    show (a.1 :: a.2 :: axC axs).length = _
    rw [List.length_cons, List.length_cons, ih, List.length_cons]
    omega
/-- all but the object at p stands as it was -/
def KB (p : Addr) (H H' : Hp) : Prop := ∀ b o, H b = some o → b ≠ p → H' b = some o
theorem KB.refl (p : Addr) (H : Hp) : KB p H H := fun _ _ e _ => e
theorem KB.new {p l : Addr} {H H' : Hp} {o : HO} (k : KB p H H') (h : H' l = none) : KB p H (upd H' l o) := fun b u e n => by
  rw [upd_ne (ne_of_none (k b u e n) h)]
  exact k b u e n
theorem KB.at {p : Addr} {H H' : Hp} {o : HO} (k : KB p H H') : KB p H (upd H' p o) := fun b u e n => by
  rw [upd_ne n]
  exact k b u e n
theorem KB.same {p : Addr} {H H' H2 : Hp} (k : KB p H H') (s : Same H' H2) : KB p H H2 := fun b u e n => s _ _ (k b u e n)
theorem KB.tup {p C dx : Addr} {fs : List (Str × V)} {H H' : Hp} (k : KB p H H') (hp : H p = some (.ins C dx fs)) : ∀ b xs, H b = some (.tup xs) → H' b = some (.tup xs) := fun b xs e => k b _ e (by intro z; subst z; rw [hp] at e; cases e)
theorem KB.lst {p C dx : Addr} {fs : List (Str × V)} {H H' : Hp} (k : KB p H H') (hp : H p = some (.ins C dx fs)) {b : Addr} {xs : List V} (e : H b = some (.lst xs)) : H' b = some (.lst xs) := k b _ e (by intro z; subst z; rw [hp] at e; cases e)
abbrev sTi : Stmt := inClass (top 15) 0
def spTi (K : PySem.W.Frag) (Ct Cp : Addr) : Sp := fun vs H Q _ => ∃ (p dx a1 a2 a3 a4 : Addr) (ta th tk tq : List Addr) (axs hyps : List Axiom) (keep asked : List C), vs = [.ref p, .ref a1, .ref a2, .ref a3, .ref a4] ∧ H p = some (.ins Ct dx []) ∧
  H a1 = some (.lst (ta.map V.ref)) ∧ Al2 (AxAt H) ta axs ∧ H a2 = some (.lst (th.map V.ref)) ∧ Al2 (AxAt H) th hyps ∧ H a3 = some (.lst (tk.map V.ref)) ∧ CAll H tk keep ∧ H a4 = some (.lst (tq.map V.ref)) ∧ CAll H tq asked ∧ Fine (allC axs hyps keep asked) ∧
  ∀ (H' : Hp), TheoryAt Ct Cp H' p axs hyps keep (Oc.atomsOf (allC axs hyps keep asked)) → (∀ b o, H b = some o → b ≠ p → H' b = some o) → Q .non H'
theorem scTi : FnScope ["self", "axioms", "hypotheses", "protected", "asked", "stated"] ["self", "axioms", "hypotheses", "protected", "asked"] (defScope sTi) := ⟨rfl, rfl, rfl, by decide +kernel, rfl, by decide +kernel, by decide +kernel⟩
section
variable {P : Program} {w : World} {K : PySem.W.Frag} {mg : Str → Option Value} {base : Heap} {Ct Cp : Addr}
theorem ok_ti {f : Addr} {fd : FuncData} (F : Fun K "__init__" "Theory.__init__" sTi f fd) (T : ThTxt K Ct) (mList : mg "list" = none) (cCo : Called P w K mg base "concepts_of" 1 ["axioms"] (spCo K))
    (cAi : Called P w K mg base "atoms_in" 3 ["concepts"] (spAi K)) (cPi : Made P w K mg base "Profiles" Cp 5 ["self", "atoms"] (spPi K Cp)) : FnOk P w K mg base CX0 7 f fd ["self", "axioms", "hypotheses", "protected", "asked"] (spTi K Ct Cp) := by
  refine F.ok scTi (fun vs H Q E h => ?_) (fun cdv A outer s H vs Q E hr h => ?_)
  · obtain ⟨p, dx, a1, a2, a3, a4, ta, th, tk, tq, axs, hyps, keep, asked, rfl, _⟩ := h
    rfl
  · refine ⟨_, pss_cons (ps_fld (pv 0) (pe_callTy call_list_of (by rfl) mList PyProof.Rows.boot_list (pa_cons (pv 1) pa_nil)) rfl)
      (pss_cons (ps_fld (pv 0) (pe_callTy call_list_of (by rfl) mList PyProof.Rows.boot_list (pa_cons (pv 2) pa_nil)) rfl)
      (pss_cons (ps_fld (pv 0) (pe_callTy call_list_of (by rfl) mList PyProof.Rows.boot_list (pa_cons (pv 3) pa_nil)) rfl)
      (pss_cons (ps_set (i := 5) scTi.nd rfl (Or.inl rfl) (pe_op op_cat (pe_cl cCo (hr.mono (by decide)) (pa_cons (pe_fld (pv 0) rfl) pa_nil)) (pe_cl cCo (hr.mono (by decide)) (pa_cons (pe_fld (pv 0) rfl) pa_nil))))
      (pss_one (ps_fld (pv 0) (pe_mk cPi hr (pa_cons (pe_cl cAi (hr.mono (by decide)) (pa_cons (pe_op op_cat (pe_op op_cat (pv 5) (pe_fld (pv 0) rfl)) (pv 4)) pa_nil)) pa_nil)) rfl))))), ?_⟩
    obtain ⟨p, dx, a1, a2, a3, a4, ta, th, tk, tq, axs, hyps, keep, asked, rfl, hp, h1, hA1, h2, hA2, h3, hC3, h4, hC4, hf, q⟩ := h
    refine ⟨_, rfl, a1, _, rfl, .inl (SqL.of h1), fun la hla => ?_⟩
    have ka : KB p H (upd H la (.lst (ta.map V.ref))) := (KB.refl p H).new hla
    have npa : la ≠ p := by intro z; subst z; rw [hp] at hla; cases hla
    refine ⟨_, rfl, p, Ct, dx, [], rfl, (same_upd hla) _ _ hp, T.cl, T.nA, by show 0 < 1000; decide, ?_⟩
    rw [t1_new]
    have kb := ka.at (o := HO.ins Ct dx (t1 la))
    have eb : (upd (upd H la (.lst (ta.map V.ref))) p (.ins Ct dx (t1 la))) p = some (.ins Ct dx (t1 la)) := upd_same
    have ebl : (upd (upd H la (.lst (ta.map V.ref))) p (.ins Ct dx (t1 la))) la = some (.lst (ta.map V.ref)) := (upd_ne npa).trans upd_same
    generalize (upd (upd H la (.lst (ta.map V.ref))) p (.ins Ct dx (t1 la))) = Hb at kb eb ebl
    refine ⟨_, rfl, a2, _, rfl, .inl (SqL.of (kb.lst hp h2)), fun lh hlh => ?_⟩
    have nph : lh ≠ p := by intro z; subst z; rw [eb] at hlh; cases hlh
    refine ⟨_, rfl, p, Ct, dx, _, rfl, (same_upd hlh) _ _ eb, T.cl, T.nH, by show 1 < 1000; decide, ?_⟩
    rw [t2_new]
    have kd := (kb.new (o := HO.lst (th.map V.ref)) hlh).at (o := HO.ins Ct dx (t2 la lh))
    have ed : (upd (upd Hb lh (.lst (th.map V.ref))) p (.ins Ct dx (t2 la lh))) p = some (.ins Ct dx (t2 la lh)) := upd_same
    have edl : (upd (upd Hb lh (.lst (th.map V.ref))) p (.ins Ct dx (t2 la lh))) la = some (.lst (ta.map V.ref)) := (upd_ne npa).trans ((same_upd hlh) _ _ ebl)
    have edh : (upd (upd Hb lh (.lst (th.map V.ref))) p (.ins Ct dx (t2 la lh))) lh = some (.lst (th.map V.ref)) := (upd_ne nph).trans upd_same
    generalize (upd (upd Hb lh (.lst (th.map V.ref))) p (.ins Ct dx (t2 la lh))) = Hd at kd ed edl edh
    refine ⟨_, rfl, a3, _, rfl, .inl (SqL.of (kd.lst hp h3)), fun lp hlp => ?_⟩
    have npp : lp ≠ p := by intro z; subst z; rw [ed] at hlp; cases hlp
    refine ⟨_, rfl, p, Ct, dx, _, rfl, (same_upd hlp) _ _ ed, T.cl, T.nP, by show 2 < 1000; decide, ?_⟩
    rw [t3_new]
    have kf := (kd.new (o := HO.lst (tk.map V.ref)) hlp).at (o := HO.ins Ct dx (t3 la lh lp))
    have ef : (upd (upd Hd lp (.lst (tk.map V.ref))) p (.ins Ct dx (t3 la lh lp))) p = some (.ins Ct dx (t3 la lh lp)) := upd_same
    have efl : (upd (upd Hd lp (.lst (tk.map V.ref))) p (.ins Ct dx (t3 la lh lp))) la = some (.lst (ta.map V.ref)) := (upd_ne npa).trans ((same_upd hlp) _ _ edl)
    have efh : (upd (upd Hd lp (.lst (tk.map V.ref))) p (.ins Ct dx (t3 la lh lp))) lh = some (.lst (th.map V.ref)) := (upd_ne nph).trans ((same_upd hlp) _ _ edh)
    have efp : (upd (upd Hd lp (.lst (tk.map V.ref))) p (.ins Ct dx (t3 la lh lp))) lp = some (.lst (tk.map V.ref)) := (upd_ne npp).trans upd_same
    generalize (upd (upd Hd lp (.lst (tk.map V.ref))) p (.ins Ct dx (t3 la lh lp))) = Hf at kf ef efl efh efp
    have fA1 : Al2 (AxAt Hf) ta axs := hA1.imp fun _ _ h => h.keep (kf.tup hp)
    have fA2 : Al2 (AxAt Hf) th hyps := hA2.imp fun _ _ h => h.keep (kf.tup hp)
    have fC3 : CAll Hf tk keep := hC3.keep (kf.tup hp)
    have fC4 : CAll Hf tq asked := hC4.keep (kf.tup hp)
    have f4 := kf.lst hp h4
    have hlen := hf.len
    rw [allC, List.length_append, List.length_append, List.length_append, axC_len, axC_len] at hlen
    refine ⟨_, rfl, p, Ct, dx, _, _, rfl, ef, T.cl, T.nA, t3_axioms, la, ta, axs, rfl, efl, fA1, by omega, fun H1 r1 s1 hr1 hc1 => ?_⟩
    obtain ⟨b1, hb1, hB1⟩ := hc1
    refine ⟨_, rfl, p, Ct, dx, _, _, rfl, s1 _ _ ef, T.cl, T.nH, t3_hyps, lh, th, hyps, rfl, s1 _ _ efh, fA2.imp fun _ _ h => h.same s1, by omega, fun H2 r2 s2 hr2 hc2 => ?_⟩
    obtain ⟨b2, hb2, hB2⟩ := hc2
    have l1 := hB1.len
    have l2 := hB2.len
    have l3 := fC3.len
    have l4 := fC4.len
    rw [axC_len] at l1 l2
    refine ⟨r1, r2, _, _, rfl, rfl, s2 _ _ hb1, hb2, ?_, fun r3 hr3 => ?_⟩
    · rw [List.length_map, List.length_map]
      exact Nat.le_trans (show b1.length + b2.length ≤ 100000 by omega) (by decide)
    have s3 := (s1.trans s2).trans (same_upd (o := HO.lst (b1.map V.ref ++ b2.map V.ref)) hr3)
    refine ⟨_, rfl, _, rfl, p, Ct, dx, _, _, rfl, s3 _ _ ef, T.cl, T.nP, t3_prot, r3, lp, _, _, rfl, rfl, upd_same, s3 _ _ efp, ?_, fun r4 hr4 => ?_⟩
    · rw [List.length_append, List.length_map, List.length_map, List.length_map]
      exact Nat.le_trans (show b1.length + b2.length + tk.length ≤ 100000 by omega) (by decide)
    have s4 := s3.trans (same_upd (o := HO.lst (b1.map V.ref ++ b2.map V.ref ++ tk.map V.ref)) hr4)
    refine ⟨_, rfl, r4, a4, _, _, rfl, rfl, upd_same, s4 _ _ f4, ?_, fun r5 hr5 => ?_⟩
    · rw [List.length_append, List.length_append, List.length_map, List.length_map, List.length_map, List.length_map]
      exact Nat.le_trans (show b1.length + b2.length + tk.length + tq.length ≤ 100000 by omega) (by decide)
    have s5 := s4.trans (same_upd (o := HO.lst (b1.map V.ref ++ b2.map V.ref ++ tk.map V.ref ++ tq.map V.ref)) hr5)
    have s25 : Same H2 (upd (upd (upd H2 r3 (.lst (b1.map V.ref ++ b2.map V.ref))) r4 (.lst (b1.map V.ref ++ b2.map V.ref ++ tk.map V.ref))) r5 (.lst (b1.map V.ref ++ b2.map V.ref ++ tk.map V.ref ++ tq.map V.ref))) :=
      ((same_upd hr3).trans (same_upd hr4)).trans (same_upd hr5)
    refine ⟨r5, b1 ++ b2 ++ tk ++ tq, allC axs hyps keep asked, rfl, SqL.of (by rw [upd_same, List.map_append, List.map_append, List.map_append]), ?_, hf.each, hf.len, fun H6 r6 s6 hr6 hc6 => ?_⟩
    · exact (((hB1.same (s2.trans s25)).app (hB2.same s25)).app (fC3.same s5)).app (fC4.same s5)
    obtain ⟨b6, hb6, hB6⟩ := hc6
    have s56 := s5.trans s6
    intro x dy hx hdy hne
    have sx : Same H6 (upd (upd H6 dy (.own x)) x (.ins Cp dy [])) := by
      have q1 : Same H6 (upd H6 dy (.own x)) := same_upd hdy
      exact q1.trans (same_upd (by rw [upd_ne (Ne.symm hne)]; exact hx))
    refine ⟨x, dy, r6, b6, _, rfl, upd_same, sx _ _ hb6, hB6.same sx, good_atoms hf, fun H7 hP7 k7 => ⟨rfl, ?_⟩⟩
    have s7 : Same H6 H7 := fun b o e => k7 b o (sx _ _ e) (ne_of_none e hx)
    have s57 := s56.trans s7
    refine ⟨_, rfl, p, Ct, dx, _, rfl, s57 _ _ ef, T.cl, T.nR, by show 3 < 1000; decide, ?_⟩
    rw [t4_new]
    have e7 := s57 _ _ ef
    have k8 : KB p H7 (upd H7 p (.ins Ct dx (tF la lh lp x))) := (KB.refl p H7).at
    have hxp : x ≠ p := by
      intro z
      subst z
      rw [(s5.trans s6) _ _ ef] at hx
      cases hx
    refine q _ ⟨dx, la, lh, lp, x, ta, th, tk, upd_same, k8 _ _ (s57 _ _ efl) npa, (fA1.imp fun _ _ h => h.same s57).imp fun _ _ h => h.keep (k8.tup e7), k8 _ _ (s57 _ _ efh) nph,
      (fA2.imp fun _ _ h => h.same s57).imp fun _ _ h => h.keep (k8.tup e7), k8 _ _ (s57 _ _ efp) npp, (fC3.same s57).keep (k8.tup e7), ?_⟩ ?_
    · obtain ⟨ld, ⟨dz, lz, az, z1, z2, z3⟩, ds, z4, z5⟩ := hP7
      exact ⟨ld, ⟨dz, lz, az, k8 _ _ z1 hxp, k8.lst e7 z2, z3.keep (k8.tup e7)⟩, ds, k8.lst e7 z4, z5.put e7 (fun b => by intro e; cases e)⟩
    · intro b o e hb
      exact k8 _ _ (s57 _ _ (kf b o e hb)) hb
end
end Mx
set_option Elab.async false
set_option maxRecDepth 100000
set_option maxHeartbeats 4000000
namespace Mx
open PySem PySem.Spec PyProof.Rows L2
open Oc (C Axiom)
structure ThOk (axs hyps : List Axiom) (keep L : List C) : Prop where
  good : Good L
  ax : ∀ a ∈ axs, Asks L a.1 ∧ Asks L a.2
  hy : ∀ a ∈ hyps, Asks L a.1 ∧ Asks L a.2
  kp : ∀ c ∈ keep, Asks L c
  axl : axs.length ≤ 1000
  kpl : keep.length ≤ 1000
/-- the chosen hypotheses -/
def sel (hyps : List Axiom) (chosen : List Nat) : List Axiom := chosen.filterMap fun i => hyps[i]?
theorem sel_app (hyps : List Axiom) (a b : List Nat) : sel hyps (a ++ b) = sel hyps a ++ sel hyps b := List.filterMap_append
theorem sel_mem {hyps : List Axiom} {chosen : List Nat} {a : Axiom} (h : a ∈ sel hyps chosen) : a ∈ hyps := by
  obtain ⟨i, _, e⟩ := List.mem_filterMap.1 h
  exact List.mem_of_getElem? e
theorem sel_len (hyps : List Axiom) (chosen : List Nat) : (sel hyps chosen).length ≤ chosen.length := List.length_filterMap_le _ _
abbrev sPw : Stmt := inClass (top 15) 1
abbrev sAs : Stmt := inClass (top 15) 2
abbrev sSu : Stmt := inClass (top 15) 3
abbrev sIs : Stmt := inClass (top 15) 4
def spPw (Ct Cp : Addr) : Sp := fun vs H Q _ => ∃ (p ch : Addr) (axs hyps : List Axiom) (keep L : List C) (chosen : List Nat), vs = [.ref p, .ref ch] ∧ TheoryAt Ct Cp H p axs hyps keep L ∧ ThOk axs hyps keep L ∧
  H ch = some (.lst (Nv chosen)) ∧ (∀ i ∈ chosen, i < hyps.length) ∧ chosen.length ≤ 1000 ∧ ∀ (H' : Hp), Same H H' → Q (.int (poss L (axs ++ sel hyps chosen) : Nat)) H'
def spAs (Ct Cp : Addr) : Sp := fun vs H Q _ => ∃ (p : Addr) (A : Nat) (axs hyps : List Axiom) (keep L : List C), vs = [.ref p, .int (A : Int)] ∧ TheoryAt Ct Cp H p axs hyps keep L ∧ ThOk axs hyps keep L ∧
  ∀ (H' : Hp), Same H H' → Q (.bl (keep.all fun c => (ext L c &&& A) != 0)) H'
def spSu (Ct Cp : Addr) : Sp := fun vs H Q _ => ∃ (p x y : Addr) (A : Nat) (axs hyps : List Axiom) (keep L : List C) (c d : C), vs = [.ref p, .int (A : Int), .ref x, .ref y] ∧ TheoryAt Ct Cp H p axs hyps keep L ∧ ThOk axs hyps keep L ∧
  CAt H x c ∧ CAt H y d ∧ Asks L c ∧ Asks L d ∧ ∀ (H' : Hp), Same H H' → Q (.bl (((ext L c &&& ((2 ^ 2 ^ L.length - 1) ^^^ ext L d)) &&& A) == 0)) H'
/-- whether a choice is sufficient, as the program reckons it -/
def suff (axs hyps : List Axiom) (keep L : List C) (chosen : List Nat) (c d : C) : Bool :=
  (keep.all fun k => (ext L k &&& poss L (axs ++ sel hyps chosen)) != 0) && (((ext L c &&& ((2 ^ 2 ^ L.length - 1) ^^^ ext L d)) &&& poss L (axs ++ sel hyps chosen)) == 0)
def spIs (Ct Cp : Addr) : Sp := fun vs H Q _ => ∃ (p ch x y : Addr) (axs hyps : List Axiom) (keep L : List C) (c d : C) (chosen : List Nat), vs = [.ref p, .ref ch, .ref x, .ref y] ∧ TheoryAt Ct Cp H p axs hyps keep L ∧ ThOk axs hyps keep L ∧
  H ch = some (.lst (Nv chosen)) ∧ (∀ i ∈ chosen, i < hyps.length) ∧ chosen.length ≤ 1000 ∧ CAt H x c ∧ CAt H y d ∧ Asks L c ∧ Asks L d ∧ ∀ (H' : Hp), Same H H' → Q (.bl (suff axs hyps keep L chosen c d)) H'
theorem scPw : FnScope ["self", "chosen", "number"] ["self", "chosen"] (defScope sPw) := ⟨rfl, rfl, rfl, by decide +kernel, rfl, by decide +kernel, by decide +kernel⟩
theorem scAs : FnScope ["self", "possible", "concept"] ["self", "possible"] (defScope sAs) := ⟨rfl, rfl, rfl, by decide +kernel, rfl, by decide +kernel, by decide +kernel⟩
theorem scSu : FnScope ["self", "possible", "first", "second", "outside"] ["self", "possible", "first", "second"] (defScope sSu) := ⟨rfl, rfl, rfl, by decide +kernel, rfl, by decide +kernel, by decide +kernel⟩
theorem scIs : FnScope ["self", "chosen", "first", "second", "possible"] ["self", "chosen", "first", "second"] (defScope sIs) := ⟨rfl, rfl, rfl, by decide +kernel, rfl, by decide +kernel, by decide +kernel⟩
theorem vEQ {a b : Nat} : decide (V.int (a : Int) = V.int (b : Int)) = (a == b) := by
  have := vNE (a := a) (b := b)
  rw [Bool.eq_iff_iff] at this ⊢
  simp only [Bool.not_eq_true', decide_eq_false_iff_not, bne_iff_ne] at this
  rw [decide_eq_true_eq, beq_iff_eq]
  exact ⟨fun h => Classical.byContradiction fun n => this.2 n h, fun h => Classical.byContradiction fun n => this.1 n h⟩
section
variable {P : Program} {w : World} {K : PySem.W.Frag} {mg : Str → Option Value} {base : Heap} {Ct Cp : Addr}
theorem ok_pw {f : Addr} {fd : FuncData} (F : Fun K "possible_with" "Theory.possible_with" sPw f fd) (T : ThTxt K Ct) (Tp : PfTxt K mg Cp) (cPo : MCalled P w K mg base Cp "possible" 4 ["self", "axioms"] (spPo K Cp)) :
    FnOk P w K mg base CX0 5 f fd ["self", "chosen"] (spPw Ct Cp) := by
  refine F.ok scPw (fun vs H Q E h => ?_) (fun cdv A outer s H vs Q E hr h => ?_)
  · obtain ⟨p, ch, axs, hyps, keep, L, chosen, rfl, _⟩ := h
    rfl
  · refine ⟨_, pss_one (ps_ret (pe_cm (pe_fld (pv 0) rfl) Tp.cl cPo hr (pa_cons (pe_op op_cat (pe_fld (pv 0) rfl)
      (pe_lc (own := [("number", 2)]) (g := gName 2) (te := tOp (rIxL K) (tFld K (tVar 0) "hypotheses") (tVar 2)) (by rfl) scPw.nd (pi_list (pv 1))
          (blkOk_by (own := [("number", 2)]) (N := ["self", "chosen", "number"]) (sc := defScope sPw) (by decide +kernel))
          (fun _ _ _ _ _ => pg_name (i := 2) scPw.nd rfl (Or.inl rfl))
          (fun _ _ _ _ _ => pts_nil)
          (fun _ _ _ _ _ => pe_ix ix_list (pe_fld (pv 0) rfl) (pv 2) (fun _ _ => rfl)))) pa_nil))), ?_⟩
    obtain ⟨p, ch, axs, hyps, keep, L, chosen, rfl, hT, ok, hch, hlt, hcl, q⟩ := h
    obtain ⟨dx, la, lh, lp, pp, ta, th, tk, e1, e2, e3, e4, e5, e6, e7, e8⟩ := hT
    have e8' := e8
    obtain ⟨ld, ⟨dz, lz, az, z1, z2, z3⟩, ds, z4, z5⟩ := e8
    refine ⟨_, rfl, p, Ct, dx, _, _, rfl, e1, T.cl, T.nR, tF_prof, pp, dz, _, rfl, z1, pF_no (by decide +kernel) (by decide +kernel) (by decide +kernel) (by decide +kernel), ?_⟩
    refine ⟨_, rfl, p, Ct, dx, _, _, rfl, e1, T.cl, T.nA, tF_axioms, _, rfl, ch, rfl, ⟨_, SqL.of hch⟩, fun D hD => ?_⟩
    refine lc_list (K := K) (a := ch) (xs := Nv chosen) (fun i H' => Same H H' ∧ ∃ bs : List Addr, H' D = some (.lst (bs.map V.ref)) ∧ Al2 (AxAt H) bs (sel hyps (chosen.take i)) ∧ bs.length ≤ i) ⟨same_upd hD, [], upd_same, .nil, Nat.le_refl _⟩ (fun i H' _ ⟨sm, _⟩ => SqL.of (sm _ _ hch)) ?_ ?_
    · rintro i x H' hx ⟨sm, bs, hl, hb, hbl⟩
      rw [Nv, List.getElem?_map] at hx
      cases hm : chosen[i]? with
      | none => rw [hm] at hx; cases hx
      | some n =>
        rw [hm] at hx
        obtain rfl := (Option.some.inj hx).symm
        have hil := (List.getElem?_eq_some_iff.mp hm).1
        have hn := hlt n (List.mem_of_getElem? hm)
        obtain ⟨ax, hax⟩ : ∃ a, hyps[n]? = some a := ⟨_, List.getElem?_eq_getElem hn⟩
        obtain ⟨t, ht, hat⟩ := e5.geta hax
        refine ⟨rfl, ?_⟩
        refine ⟨_, rfl, p, Ct, dx, _, _, rfl, sm _ _ e1, T.cl, T.nH, tF_hyps, _, rfl, lh, _, _, _, rfl, rfl, SqL.of (sm _ _ e4), atI_nat (show (th.map V.ref)[n]? = some (V.ref t) by rw [List.getElem?_map, ht]; rfl), _, hl, ?_, samePut sm hD, bs ++ [t], ?_, ?_, ?_⟩
        · rw [List.length_map]
          exact small_lt (by omega)
        · rw [upd_same, List.map_append]; rfl
        · rw [List.take_add_one, hm, Option.toList_some, sel_app]
          have : sel hyps [n] = [ax] := by simp [sel, hax]
          rw [this]
          exact hb.app (.cons hat .nil)
        · rw [List.length_append, List.length_singleton]
          omega
    · rintro H' ⟨sm, bs, hl, hb, hbl⟩
      rw [Nv_len, List.take_length] at hb
      rw [Nv_len] at hbl
      have hal := e3.len
      have hax := ok.axl
      refine ⟨la, D, _, _, rfl, rfl, sm _ _ e2, hl, ?_, fun r hr => ?_⟩
      · rw [List.length_map, List.length_map]
        exact Nat.le_trans (show ta.length + bs.length ≤ 100000 by omega) (by decide)
      have s2 := sm.trans (same_upd (o := HO.lst (ta.map V.ref ++ bs.map V.ref)) hr)
      refine ⟨pp, r, ta ++ bs, axs ++ sel hyps chosen, L, rfl, e8'.same s2, ok.good, by rw [upd_same, List.map_append], (e3.app hb).imp fun _ _ h => h.same s2, fun a ha => ?_, fun H3 s3 => q H3 (s2.trans s3)⟩
      rcases List.mem_append.1 ha with ha | ha
      · exact ok.ax a ha
      · exact ok.hy a (sel_mem ha)
theorem ok_as {f : Addr} {fd : FuncData} (F : Fun K "all_satisfiable" "Theory.all_satisfiable" sAs f fd) (T : ThTxt K Ct) (Tp : PfTxt K mg Cp) (mAll : mg "all" = none) (cEx : MCalled P w K mg base Cp "extent" 3 ["self", "concept"] (spEx K Cp)) :
    FnOk P w K mg base CX0 4 f fd ["self", "possible"] (spAs Ct Cp) := by
  refine F.ok scAs (fun vs H Q E h => ?_) (fun cdv A outer s H vs Q E hr h => ?_)
  · obtain ⟨p, ch, axs, hyps, keep, L, rfl, _⟩ := h
    rfl
  · refine ⟨_, pss_one (ps_ret (pe_callB (cr_all rfl) (by rfl) mAll (by decide +kernel) (pa_cons
      (pe_lc (own := [("concept", 2)]) (g := gName 2) (te := tOp rNe (tOp (rI0 fun i j => .int (Builtin.bitAnd i j)) (tMeth Cp "extent" (spEx K Cp) [] E0 (tFld K (tVar 0) "profiles") (tCons (tVar 2) tNil)) (tVar 1)) (tC (.int 0))) (by rfl) scAs.nd (pi_list (pe_fld (pv 0) rfl))
          (blkOk_by (own := [("concept", 2)]) (N := ["self", "possible", "concept"]) (sc := defScope sAs) (by decide +kernel))
          (fun _ _ _ _ _ => pg_name (i := 2) scAs.nd rfl (Or.inl rfl))
          (fun _ _ _ _ _ => pts_nil)
          (fun _ _ _ _ _ => pe_cmpR op_ne (pe_op op_and (pe_cm (pe_fld (pv 0) rfl) Tp.cl cEx hr (pa_cons (pv 2) pa_nil)) (pv 1)) pe_int (nomark _))) pa_nil))), ?_⟩
    obtain ⟨p, A, axs, hyps, keep, L, rfl, hT, ok, q⟩ := h
    obtain ⟨dx, la, lh, lp, pp, ta, th, tk, e1, e2, e3, e4, e5, e6, e7, e8⟩ := hT
    obtain ⟨ld, hPA, ds, z4, z5⟩ := e8
    obtain ⟨dz, lz, az, z1, z2, z3⟩ := id hPA
    refine ⟨_, rfl, p, Ct, dx, _, _, rfl, e1, T.cl, T.nP, tF_prot, lp, rfl, ⟨_, SqL.of e6⟩, fun D hD => ?_⟩
    refine lc_list (K := K) (a := lp) (xs := tk.map V.ref) (fun i H' => Same H H' ∧ H' D = some (.lst (((keep.take i).map fun c => (ext L c &&& A) != 0).map V.bl)))
      ⟨same_upd hD, upd_same⟩ (fun i H' _ ⟨sm, _⟩ => SqL.of (sm _ _ e6)) ?_ ?_
    · rintro i x H' hx ⟨sm, hl⟩
      obtain ⟨t, ht, rfl⟩ := ref_at hx
      obtain ⟨c, hc, hcat⟩ := e7.get ht
      have hil := (List.getElem?_eq_some_iff.mp hc).1
      have ak := ok.kp c (List.mem_of_getElem? hc)
      have hkl := ok.kpl
      refine ⟨rfl, ?_⟩
      refine ⟨_, rfl, p, Ct, dx, _, _, rfl, sm _ _ e1, T.cl, T.nR, tF_prof, pp, dz, _, rfl, sm _ _ z1, pF_no (by decide +kernel) (by decide +kernel) (by decide +kernel) (by decide +kernel), _, rfl, ?_⟩
      refine ⟨pp, t, L, some ld, c, rfl, hPA.same sm, hcat.same sm, ok.good, ak.valid, ak.short, ak.atoms, fun H2 s2 => ?_⟩
      refine ⟨_, rfl, _, _, rfl, rfl, rfl, _, s2 _ _ hl, ?_, samePut (sm.trans s2) hD, ?_⟩
      · rw [List.length_map, List.length_map, List.length_take]
        exact small_lt (by omega)
      · rw [upd_same, List.take_add_one, hc, Option.toList_some, List.map_append, List.map_append]
        show _ = some (HO.lst (_ ++ [V.bl ((ext L c &&& A) != 0)]))
        rw [← vNE, ← and_nat]
        rfl
    · rintro H' ⟨sm, hl⟩
      rw [List.length_map, e7.len, List.take_length] at hl
      refine ⟨D, _, rfl, SqL.of hl, ?_⟩
      rw [List.all_map]
      exact q H' sm
theorem ok_su {f : Addr} {fd : FuncData} (F : Fun K "subsumes" "Theory.subsumes" sSu f fd) (T : ThTxt K Ct) (Tp : PfTxt K mg Cp) (cEx : MCalled P w K mg base Cp "extent" 3 ["self", "concept"] (spEx K Cp)) :
    FnOk P w K mg base CX0 4 f fd ["self", "possible", "first", "second"] (spSu Ct Cp) := by
  refine F.ok scSu (fun vs H Q E h => ?_) (fun cdv A outer s H vs Q E hr h => ?_)
  · obtain ⟨p, x, y, A, axs, hyps, keep, L, c, d, rfl, _⟩ := h
    rfl
  · refine ⟨_, pss_cons (ps_set (i := 4) scSu.nd rfl (Or.inl rfl) (pe_op op_xor (pe_fld (pe_fld (pv 0) rfl) rfl) (pe_cm (pe_fld (pv 0) rfl) Tp.cl cEx hr (pa_cons (pv 3) pa_nil))))
      (pss_one (ps_ret (pe_cmpR op_eq (pe_op op_and (pe_op op_and (pe_cm (pe_fld (pv 0) rfl) Tp.cl cEx hr (pa_cons (pv 2) pa_nil)) (pv 4)) (pv 1)) pe_int (nomark _)))), ?_⟩
    obtain ⟨p, x, y, A, axs, hyps, keep, L, c, d, rfl, hT, ok, hx, hy, kc, kd, q⟩ := h
    obtain ⟨dx, la, lh, lp, pp, ta, th, tk, e1, e2, e3, e4, e5, e6, e7, e8⟩ := hT
    obtain ⟨ld, hPA, ds, z4, z5⟩ := e8
    obtain ⟨dz, lz, az, z1, z2, z3⟩ := id hPA
    refine ⟨_, rfl, p, Ct, dx, _, _, rfl, e1, T.cl, T.nR, tF_prof, pp, Cp, dz, _, _, rfl, z1, Tp.cl, Tp.nF, pF_full, ?_⟩
    refine ⟨_, rfl, p, Ct, dx, _, _, rfl, e1, T.cl, T.nR, tF_prof, pp, dz, _, rfl, z1, pF_no (by decide +kernel) (by decide +kernel) (by decide +kernel) (by decide +kernel), _, rfl, ?_⟩
    refine ⟨pp, y, L, some ld, d, rfl, hPA, hy, ok.good, kd.valid, kd.short, kd.atoms, fun H2 s2 => ?_⟩
    refine ⟨_, _, rfl, rfl, ?_⟩
    refine ⟨_, rfl, p, Ct, dx, _, _, rfl, s2 _ _ e1, T.cl, T.nR, tF_prof, pp, dz, _, rfl, s2 _ _ z1, pF_no (by decide +kernel) (by decide +kernel) (by decide +kernel) (by decide +kernel), _, rfl, ?_⟩
    refine ⟨pp, x, L, some ld, c, rfl, hPA.same s2, hx.same s2, ok.good, kc.valid, kc.short, kc.atoms, fun H3 s3 => ?_⟩
    refine ⟨_, rfl, _, _, rfl, rfl, _, rfl, _, _, rfl, rfl, rfl, ?_⟩
    rw [xor_nat, and_nat]
    show Q (V.bl (decide (V.int (Builtin.bitAnd ((ext L c &&& ((2 ^ 2 ^ L.length - 1) ^^^ ext L d) : Nat) : Int) (A : Int)) = V.int 0))) H3
    rw [and_nat]
    have := vEQ (a := (ext L c &&& ((2 ^ 2 ^ L.length - 1) ^^^ ext L d)) &&& A) (b := 0)
    have z : ((0 : Nat) : Int) = (0 : Int) := rfl
    rw [z] at this
    rw [this]
    exact q H3 (s2.trans s3)
theorem ok_is {f : Addr} {fd : FuncData} (F : Fun K "is_sufficient" "Theory.is_sufficient" sIs f fd) (T : ThTxt K Ct) (cPw : MCalled P w K mg base Ct "possible_with" 5 ["self", "chosen"] (spPw Ct Cp))
    (cAs : MCalled P w K mg base Ct "all_satisfiable" 4 ["self", "possible"] (spAs Ct Cp)) (cSu : MCalled P w K mg base Ct "subsumes" 4 ["self", "possible", "first", "second"] (spSu Ct Cp)) :
    FnOk P w K mg base CX0 6 f fd ["self", "chosen", "first", "second"] (spIs Ct Cp) := by
  refine F.ok scIs (fun vs H Q E h => ?_) (fun cdv A outer s H vs Q E hr h => ?_)
  · obtain ⟨p, ch, x, y, axs, hyps, keep, L, c, d, chosen, rfl, _⟩ := h
    rfl
  · refine ⟨_, pss_cons (ps_set (i := 4) scIs.nd rfl (Or.inl rfl) (pe_cm (pv 0) T.cl cPw hr (pa_cons (pv 1) pa_nil)))
      (pss_one (ps_ret (pe_and (pe_cm (pv 0) T.cl cAs (hr.mono (by decide)) (pa_cons (pv 4) pa_nil)) (pe_one (pe_cm (pv 0) T.cl cSu (hr.mono (by decide)) (pa_cons (pv 4) (pa_cons (pv 2) (pa_cons (pv 3) pa_nil)))))))), ?_⟩
    obtain ⟨p, ch, x, y, axs, hyps, keep, L, c, d, chosen, rfl, hT, ok, hch, hlt, hcl, hx, hy, kc, kd, q⟩ := h
    obtain ⟨dx, la, lh, lp, pp, ta, th, tk, e1, e2, e3, e4, e5, e6, e7, e8⟩ := id hT
    refine ⟨_, rfl, p, dx, _, rfl, e1, tF_no (by decide +kernel) (by decide +kernel) (by decide +kernel) (by decide +kernel), _, rfl, ?_⟩
    refine ⟨p, ch, axs, hyps, keep, L, chosen, rfl, hT, ok, hch, hlt, hcl, fun H1 s1 => ?_⟩
    refine ⟨_, rfl, p, dx, _, rfl, s1 _ _ e1, tF_no (by decide +kernel) (by decide +kernel) (by decide +kernel) (by decide +kernel), _, rfl, ?_⟩
    refine ⟨p, _, axs, hyps, keep, L, rfl, hT.same s1, ok, fun H2 s2 => ⟨_, rfl, ?_⟩⟩
    have s12 := s1.trans s2
    cases hk : (keep.all fun k => (ext L k &&& poss L (axs ++ sel hyps chosen)) != 0) with
    | false =>
      refine iteF ?_
      have : suff axs hyps keep L chosen c d = false := by unfold suff; rw [hk]; rfl
      rw [← this]
      exact q H2 s12
    | true =>
      refine iteT ⟨_, rfl, p, dx, _, rfl, s12 _ _ e1, tF_no (by decide +kernel) (by decide +kernel) (by decide +kernel) (by decide +kernel), _, rfl, _, rfl, _, rfl, ?_⟩
      refine ⟨p, x, y, _, axs, hyps, keep, L, c, d, rfl, hT.same s12, ok, hx.same s12, hy.same s12, kc, kd, fun H3 s3 => ?_⟩
      have : suff axs hyps keep L chosen c d = (((ext L c &&& ((2 ^ 2 ^ L.length - 1) ^^^ ext L d)) &&& poss L (axs ++ sel hyps chosen)) == 0) := by unfold suff; rw [hk]; rfl
      rw [← this]
      exact q H3 (s12.trans s3)
end
end Mx
set_option Elab.async false
set_option maxRecDepth 100000
set_option maxHeartbeats 4000000
namespace Mx
open PySem PySem.Spec PyProof.Rows L2 LamX
open Oc (C Axiom)
/-! what stands where only tables of code objects have changed -/
theorem ext_tupX {H H' : Hp} (x : ExtN H H') {b : Addr} {xs : List V} (e : H b = some (.tup xs)) : H' b = some (.tup xs) := x _ _ e fun ps z => by cases z
theorem ext_lstX {H H' : Hp} (x : ExtN H H') {b : Addr} {xs : List V} (e : H b = some (.lst xs)) : H' b = some (.lst xs) := x _ _ e fun ps z => by cases z
theorem ext_insX {H H' : Hp} (x : ExtN H H') {b c d : Addr} {fs : List (Str × V)} (e : H b = some (.ins c d fs)) : H' b = some (.ins c d fs) := x _ _ e fun ps z => by cases z
theorem CAt.ext {H H' : Hp} {a : Addr} {c : C} (x : ExtN H H') (h : CAt H a c) : CAt H' a c := ext_tupX x h
theorem CAll.ext {H H' : Hp} {as : List Addr} {cs : List C} (x : ExtN H H') (h : CAll H as cs) : CAll H' as cs := h.keep fun _ _ e => ext_tupX x e
theorem AxAt.ext {H H' : Hp} {t : Addr} {a : Axiom} (x : ExtN H H') (h : AxAt H t a) : AxAt H' t a := h.keep fun _ _ e => ext_tupX x e
theorem dOs_ext {H H' : Hp} {as : List Addr} {bs : List (List Nat)} (x : ExtN H H') (h : OAll dO H as bs) : OAll dO H' as bs := by
  induction h with
  | nil => exact .nil
  | cons h _ ih => exact .cons (ext_lstX x h) ih
theorem ProfF.ext {C : Addr} {H H' : Hp} {p : Addr} {L : List Oc.C} (x : ExtN H H') (h : ProfF C H p L) : ProfF C H' p L := by
  obtain ⟨ld, ⟨dx, la, as, h1, h2, h3⟩, ds, h4, h5⟩ := h
  exact ⟨ld, ⟨dx, la, as, ext_insX x h1, ext_lstX x h2, h3.ext x⟩, ds, ext_lstX x h4, dOs_ext x h5⟩
theorem TheoryAt.ext {Ct Cp : Addr} {H H' : Hp} {p : Addr} {axs hyps : List Axiom} {keep L : List C} (x : ExtN H H') (h : TheoryAt Ct Cp H p axs hyps keep L) : TheoryAt Ct Cp H' p axs hyps keep L := by
  obtain ⟨dx, la, lh, lp, pp, ta, th, tk, h1, h2, h3, h4, h5, h6, h7, h8⟩ := h
  exact ⟨dx, la, lh, lp, pp, ta, th, tk, ext_insX x h1, ext_lstX x h2, h3.imp fun _ _ h => h.ext x, ext_lstX x h4, h5.imp fun _ _ h => h.ext x, ext_lstX x h6, h7.ext x, h8.ext x⟩
/-- the explanations, as the program finds them -/
def eturn (axs hyps : List Axiom) (keep L : List C) (c d : C) (m : List (List Nat)) (s : List Nat) : List (List Nat) :=
  if (m.any fun k => Oc08.within k s) = true then m else if suff axs hyps keep L s c d = true then m ++ [s] else m
def expl (axs hyps : List Axiom) (keep L : List C) (c d : C) : List (List Nat) := (Oc08.sets hyps.length).foldl (eturn axs hyps keep L c d) []
theorem sets_small : ∀ n, n ≤ 4 → ∀ s ∈ Oc08.sets n, s.length ≤ 4 ∧ ∀ i ∈ s, i < n := by
  intro n hn
  match n, hn with
  | 0, _ => decide +kernel
  | 1, _ => decide +kernel
  | 2, _ => decide +kernel
  | 3, _ => decide +kernel
  | 4, _ => decide +kernel
theorem sets_len : ∀ n, n ≤ 4 → (Oc08.sets n).length ≤ 16 := by
  intro n hn
  match n, hn with
  | 0, _ => decide +kernel
  | 1, _ => decide +kernel
  | 2, _ => decide +kernel
  | 3, _ => decide +kernel
  | 4, _ => decide +kernel
abbrev sXp : Stmt := inClass (top 15) 5
def spXp (Ct Cp : Addr) (T : List (Addr × Str)) : Sp := fun vs H Q _ => ∃ (p x y : Addr) (axs hyps : List Axiom) (keep L : List C) (c d : C), vs = [.ref p, .ref x, .ref y] ∧ TheoryAt Ct Cp H p axs hyps keep L ∧ ThOk axs hyps keep L ∧ hyps.length ≤ 4 ∧
  CAt H x c ∧ CAt H y d ∧ Asks L c ∧ Asks L d ∧ Tabs T H ∧
  ∀ (H' : Hp) (r : Addr) (as : List Addr), ExtN H H' → Tabs T H' → H' r = some (.lst (as.map V.ref)) → OAll dO H' as (expl axs hyps keep L c d) → Q (.ref r) H'
theorem scXp : FnScope ["self", "first", "second", "found", "chosen", "minimal", "smaller"] ["self", "first", "second"] (defScope sXp) := ⟨rfl, rfl, rfl, by decide +kernel, rfl, by decide +kernel, by decide +kernel⟩
theorem OAll.ofList {H : Hp} {f : List Nat → HO} : ∀ {as : List Addr} {bs : List (List Nat)}, OAll f H as bs → ∀ b ∈ bs, ∃ a ∈ as, H a = some (f b)
  | _, _, .nil, b, h => absurd h (by simp)
  | _, _, .cons (a := a) h t, b, hb => by
    rcases List.mem_cons.1 hb with rfl | hb
    · exact ⟨a, by simp, h⟩
    · obtain ⟨a', ha, e⟩ := t.ofList b hb
      exact ⟨a', by simp [ha], e⟩
section
variable {P : Program} {w : World} {K : PySem.W.Frag} {mg : Str → Option Value} {base : Heap} {Ct Cp : Addr}
theorem ok_xp {f : Addr} {fd : FuncData} {Tb : List (Addr × Str)} (F : Fun K "explanations" "Theory.explanations" sXp f fd) (T : ThTxt K Ct) (mLen : mg "len" = none) (mAny : mg "any" = none) (cOs : Called P w K mg base "ordered_sets" 4 ["count"] (spOs Tb))
    (cIw : Called P w K mg base "is_within" 1 ["inner", "outer"] (spIw K)) (cIs : MCalled P w K mg base Ct "is_sufficient" 6 ["self", "chosen", "first", "second"] (spIs Ct Cp)) :
    FnOk P w K mg base CX0 7 f fd ["self", "first", "second"] (spXp Ct Cp Tb) := by
  refine F.ok scXp (fun vs H Q E h => ?_) (fun cdv A outer s H vs Q E hr h => ?_)
  · obtain ⟨p, x, y, axs, hyps, keep, L, c, d, rfl, _⟩ := h
    rfl
  · refine ⟨_, pss_cons (ps_set (i := 3) scXp.nd rfl (Or.inl rfl) (pe_lst pa_nil))
      (pss_cons (ps_for PassesOwn.never rfl (pi_list (pe_cl cOs (hr.mono (by decide)) (pa_cons (pe_callB call_len_seq (by rfl) mLen PySem.boot_len (pa_cons (pe_fld (pv 0) rfl) pa_nil)) pa_nil))) (pg_name (i := 4) scXp.nd rfl (Or.inr rfl))
        (pss_cons (ps_set (i := 5) scXp.nd rfl (Or.inl rfl) (pe_not (pe_callB (cr_any rfl) (by rfl) mAny (by decide +kernel) (pa_cons
            (pe_lc (own := [("smaller", 6)]) (g := gName 6) (te := tCall (spIw K) [] E0 (tCons (tVar 6) (tCons (tVar 4) tNil))) (by rfl) scXp.nd (pi_list (pv 3))
              (blkOk_by (own := [("smaller", 6)]) (N := ["self", "first", "second", "found", "chosen", "minimal", "smaller"]) (sc := defScope sXp) (by decide +kernel))
              (fun _ _ _ _ _ => pg_name (i := 6) scXp.nd rfl (Or.inl rfl))
              (fun _ _ _ _ _ => pts_nil)
              (fun _ _ _ _ _ => pe_cl cIw (hr.mono (by decide)) (pa_cons (pv 6) (pa_cons (pv 4) pa_nil)))) pa_nil))))
        (pss_one (ps_if (PW.pt (pw_and (pt_val (pv 5)) (pw_and1 (pt_val (pe_cm (pv 0) T.cl cIs hr (pa_cons (pv 4) (pa_cons (pv 1) (pa_cons (pv 2) pa_nil))))))))
          (pss_one (ps_expr (pe_bm PySem.F.plainAttrs_list PySem.F.slot_list_append PySem.F.type_list_append mt_append (pv 3) (pa_cons (pv 4) pa_nil)))) pss_nil))))
      (pss_one (ps_ret (pv 3)))), ?_⟩
    obtain ⟨p, x, y, axs, hyps, keep, L, c, d, rfl, hT, ok, h4, hx, hy, kc, kd, hTb, q⟩ := h
    refine ⟨by show 0 ≤ sizeLine; decide, fun fr hfr => ?_⟩
    have s1 : Same H (upd H fr (.lst [])) := same_upd hfr
    obtain ⟨dx, la, lh, lp, pp, ta, th, tk, e1, e2, e3, e4, e5, e6, e7, e8⟩ := id hT
    have hhl := e5.len
    refine ⟨_, rfl, p, Ct, dx, _, _, rfl, s1 _ _ e1, T.cl, T.nH, tF_hyps, lh, _, rfl, .inl (SqL.of (s1 _ _ e4)), hyps.length, by rw [List.length_map, hhl]; rfl, h4, hTb.ext s1, fun H2 ro os x2 tb2 ne2 hro hos => ?_⟩
    have nfr := ne2 fr _ upd_same (fun ps z => by cases z)
    have x12 : ExtN H H2 := (ExtN.of s1).trans x2
    have hfr2 : H2 fr = some (.lst []) := ext_lstX x2 upd_same
    refine ⟨ro, rfl, ⟨_, SqL.of hro⟩, for_list (K := K) (a := ro) (xs := os.map V.ref) (fun i σ H' => KB fr H2 H' ∧ ∃ (v4 v5 : Option V) (fs : List Addr), σ = [some (.ref p), some (.ref x), some (.ref y), some (.ref fr), v4, v5, none] ∧
      H' fr = some (.lst (fs.map V.ref)) ∧ OAll dO H' fs (((Oc08.sets hyps.length).take i).foldl (eturn axs hyps keep L c d) []) ∧ fr ∉ fs ∧ fs.length ≤ i ∧ ∀ b ∈ (((Oc08.sets hyps.length).take i).foldl (eturn axs hyps keep L c d) []), b.length ≤ 4)
      ⟨KB.refl fr H2, none, none, [], rfl, hfr2, .nil, by simp, Nat.le_refl _, by simp⟩ (fun i σ H' _ ⟨kb, _⟩ => SqL.of (kb _ _ hro (Ne.symm nfr.1))) ?_ ?_⟩
    · rintro i v σ H' hv ⟨kb, v4, v5, fs, rfl, hl, hfs, hnf, hfl, hbl⟩
      obtain ⟨a, ha, rfl⟩ := ref_at hv
      obtain ⟨s, hs, hsa⟩ := hos.get ha
      have hsm := List.mem_of_getElem? hs
      have hil := (List.getElem?_eq_some_iff.mp hs).1
      have h16 := sets_len _ h4
      obtain ⟨hs4, hslt⟩ := sets_small _ h4 s hsm
      have step := foldl_take (eturn axs hyps keep L c d) [] hs
      generalize hacc : (((Oc08.sets hyps.length).take i).foldl (eturn axs hyps keep L c d) []) = acc at hfs hbl step
      have naf : a ≠ fr := by
        intro z
        subst z
        exact nfr.2 (List.mem_of_getElem? ha)
      have hsa' : H' a = some (.lst (Nv s)) := kb _ _ hsa naf
      have xH : ExtN H H' := fun b o e n => kb _ _ (x12 _ _ e n) (ne_of_none e hfr)
      refine ⟨_, rfl, fr, rfl, ⟨_, SqL.of hl⟩, fun D hD => ?_⟩
      have sD : Same H' (upd H' D (.lst [])) := same_upd hD
      refine lc_list (K := K) (a := fr) (xs := fs.map V.ref) (fun j H3 => Same H' H3 ∧ H3 D = some (.lst (((acc.take j).map fun k => Oc08.within k s).map V.bl))) ⟨sD, upd_same⟩ (fun j H3 _ ⟨s3, _⟩ => SqL.of (s3 _ _ hl)) ?_ ?_
      · rintro j u H3 hu ⟨s3, hl3⟩
        obtain ⟨b, hb, rfl⟩ := ref_at hu
        obtain ⟨k, hk, hkb⟩ := hfs.get hb
        have hjl := (List.getElem?_eq_some_iff.mp hk).1
        have hal := hfs.len
        refine ⟨rfl, ?_⟩
        refine ⟨_, rfl, _, rfl, b, a, k, s, rfl, s3 _ _ hkb, s3 _ _ hsa', Nat.le_trans (hbl k (List.mem_of_getElem? hk)) (by decide), fun H5 s5 => ?_⟩
        refine ⟨_, s5 _ _ hl3, ?_, samePut (s3.trans s5) hD, ?_⟩
        · rw [List.length_map, List.length_map, List.length_take]
          exact small_lt (by omega)
        · rw [upd_same, List.take_add_one, hk, Option.toList_some, List.map_append, List.map_append]
          rfl
      · rintro H3 ⟨s3, hl3⟩
        rw [List.length_map, hfs.len, List.take_length] at hl3
        refine ⟨D, _, rfl, SqL.of hl3, _, rfl, ?_⟩
        have eany : ((acc.map fun k => Oc08.within k s).any id) = acc.any fun k => Oc08.within k s := by rw [List.any_map]; rfl
        rw [eany]
        refine ⟨_, rfl, _, rfl, ?_⟩
        have kb3 : KB fr H2 H3 := kb.same s3
        cases hw : acc.any fun k => Oc08.within k s with
        | true =>
          refine iteF (iteF ⟨kb3, _, _, fs, rfl, s3 _ _ hl, ?_, hnf, by omega, ?_⟩)
          · rw [step, eturn, if_pos hw]
            exact hfs.same s3
          · rw [step, eturn, if_pos hw]
            exact hbl
        | false =>
          refine iteT ?_
          have xH3 : ExtN H H3 := xH.trans (ExtN.of s3)
          refine ⟨_, rfl, p, dx, _, rfl, ext_insX xH3 e1, tF_no (by decide +kernel) (by decide +kernel) (by decide +kernel) (by decide +kernel), _, rfl, _, rfl, _, rfl, ?_⟩
          refine ⟨p, a, x, y, axs, hyps, keep, L, c, d, s, rfl, hT.ext xH3, ok, s3 _ _ hsa', hslt, by omega, hx.ext xH3, hy.ext xH3, kc, kd, fun H4 s4 => ⟨_, rfl, ?_⟩⟩
          have s34 := s3.trans s4
          have kb4 := kb3.same s4
          cases hsf : suff axs hyps keep L s c d with
          | false =>
            refine iteF ⟨kb4, _, _, fs, rfl, s34 _ _ hl, ?_, hnf, by omega, ?_⟩
            · rw [step, eturn, hw, if_neg Bool.false_ne_true, hsf, if_neg Bool.false_ne_true]
              exact hfs.same s34
            · rw [step, eturn, hw, if_neg Bool.false_ne_true, hsf, if_neg Bool.false_ne_true]
              exact hbl
          | true =>
            have hl4 := s34 _ _ hl
            refine iteT ⟨_, rfl, tyList hl4, _, rfl, fr, _, _, rfl, rfl, hl4, ?_, kb4.at, _, _, fs ++ [a], rfl, ?_, ?_, ?_, ?_, ?_⟩
            · rw [List.length_map]
              exact small_lt (by omega)
            · rw [upd_same, List.map_append]; rfl
            · rw [step, eturn, hw, if_neg Bool.false_ne_true, hsf, if_pos rfl]
              refine OAll.putN ((hfs.same s34).app (.cons (s34 _ _ hsa') .nil)) ?_
              intro h
              rcases List.mem_append.1 h with h | h
              · exact hnf h
              · rw [List.mem_singleton] at h
                exact naf h.symm
            · intro h
              rcases List.mem_append.1 h with h | h
              · exact hnf h
              · rw [List.mem_singleton] at h
                exact naf h.symm
            · rw [List.length_append, List.length_singleton]
              omega
            · rw [step, eturn, hw, if_neg Bool.false_ne_true, hsf, if_pos rfl]
              intro b hb
              rcases List.mem_append.1 hb with hb | hb
              · exact hbl b hb
              · rw [List.mem_singleton] at hb
                rw [hb]
                exact hs4
    · rintro σ H' ⟨kb, v4, v5, fs, rfl, hl, hfs, hnf, hfl, hbl⟩
      rw [List.length_map, hos.len, List.take_length] at hfs
      have xH : ExtN H H' := fun b o e n => kb _ _ (x12 _ _ e n) (ne_of_none e hfr)
      refine ⟨_, rfl, q H' fr fs xH (fun pr hpr => ?_) hl hfs⟩
      obtain ⟨ps, t1, t2, t3⟩ := tb2 pr hpr
      have nt : ∀ {b : Addr} {o : HO}, H2 b = some o → (∀ xs, o ≠ .lst xs) → H' b = some o := fun {b o} e n => kb _ _ e (by intro z; subst z; rw [hfr2] at e; exact n _ (Option.some.inj e).symm)
      refine ⟨ps, nt t1 (fun xs z => by cases z), t2, fun pos cv hcv => ?_⟩
      obtain ⟨c0, k1, k2⟩ := t3 pos cv hcv
      exact ⟨c0, k1, nt k2 (fun xs z => by unfold CodeO at z; cases z)⟩
end
end Mx
set_option Elab.async false
set_option linter.all false
set_option maxRecDepth 100000
set_option maxHeartbeats 3900000
/-! list(reversed(e)), e a list: a new list. -/
namespace Mx
open PySem PySem.Spec PyProof.Rows L2 RT
section
variable {pr : Program} {w : World} {A : Around} {E : Value → Shared → Prop} {s : Shared}
/-- the new list at z is filled from the back of the list at l -/
theorem fill_rev {R : Result → Shared → Prop} {z rv l : Addr} {zs : Array Value} {c0 : Nat} (calm : A.handled = none) (gi : s.heap.IsRevIter rv l ((zs.size : Int) - 1)) (hl : s.heap.IsList l zs) (gne : l ≠ rv) (hn : zs.size ≤ sizeLine) (h1 : z ≠ rv) (h2 : z ≠ l)
    (hz : s.heap.get? z = some { cls := .type "list", dict := none, data := .seq #[] c0, slots := #[] })
    (hR : ∀ (h' : Heap) (tk : Nat) (got : Array Value) (c : Nat), (∀ b o, b ≠ rv → b ≠ z → s.heap.get? b = some o → h'.get? b = some o) → h'.get? z = some { cls := .type "list", dict := none, data := .seq got c, slots := #[] } →
      ItemsOf (fun i v => zs[zs.size - 1 - i]? = some v) got zs.size → R (.ok (.ret .none)) { s with heap := h', toks := tk }) :
    wpAny (model pr w) A.in1 (Builtin.List.listExtendWith (.ref z) (.ref rv) .none)
      (fun fin s' => match fin with | .done f => R (.ok f) s' | .again c' => c'.quiet = true ∧ codeAny (model pr w) A c' R s') (fun e s' => R (.error e) s') s := by
  have wk := (Walks.listRev (prog := pr) (w := w) (A := A.in1) calm rv l gne zs).toS
  have hf : z ∉ [rv, l] := by simp only [List.mem_cons, List.not_mem_nil, or_false, not_or]; exact ⟨h1, h2⟩
  have ty := gi.typeIs
  have k1 : Builtin.List.listSameRef (.ref z) (.ref rv) = false := by simp [Builtin.List.listSameRef, h1]
  unfold Builtin.List.listExtendWith; refine wpAny_bind (wpAny_typeOf ty ?_)
  rw [if_neg (by rw [k1]; decide)]
  refine wpAny_bind (wpAny_pyIter_revIter gi ?_)
  refine wpAny_bind (wpAny_holding ?_); unfold Builtin.List.listLengthHint; refine wpAny_bind (wpAny_specialOf ty nolen_lri ?_)
  show wpAny _ A.in1 (specialOf (Value.ref rv) (Str.ofString "__length_hint__") >>= _) _ _ _
  refine wpAny_bind (wpAny_specialOf ty hint_lri ?_)
  generalize hi0 : ("list_reverseiterator.__length_hint__" : String) = wd
  wp_delta
  rw [show splitId wd = some ("list_reverseiterator", "__length_hint__") from by subst hi0; decide +kernel]
  subst hi0
  refine wpAny_bind (wpAny_isInstance (b := true) ty (by rw [isSubtype_type]; kernel_rfl) ?_)
  refine wpAny_pure ?_
  rw [if_neg (by decide)]
  have e0 : ((zs.size : Nat) : Int) - 1 - ((0 : Nat) : Int) = (zs.size : Int) - 1 := by omega
  refine wpAny_pure ⟨plainId_quiet F.plain_extend_loop _, codeAny_extend_loopS wk hn _ hf _ zs.size 0 _ _ _ rfl (Nat.zero_le _) ⟨Nat.zero_le _, by rw [e0]; exact gi, hl⟩ hz (ItemsOf.nil _) fun s' got' c' hm hS' hgot => ?_⟩
  rw [Moved.eq_with hm]
  refine hR s'.heap s'.toks got' c' (fun b o h3 h4 e => hm.heap b o (fun hmem => ?_) e) hS' hgot
  rcases List.mem_cons.mp hmem with ez | hmem
  · exact h4 ez
  · exact h3 (List.mem_singleton.mp hmem)
theorem init_rev {R : Result → Shared → Prop} {z rv l : Addr} {zs : Array Value} (calm : A.handled = none) (gi : s.heap.IsRevIter rv l ((zs.size : Int) - 1)) (hl : s.heap.IsList l zs) (gne : l ≠ rv) (hn : zs.size ≤ sizeLine) (h1 : z ≠ rv) (h2 : z ≠ l)
    (hz : s.heap.get? z = some { cls := .type "list", data := .seq #[] })
    (hR : ∀ (h' : Heap) (tk : Nat) (got : Array Value) (c : Nat), (∀ b o, b ≠ rv → b ≠ z → s.heap.get? b = some o → h'.get? b = some o) → h'.get? z = some { cls := .type "list", dict := none, data := .seq got c, slots := #[] } →
      ItemsOf (fun i v => zs[zs.size - 1 - i]? = some v) got zs.size → R (.ok (.ret .none)) { s with heap := h', toks := tk }) :
    wpAny (model pr w) A.in1 (Builtin.«list.__init__» ⟨[.ref z, .ref rv], []⟩)
      (fun fin s' => match fin with | .done f => R (.ok f) s' | .again c' => c'.quiet = true ∧ codeAny (model pr w) A c' R s') (fun e s' => R (.error e) s') s := by
  show wpAny _ A.in1 (Builtin.List.listItems (.ref z) >>= fun old => Builtin.List.listUpdate (.ref z) (fun _ => #[]) >>= fun _ => letGo old.toList.reverse >>= fun _ => Builtin.List.listExtendWith (.ref z) (.ref rv) .none) _ _ s
  refine wpAny_bind ?_
  unfold Builtin.List.listItems
  refine wpAny_bind (wpAny_seqItems hz rfl (wpAny_pure ?_))
  show wpAny _ A.in1 (updateSeq z (fun _ => #[]) >>= fun _ => letGo (#[] : Array Value).toList.reverse >>= fun _ => Builtin.List.listExtendWith (.ref z) (.ref rv) .none) _ _ s
  refine wpAny_bind (wpAny_updateSeq hz rfl ?_)
  have hz2 := Heap.get?_update_self (Obj.mapSeq (fun _ => (#[] : Array Value))) hz rfl
  have stays : ∀ b o, b ≠ z → s.heap.get? b = some o → (s.heap.update z (Obj.mapSeq (fun _ => (#[] : Array Value)))).get? b = some o :=
    fun c o nc e => (Heap.get?_update_other _ _ (Ne.symm nc)).trans e
  refine wpAny_bind (wpAny_letGo ?_); refine fill_rev calm (gi.at fun o e => stays rv o (Ne.symm h1) e) (hl.at fun o e => stays l o (Ne.symm h2) e) gne hn h1 h2 hz2 fun h' tk got c k hS hgot => ?_
  exact hR h' tk got c (fun b o h3 h4 e => k b o h3 h4 (stays b o h4 e)) hS hgot
theorem call_lstRev {Q : Value → Shared → Prop} {rv l : Addr} {zs : Array Value} (calm : A.handled = none) (gi : s.heap.IsRevIter rv l ((zs.size : Int) - 1)) (hl : s.heap.IsList l zs) (gne : l ≠ rv) (hn : zs.size ≤ sizeLine)
    (hQ : ∀ (h' : Heap) (tk : Nat) (got : Array Value) (c : Nat), (∀ b o, b ≠ rv → b ≠ s.heap.objs.size → s.heap.get? b = some o → h'.get? b = some o) → h'.get? s.heap.objs.size = some { cls := .type "list", dict := none, data := .seq got c, slots := #[] } →
      ItemsOf (fun i v => zs[zs.size - 1 - i]? = some v) got zs.size → Q (.ref s.heap.objs.size) { s with heap := h', toks := tk }) :
    wpAny (model pr w) A (call (.type "list") [.ref rv]) Q E s := by
  obtain ⟨oi, goi, _⟩ := id gi
  obtain ⟨ol, gol, _⟩ := id hl
  have k1 : s.heap.objs.size ≠ rv := Nat.ne_of_gt (Heap.lt_size goi)
  have k2 : s.heap.objs.size ≠ l := Nat.ne_of_gt (Heap.lt_size gol)
  refine callType_codes (Q₁ := fun ob sn => ob = .ref s.heap.objs.size ∧ sn = { s with heap := s.heap.push { cls := .type "list", data := .seq #[] } }) F.called_list (F.typeCall_list_1 _) F.entry_list_init
    (code_list_new _ ⟨rfl, rfl⟩) fun ob sn hz => ?_
  obtain ⟨rfl, rfl⟩ := hz
  have there : (s.heap.push { cls := .type "list", data := .seq #[] }).get? s.heap.objs.size = some { cls := .type "list", data := .seq #[] } := Heap.get?_push_size _ rfl
  refine ⟨⟨_, there, rfl⟩, F.args_list_init_2 _ _, init_rev (A := A.in1) (s := { s with heap := s.heap.push { cls := .type "list", data := .seq #[] } }) calm (gi.at fun o e => Heap.get?_push_of_some _ e) (hl.push _) gne hn k1 k2 there fun h' tk got c k hz hgot => ?_⟩
  exact ⟨rfl, hQ h' tk got c (fun b o h3 h4 e => k b o h3 h4 (Heap.get?_push_of_some _ e)) hz hgot⟩
end
/-- list(reversed(e)) -/
def tLstRev (K : PySem.W.Frag) (te : TE) : TE := fun σ H Q => te σ H fun v H1 => ∃ (a : Addr) (xs : List V), v = .ref a ∧ SqL K H1 a xs ∧ ∀ q, H1 q = none → Q (.ref q) (upd H1 q (.lst xs.reverse))
theorem pe_lstRev {X : Cx} {e : Expr} {te : TE} {p p2 pos pos2 : Pos} (hc : X.calm = true) (hg : Gl X "list") (hm : X.mg "list" = none) (hg2 : Gl X "reversed") (hm2 : X.mg "reversed" = none) (he : PE X e te)
    (st1 : starEach [e] X.env = (false, eval e X.env) :: starEach [] X.env := by rfl)
    (st2 : starEach [.Call (.Name "reversed" p2) [e] [] pos2] X.env = (false, eval (.Call (.Name "reversed" p2) [e] [] pos2) X.env) :: starEach [] X.env := by rfl) :
    PE X (.Call (.Name "list" p) [.Call (.Name "reversed" p2) [e] [] pos2] [] pos) (tLstRev X.K te) := by
  refine ⟨fun pins s σ H Q I h => ?_⟩
  have bl : bootBuiltins ("list" : Str) = some (.type "list") := by decide +kernel
  refine Call_ (ld_blt I hg hm bl (PyProof.Rows.callWith_type1 (args_cons (Call_ (ld_blt I hg2 hm2 PyProof.Rows.boot_reversed (PyProof.Rows.callWith_type1 (args_cons (thn (he.run pins s σ H _ I h) fun u s1 ⟨v, H1, I1, r1, q1⟩ => args_nil ?_) st1) st1 rfl))) st2) st2 rfl))
  obtain ⟨a, xs, rfl, hq, q⟩ := q1
  cases r1
  obtain ⟨its, rs, p', hz⟩ := I1.list hq
  refine call_reversed_list (items := its.toArray) p'.isList (args_nil ?_)
  have grow : ∀ b o, s1.heap.get? b = some o → (s1.heap.push (revObj a ((its.toArray.size : Int) - 1))).get? b = some o := fun b o e => Heap.get?_push_of_some _ e
  have hl := p'.isList
  obtain ⟨ol, gol, _⟩ := id hl
  have gne : a ≠ s1.heap.objs.size := Nat.ne_of_lt (Heap.lt_size gol)
  have hn : its.toArray.size ≤ sizeLine := by rw [List.size_toArray, ← rs.length]; exact hz
  have hsz : (s1.heap.push (revObj a ((its.toArray.size : Int) - 1))).objs.size = s1.heap.objs.size + 1 := size_push' _ _
  refine call_lstRev (s := { s1 with heap := s1.heap.push (revObj a ((its.toArray.size : Int) - 1)) }) (I1.ok.hd hc) ⟨_, Heap.get?_push_size _ rfl, rfl, rfl⟩ (hl.push _) gne hn fun h' tk got c hk hS hi => ?_
  have f0 := I1.hok.fresh (a := s1.heap.objs.size + 1) (Nat.le_succ _)
  have kk : ∀ b o, s1.heap.get? b = some o → h'.get? b = some o := fun b o e => hk b o (Nat.ne_of_lt (Heap.lt_size e)) (by rw [hsz]; exact Nat.ne_of_lt (Nat.lt_succ_of_lt (Heap.lt_size e))) (grow b o e)
  refine ⟨.ref (s1.heap.push (revObj a ((its.toArray.size : Int) - 1))).objs.size, upd H1 (s1.heap.objs.size + 1) (.lst xs.reverse), I1.laid (t' := tk) kk (Nat.le_succ _) (show ObjOk X.prog X.w _ _ _ (.lst xs.reverse) from ⟨by rw [List.length_reverse]; exact hz, got.toList, c, vals_rev rs hi, ?_⟩), ?_, ?_⟩
  · rw [Array.toArray_toList, ← hsz]
    exact hS
  · show Value.ref _ = Value.ref _
    rfl
  · rw [hsz]
    exact q _ f0
end Mx
set_option Elab.async false
set_option linter.all false
set_option maxRecDepth 100000
set_option maxHeartbeats 3900000
/-! min(xs, key=o.m): xs a list of objects, o.m a method of the program's own that answers a whole number: the first item with the least key. -/
namespace Mx
open PySem PySem.Spec PyProof.Rows L2
section
variable {X : Cx}
/-- the key's call -/
def KeyT (X : Cx) (A : Around) (f : Value) (s0 : Shared) (H0 : Hp) (as : List Addr) (kf : Nat → Int) : Prop :=
  ∀ (i : Nat) (x : Addr) (s : Shared) (H : Hp) (pins : List (Addr × Obj)) (σ : L2.St), as[i]? = some x → Inv X pins σ H s → Same H0 H → Un (frs X.stack) [] H0 H s0.heap s.heap →
    wpAny (model X.prog X.w) A (call f [Value.ref x]) (fun u s' => ∃ (H' : Hp) (t : Tok), s'.os = s.os ∧ AllBare s'.gens ∧ Un (frs X.stack) [] H H' s.heap s'.heap ∧ HOk X.prog X.w H' s'.heap ∧ Same H H' ∧ u = .int (kf i) t) (fun _ _ => False) s
/-- i is the first place of a least key among the first n -/
def Least (kf : Nat → Int) (n i : Nat) : Prop := ∀ j, j < n → kf i ≤ kf j ∧ (j < i → kf i < kf j)
theorem least_one (kf : Nat → Int) : Least kf 1 0 := fun j hj => by
  obtain rfl : j = 0 := by omega
  exact ⟨Int.le_refl _, fun z => absurd z (Nat.lt_irrefl _)⟩
theorem least_new {kf : Nat → Int} {n i : Nat} (h : Least kf n i) (hn : i < n) (c : kf n < kf i) : Least kf (n + 1) n := fun j hj => by
  by_cases e : j = n
  · subst e
    exact ⟨Int.le_refl _, fun z => absurd z (Nat.lt_irrefl _)⟩
  · have := (h j (by omega)).1
    exact ⟨by omega, fun hlt => by omega⟩
theorem least_old {kf : Nat → Int} {n i : Nat} (h : Least kf n i) (hn : i < n) (c : ¬ kf n < kf i) : Least kf (n + 1) i := fun j hj => by
  by_cases e : j = n
  · subst e
    exact ⟨by omega, fun z => by omega⟩
  · exact h j (by omega)
variable {s0 : Shared} {H0 : Hp} {kS a l q : Addr} {pins : List (Addr × Obj)} {σ : L2.St} {as : List Addr} {kf : Nat → Int} {A : Around} {R : Result → Shared → Prop}
theorem vals_refs {as : List Addr} {us : List Value} (h : Vals (as.map V.ref) us) : us = as.map Value.ref := by
  induction as generalizing us with
  | nil => cases h; rfl
  | cons x as ih =>
    cases h with
    | cons h1 h2 =>
      obtain rfl := ih h2
      cases h1
      rfl
theorem min_turns (I0 : Inv X pins σ H0 s0) (gk : s0.heap.objs.size ≤ kS) (ga : s0.heap.objs.size ≤ a) (hka : kS ≠ a) (hl : SqL X.K H0 l (as.map V.ref)) (calm : A.handled = none) (turn : KeyT X A.in1 (.ref q) s0 H0 as kf)
    (hR : ∀ (i : Nat) (x : Addr) (H : Hp) (s' : Shared), as[i]? = some x → Least kf as.length i → Mid X s0 H0 kS a H s' → R (.ok (.ret (.ref x))) s') :
    ∀ (r j i : Nat) (s : Shared) (H : Hp) (x : Addr) (tb : Tok) (c : Nat), as.length - (j + 1) = r → j + 1 ≤ as.length → Mid X s0 H0 kS a H s → s.heap.get? kS = some (seqObj "list" #[.ref x, .int (kf i) tb] c) → s.heap.IsListIter a l (j + 1) →
      as[i]? = some x → i ≤ j → Least kf (j + 1) i → codeAny (model X.prog X.w) A (.builtin "min.loop" ⟨[.ref a, .ref q, .ref kS], []⟩) R s := by
  have nm : (toString "min" ++ toString ".loop" : String) = "min.loop" := by decide
  have fresh : ∀ {c : Addr}, s0.heap.objs.size ≤ c → c ∉ frs X.stack := fun {c} g z => by
    have := I0.stkSub c z
    rcases List.mem_cons.1 this with z | z
    · have l := I0.lt
      rw [← z] at l
      exact Nat.lt_irrefl _ (Nat.lt_of_lt_of_le l g)
    · exact I0.nofs g z
  obtain ⟨us, rv, hp0, _⟩ := I0.list hl
  obtain rfl := vals_refs rv
  have hne : l ≠ a := by
    obtain ⟨ol, gol, _⟩ := id hp0.isList
    exact Nat.ne_of_lt (Nat.lt_of_lt_of_le (Heap.lt_size gol) ga)
  have lst : ∀ {s : Shared} {H : Hp}, Mid X s0 H0 kS a H s → s.heap.IsList l (as.map Value.ref).toArray := fun {s H} m => by
    obtain ⟨us, rv, hp, _⟩ := (m.inv I0).list (m.same.seq hl)
    obtain rfl := vals_refs rv
    exact hp.isList
  have wk := Walks.list (prog := X.prog) (w := X.w) (A := A.in1) calm a l hne (as.map Value.ref).toArray
  have sz : (as.map Value.ref).toArray.size = as.length := by simp
  intro r
  induction r with
  | zero =>
    intro j i s H x tb c hr hj m hk gi hx hij hb
    refine codeAny_builtin PySem.F.entry_min_loop ?_; rw [Around.under_plainId PySem.F.plain_min_loop _]; show wpAny _ A.in1 (seqItems? (.ref kS) >>= _) _ _ _
    refine wpAny_bind (wpAny_seqItems hk rfl ?_)
    show wpAny _ A.in1 (tryCatch (pyNext (.ref a)) _ >>= _) _ _ _
    refine wpAny_bind (wpAny_tryCatch (wk.done _ _ _ ⟨by rw [sz, show as.length = j + 1 by omega]; exact gi, lst m⟩ fun h' tn kp' => ?_))
    have m1 := m.but (h' := h') (tk := tn) gk ga fun b o _ h2 e => kp' b o (by simpa using h2) e
    have hS' := kp' kS _ (by simpa using hka) hk
    have s1 := Heap.SameBut.update h' kS (Obj.mapSeq fun _ => (#[] : Array Value))
    show wpAny _ A.in1 (updateSeq kS (fun _ => #[]) >>= _) _ _ _
    refine wpAny_bind ?_; refine wpAny_updateSeq hS' rfl (wpAny_bind (wpAny_letGo (wpAny_pure ?_)))
    refine hR i x H _ hx (by rw [show as.length = j + 1 by omega]; exact hb) ?_
    exact m1.but (tk := tn) gk ga fun b o h1 _ e => (s1.2 b h1).trans e
  | succ r ih =>
    intro j i s H x tb c hr hj m hk gi hx hij hb
    have jlt : j + 1 < as.length := by omega
    refine codeAny_builtin PySem.F.entry_min_loop ?_; rw [Around.under_plainId PySem.F.plain_min_loop _]; show wpAny _ A.in1 (seqItems? (.ref kS) >>= _) _ _ _
    refine wpAny_bind (wpAny_seqItems hk rfl ?_)
    show wpAny _ A.in1 (tryCatch (pyNext (.ref a)) _ >>= _) _ _ _
    refine wpAny_bind (wpAny_tryCatch (wk.item (j + 1) _ _ _ (by rw [sz]; exact jlt) ⟨gi, lst m⟩ fun v h' tn at0 st0 kp' => ?_))
    obtain ⟨y, hy⟩ : ∃ y, as[j + 1]? = some y := ⟨_, List.getElem?_eq_getElem jlt⟩
    obtain rfl : v = Value.ref y := by
      have : (as.map Value.ref)[j + 1]? = some v := by simpa using at0
      rw [List.getElem?_map, hy] at this
      exact Option.some.inj this.symm
    have m1 := m.but (h' := h') (tk := tn) gk ga fun b o _ h2 e => kp' b o (by simpa using h2) e
    have hS' := kp' kS _ (by simpa using hka) hk
    obtain ⟨io, goI, hoc, hod⟩ := id st0.1
    show wpAny _ A.in1 (tryCatch (holding [Value.ref y] (call (.ref q) [Value.ref y])) _ >>= _) _ _ _
    refine wpAny_bind (wpAny_tryCatch (wpAny_holding (wpAny_mono (turn (j + 1) y _ H pins σ hy (m1.inv I0) m1.same m1.un) (fun u s2 hq => ?_) fun _ _ q => q.elim)))
    obtain ⟨H2, t2, o2, b2, u2, k2, sm2, rfl⟩ := hq
    have nk2 := u2.keep kS _ hS' m1.nk (fresh gk) (by simp)
    have na2 := u2.keep a _ goI m1.na (fresh ga) (by simp)
    have m2 : Mid X s0 H0 kS a H2 s2 := ⟨o2.trans m1.os, b2, m1.un.trans u2, k2, m1.same.trans sm2, u2.free kS _ hS' m1.nk (by simp), u2.free a _ goI m1.na (by simp)⟩
    have gi2 : s2.heap.IsListIter a l (j + 1 + 1) := ⟨io, na2, hoc, hod⟩
    show wpAny _ A.in1 (tryCatch (holding [Value.ref y, .int (kf (j + 1)) t2] (richCompare .Lt (.int (kf (j + 1)) t2) (.int (kf i) tb) >>= _)) _ >>= _) _ _ _
    refine wpAny_bind (wpAny_tryCatch (wpAny_holding (wpAny_bind (CmpOf.ints_lt (prog := X.prog) (w := X.w) (A := A.in1) (P := fun i v => ∃ t, v = .int (kf i) t) kf (fun i v h => h) (j + 1) i _ _ _ _ _ ⟨t2, rfl⟩ ⟨tb, rfl⟩ ?_))))
    refine wpAny_bind (wpAny_holding (wpAny_truthy_bool ?_)); refine wpAny_bind (wpAny_letGo (wpAny_pure ?_))
    by_cases lt : kf (j + 1) < kf i
    · have s1 := Heap.SameBut.update s2.heap kS (Obj.mapSeq fun _ => #[Value.ref y, .int (kf (j + 1)) t2])
      obtain ⟨c2, hc2⟩ : ∃ c2, (s2.heap.update kS (Obj.mapSeq fun _ => #[Value.ref y, .int (kf (j + 1)) t2])).get? kS = some (seqObj "list" #[Value.ref y, .int (kf (j + 1)) t2] c2) := ⟨_, get?_update_seq nk2 fun _ => #[Value.ref y, .int (kf (j + 1)) t2]⟩
      simp only [lt, decide_true, if_true]
      refine wpAny_bind ?_
      refine wpAny_updateSeq nk2 rfl (wpAny_bind (wpAny_letGo ?_))
      rw [nm]
      exact wpAny_pure ⟨plainId_quiet PySem.F.plain_min_loop _, ih (j + 1) (j + 1) _ H2 y t2 c2 (by omega) jlt (m2.but (tk := s2.toks) gk ga fun b o h1 _ e => (s1.2 b h1).trans e) hc2 ⟨io, (s1.2 a (Ne.symm hka)).trans na2, hoc, hod⟩ hy (Nat.le_refl _) (least_new hb (by omega) lt)⟩
    · simp only [lt, decide_false, Bool.false_eq_true, if_false]
      refine wpAny_bind (wpAny_letGo ?_); rw [nm]
      exact wpAny_pure ⟨plainId_quiet PySem.F.plain_min_loop _, ih (j + 1) i _ H2 x tb c (by omega) jlt m2 nk2 gi2 hx (by omega) (least_old hb (by omega) lt)⟩
theorem min_call {s : Shared} {H : Hp} {Q : VK} (I : Inv X pins σ H s) (hl : SqL X.K H l (as.map V.ref)) (hne : 0 < as.length) (calm : X.A.handled = none) (turn : KeyT X X.A.in1 (.ref q) s H as kf)
    (fin : ∀ (i : Nat) (x : Addr) (H' : Hp), as[i]? = some x → Least kf as.length i → Same H H' → Q (.ref x) H') :
    wpAny (model X.prog X.w) X.A (call (.builtin "min") [Value.ref l] [(Str.ofString "key", Value.ref q)]) (EP X pins σ Q) X.xe s := by
  have nm : (toString "min" ++ toString ".loop" : String) = "min.loop" := by decide
  obtain ⟨us, rv, hp0, _⟩ := I.list hl
  obtain rfl := vals_refs rv
  have ls := hp0.isList
  obtain ⟨ol, gol, _⟩ := id ls
  have ll : l < s.heap.objs.size := Heap.lt_size gol
  refine kmk_tree (args := [.ref l]) PySem.F.kind_min PySem.F.plain_min PySem.F.entry_min (kmk_min_key _ _) ?_
  show wpAny _ X.A.in1 (Builtin.Builtins.bindParams "min" ["key", "default"] 0 ⟨[], [(Str.ofString "key", .ref q)]⟩ >>= _) _ _ s
  refine wpAny_bind (wpAny_of_eq (a := [some (.ref q), none]) (show Builtin.Builtins.bindParams "min" ["key", "default"] 0 ⟨[], [(Str.ofString "key", .ref q)]⟩ = pure [some (.ref q), none] from rfl) ?_)
  refine wpAny_bind (wpAny_pure (wpAny_bind (wpAny_pyIter_list ls (wpAny_bind (wpAny_newList ?_ (Nat.zero_le _))))))
  rw [nm]
  generalize gi0 : ({ cls := .type "list_iterator", data := .fields #[.ref l, .int 0 0] } : Obj) = itO
  have hS : (s.heap.push itO).objs.size = s.heap.objs.size + 1 := size_push' ..
  have gI : ((s.heap.push itO).push (seqObj "list" #[] 0)).get? s.heap.objs.size = some itO := Heap.get?_push_of_some _ (Heap.get?_push_size _ (by rw [← gi0]; rfl))
  have gS : ((s.heap.push itO).push (seqObj "list" #[] 0)).get? (s.heap.push itO).objs.size = some (seqObj "list" #[] 0) := Heap.get?_push_size _ rfl
  have hka : (s.heap.push itO).objs.size ≠ s.heap.objs.size := by rw [hS]; exact Nat.ne_of_gt (Nat.lt_succ_self _)
  have gk : s.heap.objs.size ≤ (s.heap.push itO).objs.size := by rw [hS]; exact Nat.le_succ _
  generalize (s.heap.push itO).objs.size = kS at gS hka gk
  have kp : ∀ b o, s.heap.get? b = some o → ((s.heap.push itO).push (seqObj "list" #[] 0)).get? b = some o := fun b o e => Heap.get?_push_of_some _ (Heap.get?_push_of_some _ e)
  have m0 : Mid X s H kS s.heap.objs.size H { s with heap := (s.heap.push itO).push (seqObj "list" #[] 0) } :=
    ⟨rfl, I.bare, Un.kept kp, I.hok.kept kp, Same.refl H, I.hok.fresh gk, I.hok.fresh (Nat.le_refl _)⟩
  generalize ((s.heap.push itO).push (seqObj "list" #[] 0)) = h2 at gI gS kp m0
  refine wpAny_pure (And.intro (plainId_quiet PySem.F.plain_min_loop _) ?_)
  have nel : l ≠ s.heap.objs.size := Nat.ne_of_lt ll
  have sz : (as.map Value.ref).toArray.size = as.length := by simp
  have wk := Walks.list (prog := X.prog) (w := X.w) (A := X.A.in1) calm s.heap.objs.size l nel (as.map Value.ref).toArray
  refine codeAny_builtin PySem.F.entry_min_loop ?_; rw [Around.under_plainId PySem.F.plain_min_loop _]; show wpAny _ X.A.in1 (seqItems? (.ref kS) >>= _) _ _ _
  refine wpAny_bind (wpAny_seqItems gS rfl ?_); show wpAny _ X.A.in1 (tryCatch (pyNext (.ref s.heap.objs.size)) _ >>= _) _ _ _
  refine wpAny_bind (wpAny_tryCatch (wk.item 0 _ _ _ (by rw [sz]; exact hne) ⟨⟨_, gI, by rw [← gi0], by rw [← gi0]; rfl⟩, ls.at fun o e => kp l o e⟩ fun v h' tn at0 st0 kp' => ?_))
  obtain ⟨y, hy⟩ : ∃ y, as[0]? = some y := ⟨_, List.getElem?_eq_getElem hne⟩
  obtain rfl : v = Value.ref y := by
    have : (as.map Value.ref)[0]? = some v := by simpa using at0
    rw [List.getElem?_map, hy] at this
    exact Option.some.inj this.symm
  have m1 := m0.but (h' := h') (tk := tn) gk (Nat.le_refl _) fun b o _ h2 e => kp' b o (by simpa using h2) e
  have hS' := kp' kS _ (by simpa using hka) gS
  obtain ⟨io, goI, hoc, hod⟩ := id st0.1
  show wpAny _ X.A.in1 (tryCatch (holding [Value.ref y] (call (.ref q) [Value.ref y])) _ >>= _) _ _ _
  refine wpAny_bind (wpAny_tryCatch (wpAny_holding (wpAny_mono (turn 0 y _ H pins σ hy (m1.inv I) m1.same m1.un) (fun u s2 hq => ?_) fun _ _ q => q.elim)))
  obtain ⟨H2, t2, o2, b2, u2, k2, sm2, rfl⟩ := hq
  have fresh : ∀ {c : Addr}, s.heap.objs.size ≤ c → c ∉ frs X.stack := fun {c} g z => by
    have := I.stkSub c z
    rcases List.mem_cons.1 this with z | z
    · have l := I.lt
      rw [← z] at l
      exact Nat.lt_irrefl _ (Nat.lt_of_lt_of_le l g)
    · exact I.nofs g z
  have nk2 := u2.keep kS _ hS' m1.nk (fresh gk) (by simp)
  have na2 := u2.keep s.heap.objs.size _ goI m1.na (fresh (Nat.le_refl _)) (by simp)
  have m2 : Mid X s H kS s.heap.objs.size H2 s2 := ⟨o2.trans m1.os, b2, m1.un.trans u2, k2, m1.same.trans sm2, u2.free kS _ hS' m1.nk (by simp), u2.free s.heap.objs.size _ goI m1.na (by simp)⟩
  have s1 := Heap.SameBut.update s2.heap kS (Obj.mapSeq fun _ => #[Value.ref y, .int (kf 0) t2])
  obtain ⟨c2, hc2⟩ : ∃ c2, (s2.heap.update kS (Obj.mapSeq fun _ => #[Value.ref y, .int (kf 0) t2])).get? kS = some (seqObj "list" #[Value.ref y, .int (kf 0) t2] c2) := ⟨_, get?_update_seq nk2 fun _ => #[Value.ref y, .int (kf 0) t2]⟩
  show wpAny _ X.A.in1 (updateSeq kS (fun _ => #[Value.ref y, .int (kf 0) t2]) >>= _) _ _ _
  refine wpAny_bind ?_
  refine wpAny_updateSeq nk2 rfl ?_
  rw [nm]
  refine wpAny_pure ⟨plainId_quiet PySem.F.plain_min_loop _, min_turns I gk (Nat.le_refl _) hka hl calm turn (fun i x H' s' hx hb m => ?_) _ 0 0 _ H2 y t2 c2 rfl hne (m2.but (tk := s2.toks) gk (Nat.le_refl _) fun b o h1 _ e => (s1.2 b h1).trans e) hc2 ⟨io, (s1.2 _ (Ne.symm hka)).trans na2, hoc, hod⟩ hy (Nat.le_refl _) (least_one kf)⟩
  exact ⟨.ref x, H', m.inv I, rfl, fin i x H' hx hb m.same⟩
end
end Mx
set_option Elab.async false
set_option linter.all false
set_option maxRecDepth 100000
set_option maxHeartbeats 4000000
/-! min(e, key=o.m) as a term. -/
namespace Mx
open PySem PySem.Spec PyProof.Rows L2
/-- a method that keeps a promise and may be handed on -/
structure BCalled (P : Program) (w : World) (K : PySem.W.Frag) (mg : Str → Option Value) (base : Heap) (C : Addr) (m : Str) (k : Nat) (ps : List Str) (sp : Sp) : Prop where
  ex : ∃ f fd, FnOk P w K mg base CX0 k f fd ps sp ∧ BMeth K C m f ∧ Binds K fd ps []
theorem BCalled.m {P : Program} {w : World} {K : PySem.W.Frag} {mg : Str → Option Value} {base : Heap} {C : Addr} {m : Str} {k : Nat} {ps : List Str} {sp : Sp} (c : BCalled P w K mg base C m k ps sp) : MCalled P w K mg base C m k ps sp := by
  obtain ⟨f, fd, F, b, hb⟩ := c.ex
  exact ⟨f, fd, F, b.mt, hb⟩
def rMinB (C : Addr) (m : Str) (sp : Sp) (to : TE) (σ : L2.St) (Q : VK) (v : V) (H1 : Hp) : Prop := ∃ (l : Addr) (as : List Addr), v = .ref l ∧ 0 < as.length ∧ to σ H1 fun x H2 => ∃ (a dx : Addr) (fs : List (Str × V)) (kf : Nat → Int), x = .ref a ∧ H2 a = some (.ins C dx fs) ∧ fs.lookup m = none ∧
  H2 l = some (.lst (as.map V.ref)) ∧ (∀ (i : Nat) (x : Addr) (H3 : Hp) (Q' : VK), as[i]? = some x → Same H2 H3 → (∀ H4, Same H3 H4 → Q' (.int (kf i)) H4) → sp [.ref a, .ref x] H3 Q' E0) ∧
  ∀ (i : Nat) (x : Addr) (H3 : Hp), as[i]? = some x → Least kf as.length i → Same H2 H3 → Q (.ref x) H3
def tMinB (C : Addr) (m : Str) (sp : Sp) (to te : TE) : TE := fun σ H Q => te σ H fun v H1 => rMinB C m sp to σ Q v H1
theorem pe_minB {X : Cx} {C : Addr} {m : Str} {k : Nat} {ps : List Str} {sp : Sp} {o e : Expr} {to te : TE} {p apos kpos pos : Pos} (c : BCalled X.prog X.w X.K X.mg X.base C m k ps sp) (cl : Cls X.K C) (hr : Room (k + 1) X.A) (hg : Gl X "min") (hm : X.mg "min" = none) (he : PE X e te) (ho : PE X o to)
    (hbase : attributeBase o m X.env (eval o X.env) = eval o X.env := by rfl)
    (h0 : starEach [e] X.env = (false, eval e X.env) :: starEach [] X.env := by rfl) (h1 : backTo pos (starEach [e] X.env) = (false, eval e X.env) :: backTo pos (starEach [] X.env) := by rfl) (h2 : (backTo pos (starEach [e] X.env)).any (·.1) = false := by rfl) :
    PE X (.Call (.Name "min" p) [e] [⟨some "key", .Attribute o m apos, kpos⟩] pos) (tMinB C m sp to te) := by
  obtain ⟨f, fd, F, b, hb⟩ := c.ex
  have FR := F.raw hb .nil
  refine ⟨fun pins s σ H Q I h => ?_⟩
  have hv : bootBuiltins ("min" : Str) = some (.builtin "min") := by decide +kernel
  refine wpAny_Call_Name_kw (ld_blt I hg hm hv ?_ (by decide) (by decide))
  refine PyProof.Rows.callWith_kw (thn ((pa_cons he pa_nil h0).run pos pins s σ H (fun vs H1 => match vs with | [v] => rMinB C m sp to σ Q v H1 | _ => False) I h) fun us s1 ⟨vs, H1, I1, r1, q1⟩ => ?_) h1 h2 rfl rfl
  match vs, r1, q1 with
  | [v], r1, q1 =>
    obtain ⟨u, rfl, rl⟩ := vals1 r1
    obtain ⟨l, as, rfl, hne, q2⟩ := q1
    cases rl
    show wpAny _ _ (evalAll ((do let v ← eval (.Attribute o m apos) X.env; standAt pos; pure v) :: [])) _ _ s1
    refine wpAny_evalAll_cons (wpAny_bind (attr_of hbase (thn (ho.run pins s1 σ H1 _ I1 q2) fun u s2 ⟨x, H2, I2, rx, a, dx, fs, kf, ex, ea, lk, hl, hk, fin⟩ => ?_)))
    subst ex
    obtain rfl : u = Value.ref a := rx
    refine getbound_ok I2 ea cl b lk fun q s3 hq I3 => wpAny_bind (wpAny_standAt (wpAny_pure ?_))
    refine wpAny_evalAll_nil ?_
    have s23 : Same H2 (upd H2 q (.met f a)) := same_upd hq
    have eq : (upd H2 q (.met f a)) q = some (.met f a) := upd_same
    generalize (upd H2 q (.met f a)) = H3 at s23 eq I3
    refine min_call (kf := kf) I3 (SqL.of (s23 _ _ hl)) hne hr.hd ?_ fun i x H' hx hb sm => fin i x H' hx hb (s23.trans sm)
    intro i x s4 H4 pins4 σ4 hx I4 sm un
    have e0 : Env0 X.prog X.w X.K X.mg X.base X.A.in1 X.stack s4 H4 := by
      have e := I4.env0
      exact ⟨e.frames, e.mod, e.bs, e.bsz, e.funs, e.frf, e.hok, e.bare⟩
    refine wpAny_call (PySem.W.method_call (met_P I4 (sm _ _ eq)).1 (codeAny_mono (FR X.A.in1 X.stack s4 H4 [Value.ref a, Value.ref x] [V.ref a, V.ref x] (fun v H' => Same H4 H' ∧ v = .int (kf i)) E0 hr.in1 e0 (.cons rfl (.cons rfl .nil)) (hk i x H4 _ hx (s23.trans sm) fun H5 s5 => ⟨s5, rfl⟩)) fun r s' hq => ?_))
    cases r with
    | error e => exact False.elim hq
    | ok fl =>
      cases fl with
      | ret u =>
        obtain ⟨v, H', o', b', u', k', rv, sm', rfl⟩ := hq
        obtain ⟨t, rfl⟩ := rv
        exact ⟨H', t, o', b', u', k', sm', rfl⟩
      | next => exact False.elim hq
      | brk => exact False.elim hq
      | cont => exact False.elim hq
end Mx
set_option Elab.async false
set_option maxRecDepth 100000
set_option maxHeartbeats 4000000
namespace Mx
open PySem PySem.Spec PyProof.Rows L2 LamX
open Oc (C Axiom)
/-- whether a choice is compatible, as the program reckons it -/
def fits (axs hyps : List Axiom) (keep L : List C) (s : List Nat) : Bool := keep.all fun k => (ext L k &&& poss L (axs ++ sel hyps s)) != 0
def gturn (axs hyps : List Axiom) (keep L : List C) (m : List (List Nat)) (s : List Nat) : List (List Nat) :=
  if (m.any fun k => Oc08.within s k) = true then m else if fits axs hyps keep L s = true then m ++ [s] else m
def great (axs hyps : List Axiom) (keep L : List C) : List (List Nat) := ((Oc08.sets hyps.length).reverse.foldl (gturn axs hyps keep L) []).reverse
abbrev sGs : Stmt := inClass (top 15) 6
def spGs (Ct Cp : Addr) (T : List (Addr × Str)) : Sp := fun vs H Q _ => ∃ (p : Addr) (axs hyps : List Axiom) (keep L : List C), vs = [.ref p] ∧ TheoryAt Ct Cp H p axs hyps keep L ∧ ThOk axs hyps keep L ∧ hyps.length ≤ 4 ∧ Tabs T H ∧
  ∀ (H' : Hp) (r : Addr) (as : List Addr), ExtN H H' → Tabs T H' → H' r = some (.lst (as.map V.ref)) → OAll dO H' as (great axs hyps keep L) → Q (.ref r) H'
theorem scGs : FnScope ["self", "found", "chosen", "covered", "larger"] ["self"] (defScope sGs) := ⟨rfl, rfl, rfl, by decide +kernel, rfl, by decide +kernel, by decide +kernel⟩
theorem OAll.rev {β : Type} {f : β → HO} {H : Hp} {as : List Addr} {bs : List β} (h : OAll f H as bs) : OAll f H as.reverse bs.reverse := by
  induction h with
  | nil => exact .nil
  | cons h _ ih =>
    rw [List.reverse_cons, List.reverse_cons]
    exact ih.app (.cons h .nil)
section
variable {P : Program} {w : World} {K : PySem.W.Frag} {mg : Str → Option Value} {base : Heap} {Ct Cp : Addr}
theorem ok_gs {f : Addr} {fd : FuncData} {Tb : List (Addr × Str)} (F : Fun K "greatest_sets" "Theory.greatest_sets" sGs f fd) (T : ThTxt K Ct) (mLen : mg "len" = none) (mAny : mg "any" = none) (mRev : mg "reversed" = none) (mList : mg "list" = none) (cOs : Called P w K mg base "ordered_sets" 4 ["count"] (spOs Tb))
    (cIw : Called P w K mg base "is_within" 1 ["inner", "outer"] (spIw K)) (cPw : MCalled P w K mg base Ct "possible_with" 5 ["self", "chosen"] (spPw Ct Cp)) (cAs : MCalled P w K mg base Ct "all_satisfiable" 4 ["self", "possible"] (spAs Ct Cp)) :
    FnOk P w K mg base CX0 7 f fd ["self"] (spGs Ct Cp Tb) := by
  refine F.ok scGs (fun vs H Q E h => ?_) (fun cdv A outer s H vs Q E hr h => ?_)
  · obtain ⟨p, axs, hyps, keep, L, rfl, _⟩ := h
    rfl
  · refine ⟨_, pss_cons (ps_set (i := 1) scGs.nd rfl (Or.inl rfl) (pe_lst pa_nil))
      (pss_cons (ps_for PassesOwn.never rfl (pi_reversed (by rfl) mRev (pa_cons (pe_cl cOs (hr.mono (by decide)) (pa_cons (pe_callB call_len_seq (by rfl) mLen PySem.boot_len (pa_cons (pe_fld (pv 0) rfl) pa_nil)) pa_nil)) pa_nil)) (pg_name (i := 2) scGs.nd rfl (Or.inr rfl))
        (pss_cons (ps_set (i := 3) scGs.nd rfl (Or.inl rfl) (pe_callB (cr_any rfl) (by rfl) mAny (by decide +kernel) (pa_cons
            (pe_lc (own := [("larger", 4)]) (g := gName 4) (te := tCall (spIw K) [] E0 (tCons (tVar 2) (tCons (tVar 4) tNil))) (by rfl) scGs.nd (pi_list (pv 1))
              (blkOk_by (own := [("larger", 4)]) (N := ["self", "found", "chosen", "covered", "larger"]) (sc := defScope sGs) (by decide +kernel))
              (fun _ _ _ _ _ => pg_name (i := 4) scGs.nd rfl (Or.inl rfl))
              (fun _ _ _ _ _ => pts_nil)
              (fun _ _ _ _ _ => pe_cl cIw (hr.mono (by decide)) (pa_cons (pv 2) (pa_cons (pv 4) pa_nil)))) pa_nil)))
        (pss_one (ps_if (PW.pt (pw_and (pt_not (pt_val (pv 3))) (pw_and1 (pt_val (pe_cm (pv 0) T.cl cAs (hr.mono (by decide)) (pa_cons (pe_cm (pv 0) T.cl cPw (hr.mono (by decide)) (pa_cons (pv 2) pa_nil)) pa_nil))))))
          (pss_one (ps_expr (pe_bm PySem.F.plainAttrs_list PySem.F.slot_list_append PySem.F.type_list_append mt_append (pv 1) (pa_cons (pv 2) pa_nil)))) pss_nil))))
      (pss_one (ps_ret (pe_lstRev rfl (by rfl) mList (by rfl) mRev (pv 1))))), ?_⟩
    obtain ⟨p, axs, hyps, keep, L, rfl, hT, ok, h4, hTb, q⟩ := h
    refine ⟨by show 0 ≤ sizeLine; decide, fun fr hfr => ?_⟩
    have s1 : Same H (upd H fr (.lst [])) := same_upd hfr
    obtain ⟨dx, la, lh, lp, pp, ta, th, tk, e1, e2, e3, e4, e5, e6, e7, e8⟩ := id hT
    have hhl := e5.len
    refine ⟨_, rfl, p, Ct, dx, _, _, rfl, s1 _ _ e1, T.cl, T.nH, tF_hyps, lh, _, rfl, .inl (SqL.of (s1 _ _ e4)), hyps.length, by rw [List.length_map, hhl]; rfl, h4, hTb.ext s1, fun H2 ro os x2 tb2 ne2 hro hos => ?_⟩
    have nfr := ne2 fr _ upd_same (fun ps z => by cases z)
    have x12 : ExtN H H2 := (ExtN.of s1).trans x2
    have hfr2 : H2 fr = some (.lst []) := ext_lstX x2 upd_same
    have hsl := hos.len
    refine ⟨ro, _, rfl, SqL.of hro, for_rev (K := K) (a := ro) (xs := os.map V.ref) (fun i σ H' => KB fr H2 H' ∧ ∃ (v4 v5 : Option V) (fs : List Addr), σ = [some (.ref p), some (.ref fr), v4, v5, none] ∧
      H' fr = some (.lst (fs.map V.ref)) ∧ OAll dO H' fs (((Oc08.sets hyps.length).reverse.take i).foldl (gturn axs hyps keep L) []) ∧ fr ∉ fs ∧ fs.length ≤ i)
      ⟨KB.refl fr H2, none, none, [], rfl, hfr2, .nil, by simp, Nat.le_refl _⟩ (fun i σ H' _ ⟨kb, _⟩ => SqL.of (kb _ _ hro (Ne.symm nfr.1))) ?_ ?_⟩
    · rintro i v σ H' hi hv ⟨kb, v4, v5, fs, rfl, hl, hfs, hnf, hfl⟩
      rw [List.length_map] at hi hv
      obtain ⟨a, ha, rfl⟩ := ref_at hv
      obtain ⟨s, hs, hsa⟩ := hos.get ha
      have hsm := List.mem_of_getElem? hs
      have h16 := sets_len _ h4
      have hsr : (Oc08.sets hyps.length).reverse[i]? = some s := by
        rw [List.getElem?_reverse (by omega), ← hsl]
        exact hs
      obtain ⟨hs4, hslt⟩ := sets_small _ h4 s hsm
      have step := foldl_take (gturn axs hyps keep L) [] hsr
      generalize hacc : (((Oc08.sets hyps.length).reverse.take i).foldl (gturn axs hyps keep L) []) = acc at hfs step
      have naf : a ≠ fr := by
        intro z
        subst z
        exact nfr.2 (List.mem_of_getElem? ha)
      have hsa' : H' a = some (.lst (Nv s)) := kb _ _ hsa naf
      have xH : ExtN H H' := fun b o e n => kb _ _ (x12 _ _ e n) (ne_of_none e hfr)
      refine ⟨_, rfl, fr, rfl, ⟨_, SqL.of hl⟩, fun D hD => ?_⟩
      have sD : Same H' (upd H' D (.lst [])) := same_upd hD
      refine lc_list (K := K) (a := fr) (xs := fs.map V.ref) (fun j H3 => Same H' H3 ∧ H3 D = some (.lst (((acc.take j).map fun k => Oc08.within s k).map V.bl))) ⟨sD, upd_same⟩ (fun j H3 _ ⟨s3, _⟩ => SqL.of (s3 _ _ hl)) ?_ ?_
      · rintro j u H3 hu ⟨s3, hl3⟩
        obtain ⟨b, hb, rfl⟩ := ref_at hu
        obtain ⟨k, hk, hkb⟩ := hfs.get hb
        have hjl := (List.getElem?_eq_some_iff.mp hk).1
        have hal := hfs.len
        refine ⟨rfl, ?_⟩
        refine ⟨_, rfl, _, rfl, a, b, s, k, rfl, s3 _ _ hsa', s3 _ _ hkb, by omega, fun H5 s5 => ?_⟩
        refine ⟨_, s5 _ _ hl3, ?_, samePut (s3.trans s5) hD, ?_⟩
        · rw [List.length_map, List.length_map, List.length_take]
          exact small_lt (by omega)
        · rw [upd_same, List.take_add_one, hk, Option.toList_some, List.map_append, List.map_append]
          rfl
      · rintro H3 ⟨s3, hl3⟩
        rw [List.length_map, hfs.len, List.take_length] at hl3
        refine ⟨D, _, rfl, SqL.of hl3, ?_⟩
        have eany : ((acc.map fun k => Oc08.within s k).any id) = acc.any fun k => Oc08.within s k := by rw [List.any_map]; rfl
        rw [eany]
        refine ⟨_, rfl, _, rfl, ?_⟩
        have kb3 : KB fr H2 H3 := kb.same s3
        cases hw : acc.any fun k => Oc08.within s k with
        | true =>
          refine iteF (iteF ⟨kb3, _, _, fs, rfl, s3 _ _ hl, ?_, hnf, by omega⟩)
          rw [step, gturn, if_pos hw]
          exact hfs.same s3
        | false =>
          refine iteT ?_
          have xH3 : ExtN H H3 := xH.trans (ExtN.of s3)
          refine ⟨_, rfl, p, dx, _, rfl, ext_insX xH3 e1, tF_no (by decide +kernel) (by decide +kernel) (by decide +kernel) (by decide +kernel), _, rfl, p, dx, _, rfl, ext_insX xH3 e1, tF_no (by decide +kernel) (by decide +kernel) (by decide +kernel) (by decide +kernel), _, rfl, ?_⟩
          refine ⟨p, a, axs, hyps, keep, L, s, rfl, hT.ext xH3, ok, s3 _ _ hsa', hslt, by omega, fun H4 s4 => ?_⟩
          refine ⟨p, _, axs, hyps, keep, L, rfl, (hT.ext xH3).same s4, ok, fun H5 s5 => ⟨_, rfl, ?_⟩⟩
          have s35 := (s3.trans s4).trans s5
          have kb5 := (kb3.same s4).same s5
          cases hsf : fits axs hyps keep L s with
          | false =>
            have hsf' : (keep.all fun c => (ext L c &&& poss L (axs ++ sel hyps s)) != 0) = false := hsf
            rw [hsf']
            refine iteF ⟨kb5, _, _, fs, rfl, s35 _ _ hl, ?_, hnf, by omega⟩
            rw [step, gturn, hw, if_neg Bool.false_ne_true, hsf, if_neg Bool.false_ne_true]
            exact hfs.same s35
          | true =>
            have hsf' : (keep.all fun c => (ext L c &&& poss L (axs ++ sel hyps s)) != 0) = true := hsf
            rw [hsf']
            have hl5 := s35 _ _ hl
            refine iteT ⟨_, rfl, tyList hl5, _, rfl, fr, _, _, rfl, rfl, hl5, ?_, kb5.at, _, _, fs ++ [a], rfl, ?_, ?_, ?_, ?_⟩
            · rw [List.length_map]
              exact small_lt (by omega)
            · rw [upd_same, List.map_append]; rfl
            · rw [step, gturn, hw, if_neg Bool.false_ne_true, hsf, if_pos rfl]
              refine OAll.putN ((hfs.same s35).app (.cons (s35 _ _ hsa') .nil)) ?_
              intro h
              rcases List.mem_append.1 h with h | h
              · exact hnf h
              · rw [List.mem_singleton] at h
                exact naf h.symm
            · intro h
              rcases List.mem_append.1 h with h | h
              · exact hnf h
              · rw [List.mem_singleton] at h
                exact naf h.symm
            · rw [List.length_append, List.length_singleton]
              omega
    · rintro σ H' ⟨kb, v4, v5, fs, rfl, hl, hfs, hnf, hfl⟩
      rw [List.length_map, hos.len, List.take_of_length_le (by rw [List.length_reverse]; exact Nat.le_refl _)] at hfs
      have xH : ExtN H H' := fun b o e n => kb _ _ (x12 _ _ e n) (ne_of_none e hfr)
      have tb' : Tabs Tb H' := fun pr hpr => by
        obtain ⟨ps, t1, t2, t3⟩ := tb2 pr hpr
        have nt : ∀ {b : Addr} {o : HO}, H2 b = some o → (∀ xs, o ≠ .lst xs) → H' b = some o := fun {b o} e n => kb _ _ e (by intro z; subst z; rw [hfr2] at e; exact n _ (Option.some.inj e).symm)
        refine ⟨ps, nt t1 (fun xs z => by cases z), t2, fun pos cv hcv => ?_⟩
        obtain ⟨c0, k1, k2⟩ := t3 pos cv hcv
        exact ⟨c0, k1, nt k2 (fun xs z => by unfold CodeO at z; cases z)⟩
      refine ⟨_, rfl, fr, _, rfl, SqL.of hl, fun r hr0 => ?_⟩
      have sr := same_upd (o := HO.lst (fs.map V.ref).reverse) hr0
      refine q _ r fs.reverse (xH.trans (ExtN.of sr)) (tb'.ext sr) ?_ ((hfs.same sr).rev)
      rw [upd_same, List.map_reverse]
end
end Mx
set_option Elab.async false
set_option maxRecDepth 100000
set_option maxHeartbeats 2000000
/-! What the program's theory finds is what is due of a book. -/
namespace Mx
open Oc (C Axiom)
open Oc08 (Book)
/-- the hypotheses without their prices -/
def hyps (b : Book) : List Axiom := b.guesses.map (·.2)
theorem sel_some (b : Book) (s : List Nat) : sel (hyps b) s = Oc08.some_ b.guesses s := by
  unfold sel Oc08.some_ hyps
  simp only [List.getElem?_map]
theorem axC_app (a b : List Axiom) : axC (a ++ b) = axC a ++ axC b := List.flatMap_append
theorem atoms_all (b : Book) (cs : List C) : Oc.atomsFor b.all (b.keep ++ cs) = Oc.atomsOf (allC b.axioms (hyps b) b.keep cs) := by
  have : (b.all.flatMap fun a => [a.1, a.2]) = axC b.axioms ++ axC (hyps b) := by rw [← axC_app]; rfl
  rw [Oc.atomsFor, this, allC, List.append_assoc, List.append_assoc, List.append_assoc]
theorem stays_is (b : Book) (s : List Nat) (cs : List C) :
    (b.keep.all fun k => (ext (Oc.atomsOf (allC b.axioms (hyps b) b.keep cs)) k &&& poss (Oc.atomsOf (allC b.axioms (hyps b) b.keep cs)) (b.axioms ++ sel (hyps b) s)) != 0) = b.stays s := by
  rw [stays_over b s (b.keep ++ cs) (fun c hc => List.mem_append_left _ hc), atoms_all, sel_some]
  rw [Bool.eq_iff_iff, List.all_eq_true, List.all_eq_true]
  refine forall_congr' fun c => forall_congr' fun _ => ?_
  rw [had_iff]
  exact Iff.rfl
theorem does_is (b : Book) (s : List Nat) (c d : C) (cs : List C) (hc : c ∈ cs) (hd : d ∈ cs) :
    (((ext (Oc.atomsOf (allC b.axioms (hyps b) b.keep cs)) c &&& ((2 ^ 2 ^ (Oc.atomsOf (allC b.axioms (hyps b) b.keep cs)).length - 1) ^^^ ext (Oc.atomsOf (allC b.axioms (hyps b) b.keep cs)) d)) &&&
      poss (Oc.atomsOf (allC b.axioms (hyps b) b.keep cs)) (b.axioms ++ sel (hyps b) s)) == 0) = b.does s c d := by
  rw [does_over b s c d (b.keep ++ cs) (List.mem_append_right _ hc) (List.mem_append_right _ hd), atoms_all, sel_some, sub_iff]
  rfl
theorem suff_is (b : Book) (s : List Nat) (c d : C) : suff b.axioms (hyps b) b.keep (Oc.atomsOf (allC b.axioms (hyps b) b.keep [c, d])) s c d = (b.stays s && b.does s c d) := by
  unfold suff
  rw [stays_is, does_is b s c d [c, d] (by simp) (by simp)]
theorem expl_is (b : Book) (c d : C) : expl b.axioms (hyps b) b.keep (Oc.atomsOf (allC b.axioms (hyps b) b.keep [c, d])) c d = b.answers c d := by
  unfold expl Book.answers
  have hl : (hyps b).length = b.guesses.length := List.length_map _
  rw [hl]
  have hf : (eturn b.axioms (hyps b) b.keep (Oc.atomsOf (allC b.axioms (hyps b) b.keep [c, d])) c d) =
      (fun m s => if m.any (fun k => Oc08.within k s) then m else if b.does s c d ∧ b.stays s then m ++ [s] else m) := by
    funext m s
    unfold eturn
    rw [suff_is]
    cases m.any (fun k => Oc08.within k s) <;> cases b.does s c d <;> cases b.stays s <;> rfl
  rw [hf]
end Mx
set_option Elab.async false
set_option maxRecDepth 100000
set_option maxHeartbeats 2000000
/-! The end of a specification's row for a program with code objects' tables. -/
namespace Mx
open PySem PySem.Spec PyProof.Rows L2
open PySem.W (WData Codec OpenSpec WellAll ReadsW ReadsAllW)

/-- the arguments and the tables, tracked together -/
def tabH (cs : List (Addr × Addr)) (Ha : Hp) : Hp := fun b => if b ∈ cs.map (·.2) then some (.tbl #[]) else Ha b
theorem tabH_in {cs : List (Addr × Addr)} {Ha : Hp} {b : Addr} (h : b ∈ cs.map (·.2)) : tabH cs Ha b = some (.tbl #[]) := if_pos h
theorem tabH_out {cs : List (Addr × Addr)} {Ha : Hp} {b : Addr} (h : b ∉ cs.map (·.2)) : tabH cs Ha b = Ha b := if_neg h
/-- what the program is handed beside its arguments: empty tables -/
def Empties (cs : List (Addr × Addr)) (H : Hp) : Prop := ∀ p ∈ cs, H p.2 = some (.tbl #[])
/-- all that is tracked is known for good, or a table -/
def OnlyFT (cs : List (Addr × Addr)) (H : Hp) : Prop := ∀ b, H b = none ∨ b ∈ cs.map (·.2) ∨ ∃ o u, H b = some (.frz o u)
theorem sqL_up {K : PySem.W.Frag} {H H' : Hp} {a : Addr} {xs : List V} (k : ∀ b u, H b = some u → H' b = some u) : SqL K H a xs → SqL K H' a xs
  | .inl (.inl e) => .inl (.inl (k _ _ e))
  | .inl (.inr ⟨o, e⟩) => .inl (.inr ⟨o, k _ _ e⟩)
  | .inr e => .inr e
theorem sqT_up {K : PySem.W.Frag} {H H' : Hp} {a : Addr} {xs : List V} (k : ∀ b u, H b = some u → H' b = some u) : SqT K H a xs → SqT K H' a xs
  | .inl (.inl e) => .inl (.inl (k _ _ e))
  | .inl (.inr ⟨o, e⟩) => .inl (.inr ⟨o, k _ _ e⟩)
  | .inr e => .inr e
mutual
theorem dw_up {K : PySem.W.Frag} {H H' : Hp} (k : ∀ b u, H b = some u → H' b = some u) : ∀ {v : V} {d : WData}, Dw K H v d → Dw K H' v d
  | _, _, .non => .non
  | _, _, .bl b => .bl b
  | _, _, .int i => .int i
  | _, _, .str x => .str x
  | _, _, .byt b => .byt b
  | _, _, .lst h1 h2 => .lst (sqL_up k h1) (dwAll_up k h2)
  | _, _, .tup h1 h2 => .tup (sqT_up k h1) (dwAll_up k h2)
theorem dwAll_up {K : PySem.W.Frag} {H H' : Hp} (k : ∀ b u, H b = some u → H' b = some u) : ∀ {vs : List V} {ds : List WData}, DwAll K H vs ds → DwAll K H' vs ds
  | _, _, .nil => .nil
  | _, _, .cons h1 h2 => .cons (dw_up k h1) (dwAll_up k h2)
end

/-- what a call from outside leaves: the answer reads as d0, the old objects stand, tables apart -/
def Answered (R : PySem.W.WRecords) (cl : Str → Option Addr) (s₁ : Shared) (d0 : WData) (r : PySem.Result) (s' : Shared) : Prop :=
  ∃ u as, r = .ok (.ret u) ∧ ReadsW R cl s'.heap u d0 as ∧ OldK s₁.heap s'.heap ∧ s'.os = s₁.os ∧ AllBare s'.gens
theorem tab_call {P : Program} {w : World} {K : PySem.W.Frag} {mg mb : Str → Option Value} {CX : CXT} {k : Nat} {fa : Addr} {fd : FuncData} {ps : List Str} {sp : Sp} {s₁ : Shared} {cs : List (Addr × Addr)}
    {vals : List Value} {ds : List WData} {R : PySem.W.WRecords} {cl : Str → Option Addr} {d0 : WData}
    (KX : K.In s₁.heap) (hG : s₁.heap.Ns mainGlobals mg) (hB : s₁.heap.Ns builtinsNs mb) (hBB : ∀ x : Str, x ≠ "__name__" → mb x = bootBuiltins x) (hL : s₁.heap.NoLimit) (hgens : s₁.gens = #[])
    (hMain : ∃ (bm : Addr) (ob : Obj), mg "__builtins__" = some (.ref bm) ∧ bm ≠ builtinsNs ∧ s₁.heap.get? bm = some ob ∧ ob.cls = .type "module" ∧ ob.dict = some builtinsNs ∧ ob.data = .plain)
    (hcs : ∀ p ∈ cs, (PySem.W.CodeHd s₁.heap p.1 p.2 ∧ s₁.heap.get? p.2 = some (PySem.W.tabObj #[])) ∧ K.lookup p.2 = none)
    (hW : WellAll w.params s₁.heap vals ds) (hP : plWs ds = true) (hwt : ∀ d ∈ ds, d.weight ≤ 1048576) (hr : Room k callerA)
    (F : ∀ base : Heap, K.In base → base.Ns mainGlobals mg → (∀ p ∈ cs, LamX.TabB base mg p.1 p.2) → FnOk P w K mg base CX k fa fd ps sp)
    (hbind : ∀ (s : Shared) (us : List Value), us.length = ps.length → BindsTo s fd ⟨us, []⟩ (ps.zip us)) (hlen : ds.length = ps.length)
    (hsp : ∀ (H : Hp) (xs : List V), Empties cs H → OnlyFT cs H → DwAll K H xs ds → sp xs H (fun v H' => Dw K H' v d0) fun _ _ _ => False)
    (noE : ∀ Hx ex sx, CX [] Hx s₁ (fun _ _ _ => False) ex sx → False) :
    codeAny (model P w) callerA (.call (.ref fa) ⟨vals, []⟩) (Answered R cl s₁ d0) s₁ := by
  obtain ⟨A, ho, ar⟩ := area_all ds vals hW hP hwt
  -- the tables' objects
  have tabObj_at : ∀ b ∈ cs.map (·.2), s₁.heap.get? b = some (PySem.W.tabObj #[]) := fun b hb => by
    obtain ⟨p, hp, rfl⟩ := List.mem_map.1 hb
    exact (hcs p hp).1.2
  have inCs : ∀ p ∈ cs, p.2 ∈ cs.map (·.2) := fun p hp => List.mem_map.2 ⟨p, hp, rfl⟩
  -- an argument's object is no table
  have argOut : ∀ b u, argH K s₁.heap A b = some u → b ∉ cs.map (·.2) := fun b u q hb => by
    have e := tabObj_at b hb
    obtain ⟨_, vs, _, _, ⟨e2, _⟩ | ⟨e2, _⟩⟩ := argH_is ar q <;>
    · rw [e2] at e
      have z : Data.seq vs.toArray = Data.fields #[] := congrArg Obj.data (Option.some.inj e)
      cases z
  have up : ∀ b u, argH K s₁.heap A b = some u → tabH cs (argH K s₁.heap A) b = some u := fun b u q => (tabH_out (argOut b u q)).trans q
  have hE : Empties cs (tabH cs (argH K s₁.heap A)) := fun p hp => tabH_in (inCs p hp)
  have hO : OnlyFT cs (tabH cs (argH K s₁.heap A)) := fun b => by
    by_cases hb : b ∈ cs.map (·.2)
    · exact .inr (.inl hb)
    · rw [tabH_out hb]
      rcases argH_only (K := K) ar b with e | e
      · exact .inl e
      · exact .inr (.inr e)
  have hok : HOk P w (tabH cs (argH K s₁.heap A)) s₁.heap := fun b u q => by
    by_cases hb : b ∈ cs.map (·.2)
    · rw [tabH_in hb] at q
      obtain rfl := Option.some.inj q
      exact tabObj_at b hb
    · rw [tabH_out hb] at q
      have z := argH_ok (P := P) (w := w) ar b u q
      obtain ⟨_, vs, _, _, ⟨_, rfl⟩ | ⟨_, rfl⟩⟩ := argH_is ar q
      · exact z
      · exact z
  have hS := dwAll_up up (dw_all KX ar ds vals hW hP ho)
  have hV := vals_toV ho
  have src : ∀ b, tabH cs (argH K s₁.heap A) b ≠ none → ∃ o, s₁.heap.get? b = some o ∧ (o = PySem.W.tabObj #[] ∨ ∃ vs n, o.data = .seq vs n) := fun b z => by
    by_cases hb : b ∈ cs.map (·.2)
    · exact ⟨_, tabObj_at b hb, .inl rfl⟩
    · rw [tabH_out hb] at z
      cases q : (argH K s₁.heap A) b with
      | none => exact absurd q z
      | some u =>
        obtain ⟨_, vs, _, _, ⟨e, _⟩ | ⟨e, _⟩⟩ := argH_is ar q
        · exact ⟨_, e, .inr ⟨_, _, rfl⟩⟩
        · exact ⟨_, e, .inr ⟨_, _, rfl⟩⟩
  have freeK : ∀ b o, K.lookup b = some o → tabH cs (argH K s₁.heap A) b = none := fun b o e => by
    have hb : b ∉ cs.map (·.2) := fun hb => by
      obtain ⟨p, hp, rfl⟩ := List.mem_map.1 hb
      rw [(hcs p hp).2] at e
      cases e
    rw [tabH_out hb]
    cases q : (argH K s₁.heap A) b with
    | none => rfl
    | some u =>
      rw [(argH_is ar q).1] at e
      cases e
  generalize hHeq : tabH cs (argH K s₁.heap A) = H at hE hO hok hS src freeK
  -- what stands at an object that is neither a list, a tuple nor an empty table
  have other : ∀ {b : Addr} {o : Obj}, s₁.heap.get? b = some o → o ≠ PySem.W.tabObj #[] → (∀ vs n, o.data ≠ .seq vs n) → (hidT s₁.heap H).get? b = some o := fun {b o} e n1 n2 => by
    refine hidT_get e ?_
    cases q : H b with
    | none => rfl
    | some u =>
      obtain ⟨o2, e2, z⟩ := src b (by rw [q]; simp)
      rw [e] at e2
      cases Option.some.inj e2
      rcases z with z | ⟨vs, n, z⟩
      · exact (n1 z).elim
      · exact (n2 vs n z).elim
  have ns' : ∀ {b : Addr} {m : Str → Option Value}, s₁.heap.Ns b m → (hidT s₁.heap H).Ns b m := fun {b m} ⟨o, es, ep, e, d, r⟩ => by
    refine ⟨o, es, ep, other e (fun z => ?_) fun vs n z => ?_, d, r⟩
    · rw [z] at d
      cases d
    · rw [d] at z
      cases z
  have hKb : K.In (hidT s₁.heap H) := fun b o e => hidT_get (KX b o e) (freeK b o e)
  have hM : L2.Mod K mg (hidT s₁.heap H) := ⟨hKb, ns' hG, ⟨mb, ns' hB, hBB⟩, by
    obtain ⟨mc, h1, h2⟩ := hL
    exact ⟨mc, ns' h1, h2⟩⟩
  have hTB : ∀ p ∈ cs, LamX.TabB (hidT s₁.heap H) mg p.1 p.2 := fun p hp => by
    obtain ⟨⟨hc, hT⟩, _⟩ := hcs p hp
    refine ⟨?_, ?_, fun z => ?_⟩
    · obtain ⟨o, us, file, tf, flags, tg, inF, text, tt, e, r1, r2, r⟩ := hc
      refine ⟨o, us, file, tf, flags, tg, inF, text, tt, other e (fun z => ?_) fun vs n z => ?_, r1, r2, r⟩
      · rw [z] at r1
        cases r1
      · rw [r2] at z
        cases z
    · obtain ⟨bm, ob, b1, b2, b3, b4, b5, b6⟩ := hMain
      refine ⟨bm, ob, b1, b2, fun z => ?_, fun z => ?_, other b3 (fun z => ?_) fun vs n z => ?_, b4, b5, b6⟩
      · obtain ⟨o, es, ep, e, hd, _⟩ := hG
        rw [z, e] at b3
        obtain rfl := Option.some.inj b3
        rw [hd] at b6
        cases b6
      · rw [z, hT] at b3
        obtain rfl := Option.some.inj b3
        cases b4
      · rw [z] at b4
        cases b4
      · rw [b6] at z
        cases z
    · obtain ⟨o, es, ep, e, hd, _⟩ := hG
      rw [z, hT] at e
      obtain rfl := Option.some.inj e
      cases hd
  have e0 : Env0 P w K mg (hidT s₁.heap H) callerA [] s₁ H := ⟨rfl, hM, fun b o e => of_hidT e, Nat.le_of_eq (hidT_size _ _), trivial, fun b hb => absurd (show b ∈ ([] : List Addr) from hb) List.not_mem_nil, hok, .of_eq hgens⟩
  have hvl : vals.length = ps.length := (wellAll_len hW).trans hlen
  refine codeAny_mono ((F _ hKb (ns' hG) hTB).run callerA [] s₁ H ⟨vals, []⟩ vals (vals.map toV) _ _ hr e0 (hbind s₁ vals hvl) hV (hsp H _ hE hO hS)) fun r s' x => ?_
  match r, x with
  | .error e, x => exact (noE H e s' x).elim
  | .ok .next, x => exact False.elim x
  | .ok .brk, x => exact False.elim x
  | .ok .cont, x => exact False.elim x
  | .ok (.ret u), ⟨v, H', os, bare, un, hok', r', q⟩ =>
    have same : ∀ b o, b ∉ cs.map (·.2) → s₁.heap.get? b = some o → s'.heap.get? b = some o := fun b o hb e => by
      rcases hO b with z | z | ⟨o2, u2, z⟩
      · exact un.keep b o e z (fun y => absurd (show b ∈ ([] : List Addr) from y) List.not_mem_nil) List.not_mem_nil
      · exact absurd z hb
      · have e1 := (hok b _ z).1
        have e2 := (hok' b _ (un.frzs b o2 _ z)).1
        rw [e] at e1
        exact e2.trans e1.symm
    have grew : ∀ p ∈ cs, ∃ more : Array Value, s'.heap.get? p.2 = some (PySem.W.tabObj more) := fun p hp => by
      obtain ⟨more, z⟩ := un.tbls p.2 #[] (hE p hp)
      exact ⟨_, hok' p.2 _ z⟩
    have KX' : K.In s'.heap := fun b o e => same b o (fun hb => by
      obtain ⟨p, hp, rfl⟩ := List.mem_map.1 hb
      rw [(hcs p hp).2] at e
      cases e) (KX b o e)
    obtain ⟨ads, reads⟩ := Dw.reads (cl := cl) (R := R) hok' KX' d0 v u q r'
    refine ⟨u, ads, rfl, reads, ⟨fun b o e => ?_, fun b o e => ?_⟩, os, bare⟩
    · by_cases isTable : b ∈ cs.map (·.2)
      · obtain ⟨p, hp, rfl⟩ := List.mem_map.1 isTable
        obtain ⟨more, g⟩ := grew p hp
        obtain ⟨⟨hc, hT⟩, _⟩ := hcs p hp
        rw [hT] at e
        obtain rfl := Option.some.inj e
        exact .inr (.inl ⟨(hc.tab hT).isCodeTable, rfl, #[], more, rfl, by rw [Array.empty_append]; exact g⟩)
      · exact .inl (same b o isTable e)
    · by_cases isTable : b ∈ cs.map (·.2)
      · obtain ⟨p, hp, rfl⟩ := List.mem_map.1 isTable
        obtain ⟨more, g⟩ := grew p hp
        exact ⟨_, g⟩
      · exact ⟨o, same b o isTable e⟩

/-- the goal of the head, from the def's promise and the places of the code objects' tables -/
theorem tab_walk {r : OpenSpec} {k : Nat} {q : Program} {loose : List Str} {XP : (Str → Option Value) → Heap → Prop} {YP : World → Heap → Prop} {d : DefRec} {K : Params → PySem.W.Frag} {CX : CXT} {ps : List Str} {sp : List (Addr × Addr) → PySem.W.Frag → Sp} {cs : List (Addr × Addr)}
    (said : r.wellSaid = true) (plain : d.params.defaults = []) (many : r.args.length = ps.length) (room : Room k callerA)
    (written : ∀ (w : World) (h : Heap), YP w h → (K w.params).In h)
    (F : ∀ (w : World) (mg mb : Str → Option Value) (mean : ExcName → Option Value) (fa : Addr) (h : Heap), PyProof.Rows.Top q (PySem.W.looseW q loose) mean mg mb h → (K w.params).In h → mg d.name = some (.ref fa) →
      (∀ p ∈ cs, (PySem.W.CodeHd h p.1 p.2 ∧ h.get? p.2 = some (PySem.W.tabObj #[])) ∧ (K w.params).lookup p.2 = none) ∧
      ∃ fd : FuncData, (∀ (s : Shared) (vs : List Value), vs.length = ps.length → BindsTo s fd ⟨vs, []⟩ (ps.zip vs)) ∧
        ∀ base : Heap, (K w.params).In base → base.Ns mainGlobals mg → (∀ p ∈ cs, LamX.TabB base mg p.1 p.2) → FnOk r.prog w (K w.params) mg base CX k fa fd ps (sp cs (K w.params)))
    (hsp : ∀ (K : PySem.W.Frag) (H : Hp) (xs : List V) (a : Codec.denoteAll r.args), Empties cs H → OnlyFT cs H → Codec.withinAll r.args a = true → Codec.app r.args r.asked a = true → DwAll K H xs (Codec.encAll r.args a) →
      sp cs K xs H (fun v H' => Dw K H' v (r.ret.enc (Codec.app r.args r.f a))) fun _ _ _ => False)
    (noE : ∀ (H : Hp) (s : Shared) (ex : Value) (sx : Shared), CX [] H s (fun _ _ _ => False) ex sx → False) : PySem.W.WalkOS q loose XP YP r d [] fun f vs => PySem.call f vs := by
  intro w sA sB mg mb ground hyp fa _ _ _ _ _ _ _ _ _ _ hname noGens args vals _ asked lays _ well _
  obtain ⟨a, dec, ask⟩ := PySem.W.os_pre_some asked
  obtain ⟨rfl, inside⟩ := Codec.encAll_of_decAll r.args args a dec
  have KX := written w _ hyp
  obtain ⟨hcs, fd, binds, hF⟩ := F w mg mb _ fa _ ground.T KX hname
  have run := tab_call (P := r.prog) (w := w) (R := []) (cl := classAt sA.heap) (d0 := r.ret.enc (Codec.app r.args r.f a)) (k := k) (fa := fa) (sp := sp cs (K w.params)) (cs := cs)
    KX ground.T.g ground.T.b ground.T.builtins ground.T.nolimit noGens ground.T.bmain hcs well (pl_encAll _ _) (layable_weight lays) room hF binds ((encAll_len _ _).trans many)
    (fun H xs hE hO hS => hsp (K w.params) H xs a hE hO inside ask hS) fun H e s' => noE H sB e s'
  refine PySem.W.enter_call (codeAny_mono run fun _ s' done => ?_)
  obtain ⟨u, ads, rfl, reads, old, os, bare⟩ := done
  refine ⟨.inl ⟨u, _, ads, rfl, fun _ => rfl, reads, ?_, fun z => nomatch (show false = true from z)⟩, old, os, bare⟩
  exact (OpenSpec.post_iff said inside _ _).mpr rfl
end Mx
set_option Elab.async false
set_option maxRecDepth 100000
set_option maxHeartbeats 4000000
namespace Mx
open PySem PySem.Spec PyProof.Rows L2
abbrev sSr : Stmt := top 22
/-- the number of sets, then each with its size ahead -/
def setsR (bs : List (List Nat)) : List Nat := bs.length :: bs.flatMap fun s => s.length :: s
def spSr : Sp := fun vs H Q _ => ∃ (a : Addr) (as : List Addr) (bs : List (List Nat)), vs = [.ref a] ∧ H a = some (.lst (as.map V.ref)) ∧ OAll dO H as bs ∧ bs.length ≤ 16 ∧ (∀ b ∈ bs, b.length ≤ 4) ∧
  ∀ (H' : Hp) (r : Addr), Same H H' → H r = none → H' r = some (.lst (Nv (setsR bs))) → Q (.ref r) H'
theorem scSr : FnScope ["sets", "result", "numbers"] ["sets"] (defScope sSr) := ⟨rfl, rfl, rfl, by decide +kernel, rfl, by decide +kernel, by decide +kernel⟩
theorem setsR_len {bs : List (List Nat)} (h : ∀ b ∈ bs, b.length ≤ 4) : (bs.flatMap fun s => s.length :: s).length ≤ 5 * bs.length := by
  induction bs with
  | nil => simp
  | cons b r ih =>
    have h1 := h b (by simp)
    have h2 := ih fun x hx => h x (by simp [hx])
    rw [List.flatMap_cons, List.length_append, List.length_cons, List.length_cons]
    omega
section
variable {P : Program} {w : World} {K : PySem.W.Frag} {mg : Str → Option Value} {base : Heap}
theorem ok_sr {f : Addr} {fd : FuncData} (F : Fun K "sets_result" "sets_result" sSr f fd) (mLen : mg "len" = none) : FnOk P w K mg base CX0 1 f fd ["sets"] spSr := by
  refine F.ok scSr (fun vs H Q E h => ?_) (fun cdv A outer s H vs Q E hr h => ?_)
  · obtain ⟨a, as, bs, rfl, _⟩ := h
    rfl
  · refine ⟨_, pss_cons (ps_set (i := 1) scSr.nd rfl (Or.inl rfl) (pe_lst (pa_cons (pe_callB call_len_seq (by rfl) mLen PySem.boot_len (pa_cons (pv 0) pa_nil)) pa_nil)))
      (pss_cons (ps_for PassesOwn.never rfl (pi_list (pv 0)) (pg_name (i := 2) scSr.nd rfl (Or.inl rfl))
        (pss_cons (ps_expr (pe_bm PySem.F.plainAttrs_list PySem.F.slot_list_append PySem.F.type_list_append mt_append (pv 1) (pa_cons (pe_callB call_len_seq (by rfl) mLen PySem.boot_len (pa_cons (pv 2) pa_nil)) pa_nil)))
        (pss_one (ps_expr (pe_bm PySem.F.plainAttrs_list PySem.F.slot_list_extend PySem.F.type_list_extend mt_extend (pv 1) (pa_cons (pv 2) pa_nil))))))
      (pss_one (ps_ret (pv 1)))), ?_⟩
    obtain ⟨a, as, bs, rfl, ha, hA, hn, h4, q⟩ := h
    have hlen : as.length = bs.length := hA.len
    refine ⟨_, rfl, a, _, rfl, .inl (SqL.of ha), by show 1 ≤ sizeLine; decide, fun r hr0 => ?_⟩
    have s0 : Same H (upd H r (.lst [.int ((as.map V.ref).length : Nat)])) := same_upd hr0
    refine ⟨_, rfl, a, rfl, ⟨_, SqL.of (s0 _ _ ha)⟩, for_list (K := K) (a := a) (xs := as.map V.ref) (fun i σ H' => Same H H' ∧ ∃ (v2 : Option V), σ = [some (.ref a), some (.ref r), v2] ∧
      H' r = some (.lst (Nv (bs.length :: (bs.take i).flatMap fun s => s.length :: s)))) ⟨s0, none, rfl, ?_⟩ (fun i σ H' _ ⟨sm, _⟩ => SqL.of (sm _ _ ha)) ?_ ?_⟩
    · rw [upd_same, List.length_map, hlen]
      rfl
    · rintro i x σ H' hx ⟨sm, v2, rfl, hl⟩
      obtain ⟨t, ht, rfl⟩ := ref_at hx
      obtain ⟨b, hb, htb⟩ := hA.get ht
      have hil := (List.getElem?_eq_some_iff.mp hb).1
      have hb4 := h4 b (List.mem_of_getElem? hb)
      have htr : t ≠ r := ne_of_none htb hr0
      have hfl := setsR_len (bs := bs.take i) fun x hx => h4 x (List.mem_of_mem_take hx)
      rw [List.length_take] at hfl
      refine ⟨_, rfl, tyList hl, _, rfl, t, _, rfl, .inl (SqL.of (sm _ _ htb)), r, _, _, rfl, rfl, hl, ?_, ?_⟩
      · rw [Nv_len, List.length_cons]
        exact small_lt (by omega)
      · have hl2 : (upd H' r (.lst (Nv (bs.length :: (bs.take i).flatMap fun s => s.length :: s) ++ [V.int ((Nv b).length : Nat)]))) r = some (.lst (Nv (bs.length :: (bs.take i).flatMap fun s => s.length :: s) ++ [V.int ((Nv b).length : Nat)])) := upd_same
        refine ⟨_, rfl, tyList hl2, _, rfl, r, t, _, _, rfl, rfl, hl2, (upd_ne htr).trans (sm _ _ htb), ?_, ?_⟩
        · rw [List.length_append, Nv_len, Nv_len, List.length_cons, List.length_singleton]
          exact Nat.le_trans (show _ ≤ 100000 by omega) (by decide)
        · refine ⟨samePut (samePut sm hr0) hr0, some (.ref t), rfl, ?_⟩
          rw [upd_same, List.take_add_one, hb, Option.toList_some, List.flatMap_append, Nv_len]
          simp [Nv]
    · rintro σ H' ⟨sm, v2, rfl, hl⟩
      rw [List.length_map, hlen, List.take_length] at hl
      exact ⟨_, rfl, q H' r sm hr0 hl⟩
end
end Mx
set_option Elab.async false
set_option maxRecDepth 100000
set_option maxHeartbeats 4000000
namespace Mx
open PySem PySem.Spec PyProof.Rows L2
/-! the reader of the calls -/
structure RdTxt (K : PySem.W.Frag) (C : Addr) : Prop where
  cl : Cls K C
  nC : NoAttr K C "calls"
  nP : NoAttr K C "place"
def rdF (a : Addr) (i : Nat) : List (Str × V) := [("calls", .ref a), ("place", .int ((i : Nat) : Int))]
theorem rdF_calls {a : Addr} {i : Nat} : (rdF a i).lookup ("calls" : Str) = some (.ref a) := lk_here
theorem rdF_place {a : Addr} {i : Nat} : (rdF a i).lookup ("place" : Str) = some (.int ((i : Nat) : Int)) := (lk_past (by decide +kernel)).trans lk_here
theorem rdF_no {a : Addr} {i : Nat} {m : Str} (h1 : (m == ("calls" : Str)) = false) (h2 : (m == ("place" : Str)) = false) : (rdF a i).lookup m = none := (lk_past h1).trans ((lk_past h2).trans rfl)
theorem rdF_put {a : Addr} {i j : Nat} : putF "place" (.int ((j : Nat) : Int)) (rdF a i) = rdF a j := (put_past (by decide +kernel)).trans (congrArg _ put_here)
theorem rdF_new {a : Addr} : putF "place" (.int 0) (putF "calls" (.ref a) []) = rdF a 0 := (put_past (by decide +kernel)).trans rfl
/-- the reader at r of the list at a, i numbers of ms behind it -/
def RdAt (K : PySem.W.Frag) (C : Addr) (H : Hp) (r a : Addr) (ms : List Nat) (i : Nat) : Prop := ∃ dx, H r = some (.ins C dx (rdF a i)) ∧ SqL K H a (Nv ms)
theorem SqL.keep {K : PySem.W.Frag} {H H' : Hp} {a : Addr} {xs : List V} (h : SqL K H a xs) (k : ∀ o, H a = some o → H' a = some o) : SqL K H' a xs := by
  rcases h with (e | ⟨o, e⟩) | e
  · exact .inl (.inl (k _ e))
  · exact .inl (.inr ⟨o, k _ e⟩)
  · exact .inr e
theorem sqL_put {K : PySem.W.Frag} {H : Hp} {a p C dx : Addr} {fs : List (Str × V)} {xs : List V} {o : HO} (h : SqL K H a xs) (hp : H p = some (.ins C dx fs)) : SqL K (upd H p o) a xs := by
  by_cases e : a = p
  · subst e
    rcases h with (e | ⟨o, e⟩) | e
    · rw [hp] at e; cases e
    · rw [hp] at e; cases e
    · exact .inr e
  · exact SqL.keep h fun o q => (upd_ne e).trans q
abbrev sRi : Stmt := inClass (top 26) 0
abbrev sHm : Stmt := inClass (top 26) 1
abbrev sNu : Stmt := inClass (top 26) 2
abbrev sRo : Stmt := inClass (top 26) 3
def spRi (K : PySem.W.Frag) (C : Addr) : Sp := fun vs H Q _ => ∃ (p dx a : Addr) (ms : List Nat), vs = [.ref p, .ref a] ∧ H p = some (.ins C dx []) ∧ SqL K H a (Nv ms) ∧ ∀ H', RdAt K C H' p a ms 0 → (∀ b o, H b = some o → b ≠ p → H' b = some o) → Q .non H'
def spHm (K : PySem.W.Frag) (C : Addr) : Sp := fun vs H Q _ => ∃ (p a : Addr) (ms : List Nat) (i : Nat), vs = [.ref p] ∧ RdAt K C H p a ms i ∧ Q (.bl (decide (i < ms.length))) H
def spNu (K : PySem.W.Frag) (C : Addr) : Sp := fun vs H Q _ => ∃ (p a : Addr) (ms : List Nat) (i n : Nat), vs = [.ref p] ∧ RdAt K C H p a ms i ∧ ms[i]? = some n ∧ ∀ H', RdAt K C H' p a ms (i + 1) → KB p H H' → Q (.int (n : Int)) H'
def spRo (K : PySem.W.Frag) (C : Addr) : Sp := fun vs H Q _ => ∃ (p a : Addr) (ms : List Nat) (i n : Nat), vs = [.ref p] ∧ RdAt K C H p a ms i ∧ ms[i]? = some n ∧ i + 1 + n ≤ ms.length ∧
  ∀ H' r, RdAt K C H' p a ms (i + 1 + n) → KB p H H' → r ≠ p → H r = none → H' r = some (.lst (Nv ((ms.drop (i + 1)).take n))) → Q (.ref r) H'
theorem scRi : FnScope ["self", "calls"] ["self", "calls"] (defScope sRi) := ⟨rfl, rfl, rfl, by decide +kernel, rfl, by decide +kernel, by decide +kernel⟩
theorem scHm : FnScope ["self"] ["self"] (defScope sHm) := ⟨rfl, rfl, rfl, by decide +kernel, rfl, by decide +kernel, by decide +kernel⟩
theorem scNu : FnScope ["self", "found"] ["self"] (defScope sNu) := ⟨rfl, rfl, rfl, by decide +kernel, rfl, by decide +kernel, by decide +kernel⟩
theorem scRo : FnScope ["self", "size", "start"] ["self"] (defScope sRo) := ⟨rfl, rfl, rfl, by decide +kernel, rfl, by decide +kernel, by decide +kernel⟩
section
variable {P : Program} {w : World} {K : PySem.W.Frag} {mg : Str → Option Value} {base : Heap} {C : Addr}
theorem ok_ri {f : Addr} {fd : FuncData} (F : Fun K "__init__" "CallReader.__init__" sRi f fd) (T : RdTxt K C) : FnOk P w K mg base CX0 1 f fd ["self", "calls"] (spRi K C) := by
  refine F.ok scRi (fun vs H Q E h => ?_) (fun cdv A outer s H vs Q E hr h => ?_)
  · obtain ⟨p, dx, a, ms, rfl, _⟩ := h
    rfl
  · refine ⟨_, pss_cons (ps_fld (pv 0) (pv 1) rfl) (pss_one (ps_fld (pv 0) pe_int rfl)), ?_⟩
    obtain ⟨p, dx, a, ms, rfl, hp, ha, q⟩ := h
    refine ⟨_, rfl, _, rfl, p, C, dx, _, rfl, hp, T.cl, T.nC, by show 0 < 1000; decide, ?_⟩
    refine ⟨_, rfl, p, C, dx, _, rfl, upd_same, T.cl, T.nP, by show 1 < 1000; decide, ?_⟩
    rw [rdF_new]
    have ha2 : SqL K (upd H p (.ins C dx (putF "calls" (.ref a) []))) a (Nv ms) := sqL_put ha hp
    exact q _ ⟨dx, upd_same, sqL_put ha2 upd_same⟩ fun b o e n => (upd_ne n).trans ((upd_ne n).trans e)
theorem ok_hm {f : Addr} {fd : FuncData} (F : Fun K "has_more" "CallReader.has_more" sHm f fd) (T : RdTxt K C) (mLen : mg "len" = none) : FnOk P w K mg base CX0 1 f fd ["self"] (spHm K C) := by
  refine F.ok scHm (fun vs H Q E h => ?_) (fun cdv A outer s H vs Q E hr h => ?_)
  · obtain ⟨p, a, ms, i, rfl, _⟩ := h
    rfl
  · refine ⟨_, pss_one (ps_ret (pe_cmpR op_lt (pe_fld (pv 0) rfl) (pe_callB call_len_seq (by rfl) mLen PySem.boot_len (pa_cons (pe_fld (pv 0) rfl) pa_nil)) rfl)), ?_⟩
    obtain ⟨p, a, ms, i, rfl, ⟨dx, hp, ha⟩, q⟩ := h
    refine ⟨_, rfl, p, C, dx, _, _, rfl, hp, T.cl, T.nP, rdF_place, _, rfl, p, C, dx, _, _, rfl, hp, T.cl, T.nC, rdF_calls, a, _, rfl, .inl ha, _, _, rfl, rfl, ?_⟩
    have e : decide (((i : Nat) : Int) < ((Nv ms).length : Nat)) = decide (i < ms.length) := by
      rw [Nv_len]
      exact decide_eq_decide.mpr Int.ofNat_lt
    show Q (.bl (decide (((i : Nat) : Int) < ((Nv ms).length : Nat)))) H
    rw [e]
    exact q
theorem ok_nu {f : Addr} {fd : FuncData} (F : Fun K "number" "CallReader.number" sNu f fd) (T : RdTxt K C) : FnOk P w K mg base CX0 1 f fd ["self"] (spNu K C) := by
  refine F.ok scNu (fun vs H Q E h => ?_) (fun cdv A outer s H vs Q E hr h => ?_)
  · obtain ⟨p, a, ms, i, n, rfl, _⟩ := h
    rfl
  · refine ⟨_, pss_cons (ps_set (i := 1) scNu.nd rfl (Or.inl rfl) (pe_ix ix_list (pe_fld (pv 0) rfl) (pe_fld (pv 0) rfl) (fun _ _ => rfl)))
      (pss_cons (ps_fldaug (pv 0) pe_int iop_add)
      (pss_one (ps_ret (pv 1)))), ?_⟩
    obtain ⟨p, a, ms, i, n, rfl, ⟨dx, hp, ha⟩, hn, q⟩ := h
    refine ⟨_, rfl, p, C, dx, _, _, rfl, hp, T.cl, T.nC, rdF_calls, _, rfl, p, C, dx, _, _, rfl, hp, T.cl, T.nP, rdF_place, a, _, _, _, rfl, rfl, ha, atI_nat (Nv_at hn), ?_⟩
    refine ⟨_, rfl, p, C, dx, _, _, rfl, hp, T.cl, T.nP, rdF_place, _, _, rfl, rfl, dx, _, hp, by show 2 < 1000; decide, ?_⟩
    refine ⟨_, rfl, q _ ⟨dx, ?_, ?_⟩ ?_⟩
    · rw [upd_same]
      exact congrArg (fun z => some (HO.ins C dx z)) (rdF_put (j := i + 1))
    · exact sqL_put ha hp
    · exact fun b o e ne => (upd_ne ne).trans e
theorem ok_ro {f : Addr} {fd : FuncData} (F : Fun K "row" "CallReader.row" sRo f fd) (T : RdTxt K C) (cNu : MCalled P w K mg base C "number" 1 ["self"] (spNu K C)) : FnOk P w K mg base CX0 2 f fd ["self"] (spRo K C) := by
  refine F.ok scRo (fun vs H Q E h => ?_) (fun cdv A outer s H vs Q E hr h => ?_)
  · obtain ⟨p, a, ms, i, n, rfl, _⟩ := h
    rfl
  · refine ⟨_, pss_cons (ps_set (i := 1) scRo.nd rfl (Or.inl rfl) (pe_cm0 (pv 0) T.cl cNu hr))
      (pss_cons (ps_set (i := 2) scRo.nd rfl (Or.inl rfl) (pe_fld (pv 0) rfl))
      (pss_cons (ps_fldaug (pv 0) (pv 1) iop_add)
      (pss_one (ps_ret (pe_slice sl_list (pe_fld (pv 0) rfl) (po_some (pv 2)) (po_some (pe_fld (pv 0) rfl))))))), ?_⟩
    obtain ⟨p, a, ms, i, n, rfl, hR, hn, hle, q⟩ := h
    have hR' := hR
    obtain ⟨dx, hp, ha⟩ := hR
    refine ⟨_, rfl, p, dx, _, rfl, hp, rdF_no (by decide +kernel) (by decide +kernel), p, a, ms, i, n, rfl, hR', hn, fun H1 ⟨dx1, hp1, ha1⟩ kb1 => ?_⟩
    refine ⟨_, rfl, p, C, dx1, _, _, rfl, hp1, T.cl, T.nP, rdF_place, ?_⟩
    refine ⟨_, rfl, p, C, dx1, _, _, rfl, hp1, T.cl, T.nP, rdF_place, _, rfl, _, _, rfl, rfl, dx1, _, hp1, by show 2 < 1000; decide, ?_⟩
    have ep : putF "place" (V.int (((i + 1 : Nat) : Int) + (n : Int))) (rdF a (i + 1)) = rdF a (i + 1 + n) := rdF_put (j := i + 1 + n)
    have hp2 : (upd H1 p (.ins C dx1 (putF "place" (V.int (((i + 1 : Nat) : Int) + (n : Int))) (rdF a (i + 1))))) p = some (.ins C dx1 (rdF a (i + 1 + n))) := by rw [upd_same, ep]
    have ha2 : SqL K (upd H1 p (.ins C dx1 (putF "place" (V.int (((i + 1 : Nat) : Int) + (n : Int))) (rdF a (i + 1))))) a (Nv ms) := sqL_put ha1 hp1
    have kb2 : KB p H (upd H1 p (.ins C dx1 (putF "place" (V.int (((i + 1 : Nat) : Int) + (n : Int))) (rdF a (i + 1))))) := kb1.at
    refine ⟨_, rfl, p, C, dx1, _, _, rfl, hp2, T.cl, T.nC, rdF_calls, _, rfl, _, rfl, _, rfl, p, C, dx1, _, _, rfl, hp2, T.cl, T.nP, rdF_place, _, rfl, a, _, rfl, ha2, fun r hr0 => ?_⟩
    have hrp : r ≠ p := by
      intro z
      subst z
      rw [hp2] at hr0
      cases hr0
    have hrn : H r = none := by
      cases e : H r with
      | none => rfl
      | some o =>
        rw [kb2 r o e hrp] at hr0
        cases hr0
    refine q _ r ⟨dx1, (upd_ne (Ne.symm hrp)).trans hp2, SqL.keep ha2 fun o e => (upd_ne (ne_of_none e hr0)).trans e⟩ (kb2.new hr0) hrp hrn ?_
    rw [upd_same, Nv_cut (by omega) hle, show i + 1 + n - (i + 1) = n by omega]
end
end Mx
set_option Elab.async false
set_option maxRecDepth 100000
set_option maxHeartbeats 2000000
/-! What is always true of the book that the service keeps. -/
namespace Mx
open Oc (C Axiom)
open Oc08 (Book)
structure BookOk (b : Book) : Prop where
  ax : b.axioms.length ≤ 4
  gs : b.guesses.length ≤ 4
  kp : b.keep.length ≤ 2
  each : ∀ c ∈ axC b.all ++ b.keep, Valid c ∧ (enc c).length ≤ 30
  atoms : (Oc.atomsOf (axC b.all ++ b.keep)).length ≤ 5
theorem all_is (b : Book) : b.all = b.axioms ++ hyps b := rfl
theorem bookOk_init : BookOk ⟨[], [], []⟩ := ⟨by simp, by simp, by simp, by simp [axC, Book.all], by decide +kernel⟩
theorem atoms_sub {cs ds : List C} (h : ∀ c ∈ cs, c ∈ ds) : (Oc.atomsOf cs).length ≤ (Oc.atomsOf ds).length := by
  refine List.Nodup.length_le_of_subset (distinct_nodup _ [] (by simp)) fun x hx => ?_
  obtain ⟨c, hc, hx⟩ := mem_atomsOf.1 hx
  exact mem_atomsOf.2 ⟨c, h c hc, hx⟩
theorem much_is (b : Book) (cs : List C) : Oc08.much ⟨b⟩ cs = decide (5 < (Oc.atomsOf (allC b.axioms (hyps b) b.keep cs)).length) := by
  unfold Oc08.much
  rw [atoms_all]
  rfl
theorem allC_mem {b : Book} {cs : List C} {c : C} : c ∈ allC b.axioms (hyps b) b.keep cs ↔ c ∈ axC b.all ++ b.keep ∨ c ∈ cs := by
  rw [all_is, axC_app]
  simp [allC, or_assoc]
theorem fine_of {b : Book} {cs : List C} (ok : BookOk b) (h : ∀ c ∈ cs, Valid c ∧ (enc c).length ≤ 30) (hn : cs.length ≤ 30) (hm : Oc08.much ⟨b⟩ cs = false) : Fine (allC b.axioms (hyps b) b.keep cs) where
  each := fun c hc => by
    rcases allC_mem.1 hc with hc | hc
    · exact ⟨(ok.each c hc).1, Nat.le_trans (ok.each c hc).2 (by decide)⟩
    · exact ⟨(h c hc).1, Nat.le_trans (h c hc).2 (by decide)⟩
  len := by
    have h1 := ok.ax
    have h2 := ok.gs
    have h3 := ok.kp
    simp only [allC, List.length_append, axC_len, hyps, List.length_map]
    omega
  atoms := by
    rw [much_is] at hm
    have := of_decide_eq_false hm
    omega
theorem two_ok {l : List Nat} {a : Axiom} (h : Oc.two l = some a) (hl : l.length ≤ 30) : ∀ c ∈ [a.1, a.2], Valid c ∧ (enc c).length ≤ 30 := by
  obtain ⟨e, v1, v2⟩ := two_iff.1 h
  have hlen := congrArg List.length e
  rw [List.length_append] at hlen
  intro c hc
  rcases List.mem_cons.1 hc with rfl | hc
  · exact ⟨v1, by omega⟩
  · rw [List.mem_singleton] at hc
    subst hc
    exact ⟨v2, by omega⟩
theorem one_ok {l : List Nat} {c : C} (h : Oc.concept l = some c) (hl : l.length ≤ 30) : ∀ d ∈ [c], Valid d ∧ (enc d).length ≤ 30 := by
  obtain ⟨e, v⟩ := concept_iff.1 h
  intro d hd
  rw [List.mem_singleton] at hd
  subst hd
  exact ⟨v, by rw [← e]; exact hl⟩
/-- a book whose concepts are those of another and some more -/
theorem bookOk_of {b b2 : Book} {cs : List C} (ok : BookOk b) (h : ∀ c ∈ cs, Valid c ∧ (enc c).length ≤ 30) (hm : Oc08.much ⟨b⟩ cs = false) (h1 : b2.axioms.length ≤ 4) (h2 : b2.guesses.length ≤ 4) (h3 : b2.keep.length ≤ 2)
    (hs : ∀ c ∈ axC b2.all ++ b2.keep, c ∈ axC b.all ++ b.keep ∨ c ∈ cs) : BookOk b2 where
  ax := h1
  gs := h2
  kp := h3
  each := fun c hc => by
    rcases hs c hc with hc | hc
    · exact ok.each c hc
    · exact h c hc
  atoms := by
    rw [much_is] at hm
    have := of_decide_eq_false hm
    have := atoms_sub (cs := axC b2.all ++ b2.keep) (ds := allC b.axioms (hyps b) b.keep cs) fun c hc => allC_mem.2 (hs c hc)
    omega
theorem much_nil {b : Book} (ok : BookOk b) : Oc08.much ⟨b⟩ [] = false := by
  rw [much_is, decide_eq_false_iff_not]
  have h := ok.atoms
  have := atoms_sub (cs := allC b.axioms (hyps b) b.keep []) (ds := axC b.all ++ b.keep) fun c hc => by
    rcases allC_mem.1 hc with hc | hc
    · exact hc
    · exact absurd hc (by simp)
  omega
/-- how long a call's lists may be -/
def callOk : Oc08.Call → Prop
  | .line l => l.length ≤ 30
  | .guess _ l => l.length ≤ 30
  | .keep l => l.length ≤ 30
  | _ => True
theorem mem_axC_iff {axs : List Axiom} {c : C} : c ∈ axC axs ↔ ∃ a ∈ axs, c = a.1 ∨ c = a.2 := by
  simp [axC]
theorem st_line (b : Book) (l : List Nat) : Oc08.step ⟨b⟩ (.line l) = match Oc.two l with
    | none => (⟨b⟩, Oc08.ok (-1))
    | some a => if b.axioms.length = 4 ∨ Oc08.much ⟨b⟩ [a.1, a.2] = true then (⟨b⟩, Oc08.ok (-7)) else (⟨⟨b.axioms ++ [a], b.guesses, b.keep⟩⟩, Oc08.ok (b.axioms.length : Nat)) := rfl
theorem st_guess (b : Book) (p : Nat) (l : List Nat) : Oc08.step ⟨b⟩ (.guess p l) = match Oc.two l with
    | none => (⟨b⟩, Oc08.ok (-1))
    | some a => if p = 0 ∨ 1000 < p then (⟨b⟩, Oc08.ok (-1)) else if b.guesses.length = 4 ∨ Oc08.much ⟨b⟩ [a.1, a.2] = true then (⟨b⟩, Oc08.ok (-7)) else (⟨⟨b.axioms, b.guesses ++ [(p, a)], b.keep⟩⟩, Oc08.ok (b.guesses.length : Nat)) := rfl
theorem st_keep (b : Book) (l : List Nat) : Oc08.step ⟨b⟩ (.keep l) = match Oc.concept l with
    | none => (⟨b⟩, Oc08.ok (-1))
    | some c => if b.keep.length = 2 ∨ Oc08.much ⟨b⟩ [c] = true then (⟨b⟩, Oc08.ok (-7)) else (⟨⟨b.axioms, b.guesses, b.keep ++ [c]⟩⟩, Oc08.ok (b.keep.length : Nat)) := rfl
theorem st_answers (b : Book) (l : List Nat) : Oc08.step ⟨b⟩ (.answers l) = match Oc.two l with
    | none => (⟨b⟩, Oc08.ok (-1))
    | some a => if Oc08.much ⟨b⟩ [a.1, a.2] = true then (⟨b⟩, Oc08.ok (-7)) else (⟨b⟩, Oc08.list (b.answers a.1 a.2)) := rfl
theorem st_cheapest (b : Book) (l : List Nat) : Oc08.step ⟨b⟩ (.cheapest l) = match Oc.two l with
    | none => (⟨b⟩, Oc08.ok (-1))
    | some a => if Oc08.much ⟨b⟩ [a.1, a.2] = true then (⟨b⟩, Oc08.ok (-7)) else (⟨b⟩, match b.cheapest a.1 a.2 with
      | none => Oc08.ok (-6)
      | some s => ⟨(b.price s : Nat), s⟩) := rfl
theorem st_check (b : Book) (s l : List Nat) : Oc08.step ⟨b⟩ (.check s l) = match Oc.two l with
    | none => (⟨b⟩, Oc08.ok (-1))
    | some a => if Oc08.rising s = false ∨ (s.any fun i => decide (b.guesses.length ≤ i)) = true then (⟨b⟩, Oc08.ok (-2)) else if Oc08.much ⟨b⟩ [a.1, a.2] = true then (⟨b⟩, Oc08.ok (-7))
      else (⟨b⟩, ⟨(Oc08.flag (b.does s a.1 a.2) : Nat), [Oc08.flag (b.stays s), b.price s]⟩) := rfl
theorem st_take (b : Book) (i : Nat) : Oc08.step ⟨b⟩ (.take i) = match b.guesses[i]? with
    | none => (⟨b⟩, Oc08.ok (-2))
    | some g => if b.axioms.length = 4 then (⟨b⟩, Oc08.ok (-7)) else (⟨⟨b.axioms ++ [g.2], b.guesses.take i ++ b.guesses.drop (i + 1), b.keep⟩⟩, Oc08.ok (b.guesses.length - 1 : Nat)) := rfl
theorem step_ok {b : Book} (ok : BookOk b) (x : Oc08.Call) (hx : callOk x) : BookOk (Oc08.step ⟨b⟩ x).1.book := by
  have hax := ok.ax
  have hgs := ok.gs
  have hkp := ok.kp
  match x, hx with
  | .begins, _ => exact bookOk_init
  | .line l, hl =>
    rw [st_line]
    cases e : Oc.two l with
    | none => exact ok
    | some a =>
      simp only
      split
      · exact ok
      · next hn =>
        simp only [not_or, Bool.not_eq_true] at hn
        refine bookOk_of ok (two_ok e hl) hn.2 (by show (b.axioms ++ [a]).length ≤ 4; rw [List.length_append, List.length_singleton]; omega) hgs hkp fun c hc => ?_
        simp only [Book.all, List.mem_append, mem_axC_iff, List.mem_cons, List.mem_singleton, List.not_mem_nil, or_false] at hc ⊢
        rcases hc with ⟨d, (hd | rfl) | hd, h⟩ | hc
        · exact .inl (.inl ⟨d, .inl hd, h⟩)
        · exact .inr h
        · exact .inl (.inl ⟨d, .inr hd, h⟩)
        · exact .inl (.inr hc)
  | .guess p l, hl =>
    rw [st_guess]
    cases e : Oc.two l with
    | none => exact ok
    | some a =>
      simp only
      split
      · exact ok
      split
      · exact ok
      · next hn =>
        simp only [not_or, Bool.not_eq_true] at hn
        refine bookOk_of ok (two_ok e hl) hn.2 hax (by show (b.guesses ++ [(p, a)]).length ≤ 4; rw [List.length_append, List.length_singleton]; omega) hkp fun c hc => ?_
        simp only [Book.all, List.map_append, List.map_cons, List.map_nil, List.mem_append, mem_axC_iff, List.mem_cons, List.not_mem_nil, or_false] at hc ⊢
        rcases hc with ⟨d, hd | hd | rfl, h⟩ | hc
        · exact .inl (.inl ⟨d, .inl hd, h⟩)
        · exact .inl (.inl ⟨d, .inr hd, h⟩)
        · exact .inr h
        · exact .inl (.inr hc)
  | .keep l, hl =>
    rw [st_keep]
    cases e : Oc.concept l with
    | none => exact ok
    | some a =>
      simp only
      split
      · exact ok
      · next hn =>
        simp only [not_or, Bool.not_eq_true] at hn
        refine bookOk_of ok (one_ok e hl) hn.2 hax hgs (by show (b.keep ++ [a]).length ≤ 2; rw [List.length_append, List.length_singleton]; omega) fun c hc => ?_
        simp only [Book.all, List.mem_append, List.mem_singleton] at hc ⊢
        rcases hc with hc | hc | hc
        · exact .inl (.inl hc)
        · exact .inl (.inr hc)
        · exact .inr hc
  | .answers l, _ =>
    rw [st_answers]
    cases e : Oc.two l with
    | none => exact ok
    | some a =>
      simp only
      split <;> exact ok
  | .cheapest l, _ =>
    rw [st_cheapest]
    cases e : Oc.two l with
    | none => exact ok
    | some a =>
      simp only
      split <;> exact ok
  | .check s l, _ =>
    rw [st_check]
    cases e : Oc.two l with
    | none => exact ok
    | some a =>
      simp only
      split
      · exact ok
      split <;> exact ok
  | .greatest, _ => exact ok
  | .take i, _ =>
    rw [st_take]
    cases e : b.guesses[i]? with
    | none =>
      simp only
      exact ok
    | some g =>
      simp only
      split
      · exact ok
      · next hn =>
        have hg := List.mem_of_getElem? e
        refine bookOk_of (cs := []) ok (by simp) (much_nil ok) (by show (b.axioms ++ [g.2]).length ≤ 4; rw [List.length_append, List.length_singleton]; omega)
          (by show (b.guesses.take i ++ b.guesses.drop (i + 1)).length ≤ 4; rw [List.length_append, List.length_take, List.length_drop]; omega) hkp fun c hc => .inl ?_
        simp only [Book.all, List.map_append, List.mem_append, mem_axC_iff, List.mem_cons, List.not_mem_nil, or_false, List.mem_map] at hc ⊢
        rcases hc with ⟨d, (hd | rfl) | ⟨g2, hd, rfl⟩ | ⟨g2, hd, rfl⟩, h⟩ | hc
        · exact .inl ⟨d, .inl hd, h⟩
        · exact .inl ⟨g.2, .inr ⟨g, hg, rfl⟩, h⟩
        · exact .inl ⟨g2.2, .inr ⟨g2, List.mem_of_mem_take hd, rfl⟩, h⟩
        · exact .inl ⟨g2.2, .inr ⟨g2, List.mem_of_mem_drop hd, rfl⟩, h⟩
        · exact .inr hc
end Mx
set_option Elab.async false
set_option maxRecDepth 100000
set_option maxHeartbeats 4000000
namespace Mx
open PySem PySem.Spec PyProof.Rows L2 LamX
open Oc (C Axiom)
open Oc08 (Book)
/-! the service: what lies in its object -/
structure SvTxt (K : PySem.W.Frag) (mg : Str → Option Value) (C : Addr) : Prop where
  cl : Cls K C
  nA : NoAttr K C "axioms"
  nH : NoAttr K C "hypotheses"
  nR : NoAttr K C "prices"
  nP : NoAttr K C "protected"
  cA : ∃ t, mg "MOST_AXIOMS" = some (.int 4 t)
  cH : ∃ t, mg "MOST_HYPOTHESES" = some (.int 4 t)
  cP : ∃ t, mg "MOST_PROTECTED" = some (.int 2 t)
  cM : ∃ t, mg "MOST_ATOMS" = some (.int 5 t)
  cR : ∃ t, mg "MOST_PRICE" = some (.int 1000 t)
def s1F (lx : Addr) : List (Str × V) := [("axioms", .ref lx)]
def s2F (lx lh : Addr) : List (Str × V) := [("axioms", .ref lx), ("hypotheses", .ref lh)]
def s3F (lx lh lp : Addr) : List (Str × V) := [("axioms", .ref lx), ("hypotheses", .ref lh), ("prices", .ref lp)]
def svF (lx lh lp lk : Addr) : List (Str × V) := [("axioms", .ref lx), ("hypotheses", .ref lh), ("prices", .ref lp), ("protected", .ref lk)]
section
variable {lx lh lp lk z : Addr}
theorem s1_new : putF "axioms" (.ref lx) [] = s1F lx := rfl
theorem s2_new : putF "hypotheses" (.ref lh) (s1F lx) = s2F lx lh := (put_past (by decide +kernel)).trans rfl
theorem s3_new : putF "prices" (.ref lp) (s2F lx lh) = s3F lx lh lp := (put_past (by decide +kernel)).trans (congrArg _ ((put_past (by decide +kernel)).trans rfl))
theorem s4_new : putF "protected" (.ref lk) (s3F lx lh lp) = svF lx lh lp lk := (put_past (by decide +kernel)).trans (congrArg _ ((put_past (by decide +kernel)).trans (congrArg _ ((put_past (by decide +kernel)).trans rfl))))
theorem sv_axioms : (svF lx lh lp lk).lookup ("axioms" : Str) = some (.ref lx) := lk_here
theorem sv_hyps : (svF lx lh lp lk).lookup ("hypotheses" : Str) = some (.ref lh) := (lk_past (by decide +kernel)).trans lk_here
theorem sv_prices : (svF lx lh lp lk).lookup ("prices" : Str) = some (.ref lp) := (lk_past (by decide +kernel)).trans ((lk_past (by decide +kernel)).trans lk_here)
theorem sv_prot : (svF lx lh lp lk).lookup ("protected" : Str) = some (.ref lk) := (lk_past (by decide +kernel)).trans ((lk_past (by decide +kernel)).trans ((lk_past (by decide +kernel)).trans lk_here))
theorem sv_no {m : Str} (h1 : (m == ("axioms" : Str)) = false) (h2 : (m == ("hypotheses" : Str)) = false) (h3 : (m == ("prices" : Str)) = false) (h4 : (m == ("protected" : Str)) = false) : (svF lx lh lp lk).lookup m = none :=
  (lk_past h1).trans ((lk_past h2).trans ((lk_past h3).trans ((lk_past h4).trans rfl)))
theorem sv_put1 : putF "axioms" (.ref z) (svF lx lh lp lk) = svF z lh lp lk := put_here
theorem sv_put2 : putF "hypotheses" (.ref z) (svF lx lh lp lk) = svF lx z lp lk := (put_past (by decide +kernel)).trans (congrArg _ put_here)
theorem sv_put3 : putF "prices" (.ref z) (svF lx lh lp lk) = svF lx lh z lk := (put_past (by decide +kernel)).trans (congrArg _ ((put_past (by decide +kernel)).trans (congrArg _ put_here)))
theorem sv_put4 : putF "protected" (.ref z) (svF lx lh lp lk) = svF lx lh lp z := (put_past (by decide +kernel)).trans (congrArg _ ((put_past (by decide +kernel)).trans (congrArg _ ((put_past (by decide +kernel)).trans (congrArg _ put_here)))))
end
/-- the prices -/
def costs (b : Book) : List Nat := b.guesses.map (·.1)
/-- the service's object at s holds the book b; O: its own objects -/
def SvAt (C : Addr) (H : Hp) (s : Addr) (O : List Addr) (b : Book) : Prop :=
  ∃ (dx lx lh lp lk : Addr) (tx th tk : List Addr), O = [s, lx, lh, lp, lk] ∧ H s = some (.ins C dx (svF lx lh lp lk)) ∧ H lx = some (.lst (tx.map V.ref)) ∧ Al2 (AxAt H) tx b.axioms ∧
    H lh = some (.lst (th.map V.ref)) ∧ Al2 (AxAt H) th (hyps b) ∧ H lp = some (.lst (Nv (costs b))) ∧ H lk = some (.lst (tk.map V.ref)) ∧ CAll H tk b.keep ∧ [lx, lh, lp, lk].Nodup
/-- all but the objects of O and the tables stands as it was -/
def FrO (O : List Addr) (H H' : Hp) : Prop := ∀ a o, H a = some o → (∀ ps, o ≠ .tbl ps) → a ∉ O → H' a = some o
theorem FrO.of {O : List Addr} {H H' : Hp} (x : ExtN H H') : FrO O H H' := fun a o e n _ => x a o e n
theorem FrO.ext {O : List Addr} {H H1 H2 : Hp} (x : FrO O H H1) (y : ExtN H1 H2) : FrO O H H2 := fun a o e n h => y a o (x a o e n h) n
theorem FrO.trans {O : List Addr} {H H1 H2 : Hp} (x : FrO O H H1) (y : FrO O H1 H2) : FrO O H H2 := fun a o e n h => y a o (x a o e n h) n h
theorem Al2.ext {H H' : Hp} {ts : List Addr} {axs : List Axiom} (x : ExtN H H') (h : Al2 (AxAt H) ts axs) : Al2 (AxAt H') ts axs := h.imp fun _ _ => AxAt.ext x
theorem SvAt.ext {C : Addr} {H H' : Hp} {s : Addr} {O : List Addr} {b : Book} (x : ExtN H H') (h : SvAt C H s O b) : SvAt C H' s O b := by
  obtain ⟨dx, lx, lh, lp, lk, tx, th, tk, e0, e1, e2, e3, e4, e5, e6, e7, e8, e9⟩ := h
  exact ⟨dx, lx, lh, lp, lk, tx, th, tk, e0, ext_insX x e1, ext_lstX x e2, Al2.ext x e3, ext_lstX x e4, Al2.ext x e5, ext_lstX x e6, ext_lstX x e7, CAll.ext x e8, e9⟩
/-- nothing stood at r but, if at all, a table -/
def NewN (H : Hp) (r : Addr) : Prop := ∀ o, H r = some o → ∃ ps, o = .tbl ps
/-- what a method of the service leaves -/
def Done (C : Addr) (T : List (Addr × Str)) (s : Addr) (O : List Addr) (H : Hp) (x : Oc08.House × List Int) (Q : VK) : Prop :=
  ∀ (H' : Hp) (r : Addr) (O' : List Addr), FrO O H H' → Tabs T H' → SvAt C H' s O' x.1.book → (∀ a ∈ O', a ∈ O ∨ H a = none) → NewN H r → H' r = some (.lst (x.2.map V.int)) → Q (.ref r) H'
abbrev sVi : Stmt := inClass (top 23) 0
abbrev sTm : Stmt := inClass (top 23) 1
abbrev sBe : Stmt := inClass (top 23) 2
def spVi (C : Addr) : Sp := fun vs H Q _ => ∃ (s dx : Addr), vs = [.ref s] ∧ H s = some (.ins C dx []) ∧ ∀ (H' : Hp) (O : List Addr), SvAt C H' s O ⟨[], [], []⟩ → (∀ a ∈ O, a = s ∨ H a = none) → KB s H H' → Q .non H'
def spTm (C : Addr) : Sp := fun vs H Q _ => ∃ (s a : Addr) (O : List Addr) (b : Book) (cs : List Oc.C), vs = [.ref s, .ref a] ∧ SvAt C H s O b ∧ BookOk b ∧ CsAt H a cs ∧ (∀ c ∈ cs, Valid c ∧ (enc c).length ≤ 30) ∧ cs.length ≤ 30 ∧
  ∀ H', Same H H' → Q (.bl (Oc08.much ⟨b⟩ cs)) H'
def spBe (C : Addr) (T : List (Addr × Str)) : Sp := fun vs H Q _ => ∃ (s : Addr) (O : List Addr) (b : Book), vs = [.ref s] ∧ SvAt C H s O b ∧ Tabs T H ∧ Done C T s O H (Oc08Neutral.step ⟨b⟩ [[0]]) Q
theorem scVi : FnScope ["self"] ["self"] (defScope sVi) := ⟨rfl, rfl, rfl, by decide +kernel, rfl, by decide +kernel, by decide +kernel⟩
theorem scTm : FnScope ["self", "concepts", "stated"] ["self", "concepts"] (defScope sTm) := ⟨rfl, rfl, rfl, by decide +kernel, rfl, by decide +kernel, by decide +kernel⟩
theorem scBe : FnScope ["self"] ["self"] (defScope sBe) := ⟨rfl, rfl, rfl, by decide +kernel, rfl, by decide +kernel, by decide +kernel⟩
theorem nodup4 {a b c d : Addr} (h1 : b ≠ a) (h2 : c ≠ a) (h3 : c ≠ b) (h4 : d ≠ a) (h5 : d ≠ b) (h6 : d ≠ c) : [a, b, c, d].Nodup := by
  simp [Ne.symm h1, Ne.symm h2, Ne.symm h3, Ne.symm h4, Ne.symm h5, Ne.symm h6]
section
variable {P : Program} {w : World} {K : PySem.W.Frag} {mg : Str → Option Value} {base : Heap} {C : Addr}
theorem ok_vi {f : Addr} {fd : FuncData} (F : Fun K "__init__" "Service.__init__" sVi f fd) (T : SvTxt K mg C) : FnOk P w K mg base CX0 1 f fd ["self"] (spVi C) := by
  refine F.ok scVi (fun vs H Q E h => ?_) (fun cdv A outer s H vs Q E hr h => ?_)
  · obtain ⟨s, dx, rfl, _⟩ := h
    rfl
  · refine ⟨_, pss_cons (ps_fld (pv 0) (pe_lst pa_nil) rfl) (pss_cons (ps_fld (pv 0) (pe_lst pa_nil) rfl) (pss_cons (ps_fld (pv 0) (pe_lst pa_nil) rfl) (pss_one (ps_fld (pv 0) (pe_lst pa_nil) rfl)))), ?_⟩
    obtain ⟨p, dx, rfl, hp, q⟩ := h
    refine ⟨by show 0 ≤ sizeLine; decide, fun lx hlx => ?_⟩
    have kx : KB p H (upd H lx (.lst [])) := (KB.refl p H).new hlx
    have npx : lx ≠ p := fun z => by rw [z, hp] at hlx; cases hlx
    refine ⟨_, rfl, p, C, dx, [], rfl, (same_upd hlx) _ _ hp, T.cl, T.nA, by show 0 < 1000; decide, ?_⟩
    rw [s1_new]
    have k1 := kx.at (o := HO.ins C dx (s1F lx))
    have e1 : (upd (upd H lx (.lst [])) p (.ins C dx (s1F lx))) p = some (.ins C dx (s1F lx)) := upd_same
    have x1 : (upd (upd H lx (.lst [])) p (.ins C dx (s1F lx))) lx = some (.lst []) := (upd_ne npx).trans upd_same
    generalize (upd (upd H lx (.lst [])) p (.ins C dx (s1F lx))) = H1 at k1 e1 x1
    refine ⟨by show 0 ≤ sizeLine; decide, fun lh hlh => ?_⟩
    have nph : lh ≠ p := fun z => by rw [z, e1] at hlh; cases hlh
    have nhx : lh ≠ lx := fun z => by rw [z, x1] at hlh; cases hlh
    refine ⟨_, rfl, p, C, dx, _, rfl, (same_upd hlh) _ _ e1, T.cl, T.nH, by show 1 < 1000; decide, ?_⟩
    rw [s2_new]
    have k2 := (k1.new (o := HO.lst []) hlh).at (o := HO.ins C dx (s2F lx lh))
    have e2 : (upd (upd H1 lh (.lst [])) p (.ins C dx (s2F lx lh))) p = some (.ins C dx (s2F lx lh)) := upd_same
    have x2 : (upd (upd H1 lh (.lst [])) p (.ins C dx (s2F lx lh))) lx = some (.lst []) := (upd_ne npx).trans ((same_upd hlh) _ _ x1)
    have h2 : (upd (upd H1 lh (.lst [])) p (.ins C dx (s2F lx lh))) lh = some (.lst []) := (upd_ne nph).trans upd_same
    have fh : H lh = none := by
      cases e : H lh with
      | none => rfl
      | some o => rw [k1 _ _ e nph] at hlh; cases hlh
    generalize (upd (upd H1 lh (.lst [])) p (.ins C dx (s2F lx lh))) = H2 at k2 e2 x2 h2
    refine ⟨by show 0 ≤ sizeLine; decide, fun lp hlp => ?_⟩
    have npp : lp ≠ p := fun z => by rw [z, e2] at hlp; cases hlp
    have npx' : lp ≠ lx := fun z => by rw [z, x2] at hlp; cases hlp
    have nph' : lp ≠ lh := fun z => by rw [z, h2] at hlp; cases hlp
    refine ⟨_, rfl, p, C, dx, _, rfl, (same_upd hlp) _ _ e2, T.cl, T.nR, by show 2 < 1000; decide, ?_⟩
    rw [s3_new]
    have k3 := (k2.new (o := HO.lst []) hlp).at (o := HO.ins C dx (s3F lx lh lp))
    have e3 : (upd (upd H2 lp (.lst [])) p (.ins C dx (s3F lx lh lp))) p = some (.ins C dx (s3F lx lh lp)) := upd_same
    have x3 : (upd (upd H2 lp (.lst [])) p (.ins C dx (s3F lx lh lp))) lx = some (.lst []) := (upd_ne npx).trans ((same_upd hlp) _ _ x2)
    have h3 : (upd (upd H2 lp (.lst [])) p (.ins C dx (s3F lx lh lp))) lh = some (.lst []) := (upd_ne nph).trans ((same_upd hlp) _ _ h2)
    have p3 : (upd (upd H2 lp (.lst [])) p (.ins C dx (s3F lx lh lp))) lp = some (.lst []) := (upd_ne npp).trans upd_same
    have fp : H lp = none := by
      cases e : H lp with
      | none => rfl
      | some o => rw [k2 _ _ e npp] at hlp; cases hlp
    generalize (upd (upd H2 lp (.lst [])) p (.ins C dx (s3F lx lh lp))) = H3 at k3 e3 x3 h3 p3
    refine ⟨by show 0 ≤ sizeLine; decide, fun lk hlk => ?_⟩
    have npk : lk ≠ p := fun z => by rw [z, e3] at hlk; cases hlk
    have nkx : lk ≠ lx := fun z => by rw [z, x3] at hlk; cases hlk
    have nkh : lk ≠ lh := fun z => by rw [z, h3] at hlk; cases hlk
    have nkp : lk ≠ lp := fun z => by rw [z, p3] at hlk; cases hlk
    have fk : H lk = none := by
      cases e : H lk with
      | none => rfl
      | some o => rw [k3 _ _ e npk] at hlk; cases hlk
    refine ⟨_, rfl, p, C, dx, _, rfl, (same_upd hlk) _ _ e3, T.cl, T.nP, by show 3 < 1000; decide, ?_⟩
    rw [s4_new]
    refine q _ [p, lx, lh, lp, lk] ⟨dx, lx, lh, lp, lk, [], [], [], rfl, upd_same, (upd_ne npx).trans ((same_upd hlk) _ _ x3), .nil, (upd_ne nph).trans ((same_upd hlk) _ _ h3), .nil, (upd_ne npp).trans ((same_upd hlk) _ _ p3),
      (upd_ne npk).trans upd_same, .nil, nodup4 nhx npx' nph' nkx nkh nkp⟩ (fun a ha => ?_) ((k3.new hlk).at)
    simp only [List.mem_cons, List.not_mem_nil, or_false] at ha
    rcases ha with rfl | rfl | rfl | rfl | rfl
    · exact .inl rfl
    · exact .inr hlx
    · exact .inr fh
    · exact .inr fp
    · exact .inr fk
end
end Mx
set_option Elab.async false
set_option maxRecDepth 100000
set_option maxHeartbeats 4000000
namespace Mx
open PySem PySem.Spec PyProof.Rows L2 LamX
open Oc (C Axiom)
open Oc08 (Book)
/-- tables stand where one list or instance alone has changed -/
theorem tabs_KB {T : List (Addr × Str)} {H H' : Hp} {p : Addr} {u : HO} (t : Tabs T H) (k : KB p H H') (hp : H p = some u) (n1 : ∀ ps, u ≠ .tbl ps) (n2 : ∀ φ, u ≠ .ext φ) : Tabs T H' := fun pr hpr => by
  obtain ⟨ps, t1, t2, t3⟩ := t pr hpr
  refine ⟨ps, k _ _ t1 (fun z => ?_), t2, fun pos cv hcv => ?_⟩
  · rw [z, hp] at t1
    exact n1 _ (Option.some.inj t1)
  · obtain ⟨c0, k1, k2⟩ := t3 pos cv hcv
    refine ⟨c0, k1, k _ _ k2 (fun z => ?_)⟩
    rw [z, hp] at k2
    exact n2 _ (Option.some.inj k2)
theorem tabs_ins {T : List (Addr × Str)} {H H' : Hp} {p c dx : Addr} {fs : List (Str × V)} (t : Tabs T H) (k : KB p H H') (hp : H p = some (.ins c dx fs)) : Tabs T H' := tabs_KB t k hp (fun _ z => by cases z) (fun _ z => by cases z)
theorem tabs_lst {T : List (Addr × Str)} {H H' : Hp} {p : Addr} {xs : List V} (t : Tabs T H) (k : KB p H H') (hp : H p = some (.lst xs)) : Tabs T H' := tabs_KB t k hp (fun _ z => by cases z) (fun _ z => by cases z)
section
variable {P : Program} {w : World} {K : PySem.W.Frag} {mg : Str → Option Value} {base : Heap} {C : Addr}
theorem ok_be {f : Addr} {fd : FuncData} {Tb : List (Addr × Str)} (F : Fun K "begins" "Service.begins" sBe f fd) (T : SvTxt K mg C) : FnOk P w K mg base CX0 1 f fd ["self"] (spBe C Tb) := by
  refine F.ok scBe (fun vs H Q E h => ?_) (fun cdv A outer s H vs Q E hr h => ?_)
  · obtain ⟨s, O, b, rfl, _⟩ := h
    rfl
  · refine ⟨_, pss_cons (ps_fld (pv 0) (pe_lst pa_nil) rfl) (pss_cons (ps_fld (pv 0) (pe_lst pa_nil) rfl) (pss_cons (ps_fld (pv 0) (pe_lst pa_nil) rfl) (pss_cons (ps_fld (pv 0) (pe_lst pa_nil) rfl)
      (pss_one (ps_ret (pe_lst (pa_cons pe_int pa_nil))))))), ?_⟩
    obtain ⟨p, O, b, rfl, hS, hT, q⟩ := h
    obtain ⟨dx, ox, oh, op, ok, tx, th, tk, e0, hp, _⟩ := hS
    refine ⟨by show 0 ≤ sizeLine; decide, fun lx hlx => ?_⟩
    have kx : KB p H (upd H lx (.lst [])) := (KB.refl p H).new hlx
    have npx : lx ≠ p := fun z => by rw [z, hp] at hlx; cases hlx
    refine ⟨_, rfl, p, C, dx, _, rfl, (same_upd hlx) _ _ hp, T.cl, T.nA, by show 4 < 1000; decide, ?_⟩
    rw [sv_put1]
    have k1 := kx.at (o := HO.ins C dx (svF lx oh op ok))
    have e1 : (upd (upd H lx (.lst [])) p (.ins C dx (svF lx oh op ok))) p = some (.ins C dx (svF lx oh op ok)) := upd_same
    have x1 : (upd (upd H lx (.lst [])) p (.ins C dx (svF lx oh op ok))) lx = some (.lst []) := (upd_ne npx).trans upd_same
    generalize (upd (upd H lx (.lst [])) p (.ins C dx (svF lx oh op ok))) = H1 at k1 e1 x1
    refine ⟨by show 0 ≤ sizeLine; decide, fun lh hlh => ?_⟩
    have nph : lh ≠ p := fun z => by rw [z, e1] at hlh; cases hlh
    have nhx : lh ≠ lx := fun z => by rw [z, x1] at hlh; cases hlh
    refine ⟨_, rfl, p, C, dx, _, rfl, (same_upd hlh) _ _ e1, T.cl, T.nH, by show 4 < 1000; decide, ?_⟩
    rw [sv_put2]
    have k2 := (k1.new (o := HO.lst []) hlh).at (o := HO.ins C dx (svF lx lh op ok))
    have e2 : (upd (upd H1 lh (.lst [])) p (.ins C dx (svF lx lh op ok))) p = some (.ins C dx (svF lx lh op ok)) := upd_same
    have x2 : (upd (upd H1 lh (.lst [])) p (.ins C dx (svF lx lh op ok))) lx = some (.lst []) := (upd_ne npx).trans ((same_upd hlh) _ _ x1)
    have h2 : (upd (upd H1 lh (.lst [])) p (.ins C dx (svF lx lh op ok))) lh = some (.lst []) := (upd_ne nph).trans upd_same
    have fh : H lh = none := by
      cases e : H lh with
      | none => rfl
      | some o => rw [k1 _ _ e nph] at hlh; cases hlh
    generalize (upd (upd H1 lh (.lst [])) p (.ins C dx (svF lx lh op ok))) = H2 at k2 e2 x2 h2
    refine ⟨by show 0 ≤ sizeLine; decide, fun lp hlp => ?_⟩
    have npp : lp ≠ p := fun z => by rw [z, e2] at hlp; cases hlp
    have npx' : lp ≠ lx := fun z => by rw [z, x2] at hlp; cases hlp
    have nph' : lp ≠ lh := fun z => by rw [z, h2] at hlp; cases hlp
    refine ⟨_, rfl, p, C, dx, _, rfl, (same_upd hlp) _ _ e2, T.cl, T.nR, by show 4 < 1000; decide, ?_⟩
    rw [sv_put3]
    have k3 := (k2.new (o := HO.lst []) hlp).at (o := HO.ins C dx (svF lx lh lp ok))
    have e3 : (upd (upd H2 lp (.lst [])) p (.ins C dx (svF lx lh lp ok))) p = some (.ins C dx (svF lx lh lp ok)) := upd_same
    have x3 : (upd (upd H2 lp (.lst [])) p (.ins C dx (svF lx lh lp ok))) lx = some (.lst []) := (upd_ne npx).trans ((same_upd hlp) _ _ x2)
    have h3 : (upd (upd H2 lp (.lst [])) p (.ins C dx (svF lx lh lp ok))) lh = some (.lst []) := (upd_ne nph).trans ((same_upd hlp) _ _ h2)
    have p3 : (upd (upd H2 lp (.lst [])) p (.ins C dx (svF lx lh lp ok))) lp = some (.lst []) := (upd_ne npp).trans upd_same
    have fp : H lp = none := by
      cases e : H lp with
      | none => rfl
      | some o => rw [k2 _ _ e npp] at hlp; cases hlp
    generalize (upd (upd H2 lp (.lst [])) p (.ins C dx (svF lx lh lp ok))) = H3 at k3 e3 x3 h3 p3
    refine ⟨by show 0 ≤ sizeLine; decide, fun lk hlk => ?_⟩
    have npk : lk ≠ p := fun z => by rw [z, e3] at hlk; cases hlk
    have nkx : lk ≠ lx := fun z => by rw [z, x3] at hlk; cases hlk
    have nkh : lk ≠ lh := fun z => by rw [z, h3] at hlk; cases hlk
    have nkp : lk ≠ lp := fun z => by rw [z, p3] at hlk; cases hlk
    have fk : H lk = none := by
      cases e : H lk with
      | none => rfl
      | some o => rw [k3 _ _ e npk] at hlk; cases hlk
    refine ⟨_, rfl, p, C, dx, _, rfl, (same_upd hlk) _ _ e3, T.cl, T.nP, by show 4 < 1000; decide, ?_⟩
    rw [sv_put4]
    have k4 := (k3.new (o := HO.lst []) hlk).at (o := HO.ins C dx (svF lx lh lp lk))
    have e4 : (upd (upd H3 lk (.lst [])) p (.ins C dx (svF lx lh lp lk))) p = some (.ins C dx (svF lx lh lp lk)) := upd_same
    have x4 : (upd (upd H3 lk (.lst [])) p (.ins C dx (svF lx lh lp lk))) lx = some (.lst []) := (upd_ne npx).trans ((same_upd hlk) _ _ x3)
    have h4 : (upd (upd H3 lk (.lst [])) p (.ins C dx (svF lx lh lp lk))) lh = some (.lst []) := (upd_ne nph).trans ((same_upd hlk) _ _ h3)
    have p4 : (upd (upd H3 lk (.lst [])) p (.ins C dx (svF lx lh lp lk))) lp = some (.lst []) := (upd_ne npp).trans ((same_upd hlk) _ _ p3)
    have g4 : (upd (upd H3 lk (.lst [])) p (.ins C dx (svF lx lh lp lk))) lk = some (.lst []) := (upd_ne npk).trans upd_same
    generalize (upd (upd H3 lk (.lst [])) p (.ins C dx (svF lx lh lp lk))) = H4 at k4 e4 x4 h4 p4 g4
    refine ⟨by show 1 ≤ sizeLine; decide, fun r hr0 => ?_⟩
    have sr := same_upd (o := HO.lst [V.int 0]) hr0
    have k5 := k4.same sr
    refine q _ r [p, lx, lh, lp, lk] (fun a o e n ha => k5 a o e fun z => ha (by rw [e0, z]; simp)) (tabs_ins hT k5 hp)
      ⟨dx, lx, lh, lp, lk, [], [], [], rfl, sr _ _ e4, sr _ _ x4, .nil, sr _ _ h4, .nil, sr _ _ p4, sr _ _ g4, .nil, nodup4 nhx npx' nph' nkx nkh nkp⟩ (fun a ha => ?_) (fun o z => ?_) upd_same
    rotate_left
    · by_cases h : r = p
      · rw [h, e4] at hr0; cases hr0
      · rw [k4 _ _ z h] at hr0; cases hr0
    simp only [List.mem_cons, List.not_mem_nil, or_false] at ha
    rcases ha with rfl | rfl | rfl | rfl | rfl
    · exact .inl (by rw [e0]; simp)
    · exact .inr hlx
    · exact .inr fh
    · exact .inr fp
    · exact .inr fk
theorem ok_tm {f : Addr} {fd : FuncData} (F : Fun K "too_many_atoms" "Service.too_many_atoms" sTm f fd) (T : SvTxt K mg C) (mLen : mg "len" = none) (cCo : Called P w K mg base "concepts_of" 1 ["axioms"] (spCo K))
    (cAi : Called P w K mg base "atoms_in" 3 ["concepts"] (spAi K)) : FnOk P w K mg base CX0 4 f fd ["self", "concepts"] (spTm C) := by
  obtain ⟨tM, cM⟩ := T.cM
  refine F.ok scTm (fun vs H Q E h => ?_) (fun cdv A outer s H vs Q E hr h => ?_)
  · obtain ⟨s, a, O, b, cs, rfl, _⟩ := h
    rfl
  · refine ⟨_, pss_cons (ps_set (i := 2) scTm.nd rfl (Or.inl rfl) (pe_op op_cat (pe_cl cCo (hr.mono (by decide)) (pa_cons (pe_fld (pv 0) rfl) pa_nil)) (pe_cl cCo (hr.mono (by decide)) (pa_cons (pe_fld (pv 0) rfl) pa_nil))))
      (pss_one (ps_ret (pe_cmpR op_gt (pe_callB call_len_seq (by rfl) mLen PySem.boot_len (pa_cons (pe_cl cAi hr (pa_cons (pe_op op_cat (pe_op op_cat (pv 2) (pe_fld (pv 0) rfl)) (pv 1)) pa_nil)) pa_nil))
        (pe_glob (v := .int 5) (by rfl) cM ⟨tM, rfl⟩) rfl))), ?_⟩
    obtain ⟨p, a, O, b, cs, rfl, hS, hok, hc, hcs, hn, q⟩ := h
    obtain ⟨dx, lx, lh, lp, lk, tx, th, tk, e0, e1, e2, e3, e4, e5, e6, e7, e8, e9⟩ := hS
    have hax := hok.ax
    have hgs := hok.gs
    have hkp := hok.kp
    have hhl : (hyps b).length = b.guesses.length := List.length_map _
    refine ⟨_, rfl, p, C, dx, _, _, rfl, e1, T.cl, T.nA, sv_axioms, lx, tx, b.axioms, rfl, e2, e3, by omega, fun H1 r1 s1 hr1 hc1 => ?_⟩
    obtain ⟨b1, hb1, hB1⟩ := hc1
    refine ⟨_, rfl, p, C, dx, _, _, rfl, s1 _ _ e1, T.cl, T.nH, sv_hyps, lh, th, hyps b, rfl, s1 _ _ e4, e5.imp fun _ _ h => h.same s1, by omega, fun H2 r2 s2 hr2 hc2 => ?_⟩
    obtain ⟨b2, hb2, hB2⟩ := hc2
    obtain ⟨ba, hba, hBA⟩ := hc
    have l1 := hB1.len
    have l2 := hB2.len
    have l3 := e8.len
    have l4 := hBA.len
    rw [axC_len] at l1 l2
    refine ⟨r1, r2, _, _, rfl, rfl, s2 _ _ hb1, hb2, ?_, fun r3 hr3 => ?_⟩
    · rw [List.length_map, List.length_map]
      exact Nat.le_trans (show b1.length + b2.length ≤ 100000 by omega) (by decide)
    have s3 := (s1.trans s2).trans (same_upd (o := HO.lst (b1.map V.ref ++ b2.map V.ref)) hr3)
    refine ⟨_, rfl, _, rfl, p, C, dx, _, _, rfl, s3 _ _ e1, T.cl, T.nP, sv_prot, r3, lk, _, _, rfl, rfl, upd_same, s3 _ _ e7, ?_, fun r4 hr4 => ?_⟩
    · rw [List.length_append, List.length_map, List.length_map, List.length_map]
      exact Nat.le_trans (show b1.length + b2.length + tk.length ≤ 100000 by omega) (by decide)
    have s4 := s3.trans (same_upd (o := HO.lst (b1.map V.ref ++ b2.map V.ref ++ tk.map V.ref)) hr4)
    refine ⟨_, rfl, r4, a, _, _, rfl, rfl, upd_same, s4 _ _ hba, ?_, fun r5 hr5 => ?_⟩
    · rw [List.length_append, List.length_append, List.length_map, List.length_map, List.length_map, List.length_map]
      exact Nat.le_trans (show b1.length + b2.length + tk.length + ba.length ≤ 100000 by omega) (by decide)
    have s25 : Same H2 (upd (upd (upd H2 r3 (.lst (b1.map V.ref ++ b2.map V.ref))) r4 (.lst (b1.map V.ref ++ b2.map V.ref ++ tk.map V.ref))) r5 (.lst (b1.map V.ref ++ b2.map V.ref ++ tk.map V.ref ++ ba.map V.ref))) :=
      ((same_upd hr3).trans (same_upd hr4)).trans (same_upd hr5)
    have s5 := (s1.trans s2).trans s25
    refine ⟨r5, b1 ++ b2 ++ tk ++ ba, allC b.axioms (hyps b) b.keep cs, rfl, SqL.of (by rw [upd_same, List.map_append, List.map_append, List.map_append]), ?_, fun c hc => ?_, ?_, fun H6 r6 s6 hr6 hc6 => ?_⟩
    · exact (((hB1.same (s2.trans s25)).app (hB2.same s25)).app (e8.same s5)).app (hBA.same s5)
    · rcases allC_mem.1 hc with hc | hc
      · exact ⟨(hok.each c hc).1, Nat.le_trans (hok.each c hc).2 (by decide)⟩
      · exact ⟨(hcs c hc).1, Nat.le_trans (hcs c hc).2 (by decide)⟩
    · simp only [allC, List.length_append, axC_len]
      omega
    obtain ⟨b6, hb6, hB6⟩ := hc6
    refine ⟨r6, _, rfl, .inl (SqL.of hb6), _, _, rfl, rfl, ?_⟩
    have e : decide ((5 : Int) < ((b6.map V.ref).length : Nat)) = Oc08.much ⟨b⟩ cs := by
      rw [much_is, List.length_map, hB6.len]
      exact decide_eq_decide.mpr ⟨fun h => by omega, fun h => by omega⟩
    show Q (.bl (decide ((5 : Int) < ((b6.map V.ref).length : Nat)))) H6
    rw [e]
    exact q H6 (s5.trans s6)
end
end Mx
set_option Elab.async false
set_option maxRecDepth 100000
set_option maxHeartbeats 4000000
namespace Mx
open PySem PySem.Spec PyProof.Rows L2 LamX
open Oc (C Axiom)
open Oc08 (Book)
abbrev sLi : Stmt := inClass (top 23) 3
/-- a step of the specification, its answer as whole numbers -/
def stp (b : Book) (x : Oc08.Call) : Oc08.House × List Int := ((Oc08.step ⟨b⟩ x).1, Oc08Neutral.out (Oc08.step ⟨b⟩ x).2)
theorem Done.ret {C : Addr} {Tb : List (Addr × Str)} {s r : Addr} {O : List Addr} {H H' : Hp} {x : Oc08.House × List Int} {Q : VK} {b : Book} (q : Done C Tb s O H x Q) (hS : SvAt C H s O b) (hT : Tabs Tb H) (hb : x.1.book = b) (sm : Same H H')
    (hr : H' r = none) : Q (.ref r) (upd H' r (.lst (x.2.map V.int))) :=
  have s2 := sm.trans (same_upd (o := HO.lst (x.2.map V.int)) hr)
  q _ r O (FrO.of (ExtN.of s2)) (hT.ext s2) (hb ▸ hS.ext (ExtN.of s2)) (fun _ h => .inl h) (fun o z => by rw [sm _ _ z] at hr; cases hr) upd_same
theorem splits_ok {ns : List Nat} {cs : List C} (h : Splits ns cs) (hn : ns.length ≤ 30) : (∀ c ∈ cs, Valid c ∧ (enc c).length ≤ 30) ∧ cs.length ≤ 30 := by
  have key : ∀ ds : List C, ds.length ≤ (ds.flatMap enc).length ∧ ∀ c ∈ ds, (enc c).length ≤ (ds.flatMap enc).length := by
    intro ds
    induction ds with
    | nil => simp
    | cons d r ih =>
      obtain ⟨i1, i2⟩ := ih
      have := enc_pos d
      rw [List.flatMap_cons, List.length_append, List.length_cons]
      refine ⟨by omega, fun c hc => ?_⟩
      rcases List.mem_cons.1 hc with rfl | hc
      · omega
      · have := i2 c hc
        omega
  rcases h with ⟨rfl, hv⟩ | ⟨rfl, _⟩
  · obtain ⟨k1, k2⟩ := key cs
    exact ⟨fun c hc => ⟨hv c hc, Nat.le_trans (k2 c hc) hn⟩, Nat.le_trans k1 hn⟩
  · exact ⟨by simp, by simp⟩
def spLi (C : Addr) (T : List (Addr × Str)) : Sp := fun vs H Q _ => ∃ (s a : Addr) (O : List Addr) (b : Book) (l : List Nat), vs = [.ref s, .ref a] ∧ SvAt C H s O b ∧ BookOk b ∧ Tabs T H ∧ H a = some (.lst (Nv l)) ∧ l.length ≤ 30 ∧ Done C T s O H (stp b (.line l)) Q
theorem scLi : FnScope ["self", "numbers", "concepts"] ["self", "numbers"] (defScope sLi) := ⟨rfl, rfl, rfl, by decide +kernel, rfl, by decide +kernel, by decide +kernel⟩
section
variable {P : Program} {w : World} {K : PySem.W.Frag} {mg : Str → Option Value} {base : Heap} {C : Addr}
theorem ok_li {f : Addr} {fd : FuncData} {Tb : List (Addr × Str)} (F : Fun K "line" "Service.line" sLi f fd) (T : SvTxt K mg C) (mLen : mg "len" = none) (cSp : Called P w K mg base "split_concepts" 3 ["numbers"] (spSp K))
    (cTm : MCalled P w K mg base C "too_many_atoms" 4 ["self", "concepts"] (spTm C)) : FnOk P w K mg base CX0 5 f fd ["self", "numbers"] (spLi C Tb) := by
  obtain ⟨tA, cA⟩ := T.cA
  refine F.ok scLi (fun vs H Q E h => ?_) (fun cdv A outer s H vs Q E hr h => ?_)
  · obtain ⟨s, a, O, b, l, rfl, _⟩ := h
    rfl
  · refine ⟨_, pss_cons (ps_set (i := 2) scLi.nd rfl (Or.inl rfl) (pe_cl cSp (hr.mono (by decide)) (pa_cons (pv 1) pa_nil)))
      (pss_cons (ps_if (pt_cmpR op_ne (pe_callB call_len_seq (by rfl) mLen PySem.boot_len (pa_cons (pv 2) pa_nil)) pe_int (nomark _)) (pss_one (ps_ret (pe_lst (pa_cons (pe_un un_neg pe_int) pa_nil)))) pss_nil)
      (pss_cons (ps_if (PW.pt (pw_or (pt_cmpR op_ge (pe_callB call_len_seq (by rfl) mLen PySem.boot_len (pa_cons (pe_fld (pv 0) rfl) pa_nil)) (pe_glob (v := .int 4) (by rfl) cA ⟨tA, rfl⟩) (nomark _))
          (pw_or1 (pt_val (pe_cm (pv 0) T.cl cTm hr (pa_cons (pv 2) pa_nil)))))) (pss_one (ps_ret (pe_lst (pa_cons (pe_un un_neg pe_int) pa_nil)))) pss_nil)
      (pss_cons (ps_expr (pe_bm PySem.F.plainAttrs_list PySem.F.slot_list_append PySem.F.type_list_append mt_append (pe_fld (pv 0) rfl)
          (pa_cons (pe_tup (pa_cons (pe_ix ix_list (pv 2) pe_int (fun _ _ => rfl)) (pa_cons (pe_ix ix_list (pv 2) pe_int (fun _ _ => rfl)) pa_nil))) pa_nil)))
      (pss_one (ps_ret (pe_lst (pa_cons (pe_op op_sub (pe_callB call_len_seq (by rfl) mLen PySem.boot_len (pa_cons (pe_fld (pv 0) rfl) pa_nil)) pe_int) pa_nil))))))), ?_⟩
    obtain ⟨p, a, O, b, l, rfl, hS, hok, hT, ha, hl, q⟩ := h
    refine ⟨_, rfl, a, l, rfl, SqL.of ha, by omega, fun H1 r cs s1 hr0 hcs sp => ?_⟩
    obtain ⟨hv, hcl⟩ := splits_ok sp hl
    have hcs' := hcs
    obtain ⟨as, har, hA⟩ := hcs
    have hS1 := hS.ext (ExtN.of s1)
    have htwo := splits_two sp
    have hlen := hA.len
    refine ⟨_, rfl, r, _, rfl, .inl (SqL.of har), rfl, _, rfl, ?_⟩
    rw [List.length_map, hlen]
    show if (!decide (V.int ((cs.length : Nat) : Int) = V.int ((2 : Nat) : Int))) = true then _ else _
    rw [vNE]
    by_cases h2 : cs.length = 2
    · obtain ⟨c, d, rfl⟩ : ∃ c d, cs = [c, d] := by
        match cs, h2 with
        | [c, d], _ => exact ⟨c, d, rfl⟩
      refine iteF ?_
      have hcv := hcs'
      have e : Oc.two l = some (c, d) := htwo
      obtain ⟨x, y, rfl, hx, hy⟩ : ∃ x y, as = [x, y] ∧ CAt H1 x c ∧ CAt H1 y d := by
        cases hA with
        | cons g1 h =>
          cases h with
          | cons g2 h =>
            cases h
            exact ⟨_, _, rfl, g1, g2⟩
      have hS1' := hS1
      obtain ⟨dx, lx, lh, lp, lk, tx, th, tk, e0, e1, e2, e3, e4, e5, e6, e7, e8, e9⟩ := hS1'
      have hax := hok.ax
      have l3 := e3.len
      refine ⟨_, rfl, p, C, dx, _, _, rfl, e1, T.cl, T.nA, sv_axioms, lx, _, rfl, .inl (SqL.of e2), _, _, rfl, rfl, _, rfl, ?_⟩
      rw [List.length_map, l3]
      by_cases h4 : b.axioms.length = 4
      · refine ifT (show decide ((4 : Int) ≤ (b.axioms.length : Nat)) = true by rw [h4]; rfl) ?_
        refine iteT ⟨_, rfl, by show 1 ≤ sizeLine; decide, fun r2 hr2 => ?_⟩
        have es : stp b (.line l) = (⟨b⟩, [-7]) := by
          unfold stp
          rw [st_line, e]
          simp only [if_pos (Or.inl h4)]
          rfl
        rw [es] at q
        exact q.ret hS hT rfl s1 hr2
      refine ifF (show decide ((4 : Int) ≤ (b.axioms.length : Nat)) = false by rw [decide_eq_false_iff_not]; omega) ?_
      refine ⟨_, rfl, p, dx, _, rfl, e1, sv_no (by decide +kernel) (by decide +kernel) (by decide +kernel) (by decide +kernel), _, rfl, p, r, O, b, [c, d], rfl, hS1, hok, hcv, hv, by simp, fun H2 s2 => ⟨_, rfl, ?_⟩⟩
      have s12 := s1.trans s2
      cases hm : Oc08.much ⟨b⟩ [c, d] with
      | true =>
        refine iteT ⟨_, rfl, by show 1 ≤ sizeLine; decide, fun r2 hr2 => ?_⟩
        have es : stp b (.line l) = (⟨b⟩, [-7]) := by
          unfold stp
          rw [st_line, e]
          simp only [if_pos (Or.inr hm)]
          rfl
        rw [es] at q
        exact q.ret hS hT rfl s12 hr2
      | false =>
        have es : stp b (.line l) = (⟨⟨b.axioms ++ [(c, d)], b.guesses, b.keep⟩⟩, [((b.axioms.length : Nat) : Int)]) := by
          unfold stp
          rw [st_line, e]
          simp only [if_neg (show ¬ (b.axioms.length = 4 ∨ Oc08.much ⟨b⟩ [c, d] = true) by rw [hm]; simp [h4])]
          rfl
        rw [es] at q
        have hr2' := s2 _ _ har
        have f1 := s2 _ _ e1
        have f2 := s2 _ _ e2
        refine iteF ⟨_, rfl, p, C, dx, _, _, rfl, f1, T.cl, T.nA, sv_axioms, tyList f2, ?_⟩
        refine ⟨_, rfl, r, _, 0, _, rfl, rfl, SqL.of hr2', rfl, _, rfl, r, _, 1, _, rfl, rfl, SqL.of hr2', rfl, by show 2 ≤ sizeLine; decide, fun t ht => ?_⟩
        have s3 : Same H2 (upd H2 t (.tup [.ref x, .ref y])) := same_upd ht
        have st : (upd H2 t (.tup [.ref x, .ref y])) t = some (.tup [.ref x, .ref y]) := upd_same
        generalize (upd H2 t (.tup [.ref x, .ref y])) = H3 at s3 st
        have s13 := s12.trans s3
        have s23 := s2.trans s3
        have g2 := s23 _ _ e2
        refine ⟨lx, _, _, rfl, rfl, g2, ?_, ?_⟩
        · rw [List.length_map]
          exact small_lt (by omega)
        have k4 : KB lx H3 (upd H3 lx (.lst (tx.map V.ref ++ [V.ref t]))) := (KB.refl lx H3).at
        have x4 : (upd H3 lx (.lst (tx.map V.ref ++ [V.ref t]))) lx = some (.lst (tx.map V.ref ++ [V.ref t])) := upd_same
        generalize (upd H3 lx (.lst (tx.map V.ref ++ [V.ref t]))) = H4 at k4 x4
        have tups : ∀ b xs, H3 b = some (.tup xs) → H4 b = some (.tup xs) := fun b xs z => k4 _ _ z fun y => by rw [y, g2] at z; cases z
        have lists : ∀ b xs, H3 b = some (.lst xs) → b ≠ lx → H4 b = some (.lst xs) := fun b xs z n => k4 _ _ z n
        have i4 : H4 p = some (.ins C dx (svF lx lh lp lk)) := k4 _ _ (s23 _ _ e1) fun y => by rw [y, e2] at e1; cases e1
        refine ⟨_, rfl, p, C, dx, _, _, rfl, i4, T.cl, T.nA, sv_axioms, lx, _, rfl, .inl (SqL.of x4), _, _, rfl, rfl, by show 1 ≤ sizeLine; decide, fun r2 hr2 => ?_⟩
        have s5 := same_upd (o := HO.lst [(fun i j => V.int (i - j)) (((tx.map V.ref ++ [V.ref t]).length : Nat) : Int) 1]) hr2
        have nd := e9
        simp only [List.nodup_cons, List.mem_cons, List.not_mem_nil, or_false, not_or] at nd
        obtain ⟨⟨n1, n2, n3⟩, ⟨n4, n5⟩, n6, _⟩ := nd
        refine q _ r2 O (fun b o z nt nb => ?_) ((tabs_lst (hT.ext s13) k4 g2).ext s5) ⟨dx, lx, lh, lp, lk, tx ++ [t], th, tk, e0, s5 _ _ i4, ?_, ?_, s5 _ _ (lists _ _ (s23 _ _ e4) (Ne.symm n1)), ?_, s5 _ _ (lists _ _ (s23 _ _ e6) (Ne.symm n2)),
          s5 _ _ (lists _ _ (s23 _ _ e7) (Ne.symm n3)), ?_, e9⟩ (fun _ h => .inl h) (fun o z => by
            have z := s13 _ _ z
            by_cases h : r2 = lx
            · rw [h, x4] at hr2; cases hr2
            · rw [k4 _ _ z h] at hr2; cases hr2) ?_
        · exact s5 _ _ (k4 _ _ (s13 _ _ z) fun y => nb (by rw [y, e0]; simp))
        · rw [List.map_append]
          exact s5 _ _ x4
        · exact ((e3.imp fun _ _ h => (h.same s23).keep tups).app (.cons (b := (c, d)) ⟨x, y, tups _ _ st, tups _ _ (hx.same s23), tups _ _ (hy.same s23)⟩ .nil)).imp fun _ _ h => h.same s5
        · exact e5.imp fun _ _ h => ((h.same s23).keep tups).same s5
        · exact ((e8.same s23).keep tups).same s5
        · rw [upd_same, List.length_append, List.length_map, l3]
          show some (HO.lst [V.int (((b.axioms.length + 1 : Nat) : Int) - 1)]) = some (HO.lst [V.int ((b.axioms.length : Nat) : Int)])
          rw [show ((b.axioms.length + 1 : Nat) : Int) - 1 = ((b.axioms.length : Nat) : Int) by omega]
    · have e : Oc.two l = none := by
        rw [htwo]
        match cs, h2 with
        | [], _ => rfl
        | [_], _ => rfl
        | [_, _], h => exact absurd rfl h
        | _ :: _ :: _ :: _, _ => rfl
      rw [if_pos (by simpa using h2)]
      refine ⟨_, rfl, by show 1 ≤ sizeLine; decide, fun r2 hr2 => ?_⟩
      have es : stp b (.line l) = (⟨b⟩, [-1]) := by
        unfold stp
        rw [st_line, e]
        rfl
      rw [es] at q
      exact q.ret hS hT rfl s1 hr2
end
end Mx
set_option Elab.async false
set_option maxRecDepth 100000
set_option maxHeartbeats 4000000
namespace Mx
open PySem PySem.Spec PyProof.Rows L2 LamX
open Oc (C Axiom)
open Oc08 (Book)
abbrev sGu : Stmt := inClass (top 23) 4
theorem neT {n k : Nat} (h : n ≠ k) : (!decide (V.int ((n : Nat) : Int) = V.int ((k : Nat) : Int))) = true := by
  rw [vNE]
  simpa using h
theorem neF {n k : Nat} (h : n = k) : (!decide (V.int ((n : Nat) : Int) = V.int ((k : Nat) : Int))) = false := by
  rw [vNE]
  simpa using h
theorem two_none {l : List Nat} {cs : List C} (sp : Splits l cs) (h : cs.length ≠ 2) : Oc.two l = none := by
  rw [splits_two sp]
  match cs, h with
  | [], _ => rfl
  | [_], _ => rfl
  | [_, _], h => exact absurd rfl h
  | _ :: _ :: _ :: _, _ => rfl
theorem out_ok (v : Int) : Oc08Neutral.out (Oc08.ok v) = [v] := rfl
def spGu (C : Addr) (T : List (Addr × Str)) : Sp := fun vs H Q _ => ∃ (s a : Addr) (O : List Addr) (b : Book) (pr : Nat) (l : List Nat), vs = [.ref s, .int ((pr : Nat) : Int), .ref a] ∧ SvAt C H s O b ∧ BookOk b ∧ Tabs T H ∧ H a = some (.lst (Nv l)) ∧ l.length ≤ 30 ∧ Done C T s O H (stp b (.guess pr l)) Q
theorem scGu : FnScope ["self", "price", "numbers", "concepts"] ["self", "price", "numbers"] (defScope sGu) := ⟨rfl, rfl, rfl, by decide +kernel, rfl, by decide +kernel, by decide +kernel⟩
section
variable {P : Program} {w : World} {K : PySem.W.Frag} {mg : Str → Option Value} {base : Heap} {C : Addr}
theorem ok_gu {f : Addr} {fd : FuncData} {Tb : List (Addr × Str)} (F : Fun K "guess" "Service.guess" sGu f fd) (T : SvTxt K mg C) (mLen : mg "len" = none) (cSp : Called P w K mg base "split_concepts" 3 ["numbers"] (spSp K))
    (cTm : MCalled P w K mg base C "too_many_atoms" 4 ["self", "concepts"] (spTm C)) : FnOk P w K mg base CX0 5 f fd ["self", "price", "numbers"] (spGu C Tb) := by
  obtain ⟨tA, cA⟩ := T.cH
  obtain ⟨tR, cR⟩ := T.cR
  refine F.ok scGu (fun vs H Q E h => ?_) (fun cdv A outer s H vs Q E hr h => ?_)
  · obtain ⟨s, a, O, b, pr, l, rfl, _⟩ := h
    rfl
  · refine ⟨_, pss_cons (ps_set (i := 3) scGu.nd rfl (Or.inl rfl) (pe_cl cSp (hr.mono (by decide)) (pa_cons (pv 2) pa_nil)))
      (pss_cons (ps_if (PW.pt (pw_or (pt_cmpR op_ne (pe_callB call_len_seq (by rfl) mLen PySem.boot_len (pa_cons (pv 3) pa_nil)) pe_int (nomark _)) (pw_or (pt_cmpR op_lt (pv 1) pe_int (nomark _))
          (pw_or1 (pt_cmpR op_gt (pv 1) (pe_glob (v := .int 1000) (by rfl) cR ⟨tR, rfl⟩) (nomark _)))))) (pss_one (ps_ret (pe_lst (pa_cons (pe_un un_neg pe_int) pa_nil)))) pss_nil)
      (pss_cons (ps_if (PW.pt (pw_or (pt_cmpR op_ge (pe_callB call_len_seq (by rfl) mLen PySem.boot_len (pa_cons (pe_fld (pv 0) rfl) pa_nil)) (pe_glob (v := .int 4) (by rfl) cA ⟨tA, rfl⟩) (nomark _))
          (pw_or1 (pt_val (pe_cm (pv 0) T.cl cTm hr (pa_cons (pv 3) pa_nil)))))) (pss_one (ps_ret (pe_lst (pa_cons (pe_un un_neg pe_int) pa_nil)))) pss_nil)
      (pss_cons (ps_expr (pe_bm PySem.F.plainAttrs_list PySem.F.slot_list_append PySem.F.type_list_append mt_append (pe_fld (pv 0) rfl)
          (pa_cons (pe_tup (pa_cons (pe_ix ix_list (pv 3) pe_int (fun _ _ => rfl)) (pa_cons (pe_ix ix_list (pv 3) pe_int (fun _ _ => rfl)) pa_nil))) pa_nil)))
      (pss_cons (ps_expr (pe_bm PySem.F.plainAttrs_list PySem.F.slot_list_append PySem.F.type_list_append mt_append (pe_fld (pv 0) rfl) (pa_cons (pv 1) pa_nil)))
      (pss_one (ps_ret (pe_lst (pa_cons (pe_op op_sub (pe_callB call_len_seq (by rfl) mLen PySem.boot_len (pa_cons (pe_fld (pv 0) rfl) pa_nil)) pe_int) pa_nil)))))))), ?_⟩
    obtain ⟨p, a, O, b, pr, l, rfl, hS, hok, hT, ha, hl, q⟩ := h
    refine ⟨_, rfl, a, l, rfl, SqL.of ha, by omega, fun H1 r cs s1 hr0 hcs sp => ?_⟩
    obtain ⟨hv, hcl⟩ := splits_ok sp hl
    have hcs' := hcs
    obtain ⟨as, har, hA⟩ := hcs
    have hS1 := hS.ext (ExtN.of s1)
    have htwo := splits_two sp
    have hlen := hA.len
    refine ⟨_, rfl, r, _, rfl, .inl (SqL.of har), rfl, _, rfl, ?_⟩
    rw [List.length_map, hlen]
    -- an answer of one number, nothing changed
    have fail : ∀ {H2 : Hp} (v : Int), Same H H2 → stp b (.guess pr l) = (⟨b⟩, [v]) → ∀ r2, H2 r2 = none → Q (.ref r2) (upd H2 r2 (.lst [.int v])) := fun {H2} v sm es r2 hr2 => by
      rw [es] at q
      exact q.ret hS hT rfl sm hr2
    by_cases h2 : cs.length = 2
    · obtain ⟨c, d, rfl⟩ : ∃ c d, cs = [c, d] := by
        match cs, h2 with
        | [c, d], _ => exact ⟨c, d, rfl⟩
      refine ifF (neF h2) ?_
      have e : Oc.two l = some (c, d) := htwo
      refine ⟨_, rfl, _, _, rfl, rfl, _, rfl, ?_⟩
      by_cases hp0 : pr = 0
      · refine ifT (show decide (((pr : Nat) : Int) < 1) = true by rw [decide_eq_true_eq]; omega) ?_
        refine iteT ⟨_, rfl, by show 1 ≤ sizeLine; decide, fun r2 hr2 => fail (-1) s1 ?_ r2 hr2⟩
        unfold stp
        rw [st_guess, e]
        simp only [if_pos (show pr = 0 ∨ 1000 < pr from .inl hp0), out_ok]
      refine ifF (show decide (((pr : Nat) : Int) < 1) = false by rw [decide_eq_false_iff_not]; omega) ?_
      refine ⟨_, rfl, _, _, rfl, rfl, _, rfl, ?_⟩
      by_cases hp1 : 1000 < pr
      · refine ifT (show decide ((1000 : Int) < ((pr : Nat) : Int)) = true by rw [decide_eq_true_eq]; omega) ?_
        refine ⟨_, rfl, by show 1 ≤ sizeLine; decide, fun r2 hr2 => fail (-1) s1 ?_ r2 hr2⟩
        unfold stp
        rw [st_guess, e]
        simp only [if_pos (show pr = 0 ∨ 1000 < pr from .inr hp1), out_ok]
      refine ifF (show decide ((1000 : Int) < ((pr : Nat) : Int)) = false by rw [decide_eq_false_iff_not]; omega) ?_
      have hpr : ¬ (pr = 0 ∨ 1000 < pr) := not_or.mpr ⟨hp0, hp1⟩
      have hcv := hcs'
      obtain ⟨x, y, rfl, hx, hy⟩ : ∃ x y, as = [x, y] ∧ CAt H1 x c ∧ CAt H1 y d := by
        cases hA with
        | cons g1 h =>
          cases h with
          | cons g2 h =>
            cases h
            exact ⟨_, _, rfl, g1, g2⟩
      have hS1' := hS1
      obtain ⟨dx, lx, lh, lp, lk, tx, th, tk, e0, e1, e2, e3, e4, e5, e6, e7, e8, e9⟩ := hS1'
      have hgs := hok.gs
      have l5 : th.length = b.guesses.length := e5.len.trans (List.length_map _)
      refine ⟨_, rfl, p, C, dx, _, _, rfl, e1, T.cl, T.nH, sv_hyps, lh, _, rfl, .inl (SqL.of e4), _, _, rfl, rfl, _, rfl, ?_⟩
      rw [List.length_map, l5]
      by_cases h4 : b.guesses.length = 4
      · refine ifT (show decide ((4 : Int) ≤ (b.guesses.length : Nat)) = true by rw [h4]; rfl) ?_
        refine iteT ⟨_, rfl, by show 1 ≤ sizeLine; decide, fun r2 hr2 => fail (-7) s1 ?_ r2 hr2⟩
        unfold stp
        rw [st_guess, e]
        simp only [if_neg hpr, if_pos (Or.inl h4), out_ok]
      refine ifF (show decide ((4 : Int) ≤ (b.guesses.length : Nat)) = false by rw [decide_eq_false_iff_not]; omega) ?_
      refine ⟨_, rfl, p, dx, _, rfl, e1, sv_no (by decide +kernel) (by decide +kernel) (by decide +kernel) (by decide +kernel), _, rfl, p, r, O, b, [c, d], rfl, hS1, hok, hcv, hv, by simp, fun H2 s2 => ⟨_, rfl, ?_⟩⟩
      have s12 := s1.trans s2
      cases hm : Oc08.much ⟨b⟩ [c, d] with
      | true =>
        refine iteT ⟨_, rfl, by show 1 ≤ sizeLine; decide, fun r2 hr2 => fail (-7) s12 ?_ r2 hr2⟩
        unfold stp
        rw [st_guess, e]
        simp only [if_neg hpr, if_pos (Or.inr hm), out_ok]
      | false =>
        have es : stp b (.guess pr l) = (⟨⟨b.axioms, b.guesses ++ [(pr, (c, d))], b.keep⟩⟩, [((b.guesses.length : Nat) : Int)]) := by
          unfold stp
          rw [st_guess, e]
          simp only [if_neg hpr, if_neg (show ¬ (b.guesses.length = 4 ∨ Oc08.much ⟨b⟩ [c, d] = true) by rw [hm]; simp [h4]), out_ok]
        rw [es] at q
        have hr2' := s2 _ _ har
        have f1 := s2 _ _ e1
        have f2 := s2 _ _ e4
        refine iteF ⟨_, rfl, p, C, dx, _, _, rfl, f1, T.cl, T.nH, sv_hyps, tyList f2, ?_⟩
        refine ⟨_, rfl, r, _, 0, _, rfl, rfl, SqL.of hr2', rfl, _, rfl, r, _, 1, _, rfl, rfl, SqL.of hr2', rfl, by show 2 ≤ sizeLine; decide, fun t ht => ?_⟩
        have s3 : Same H2 (upd H2 t (.tup [.ref x, .ref y])) := same_upd ht
        have st : (upd H2 t (.tup [.ref x, .ref y])) t = some (.tup [.ref x, .ref y]) := upd_same
        generalize (upd H2 t (.tup [.ref x, .ref y])) = H3 at s3 st
        have s13 := s12.trans s3
        have s23 := s2.trans s3
        have g2 := s23 _ _ e4
        refine ⟨lh, _, _, rfl, rfl, g2, ?_, ?_⟩
        · rw [List.length_map]
          exact small_lt (by omega)
        have nd := e9
        simp only [List.nodup_cons, List.mem_cons, List.not_mem_nil, or_false, not_or] at nd
        obtain ⟨⟨n1, n2, n3⟩, ⟨n4, n5⟩, n6, _⟩ := nd
        have k4 : KB lh H3 (upd H3 lh (.lst (th.map V.ref ++ [V.ref t]))) := (KB.refl lh H3).at
        have x4 : (upd H3 lh (.lst (th.map V.ref ++ [V.ref t]))) lh = some (.lst (th.map V.ref ++ [V.ref t])) := upd_same
        generalize (upd H3 lh (.lst (th.map V.ref ++ [V.ref t]))) = H4 at k4 x4
        have i4 : H4 p = some (.ins C dx (svF lx lh lp lk)) := k4 _ _ (s23 _ _ e1) fun y => by rw [y, e4] at e1; cases e1
        have p4 : H4 lp = some (.lst (Nv (costs b))) := k4 _ _ (s23 _ _ e6) (Ne.symm n4)
        have hcl2 : (costs b).length = b.guesses.length := List.length_map _
        refine ⟨_, rfl, p, C, dx, _, _, rfl, i4, T.cl, T.nR, sv_prices, tyList p4, _, rfl, lp, _, _, rfl, rfl, p4, ?_, ?_⟩
        · rw [Nv_len, hcl2]
          exact small_lt (by omega)
        have k5 : KB lp H4 (upd H4 lp (.lst (Nv (costs b) ++ [V.int ((pr : Nat) : Int)]))) := (KB.refl lp H4).at
        have x5 : (upd H4 lp (.lst (Nv (costs b) ++ [V.int ((pr : Nat) : Int)]))) lp = some (.lst (Nv (costs b) ++ [V.int ((pr : Nat) : Int)])) := upd_same
        generalize (upd H4 lp (.lst (Nv (costs b) ++ [V.int ((pr : Nat) : Int)]))) = H5 at k5 x5
        have i5 : H5 p = some (.ins C dx (svF lx lh lp lk)) := k5 _ _ i4 fun y => by rw [y, p4] at i4; cases i4
        have x45 : H5 lh = some (.lst (th.map V.ref ++ [V.ref t])) := k5 _ _ x4 n4
        have tups : ∀ b xs, H3 b = some (.tup xs) → H5 b = some (.tup xs) := fun b xs z =>
          k5 _ _ (k4 _ _ z fun y => by rw [y, g2] at z; cases z) fun y => by rw [y, s23 _ _ e6] at z; cases z
        refine ⟨_, rfl, p, C, dx, _, _, rfl, i5, T.cl, T.nH, sv_hyps, lh, _, rfl, .inl (SqL.of x45), _, _, rfl, rfl, by show 1 ≤ sizeLine; decide, fun r2 hr2 => ?_⟩
        have s5 := same_upd (o := HO.lst [(fun i j => V.int (i - j)) (((th.map V.ref ++ [V.ref t]).length : Nat) : Int) 1]) hr2
        refine q _ r2 O (fun b o z nt nb => ?_) ((tabs_lst (tabs_lst (hT.ext s13) k4 g2) k5 p4).ext s5) ⟨dx, lx, lh, lp, lk, tx, th ++ [t], tk, e0, s5 _ _ i5, s5 _ _ (k5 _ _ (k4 _ _ (s23 _ _ e2) n1) n2), ?_, ?_, ?_, ?_,
          s5 _ _ (k5 _ _ (k4 _ _ (s23 _ _ e7) (Ne.symm n5)) (Ne.symm n6)), ?_, e9⟩ (fun _ h => .inl h) (fun o z => by
            have z := s13 _ _ z
            by_cases h : r2 = lp
            · rw [h, x5] at hr2; cases hr2
            by_cases h3 : r2 = lh
            · rw [h3, x45] at hr2; cases hr2
            · rw [k5 _ _ (k4 _ _ z h3) h] at hr2; cases hr2) ?_
        · exact s5 _ _ (k5 _ _ (k4 _ _ (s13 _ _ z) fun y => nb (by rw [y, e0]; simp)) fun y => nb (by rw [y, e0]; simp))
        · exact e3.imp fun _ _ h => ((h.same s23).keep tups).same s5
        · rw [List.map_append]
          exact s5 _ _ x45
        · show Al2 _ (th ++ [t]) ((b.guesses ++ [(pr, (c, d))]).map (·.2))
          rw [List.map_append]
          exact ((e5.imp fun _ _ h => (h.same s23).keep tups).app (.cons (b := (c, d)) ⟨x, y, tups _ _ st, tups _ _ (hx.same s23), tups _ _ (hy.same s23)⟩ .nil)).imp fun _ _ h => h.same s5
        · have ec : costs ⟨b.axioms, b.guesses ++ [(pr, (c, d))], b.keep⟩ = costs b ++ [pr] := by simp [costs]
          show _ = some (HO.lst (Nv (costs ⟨b.axioms, b.guesses ++ [(pr, (c, d))], b.keep⟩)))
          rw [ec, Nv, List.map_append]
          exact s5 _ _ x5
        · exact ((e8.same s23).keep tups).same s5
        · rw [upd_same, List.length_append, List.length_map, l5]
          show some (HO.lst [V.int (((b.guesses.length + 1 : Nat) : Int) - 1)]) = some (HO.lst [V.int ((b.guesses.length : Nat) : Int)])
          rw [show ((b.guesses.length + 1 : Nat) : Int) - 1 = ((b.guesses.length : Nat) : Int) by omega]
    · refine ifT (neT h2) ?_
      refine iteT ⟨_, rfl, by show 1 ≤ sizeLine; decide, fun r2 hr2 => fail (-1) s1 ?_ r2 hr2⟩
      unfold stp
      rw [st_guess, two_none sp h2]
      rfl
end
end Mx
set_option Elab.async false
set_option maxRecDepth 100000
set_option maxHeartbeats 4000000
namespace Mx
open PySem PySem.Spec PyProof.Rows L2 LamX
open Oc (C Axiom)
open Oc08 (Book)
abbrev sKe : Stmt := inClass (top 23) 5
theorem one_none {l : List Nat} {cs : List C} (sp : Splits l cs) (h : cs.length ≠ 1) : Oc.concept l = none := by
  rw [splits_one sp]
  match cs, h with
  | [], _ => rfl
  | [_], h => exact absurd rfl h
  | _ :: _ :: _, _ => rfl
def spKe (C : Addr) (T : List (Addr × Str)) : Sp := fun vs H Q _ => ∃ (s a : Addr) (O : List Addr) (b : Book) (l : List Nat), vs = [.ref s, .ref a] ∧ SvAt C H s O b ∧ BookOk b ∧ Tabs T H ∧ H a = some (.lst (Nv l)) ∧ l.length ≤ 30 ∧ Done C T s O H (stp b (.keep l)) Q
theorem scKe : FnScope ["self", "numbers", "concepts"] ["self", "numbers"] (defScope sKe) := ⟨rfl, rfl, rfl, by decide +kernel, rfl, by decide +kernel, by decide +kernel⟩
section
variable {P : Program} {w : World} {K : PySem.W.Frag} {mg : Str → Option Value} {base : Heap} {C : Addr}
theorem ok_ke {f : Addr} {fd : FuncData} {Tb : List (Addr × Str)} (F : Fun K "keep" "Service.keep" sKe f fd) (T : SvTxt K mg C) (mLen : mg "len" = none) (cSp : Called P w K mg base "split_concepts" 3 ["numbers"] (spSp K))
    (cTm : MCalled P w K mg base C "too_many_atoms" 4 ["self", "concepts"] (spTm C)) : FnOk P w K mg base CX0 5 f fd ["self", "numbers"] (spKe C Tb) := by
  obtain ⟨tA, cA⟩ := T.cP
  refine F.ok scKe (fun vs H Q E h => ?_) (fun cdv A outer s H vs Q E hr h => ?_)
  · obtain ⟨s, a, O, b, l, rfl, _⟩ := h
    rfl
  · refine ⟨_, pss_cons (ps_set (i := 2) scKe.nd rfl (Or.inl rfl) (pe_cl cSp (hr.mono (by decide)) (pa_cons (pv 1) pa_nil)))
      (pss_cons (ps_if (pt_cmpR op_ne (pe_callB call_len_seq (by rfl) mLen PySem.boot_len (pa_cons (pv 2) pa_nil)) pe_int (nomark _)) (pss_one (ps_ret (pe_lst (pa_cons (pe_un un_neg pe_int) pa_nil)))) pss_nil)
      (pss_cons (ps_if (PW.pt (pw_or (pt_cmpR op_ge (pe_callB call_len_seq (by rfl) mLen PySem.boot_len (pa_cons (pe_fld (pv 0) rfl) pa_nil)) (pe_glob (v := .int 2) (by rfl) cA ⟨tA, rfl⟩) (nomark _))
          (pw_or1 (pt_val (pe_cm (pv 0) T.cl cTm hr (pa_cons (pv 2) pa_nil)))))) (pss_one (ps_ret (pe_lst (pa_cons (pe_un un_neg pe_int) pa_nil)))) pss_nil)
      (pss_cons (ps_expr (pe_bm PySem.F.plainAttrs_list PySem.F.slot_list_append PySem.F.type_list_append mt_append (pe_fld (pv 0) rfl)
          (pa_cons (pe_ix ix_list (pv 2) pe_int (fun _ _ => rfl)) pa_nil)))
      (pss_one (ps_ret (pe_lst (pa_cons (pe_op op_sub (pe_callB call_len_seq (by rfl) mLen PySem.boot_len (pa_cons (pe_fld (pv 0) rfl) pa_nil)) pe_int) pa_nil))))))), ?_⟩
    obtain ⟨p, a, O, b, l, rfl, hS, hok, hT, ha, hl, q⟩ := h
    refine ⟨_, rfl, a, l, rfl, SqL.of ha, by omega, fun H1 r cs s1 hr0 hcs sp => ?_⟩
    obtain ⟨hv, hcl⟩ := splits_ok sp hl
    have hcs' := hcs
    obtain ⟨as, har, hA⟩ := hcs
    have hS1 := hS.ext (ExtN.of s1)
    have hone := splits_one sp
    have hlen := hA.len
    refine ⟨_, rfl, r, _, rfl, .inl (SqL.of har), rfl, _, rfl, ?_⟩
    rw [List.length_map, hlen]
    have fail : ∀ {H2 : Hp} (v : Int), Same H H2 → stp b (.keep l) = (⟨b⟩, [v]) → ∀ r2, H2 r2 = none → Q (.ref r2) (upd H2 r2 (.lst [.int v])) := fun {H2} v sm es r2 hr2 => by
      rw [es] at q
      exact q.ret hS hT rfl sm hr2
    by_cases h1 : cs.length = 1
    · obtain ⟨c, rfl⟩ : ∃ c, cs = [c] := by
        match cs, h1 with
        | [c], _ => exact ⟨c, rfl⟩
      refine ifF (neF h1) ?_
      have e : Oc.concept l = some c := hone
      have hcv := hcs'
      obtain ⟨x, rfl, hx⟩ : ∃ x, as = [x] ∧ CAt H1 x c := by
        cases hA with
        | cons g1 h =>
          cases h
          exact ⟨_, rfl, g1⟩
      have hS1' := hS1
      obtain ⟨dx, lx, lh, lp, lk, tx, th, tk, e0, e1, e2, e3, e4, e5, e6, e7, e8, e9⟩ := hS1'
      have hkp := hok.kp
      have l8 := e8.len
      refine ⟨_, rfl, p, C, dx, _, _, rfl, e1, T.cl, T.nP, sv_prot, lk, _, rfl, .inl (SqL.of e7), _, _, rfl, rfl, _, rfl, ?_⟩
      rw [List.length_map, l8]
      by_cases h4 : b.keep.length = 2
      · refine ifT (show decide ((2 : Int) ≤ (b.keep.length : Nat)) = true by rw [h4]; rfl) ?_
        refine iteT ⟨_, rfl, by show 1 ≤ sizeLine; decide, fun r2 hr2 => fail (-7) s1 ?_ r2 hr2⟩
        unfold stp
        rw [st_keep, e]
        simp only [if_pos (Or.inl h4), out_ok]
      refine ifF (show decide ((2 : Int) ≤ (b.keep.length : Nat)) = false by rw [decide_eq_false_iff_not]; omega) ?_
      refine ⟨_, rfl, p, dx, _, rfl, e1, sv_no (by decide +kernel) (by decide +kernel) (by decide +kernel) (by decide +kernel), _, rfl, p, r, O, b, [c], rfl, hS1, hok, hcv, hv, by simp, fun H2 s2 => ⟨_, rfl, ?_⟩⟩
      have s12 := s1.trans s2
      cases hm : Oc08.much ⟨b⟩ [c] with
      | true =>
        refine iteT ⟨_, rfl, by show 1 ≤ sizeLine; decide, fun r2 hr2 => fail (-7) s12 ?_ r2 hr2⟩
        unfold stp
        rw [st_keep, e]
        simp only [if_pos (Or.inr hm), out_ok]
      | false =>
        have es : stp b (.keep l) = (⟨⟨b.axioms, b.guesses, b.keep ++ [c]⟩⟩, [((b.keep.length : Nat) : Int)]) := by
          unfold stp
          rw [st_keep, e]
          simp only [if_neg (show ¬ (b.keep.length = 2 ∨ Oc08.much ⟨b⟩ [c] = true) by rw [hm]; simp [h4]), out_ok]
        rw [es] at q
        have hr2' := s2 _ _ har
        have f1 := s2 _ _ e1
        have g2 := s2 _ _ e7
        refine iteF ⟨_, rfl, p, C, dx, _, _, rfl, f1, T.cl, T.nP, sv_prot, tyList g2, ?_⟩
        refine ⟨_, rfl, r, _, 0, _, rfl, rfl, SqL.of hr2', rfl, lk, _, _, rfl, rfl, g2, ?_, ?_⟩
        · rw [List.length_map]
          exact small_lt (by omega)
        have nd := e9
        simp only [List.nodup_cons, List.mem_cons, List.not_mem_nil, or_false, not_or] at nd
        obtain ⟨⟨n1, n2, n3⟩, ⟨n4, n5⟩, n6, _⟩ := nd
        have k4 : KB lk H2 (upd H2 lk (.lst (tk.map V.ref ++ [V.ref x]))) := (KB.refl lk H2).at
        have x4 : (upd H2 lk (.lst (tk.map V.ref ++ [V.ref x]))) lk = some (.lst (tk.map V.ref ++ [V.ref x])) := upd_same
        generalize (upd H2 lk (.lst (tk.map V.ref ++ [V.ref x]))) = H4 at k4 x4
        have tups : ∀ b xs, H2 b = some (.tup xs) → H4 b = some (.tup xs) := fun b xs z => k4 _ _ z fun y => by rw [y, g2] at z; cases z
        have i4 : H4 p = some (.ins C dx (svF lx lh lp lk)) := k4 _ _ f1 fun y => by rw [y, e7] at e1; cases e1
        refine ⟨_, rfl, p, C, dx, _, _, rfl, i4, T.cl, T.nP, sv_prot, lk, _, rfl, .inl (SqL.of x4), _, _, rfl, rfl, by show 1 ≤ sizeLine; decide, fun r2 hr2 => ?_⟩
        have s5 := same_upd (o := HO.lst [(fun i j => V.int (i - j)) (((tk.map V.ref ++ [V.ref x]).length : Nat) : Int) 1]) hr2
        refine q _ r2 O (fun b o z nt nb => ?_) ((tabs_lst (hT.ext s12) k4 g2).ext s5) ⟨dx, lx, lh, lp, lk, tx, th, tk ++ [x], e0, s5 _ _ i4, s5 _ _ (k4 _ _ (s2 _ _ e2) n3), ?_, s5 _ _ (k4 _ _ (s2 _ _ e4) n5), ?_, s5 _ _ (k4 _ _ (s2 _ _ e6) n6), ?_, ?_, e9⟩ (fun _ h => .inl h) (fun o z => by
            have z := s12 _ _ z
            by_cases h : r2 = lk
            · rw [h, x4] at hr2; cases hr2
            · rw [k4 _ _ z h] at hr2; cases hr2) ?_
        · exact s5 _ _ (k4 _ _ (s12 _ _ z) fun y => nb (by rw [y, e0]; simp))
        · exact e3.imp fun _ _ h => ((h.same s2).keep tups).same s5
        · exact e5.imp fun _ _ h => ((h.same s2).keep tups).same s5
        · rw [List.map_append]
          exact s5 _ _ x4
        · exact (((e8.same s2).keep tups).app (.cons (tups _ _ (hx.same s2)) .nil)).same s5
        · rw [upd_same, List.length_append, List.length_map, l8]
          show some (HO.lst [V.int (((b.keep.length + 1 : Nat) : Int) - 1)]) = some (HO.lst [V.int ((b.keep.length : Nat) : Int)])
          rw [show ((b.keep.length + 1 : Nat) : Int) - 1 = ((b.keep.length : Nat) : Int) by omega]
    · refine ifT (neT h1) ?_
      refine ⟨_, rfl, by show 1 ≤ sizeLine; decide, fun r2 hr2 => fail (-1) s1 ?_ r2 hr2⟩
      unfold stp
      rw [st_keep, one_none sp h1]
      rfl
end
end Mx
set_option Elab.async false
set_option maxRecDepth 100000
set_option maxHeartbeats 2000000
/-! Greatest sets, the cheapest explanation, prices, ascending numbers: what the program reckons is what is due of a book. -/
namespace Mx
open Oc (C Axiom)
open Oc08 (Book)
theorem fits_is (b : Book) (s : List Nat) (cs : List C) : fits b.axioms (hyps b) b.keep (Oc.atomsOf (allC b.axioms (hyps b) b.keep cs)) s = b.stays s := stays_is b s cs
theorem great_is (b : Book) (cs : List C) : great b.axioms (hyps b) b.keep (Oc.atomsOf (allC b.axioms (hyps b) b.keep cs)) = b.greatest := by
  unfold great Book.greatest
  have hl : (hyps b).length = b.guesses.length := List.length_map _
  rw [hl]
  have hf : gturn b.axioms (hyps b) b.keep (Oc.atomsOf (allC b.axioms (hyps b) b.keep cs)) = (fun m s => if m.any (fun k => Oc08.within s k) then m else if b.stays s then m ++ [s] else m) := by
    funext m s
    unfold gturn
    rw [fits_is]
  rw [hf]
/-- a fold that takes some items -/
theorem fold_pick {f : List (List Nat) → List Nat → List (List Nat)} (hf : ∀ m s, f m s = m ∨ f m s = m ++ [s]) : ∀ (l m : List (List Nat)), (l.foldl f m).length ≤ m.length + l.length ∧ ∀ b ∈ l.foldl f m, b ∈ m ∨ b ∈ l
  | [], m => ⟨Nat.le_refl _, fun b h => .inl h⟩
  | s :: l, m => by
    obtain ⟨h1, h2⟩ := fold_pick hf l (f m s)
    have key : (f m s).length ≤ m.length + 1 ∧ ∀ b ∈ f m s, b ∈ m ∨ b = s := by
      rcases hf m s with e | e
      · rw [e]
        exact ⟨Nat.le_succ _, fun b h => .inl h⟩
      · rw [e]
        exact ⟨by simp, fun b h => by simpa using h⟩
    rw [List.foldl_cons, List.length_cons]
    refine ⟨by omega, fun b hb => ?_⟩
    rcases h2 b hb with h | h
    · rcases key.2 b h with h | rfl
      · exact .inl h
      · exact .inr (by simp)
    · exact .inr (by simp [h])
theorem answers_mem {b : Book} (h4 : b.guesses.length ≤ 4) (c d : C) : (b.answers c d).length ≤ 16 ∧ ∀ s ∈ b.answers c d, s.length ≤ 4 ∧ ∀ i ∈ s, i < b.guesses.length := by
  obtain ⟨h1, h2⟩ := fold_pick (f := fun m s => if (m.any fun k => Oc08.within k s) = true then m else if b.does s c d = true ∧ b.stays s = true then m ++ [s] else m) (fun m s => by
    split
    · exact .inl rfl
    · split
      · exact .inr rfl
      · exact .inl rfl) (Oc08.sets b.guesses.length) []
  refine ⟨Nat.le_trans h1 (by simpa using sets_len _ h4), fun s hs => ?_⟩
  rcases h2 s hs with h | h
  · exact absurd h (by simp)
  · exact sets_small _ h4 s h
theorem greatest_mem {b : Book} (h4 : b.guesses.length ≤ 4) : b.greatest.length ≤ 16 ∧ ∀ s ∈ b.greatest, s.length ≤ 4 := by
  obtain ⟨h1, h2⟩ := fold_pick (f := fun m s => if (m.any fun k => Oc08.within s k) = true then m else if b.stays s = true then m ++ [s] else m) (fun m s => by
    split
    · exact .inl rfl
    · split
      · exact .inr rfl
      · exact .inl rfl) (Oc08.sets b.guesses.length).reverse []
  unfold Book.greatest
  refine ⟨?_, fun s hs => ?_⟩
  · rw [List.length_reverse]
    exact Nat.le_trans h1 (by rw [List.length_reverse]; simpa using sets_len _ h4)
  · rcases h2 s (List.mem_reverse.1 hs) with h | h
    · exact absurd h (by simp)
    · exact (sets_small _ h4 s (List.mem_reverse.1 h)).1
/-! the first of the least price -/
def mstep (p : List Nat → Nat) (a : Option (List Nat)) (s : List Nat) : Option (List Nat) := match a with
  | none => some s
  | some k => if p s < p k then some s else some k
theorem mstep_keep {p : List Nat → Nat} : ∀ {l : List (List Nat)} {k : List Nat}, (∀ t ∈ l, p k ≤ p t) → l.foldl (mstep p) (some k) = some k
  | [], k, _ => rfl
  | x :: l, k, h => by
    have hx := h x (by simp)
    rw [List.foldl_cons, mstep, if_neg (by omega)]
    exact mstep_keep fun t ht => h t (by simp [ht])
theorem mstep_take {p : List Nat → Nat} {s : List Nat} : ∀ {l : List (List Nat)} {i : Nat} {k : List Nat}, l[i]? = some s → (∀ j t, l[j]? = some t → p s ≤ p t ∧ (j < i → p s < p t)) → p s < p k → l.foldl (mstep p) (some k) = some s
  | x :: l, 0, k, hs, h, hk => by
    obtain rfl : x = s := Option.some.inj hs
    rw [List.foldl_cons, mstep, if_pos hk]
    refine mstep_keep fun t ht => ?_
    obtain ⟨j, hj⟩ := List.getElem?_of_mem ht
    exact (h (j + 1) t hj).1
  | x :: l, i + 1, k, hs, h, hk => by
    have hx := (h 0 x rfl).2 (Nat.zero_lt_succ _)
    have h' : ∀ j t, l[j]? = some t → p s ≤ p t ∧ (j < i → p s < p t) := fun j t hj => ⟨(h (j + 1) t hj).1, fun hlt => (h (j + 1) t hj).2 (Nat.succ_lt_succ hlt)⟩
    rw [List.foldl_cons, mstep]
    split
    · exact mstep_take (i := i) hs h' hx
    · exact mstep_take (i := i) hs h' hk
theorem first_min {p : List Nat → Nat} {s : List Nat} {l : List (List Nat)} {i : Nat} (hs : l[i]? = some s) (h : ∀ j t, l[j]? = some t → p s ≤ p t ∧ (j < i → p s < p t)) : l.foldl (mstep p) none = some s := by
  match l, i, hs, h with
  | x :: l, 0, hs, h =>
    obtain rfl : x = s := Option.some.inj hs
    refine mstep_keep fun t ht => ?_
    obtain ⟨j, hj⟩ := List.getElem?_of_mem ht
    exact (h (j + 1) t hj).1
  | x :: l, i + 1, hs, h =>
    exact mstep_take (l := l) (i := i) (k := x) hs (fun j t hj => ⟨(h (j + 1) t hj).1, fun hlt => (h (j + 1) t hj).2 (Nat.succ_lt_succ hlt)⟩) ((h 0 x rfl).2 (Nat.zero_lt_succ _))
theorem cheapest_is (b : Book) (c d : C) : b.cheapest c d = (b.answers c d).foldl (mstep b.price) none := rfl
theorem sum_is (l : List Nat) : Oc08.sum l = l.sum := by
  unfold Oc08.sum
  have : ∀ (l : List Nat) (a : Nat), l.foldl (fun a b => a + b) a = a + l.sum := by
    intro l
    induction l with
    | nil => intro a; rfl
    | cons x l ih =>
      intro a
      rw [List.foldl_cons, ih, List.sum_cons]
      omega
  rw [this, Nat.zero_add]
/-- the price of the hypothesis at i -/
def cost (b : Book) (i : Nat) : Nat := ((b.guesses[i]?).map fun g => g.1).getD 0
theorem price_is (b : Book) (s : List Nat) : b.price s = (s.map (cost b)).sum := sum_is _
/-! strictly ascending numbers of hypotheses -/
def asc (n : Nat) : Nat → List Nat → Bool
  | _, [] => true
  | k, i :: r => if i < k then false else if n ≤ i then false else asc n (i + 1) r
theorem asc_is (n : Nat) : ∀ (s : List Nat) (k : Nat), asc n k s = true ↔ (∀ i r, s = i :: r → k ≤ i) ∧ Oc08.rising s = true ∧ (s.any fun i => decide (n ≤ i)) = false
  | [], k => by simp [asc, Oc08.rising]
  | [i], k => by
    simp only [asc, Oc08.rising, List.any_cons, List.any_nil, Bool.or_false]
    by_cases h1 : i < k
    · simp only [if_pos h1]
      constructor
      · intro h; cases h
      · intro h
        have := h.1 i [] rfl
        omega
    · rw [if_neg h1]
      by_cases h2 : n ≤ i
      · simp [h2]
      · simp only [if_neg h2, true_iff]
        refine ⟨fun j r e => ?_, trivial, decide_eq_false h2⟩
        cases e
        omega
  | i :: j :: r, k => by
    have ih := asc_is n (j :: r) (i + 1)
    rw [asc, Oc08.rising, List.any_cons]
    by_cases h1 : i < k
    · simp only [if_pos h1]
      constructor
      · intro h; cases h
      · intro h
        have := h.1 i _ rfl
        omega
    · rw [if_neg h1]
      by_cases h2 : n ≤ i
      · simp [h2]
      · rw [if_neg h2, ih, decide_eq_false h2, Bool.false_or, Bool.and_eq_true, decide_eq_true_eq]
        constructor
        · intro ⟨a, b, c⟩
          refine ⟨fun x y e => ?_, ⟨?_, b⟩, c⟩
          · cases e
            omega
          · have := a j r rfl
            omega
        · intro ⟨a, ⟨b, c⟩, d⟩
          refine ⟨fun x y e => ?_, c, d⟩
          cases e
          omega
theorem asc_not (n : Nat) (s : List Nat) : asc n 0 s = false ↔ (Oc08.rising s = false ∨ (s.any fun i => decide (n ≤ i)) = true) := by
  have h := asc_is n s 0
  rw [← Bool.not_eq_true, h]
  constructor
  · intro h
    cases e1 : Oc08.rising s with
    | false => exact .inl rfl
    | true =>
      cases e2 : s.any fun i => decide (n ≤ i) with
      | true => exact .inr rfl
      | false => exact absurd ⟨fun _ _ _ => Nat.zero_le _, e1, e2⟩ h
  · rintro (h | h) ⟨_, b, c⟩
    · rw [h] at b; cases b
    · rw [h] at c; cases c
/-- ascending numbers are few -/
theorem asc_len (n : Nat) : ∀ (s : List Nat) (k : Nat), asc n k s = true → k ≤ n → s.length + k ≤ n ∧ ∀ i ∈ s, i < n
  | [], k, _, hk => ⟨by simpa using hk, by simp⟩
  | i :: r, k, h, hk => by
    rw [asc] at h
    split at h
    · cases h
    · split at h
      · cases h
      · obtain ⟨h1, h2⟩ := asc_len n r (i + 1) h (by omega)
        rw [List.length_cons]
        refine ⟨by omega, fun x hx => ?_⟩
        rcases List.mem_cons.1 hx with rfl | hx
        · omega
        · exact h2 x hx
end Mx
set_option Elab.async false
set_option maxRecDepth 100000
set_option maxHeartbeats 4000000
namespace Mx
open PySem PySem.Spec PyProof.Rows L2 LamX
open Oc (C Axiom)
open Oc08 (Book)
abbrev sQe : Stmt := inClass (top 23) 6
abbrev sTw : Stmt := inClass (top 23) 7
abbrev sXf : Stmt := inClass (top 23) 8
abbrev sAn : Stmt := inClass (top 23) 9
theorem thOk_of {axs hs : List Axiom} {keep asked : List C} (hf : Fine (allC axs hs keep asked)) (h1 : axs.length ≤ 1000) (h2 : keep.length ≤ 1000) : ThOk axs hs keep (Oc.atomsOf (allC axs hs keep asked)) where
  good := good_atoms hf
  ax := fun a ha => ⟨asks_of hf (by simp [allC, mem_axC ha]), asks_of hf (by simp [allC, mem_axC ha])⟩
  hy := fun a ha => ⟨asks_of hf (by simp [allC, mem_axC ha]), asks_of hf (by simp [allC, mem_axC ha])⟩
  kp := fun c hc => asks_of hf (by simp [allC, hc])
  axl := h1
  kpl := h2
theorem out_list (bs : List (List Nat)) : (Oc08Neutral.out (Oc08.list bs)).map V.int = Nv (setsR bs) := by
  simp [Oc08Neutral.out, Oc08.list, setsR, Nv, Function.comp_def]
/-- the error of a question, or 0 -/
def qErr (b : Book) (cs : List C) : Int := if cs.length = 2 then (if Oc08.much ⟨b⟩ cs = true then -7 else 0) else -1
/-- what the theory of a book and some concepts is over -/
abbrev atB (b : Book) (cs : List C) : List C := Oc.atomsOf (allC b.axioms (hyps b) b.keep cs)
def spQe (C : Addr) : Sp := fun vs H Q _ => ∃ (s a : Addr) (O : List Addr) (b : Book) (cs : List Oc.C), vs = [.ref s, .ref a] ∧ SvAt C H s O b ∧ BookOk b ∧ CsAt H a cs ∧ (∀ c ∈ cs, Valid c ∧ (enc c).length ≤ 30) ∧ cs.length ≤ 30 ∧
  ∀ H', Same H H' → Q (.int (qErr b cs)) H'
def spTw (C Ct Cp : Addr) : Sp := fun vs H Q _ => ∃ (s a : Addr) (O : List Addr) (b : Book) (cs : List Oc.C), vs = [.ref s, .ref a] ∧ SvAt C H s O b ∧ BookOk b ∧ CsAt H a cs ∧ Fine (allC b.axioms (hyps b) b.keep cs) ∧
  ∀ H' z, Same H H' → TheoryAt Ct Cp H' z b.axioms (hyps b) b.keep (atB b cs) → Q (.ref z) H'
def spXf (C : Addr) (T : List (Addr × Str)) : Sp := fun vs H Q _ => ∃ (s a x y : Addr) (O : List Addr) (b : Book) (c d : Oc.C), vs = [.ref s, .ref a] ∧ SvAt C H s O b ∧ BookOk b ∧ H a = some (.lst [.ref x, .ref y]) ∧ CAt H x c ∧ CAt H y d ∧ Fine (allC b.axioms (hyps b) b.keep [c, d]) ∧ Tabs T H ∧
  ∀ (H' : Hp) (r : Addr) (as : List Addr), ExtN H H' → Tabs T H' → H' r = some (.lst (as.map V.ref)) → OAll dO H' as (b.answers c d) → Q (.ref r) H'
def spAn (C : Addr) (T : List (Addr × Str)) : Sp := fun vs H Q _ => ∃ (s a : Addr) (O : List Addr) (b : Book) (l : List Nat), vs = [.ref s, .ref a] ∧ SvAt C H s O b ∧ BookOk b ∧ Tabs T H ∧ H a = some (.lst (Nv l)) ∧ l.length ≤ 30 ∧ Done C T s O H (stp b (.answers l)) Q
theorem scQe : FnScope ["self", "concepts"] ["self", "concepts"] (defScope sQe) := ⟨rfl, rfl, rfl, by decide +kernel, rfl, by decide +kernel, by decide +kernel⟩
theorem scTw : FnScope ["self", "concepts"] ["self", "concepts"] (defScope sTw) := ⟨rfl, rfl, rfl, by decide +kernel, rfl, by decide +kernel, by decide +kernel⟩
theorem scXf : FnScope ["self", "concepts"] ["self", "concepts"] (defScope sXf) := ⟨rfl, rfl, rfl, by decide +kernel, rfl, by decide +kernel, by decide +kernel⟩
theorem scAn : FnScope ["self", "numbers", "concepts", "error"] ["self", "numbers"] (defScope sAn) := ⟨rfl, rfl, rfl, by decide +kernel, rfl, by decide +kernel, by decide +kernel⟩
theorem Done.sameN {C : Addr} {Tb : List (Addr × Str)} {s r : Addr} {O : List Addr} {H H' : Hp} {x : Oc08.House × List Int} {Q : VK} {b : Book} (q : Done C Tb s O H x Q) (hS : SvAt C H s O b) (hT : Tabs Tb H') (hb : x.1.book = b) (sm : ExtN H H')
    (hn : NewN H r) (hr : H' r = some (.lst (x.2.map V.int))) : Q (.ref r) H' :=
  q H' r O (FrO.of sm) hT (hb ▸ hS.ext sm) (fun _ h => .inl h) hn hr
/-- what was free behind tables alone was new -/
theorem newN_of {H H' : Hp} {r : Addr} (x : ExtN H H') (h : H' r = none) : NewN H r := fun o z => Classical.byContradiction fun n => by
  rw [x _ _ z fun ps e => n ⟨ps, e⟩] at h
  cases h
section
variable {P : Program} {w : World} {K : PySem.W.Frag} {mg : Str → Option Value} {base : Heap} {C Ct Cp : Addr}
theorem ok_qe {f : Addr} {fd : FuncData} (F : Fun K "question_error" "Service.question_error" sQe f fd) (T : SvTxt K mg C) (mLen : mg "len" = none) (cTm : MCalled P w K mg base C "too_many_atoms" 4 ["self", "concepts"] (spTm C)) :
    FnOk P w K mg base CX0 5 f fd ["self", "concepts"] (spQe C) := by
  refine F.ok scQe (fun vs H Q E h => ?_) (fun cdv A outer s H vs Q E hr h => ?_)
  · obtain ⟨s, a, O, b, cs, rfl, _⟩ := h
    rfl
  · refine ⟨_, pss_cons (ps_if (pt_cmpR op_ne (pe_callB call_len_seq (by rfl) mLen PySem.boot_len (pa_cons (pv 1) pa_nil)) pe_int (nomark _)) (pss_one (ps_ret (pe_un un_neg pe_int))) pss_nil)
      (pss_cons (ps_if (pt_val (pe_cm (pv 0) T.cl cTm hr (pa_cons (pv 1) pa_nil))) (pss_one (ps_ret (pe_un un_neg pe_int))) pss_nil)
      (pss_one (ps_ret pe_int))), ?_⟩
    obtain ⟨p, a, O, b, cs, rfl, hS, hok, hc, hv, hcl, q⟩ := h
    have hS' := hS
    have hc' := hc
    obtain ⟨dx, lx, lh, lp, lk, tx, th, tk, e0, e1, _⟩ := hS'
    obtain ⟨as, har, hA⟩ := hc'
    have hlen := hA.len
    refine ⟨_, rfl, a, _, rfl, .inl (SqL.of har), rfl, _, rfl, ?_⟩
    rw [List.length_map, hlen]
    by_cases h2 : cs.length = 2
    · refine ifF (neF h2) ?_
      refine ⟨_, rfl, p, dx, _, rfl, e1, sv_no (by decide +kernel) (by decide +kernel) (by decide +kernel) (by decide +kernel), _, rfl, p, a, O, b, cs, rfl, hS, hok, hc, hv, hcl, fun H2 s2 => ⟨_, rfl, ?_⟩⟩
      have q2 := q H2 s2
      cases hm : Oc08.much ⟨b⟩ cs with
      | true =>
        rw [qErr, if_pos h2, if_pos hm] at q2
        exact iteT ⟨_, rfl, q2⟩
      | false =>
        rw [qErr, if_pos h2, hm, if_neg Bool.false_ne_true] at q2
        exact iteF q2
    · have q2 := q H (Same.refl H)
      rw [qErr, if_neg h2] at q2
      exact ifT (neT h2) ⟨_, rfl, q2⟩
theorem ok_tw {f : Addr} {fd : FuncData} (F : Fun K "theory_with" "Service.theory_with" sTw f fd) (T : SvTxt K mg C) (cTi : Made P w K mg base "Theory" Ct 7 ["self", "axioms", "hypotheses", "protected", "asked"] (spTi K Ct Cp)) :
    FnOk P w K mg base CX0 9 f fd ["self", "concepts"] (spTw C Ct Cp) := by
  refine F.ok scTw (fun vs H Q E h => ?_) (fun cdv A outer s H vs Q E hr h => ?_)
  · obtain ⟨s, a, O, b, cs, rfl, _⟩ := h
    rfl
  · refine ⟨_, pss_one (ps_ret (pe_mk cTi hr (pa_cons (pe_fld (pv 0) rfl) (pa_cons (pe_fld (pv 0) rfl) (pa_cons (pe_fld (pv 0) rfl) (pa_cons (pv 1) pa_nil)))))), ?_⟩
    obtain ⟨p, a, O, b, cs, rfl, hS, hok, hc, hf, q⟩ := h
    obtain ⟨dx, lx, lh, lp, lk, tx, th, tk, e0, e1, e2, e3, e4, e5, e6, e7, e8, e9⟩ := hS
    obtain ⟨as, har, hA⟩ := hc
    refine ⟨_, rfl, p, C, dx, _, _, rfl, e1, T.cl, T.nA, sv_axioms, _, rfl, p, C, dx, _, _, rfl, e1, T.cl, T.nH, sv_hyps, _, rfl, p, C, dx, _, _, rfl, e1, T.cl, T.nP, sv_prot, _, rfl, ?_⟩
    intro z dz hz hdz hne
    have sz : Same H (upd (upd H dz (.own z)) z (.ins Ct dz [])) := (same_upd hdz).trans (same_upd (by rw [upd_ne (Ne.symm hne)]; exact hz))
    have z0 : (upd (upd H dz (.own z)) z (.ins Ct dz [])) z = some (.ins Ct dz []) := upd_same
    generalize (upd (upd H dz (.own z)) z (.ins Ct dz [])) = H3 at sz z0
    refine ⟨z, dz, lx, lh, lk, a, tx, th, tk, as, b.axioms, hyps b, b.keep, cs, rfl, z0, sz _ _ e2, e3.imp fun _ _ h => h.same sz, sz _ _ e4, e5.imp fun _ _ h => h.same sz, sz _ _ e7, e8.same sz, sz _ _ har, hA.same sz, hf, fun H4 hTh k4 => ⟨rfl, ?_⟩⟩
    exact q H4 z (fun b o e => k4 b o (sz _ _ e) (ne_of_none e hz)) hTh
theorem ok_xf {f : Addr} {fd : FuncData} {Tb : List (Addr × Str)} (F : Fun K "explanations_for" "Service.explanations_for" sXf f fd) (T : SvTxt K mg C) (Tt : ThTxt K Ct) (cTw : MCalled P w K mg base C "theory_with" 9 ["self", "concepts"] (spTw C Ct Cp))
    (cXp : MCalled P w K mg base Ct "explanations" 7 ["self", "first", "second"] (spXp Ct Cp Tb)) : FnOk P w K mg base CX0 10 f fd ["self", "concepts"] (spXf C Tb) := by
  refine F.ok scXf (fun vs H Q E h => ?_) (fun cdv A outer s H vs Q E hr h => ?_)
  · obtain ⟨s, a, x, y, O, b, c, d, rfl, _⟩ := h
    rfl
  · refine ⟨_, pss_one (ps_ret (pe_cm (pe_cm (pv 0) T.cl cTw hr (pa_cons (pv 1) pa_nil)) Tt.cl cXp (hr.mono (by decide)) (pa_cons (pe_ix ix_list (pv 1) pe_int (fun _ _ => rfl)) (pa_cons (pe_ix ix_list (pv 1) pe_int (fun _ _ => rfl)) pa_nil)))), ?_⟩
    obtain ⟨p, a, x, y, O, b, c, d, rfl, hS, hok, ha, hx, hy, hf, hT, q⟩ := h
    have hax := hok.ax
    have hgs := hok.gs
    have hkp := hok.kp
    have hhl : (hyps b).length = b.guesses.length := List.length_map _
    have hS' := hS
    obtain ⟨dx, lx, lh, lp, lk, tx, th, tk, e0, e1, _⟩ := hS'
    refine ⟨_, rfl, p, dx, _, rfl, e1, sv_no (by decide +kernel) (by decide +kernel) (by decide +kernel) (by decide +kernel), _, rfl, ?_⟩
    refine ⟨p, a, O, b, [c, d], rfl, hS, hok, ⟨[x, y], ha, .cons hx (.cons hy .nil)⟩, hf, fun H4 z s4 hTh => ?_⟩
    have ok := thOk_of hf (by omega) (by omega)
    have hTh' := hTh
    obtain ⟨dt, la4, lh4, lp4, pp4, ta4, th4, tk4, t1, _⟩ := hTh'
    have ha4 := s4 _ _ ha
    refine ⟨z, dt, _, rfl, t1, tF_no (by decide +kernel) (by decide +kernel) (by decide +kernel) (by decide +kernel), ?_⟩
    refine ⟨_, rfl, a, _, 0, _, rfl, rfl, SqL.of ha4, rfl, _, rfl, a, _, 1, _, rfl, rfl, SqL.of ha4, rfl, ?_⟩
    refine ⟨z, x, y, b.axioms, hyps b, b.keep, _, c, d, rfl, hTh, ok, by omega, hx.same s4, hy.same s4, asks_of hf (by simp [allC]), asks_of hf (by simp [allC]), hT.ext s4, fun H5 r5 as5 x5 t5 hr5 hO5 => ?_⟩
    rw [expl_is] at hO5
    exact q H5 r5 as5 ((ExtN.of s4).trans x5) t5 hr5 hO5
theorem ok_an {f : Addr} {fd : FuncData} {Tb : List (Addr × Str)} (F : Fun K "answers_of" "Service.answers_of" sAn f fd) (T : SvTxt K mg C) (cSp : Called P w K mg base "split_concepts" 3 ["numbers"] (spSp K))
    (cQe : MCalled P w K mg base C "question_error" 5 ["self", "concepts"] (spQe C)) (cXf : MCalled P w K mg base C "explanations_for" 10 ["self", "concepts"] (spXf C Tb)) (cSr : Called P w K mg base "sets_result" 1 ["sets"] spSr) : FnOk P w K mg base CX0 11 f fd ["self", "numbers"] (spAn C Tb) := by
  refine F.ok scAn (fun vs H Q E h => ?_) (fun cdv A outer s H vs Q E hr h => ?_)
  · obtain ⟨s, a, O, b, l, rfl, _⟩ := h
    rfl
  · refine ⟨_, pss_cons (ps_set (i := 2) scAn.nd rfl (Or.inl rfl) (pe_cl cSp (hr.mono (by decide)) (pa_cons (pv 1) pa_nil)))
      (pss_cons (ps_set (i := 3) scAn.nd rfl (Or.inl rfl) (pe_cm (pv 0) T.cl cQe (hr.mono (by decide)) (pa_cons (pv 2) pa_nil)))
      (pss_cons (ps_if (pt_cmpR op_lt (pv 3) pe_int (nomark _)) (pss_one (ps_ret (pe_lst (pa_cons (pv 3) pa_nil)))) pss_nil)
      (pss_one (ps_ret (pe_cl cSr (hr.mono (by decide)) (pa_cons (pe_cm (pv 0) T.cl cXf hr (pa_cons (pv 2) pa_nil)) pa_nil)))))), ?_⟩
    obtain ⟨p, a, O, b, l, rfl, hS, hok, hT, ha, hl, q⟩ := h
    refine ⟨_, rfl, a, l, rfl, SqL.of ha, by omega, fun H1 r cs s1 hr0 hcs sp => ?_⟩
    obtain ⟨hv, hcl⟩ := splits_ok sp hl
    have hS1 := hS.ext (ExtN.of s1)
    have htwo := splits_two sp
    have hS1' := hS1
    obtain ⟨dx, lx, lh, lp, lk, tx, th, tk, e0, e1, _⟩ := hS1'
    refine ⟨_, rfl, p, dx, _, rfl, e1, sv_no (by decide +kernel) (by decide +kernel) (by decide +kernel) (by decide +kernel), _, rfl, p, r, O, b, cs, rfl, hS1, hok, hcs, hv, hcl, fun H2 s2 => ?_⟩
    have s12 := s1.trans s2
    refine ⟨_, rfl, _, _, rfl, rfl, _, rfl, ?_⟩
    have fail : ∀ (v : Int), stp b (.answers l) = (⟨b⟩, [v]) → ∀ r2, H2 r2 = none → Q (.ref r2) (upd H2 r2 (.lst [.int v])) := fun v es r2 hr2 => by
      rw [es] at q
      exact q.ret hS hT rfl s12 hr2
    by_cases h2 : cs.length = 2
    · obtain ⟨c, d, rfl⟩ : ∃ c d, cs = [c, d] := by
        match cs, h2 with
        | [c, d], _ => exact ⟨c, d, rfl⟩
      have e : Oc.two l = some (c, d) := htwo
      cases hm : Oc08.much ⟨b⟩ [c, d] with
      | true =>
        have eq : qErr b [c, d] = -7 := by rw [qErr, if_pos h2, if_pos hm]
        rw [eq]
        refine ifT (by decide) ⟨_, rfl, by show 1 ≤ sizeLine; decide, fun r2 hr2 => fail (-7) ?_ r2 hr2⟩
        unfold stp
        rw [st_answers, e]
        simp only [if_pos hm, out_ok]
      | false =>
        have eq : qErr b [c, d] = 0 := by rw [qErr, if_pos h2, hm, if_neg Bool.false_ne_true]
        rw [eq]
        refine ifF (by decide) ?_
        have es : stp b (.answers l) = (⟨b⟩, Oc08Neutral.out (Oc08.list (b.answers c d))) := by
          unfold stp
          rw [st_answers, e]
          simp only [if_neg (show ¬ Oc08.much ⟨b⟩ [c, d] = true by rw [hm]; simp)]
        rw [es] at q
        have hf := fine_of hok hv (by simp) hm
        obtain ⟨as, har, hA⟩ := hcs
        obtain ⟨x, y, rfl, hx, hy⟩ : ∃ x y, as = [x, y] ∧ CAt H1 x c ∧ CAt H1 y d := by
          cases hA with
          | cons g1 h =>
            cases h with
            | cons g2 h =>
              cases h
              exact ⟨_, _, rfl, g1, g2⟩
        refine ⟨_, rfl, p, dx, _, rfl, s2 _ _ e1, sv_no (by decide +kernel) (by decide +kernel) (by decide +kernel) (by decide +kernel), _, rfl, p, r, x, y, O, b, c, d, rfl, hS1.ext (ExtN.of s2), hok, s2 _ _ har, hx.same s2, hy.same s2, hf, hT.ext s12, fun H5 r5 as5 x5 t5 hr5 hO5 => ?_⟩
        obtain ⟨m1, m2⟩ := answers_mem hok.gs c d
        refine ⟨r5, as5, _, rfl, hr5, hO5, m1, fun z hz => (m2 z hz).1, fun H6 r6 s6 hr6 hl6 => ?_⟩
        have x05 := (ExtN.of s12).trans x5
        refine q.sameN hS (t5.ext s6) rfl (x05.trans (ExtN.of s6)) (newN_of x05 hr6) ?_
        rw [hl6, out_list]
    · have eq : qErr b cs = -1 := by rw [qErr, if_neg h2]
      rw [eq]
      refine ifT (by decide) ⟨_, rfl, by show 1 ≤ sizeLine; decide, fun r2 hr2 => fail (-1) ?_ r2 hr2⟩
      unfold stp
      rw [st_answers, two_none sp h2]
      rfl
end
end Mx
set_option Elab.async false
set_option maxRecDepth 100000
set_option maxHeartbeats 4000000
namespace Mx
open PySem PySem.Spec PyProof.Rows L2 LamX
open Oc (C Axiom)
open Oc08 (Book)
abbrev sPr : Stmt := inClass (top 23) 10
abbrev sAh : Stmt := inClass (top 23) 12
abbrev sGr : Stmt := inClass (top 23) 14
theorem cost_at {b : Book} {i : Nat} (h : i < b.guesses.length) : (costs b)[i]? = some (cost b i) := by
  unfold costs cost
  rw [List.getElem?_map, List.getElem?_eq_getElem h]
  rfl
def spPr (C : Addr) : Sp := fun vs H Q _ => ∃ (s a : Addr) (O : List Addr) (b : Book) (l : List Nat), vs = [.ref s, .ref a] ∧ SvAt C H s O b ∧ H a = some (.lst (Nv l)) ∧ (∀ i ∈ l, i < b.guesses.length) ∧ l.length ≤ 1000 ∧ ∀ H', Same H H' → Q (.int (b.price l : Nat)) H'
def spAh (C : Addr) : Sp := fun vs H Q _ => ∃ (s a : Addr) (O : List Addr) (b : Book) (l : List Nat), vs = [.ref s, .ref a] ∧ SvAt C H s O b ∧ H a = some (.lst (Nv l)) ∧ ∀ H', Same H H' → Q (.bl (asc b.guesses.length 0 l)) H'
def spGr (C : Addr) (T : List (Addr × Str)) : Sp := fun vs H Q _ => ∃ (s : Addr) (O : List Addr) (b : Book), vs = [.ref s] ∧ SvAt C H s O b ∧ BookOk b ∧ Tabs T H ∧ Done C T s O H (stp b .greatest) Q
theorem scPr : FnScope ["self", "chosen", "number"] ["self", "chosen"] (defScope sPr) := ⟨rfl, rfl, rfl, by decide +kernel, rfl, by decide +kernel, by decide +kernel⟩
theorem scAh : FnScope ["self", "chosen", "least", "number"] ["self", "chosen"] (defScope sAh) := ⟨rfl, rfl, rfl, by decide +kernel, rfl, by decide +kernel, by decide +kernel⟩
theorem scGr : FnScope ["self"] ["self"] (defScope sGr) := ⟨rfl, rfl, rfl, by decide +kernel, rfl, by decide +kernel, by decide +kernel⟩
section
variable {P : Program} {w : World} {K : PySem.W.Frag} {mg : Str → Option Value} {base : Heap} {C Ct Cp : Addr}
theorem ok_pr {f : Addr} {fd : FuncData} (F : Fun K "price_of" "Service.price_of" sPr f fd) (T : SvTxt K mg C) (mSum : mg "sum" = none) : FnOk P w K mg base CX0 1 f fd ["self", "chosen"] (spPr C) := by
  refine F.ok scPr (fun vs H Q E h => ?_) (fun cdv A outer s H vs Q E hr h => ?_)
  · obtain ⟨s, a, O, b, l, rfl, _⟩ := h
    rfl
  · refine ⟨_, pss_one (ps_ret (pe_callB (cr_sum rfl) (by rfl) mSum (by decide +kernel) (pa_cons
        (pe_lc (own := [("number", 2)]) (g := gName 2) (te := tOp (rIxL K) (tFld K (tVar 0) "prices") (tVar 2)) (by rfl) scPr.nd (pi_list (pv 1))
          (blkOk_by (own := [("number", 2)]) (N := ["self", "chosen", "number"]) (sc := defScope sPr) (by decide +kernel))
          (fun _ _ _ _ _ => pg_name (i := 2) scPr.nd rfl (Or.inl rfl))
          (fun _ _ _ _ _ => pts_nil)
          (fun _ _ _ _ _ => pe_ix ix_list (pe_fld (pv 0) rfl) (pv 2) (fun _ _ => rfl))) pa_nil))), ?_⟩
    obtain ⟨p, a, O, b, l, rfl, hS, ha, hlt, hll, q⟩ := h
    obtain ⟨dx, lx, lh, lp, lk, tx, th, tk, e0, e1, e2, e3, e4, e5, e6, e7, e8, e9⟩ := hS
    refine ⟨_, rfl, a, rfl, ⟨_, SqL.of ha⟩, fun D hD => ?_⟩
    refine lc_list (K := K) (a := a) (xs := Nv l) (fun i H' => Same H H' ∧ H' D = some (.lst (Nv ((l.take i).map (cost b))))) ⟨same_upd hD, upd_same⟩ (fun i H' _ ⟨sm, _⟩ => SqL.of (sm _ _ ha)) ?_ ?_
    · rintro i x H' hx ⟨sm, hl⟩
      rw [Nv, List.getElem?_map] at hx
      cases hm : l[i]? with
      | none => rw [hm] at hx; cases hx
      | some n =>
        rw [hm] at hx
        obtain rfl := (Option.some.inj hx).symm
        have hil := (List.getElem?_eq_some_iff.mp hm).1
        have hn := hlt n (List.mem_of_getElem? hm)
        refine ⟨rfl, ?_⟩
        refine ⟨_, rfl, p, C, dx, _, _, rfl, sm _ _ e1, T.cl, T.nR, sv_prices, _, rfl, lp, _, _, _, rfl, rfl, SqL.of (sm _ _ e6), atI_nat (Nv_at (cost_at hn)), _, hl, ?_, samePut sm hD, ?_⟩
        · rw [Nv_len, List.length_map, List.length_take]
          exact small_lt (by omega)
        · rw [upd_same, List.take_add_one, hm, Option.toList_some, List.map_append, Nv, Nv, List.map_append]
          rfl
    · rintro H' ⟨sm, hl⟩
      rw [Nv_len, List.take_length] at hl
      have e : b.price l = (l.map (cost b)).sum := price_is b l
      refine ⟨D, ((l.map (cost b)).map fun (t : Nat) => (t : Int)), rfl, SqL.of (by rw [hl]; exact congrArg (fun z => some (HO.lst z)) (show Nv (l.map (cost b)) = _ by rw [List.map_map]; rfl)), ?_⟩
      rw [sum_cast, ← e]
      exact q H' sm
theorem ok_ah {f : Addr} {fd : FuncData} (F : Fun K "are_hypotheses" "Service.are_hypotheses" sAh f fd) (T : SvTxt K mg C) (mLen : mg "len" = none) : FnOk P w K mg base CX0 1 f fd ["self", "chosen"] (spAh C) := by
  refine F.ok scAh (fun vs H Q E h => ?_) (fun cdv A outer s H vs Q E hr h => ?_)
  · obtain ⟨s, a, O, b, l, rfl, _⟩ := h
    rfl
  · refine ⟨_, pss_cons (ps_set (i := 2) scAh.nd rfl (Or.inl rfl) pe_int)
      (pss_cons (ps_for PassesOwn.never rfl (pi_list (pv 1)) (pg_name (i := 3) scAh.nd rfl (Or.inl rfl))
        (pss_cons (ps_if (PW.pt (pw_or (pt_cmpR op_lt (pv 3) (pv 2) (nomark _)) (pw_or1 (pt_cmpR op_ge (pv 3) (pe_callB call_len_seq (by rfl) mLen PySem.boot_len (pa_cons (pe_fld (pv 0) rfl) pa_nil)) (nomark _)))))
          (pss_one (ps_ret pe_bl)) pss_nil)
        (pss_one (ps_set (i := 2) scAh.nd rfl (Or.inl rfl) (pe_op op_add (pv 3) pe_int)))))
      (pss_one (ps_ret pe_bl))), ?_⟩
    obtain ⟨p, a, O, b, l, rfl, hS, ha, q⟩ := h
    obtain ⟨dx, lx, lh, lp, lk, tx, th, tk, e0, e1, e2, e3, e4, e5, e6, e7, e8, e9⟩ := hS
    have l5 : th.length = b.guesses.length := e5.len.trans (List.length_map _)
    refine ⟨_, rfl, a, rfl, ⟨_, SqL.of ha⟩, for_list (K := K) (a := a) (xs := Nv l) (fun i σ H' => Same H H' ∧ ∃ (k : Nat) (v3 : Option V), σ = [some (.ref p), some (.ref a), some (.int (k : Nat)), v3] ∧
      asc b.guesses.length 0 l = asc b.guesses.length k (l.drop i)) ⟨Same.refl H, 0, none, rfl, rfl⟩ (fun i σ H' _ ⟨sm, _⟩ => SqL.of (sm _ _ ha)) ?_ ?_⟩
    · rintro i x σ H' hx ⟨sm, k, v3, rfl, hk⟩
      rw [Nv, List.getElem?_map] at hx
      cases hm : l[i]? with
      | none => rw [hm] at hx; cases hx
      | some n =>
        rw [hm] at hx
        obtain rfl := (Option.some.inj hx).symm
        rw [drop_cons hm, asc] at hk
        have q2 := q H' sm
        refine ⟨_, rfl, _, rfl, _, _, rfl, rfl, _, rfl, ?_⟩
        by_cases h1 : n < k
        · rw [if_pos h1] at hk
          rw [hk] at q2
          exact ifT (show decide (((n : Nat) : Int) < ((k : Nat) : Int)) = true by rw [decide_eq_true_eq]; omega) q2
        rw [if_neg h1] at hk
        refine ifF (show decide (((n : Nat) : Int) < ((k : Nat) : Int)) = false by rw [decide_eq_false_iff_not]; omega) ?_
        refine ⟨_, rfl, _, rfl, p, C, dx, _, _, rfl, sm _ _ e1, T.cl, T.nH, sv_hyps, lh, _, rfl, .inl (SqL.of (sm _ _ e4)), _, _, rfl, rfl, _, rfl, ?_⟩
        rw [List.length_map, l5]
        by_cases h2 : b.guesses.length ≤ n
        · rw [if_pos h2] at hk
          rw [hk] at q2
          exact ifT (show decide (((b.guesses.length : Nat) : Int) ≤ ((n : Nat) : Int)) = true by rw [decide_eq_true_eq]; omega) q2
        rw [if_neg h2] at hk
        refine ifF (show decide (((b.guesses.length : Nat) : Int) ≤ ((n : Nat) : Int)) = false by rw [decide_eq_false_iff_not]; omega) ?_
        exact ⟨_, rfl, _, _, rfl, rfl, sm, n + 1, _, rfl, hk⟩
    · rintro σ H' ⟨sm, k, v3, rfl, hk⟩
      have q2 := q H' sm
      rw [Nv_len, List.drop_length, asc] at hk
      rw [hk] at q2
      exact q2
theorem ok_gr {f : Addr} {fd : FuncData} {Tb : List (Addr × Str)} (F : Fun K "greatest" "Service.greatest" sGr f fd) (T : SvTxt K mg C) (Tt : ThTxt K Ct) (cTw : MCalled P w K mg base C "theory_with" 9 ["self", "concepts"] (spTw C Ct Cp))
    (cGs : MCalled P w K mg base Ct "greatest_sets" 7 ["self"] (spGs Ct Cp Tb)) (cSr : Called P w K mg base "sets_result" 1 ["sets"] spSr) : FnOk P w K mg base CX0 10 f fd ["self"] (spGr C Tb) := by
  refine F.ok scGr (fun vs H Q E h => ?_) (fun cdv A outer s H vs Q E hr h => ?_)
  · obtain ⟨s, O, b, rfl, _⟩ := h
    rfl
  · refine ⟨_, pss_one (ps_ret (pe_cl cSr (hr.mono (by decide)) (pa_cons (pe_cm0 (pe_cm (pv 0) T.cl cTw hr (pa_cons (pe_lst pa_nil) pa_nil)) Tt.cl cGs (hr.mono (by decide))) pa_nil))), ?_⟩
    obtain ⟨p, O, b, rfl, hS, hok, hT, q⟩ := h
    have hax := hok.ax
    have hgs := hok.gs
    have hkp := hok.kp
    have hhl : (hyps b).length = b.guesses.length := List.length_map _
    have hS' := hS
    obtain ⟨dx, lx, lh, lp, lk, tx, th, tk, e0, e1, _⟩ := hS'
    refine ⟨_, rfl, p, dx, _, rfl, e1, sv_no (by decide +kernel) (by decide +kernel) (by decide +kernel) (by decide +kernel), by show 0 ≤ sizeLine; decide, fun r hr0 => ?_⟩
    have s1 : Same H (upd H r (.lst [])) := same_upd hr0
    have f1 : (upd H r (.lst [])) r = some (.lst []) := upd_same
    generalize (upd H r (.lst [])) = H1 at s1 f1
    have hf := fine_of (cs := []) hok (by simp) (by simp) (much_nil hok)
    refine ⟨p, r, O, b, [], rfl, hS.ext (ExtN.of s1), hok, ⟨[], f1, .nil⟩, hf, fun H4 z s4 hTh => ?_⟩
    have ok := thOk_of hf (by omega) (by omega)
    have hTh' := hTh
    obtain ⟨dt, la4, lh4, lp4, pp4, ta4, th4, tk4, t1, _⟩ := hTh'
    have s14 := s1.trans s4
    refine ⟨z, dt, _, rfl, t1, tF_no (by decide +kernel) (by decide +kernel) (by decide +kernel) (by decide +kernel), ?_⟩
    refine ⟨z, b.axioms, hyps b, b.keep, _, rfl, hTh, ok, by omega, hT.ext s14, fun H5 r5 as5 x5 t5 hr5 hO5 => ?_⟩
    rw [great_is] at hO5
    obtain ⟨m1, m2⟩ := greatest_mem hok.gs
    have x05 := (ExtN.of s14).trans x5
    refine ⟨r5, as5, _, rfl, hr5, hO5, m1, m2, fun H6 r6 s6 hr6 hl6 => ?_⟩
    refine q.sameN hS (t5.ext s6) rfl (x05.trans (ExtN.of s6)) (newN_of x05 hr6) ?_
    rw [hl6]
    exact (out_list b.greatest).symm ▸ rfl
end
end Mx
set_option Elab.async false
set_option maxRecDepth 100000
set_option maxHeartbeats 4000000
namespace Mx
open PySem PySem.Spec PyProof.Rows L2 LamX
open Oc (C Axiom)
open Oc08 (Book)
abbrev sCh : Stmt := inClass (top 23) 11
def spCh (C : Addr) (T : List (Addr × Str)) : Sp := fun vs H Q _ => ∃ (s a : Addr) (O : List Addr) (b : Book) (l : List Nat), vs = [.ref s, .ref a] ∧ SvAt C H s O b ∧ BookOk b ∧ Tabs T H ∧ H a = some (.lst (Nv l)) ∧ l.length ≤ 30 ∧ Done C T s O H (stp b (.cheapest l)) Q
theorem scCh : FnScope ["self", "numbers", "concepts", "error", "explanations", "best"] ["self", "numbers"] (defScope sCh) := ⟨rfl, rfl, rfl, by decide +kernel, rfl, by decide +kernel, by decide +kernel⟩
theorem len0T {n : Nat} (h : n = 0) : decide (V.int ((n : Nat) : Int) = V.int 0) = true := by rw [h]; exact vT
theorem len0F {n : Nat} (h : ¬ n = 0) : decide (V.int ((n : Nat) : Int) = V.int 0) = false := vF (by omega)
theorem out_some (v : Nat) (s : List Nat) : (Oc08Neutral.out ⟨(v : Nat), s⟩).map V.int = [V.int (v : Nat)] ++ Nv s := by
  simp [Oc08Neutral.out, Nv, Function.comp_def]
section
variable {P : Program} {w : World} {K : PySem.W.Frag} {mg : Str → Option Value} {base : Heap} {C : Addr}
theorem ok_ch {f : Addr} {fd : FuncData} {Tb : List (Addr × Str)} (F : Fun K "cheapest" "Service.cheapest" sCh f fd) (T : SvTxt K mg C) (mLen : mg "len" = none) (mMin : mg "min" = none) (cSp : Called P w K mg base "split_concepts" 3 ["numbers"] (spSp K))
    (cQe : MCalled P w K mg base C "question_error" 5 ["self", "concepts"] (spQe C)) (cXf : MCalled P w K mg base C "explanations_for" 10 ["self", "concepts"] (spXf C Tb)) (cPr : BCalled P w K mg base C "price_of" 1 ["self", "chosen"] (spPr C)) :
    FnOk P w K mg base CX0 11 f fd ["self", "numbers"] (spCh C Tb) := by
  refine F.ok scCh (fun vs H Q E h => ?_) (fun cdv A outer s H vs Q E hr h => ?_)
  · obtain ⟨s, a, O, b, l, rfl, _⟩ := h
    rfl
  · refine ⟨_, pss_cons (ps_set (i := 2) scCh.nd rfl (Or.inl rfl) (pe_cl cSp (hr.mono (by decide)) (pa_cons (pv 1) pa_nil)))
      (pss_cons (ps_set (i := 3) scCh.nd rfl (Or.inl rfl) (pe_cm (pv 0) T.cl cQe (hr.mono (by decide)) (pa_cons (pv 2) pa_nil)))
      (pss_cons (ps_if (pt_cmpR op_lt (pv 3) pe_int (nomark _)) (pss_one (ps_ret (pe_lst (pa_cons (pv 3) pa_nil)))) pss_nil)
      (pss_cons (ps_set (i := 4) scCh.nd rfl (Or.inl rfl) (pe_cm (pv 0) T.cl cXf hr (pa_cons (pv 2) pa_nil)))
      (pss_cons (ps_if (pt_cmpR op_eq (pe_callB call_len_seq (by rfl) mLen PySem.boot_len (pa_cons (pv 4) pa_nil)) pe_int (nomark _)) (pss_one (ps_ret (pe_lst (pa_cons (pe_un un_neg pe_int) pa_nil)))) pss_nil)
      (pss_cons (ps_set (i := 5) scCh.nd rfl (Or.inl rfl) (pe_minB cPr T.cl (hr.mono (by decide)) (by rfl) mMin (pv 4) (pv 0)))
      (pss_one (ps_ret (pe_op op_cat (pe_lst (pa_cons (pe_cm (pv 0) T.cl cPr.m (hr.mono (by decide)) (pa_cons (pv 5) pa_nil)) pa_nil)) (pv 5))))))))), ?_⟩
    obtain ⟨p, a, O, b, l, rfl, hS, hok, hT, ha, hl, q⟩ := h
    refine ⟨_, rfl, a, l, rfl, SqL.of ha, by omega, fun H1 r cs s1 hr0 hcs sp => ?_⟩
    obtain ⟨hv, hcl⟩ := splits_ok sp hl
    have hS1 := hS.ext (ExtN.of s1)
    have htwo := splits_two sp
    have hS1' := hS1
    obtain ⟨dx, lx, lh, lp, lk, tx, th, tk, e0, e1, _⟩ := hS1'
    refine ⟨_, rfl, p, dx, _, rfl, e1, sv_no (by decide +kernel) (by decide +kernel) (by decide +kernel) (by decide +kernel), _, rfl, p, r, O, b, cs, rfl, hS1, hok, hcs, hv, hcl, fun H2 s2 => ?_⟩
    have s12 := s1.trans s2
    refine ⟨_, rfl, _, _, rfl, rfl, _, rfl, ?_⟩
    have fail : ∀ (v : Int), stp b (.cheapest l) = (⟨b⟩, [v]) → ∀ r2, H2 r2 = none → Q (.ref r2) (upd H2 r2 (.lst [.int v])) := fun v es r2 hr2 => by
      rw [es] at q
      exact q.ret hS hT rfl s12 hr2
    by_cases h2 : cs.length = 2
    · obtain ⟨c, d, rfl⟩ : ∃ c d, cs = [c, d] := by
        match cs, h2 with
        | [c, d], _ => exact ⟨c, d, rfl⟩
      have e : Oc.two l = some (c, d) := htwo
      cases hm : Oc08.much ⟨b⟩ [c, d] with
      | true =>
        have eq : qErr b [c, d] = -7 := by rw [qErr, if_pos h2, if_pos hm]
        rw [eq]
        refine ifT (by decide) ⟨_, rfl, by show 1 ≤ sizeLine; decide, fun r2 hr2 => fail (-7) ?_ r2 hr2⟩
        unfold stp
        rw [st_cheapest, e]
        simp only [if_pos hm, out_ok]
      | false =>
        have eq : qErr b [c, d] = 0 := by rw [qErr, if_pos h2, hm, if_neg Bool.false_ne_true]
        rw [eq]
        refine ifF (by decide) ?_
        have hf := fine_of hok hv (by simp) hm
        obtain ⟨as, har, hA⟩ := hcs
        obtain ⟨x, y, rfl, hx, hy⟩ : ∃ x y, as = [x, y] ∧ CAt H1 x c ∧ CAt H1 y d := by
          cases hA with
          | cons g1 h =>
            cases h with
            | cons g2 h =>
              cases h
              exact ⟨_, _, rfl, g1, g2⟩
        refine ⟨_, rfl, p, dx, _, rfl, s2 _ _ e1, sv_no (by decide +kernel) (by decide +kernel) (by decide +kernel) (by decide +kernel), _, rfl, p, r, x, y, O, b, c, d, rfl, hS1.ext (ExtN.of s2), hok, s2 _ _ har, hx.same s2, hy.same s2, hf, hT.ext s12, fun H5 r5 as5 x5 t5 hr5 hO5 => ?_⟩
        obtain ⟨m1, m2⟩ := answers_mem hok.gs c d
        have x05 := (ExtN.of s12).trans x5
        have hS5 := hS.ext x05
        have hlen := hO5.len
        refine ⟨_, rfl, r5, _, rfl, .inl (SqL.of hr5), rfl, _, rfl, ?_⟩
        rw [List.length_map, hlen]
        have st : ∀ o, b.cheapest c d = o → stp b (.cheapest l) = (⟨b⟩, Oc08Neutral.out (match o with | none => Oc08.ok (-6) | some s => ⟨(b.price s : Nat), s⟩)) := fun o eo => by
          unfold stp
          rw [st_cheapest, e]
          simp only [if_neg (show ¬ Oc08.much ⟨b⟩ [c, d] = true by rw [hm]; simp), eo] <;> (cases o <;> rfl)
        by_cases h0 : (b.answers c d).length = 0
        · refine ifT (len0T h0) ⟨_, rfl, by show 1 ≤ sizeLine; decide, fun r2 hr2 => ?_⟩
          have hnil := List.length_eq_zero_iff.mp h0
          have ec : b.cheapest c d = none := by rw [cheapest_is, hnil]; rfl
          rw [st _ ec] at q
          have s6 := same_upd (o := HO.lst [V.int (-6)]) hr2
          exact q.sameN hS (t5.ext s6) rfl (x05.trans (ExtN.of s6)) (newN_of x05 hr2) upd_same
        · refine ifF (len0F h0) ?_
          have hS5' := hS5
          obtain ⟨dx5, lx5, lh5, lp5, lk5, tx5, th5, tk5, _, f1, _⟩ := hS5'
          refine ⟨_, rfl, r5, as5, rfl, by omega, _, rfl, p, dx5, _, fun i => ((b.price ((b.answers c d).getD i []) : Nat) : Int), rfl, f1, sv_no (by decide +kernel) (by decide +kernel) (by decide +kernel) (by decide +kernel), hr5, ?_, ?_⟩
          · intro i x H3 Q' hx s3 h3
            obtain ⟨u, hu, hux⟩ := hO5.get hx
            have hmem := List.mem_of_getElem? hu
            have e1 : (b.answers c d).getD i [] = u := by simp [hu]
            refine ⟨p, x, O, b, u, rfl, hS5.ext (ExtN.of s3), s3 _ _ hux, (m2 u hmem).2, Nat.le_trans (m2 u hmem).1 (by decide), fun H4 s4 => ?_⟩
            have h4 : Q' (V.int ((b.price ((b.answers c d).getD i []) : Nat) : Int)) H4 := h3 H4 s4
            rw [e1] at h4
            exact h4
          · intro i x H3 hx hle s3
            obtain ⟨u, hu, hux⟩ := hO5.get hx
            have hmem := List.mem_of_getElem? hu
            have e1 : (b.answers c d).getD i [] = u := by simp [hu]
            have ec : b.cheapest c d = some u := by
              rw [cheapest_is]
              refine first_min hu fun j t hj => ?_
              have hjl := (List.getElem?_eq_some_iff.mp hj).1
              have e2 : (b.answers c d).getD j [] = t := by simp [hj]
              have k := hle j (by omega)
              simp only [e1, e2] at k
              exact ⟨by omega, fun hlt => by have := k.2 hlt; omega⟩
            rw [st _ ec] at q
            refine ⟨_, rfl, p, dx5, _, rfl, s3 _ _ f1, sv_no (by decide +kernel) (by decide +kernel) (by decide +kernel) (by decide +kernel), _, rfl, p, x, O, b, u, rfl, hS5.ext (ExtN.of s3), s3 _ _ hux, (m2 u hmem).2, Nat.le_trans (m2 u hmem).1 (by decide), fun H6 s6 => ?_⟩
            refine ⟨by show 1 ≤ sizeLine; decide, fun t ht => ?_⟩
            have s7 := same_upd (o := HO.lst [V.int (b.price u : Nat)]) ht
            have s37 := (s3.trans s6).trans s7
            refine ⟨_, rfl, t, x, _, _, rfl, rfl, upd_same, s37 _ _ hux, ?_, fun r8 hr8 => ?_⟩
            · have := (m2 u hmem).1
              rw [Nv_len]
              show 1 + u.length ≤ sizeLine
              exact Nat.le_trans (show 1 + u.length ≤ 100 by omega) (by decide)
            · have s8 := same_upd (o := HO.lst ([V.int (b.price u : Nat)] ++ Nv u)) hr8
              have x08 := x05.trans (ExtN.of s37)
              refine q.sameN hS (t5.ext (s37.trans s8)) rfl (x08.trans (ExtN.of s8)) (newN_of x08 hr8) ?_
              rw [upd_same]
              exact congrArg (fun z => some (HO.lst z)) (out_some _ _).symm
    · have eq : qErr b cs = -1 := by rw [qErr, if_neg h2]
      rw [eq]
      refine ifT (by decide) ⟨_, rfl, by show 1 ≤ sizeLine; decide, fun r2 hr2 => fail (-1) ?_ r2 hr2⟩
      unfold stp
      rw [st_cheapest, two_none sp h2]
      rfl
end
end Mx
set_option Elab.async false
set_option maxRecDepth 100000
set_option maxHeartbeats 4000000
namespace Mx
open PySem PySem.Spec PyProof.Rows L2 LamX
open Oc (C Axiom)
open Oc08 (Book)
abbrev sCk : Stmt := inClass (top 23) 13
def spCk (C : Addr) (T : List (Addr × Str)) : Sp := fun vs H Q _ => ∃ (s a1 a2 : Addr) (O : List Addr) (b : Book) (g l : List Nat), vs = [.ref s, .ref a1, .ref a2] ∧ SvAt C H s O b ∧ BookOk b ∧ Tabs T H ∧ H a1 = some (.lst (Nv g)) ∧ H a2 = some (.lst (Nv l)) ∧ l.length ≤ 30 ∧ Done C T s O H (stp b (.check g l)) Q
theorem scCk : FnScope ["self", "chosen", "numbers", "concepts", "theory", "possible", "subsumed", "compatible"] ["self", "chosen", "numbers"] (defScope sCk) := ⟨rfl, rfl, rfl, by decide +kernel, rfl, by decide +kernel, by decide +kernel⟩
section
variable {P : Program} {w : World} {K : PySem.W.Frag} {mg : Str → Option Value} {base : Heap} {C Ct Cp : Addr}
theorem ok_ck {f : Addr} {fd : FuncData} {Tb : List (Addr × Str)} (F : Fun K "check" "Service.check" sCk f fd) (T : SvTxt K mg C) (Tt : ThTxt K Ct) (mLen : mg "len" = none) (cSp : Called P w K mg base "split_concepts" 3 ["numbers"] (spSp K))
    (cAh : MCalled P w K mg base C "are_hypotheses" 1 ["self", "chosen"] (spAh C)) (cTm : MCalled P w K mg base C "too_many_atoms" 4 ["self", "concepts"] (spTm C)) (cTw : MCalled P w K mg base C "theory_with" 9 ["self", "concepts"] (spTw C Ct Cp))
    (cPw : MCalled P w K mg base Ct "possible_with" 5 ["self", "chosen"] (spPw Ct Cp)) (cSu : MCalled P w K mg base Ct "subsumes" 4 ["self", "possible", "first", "second"] (spSu Ct Cp)) (cAs : MCalled P w K mg base Ct "all_satisfiable" 4 ["self", "possible"] (spAs Ct Cp))
    (cPr : MCalled P w K mg base C "price_of" 1 ["self", "chosen"] (spPr C)) : FnOk P w K mg base CX0 10 f fd ["self", "chosen", "numbers"] (spCk C Tb) := by
  refine F.ok scCk (fun vs H Q E h => ?_) (fun cdv A outer s H vs Q E hr h => ?_)
  · obtain ⟨s, a1, a2, O, b, g, l, rfl, _⟩ := h
    rfl
  · refine ⟨_, pss_cons (ps_set (i := 3) scCk.nd rfl (Or.inl rfl) (pe_cl cSp (hr.mono (by decide)) (pa_cons (pv 2) pa_nil)))
      (pss_cons (ps_if (pt_cmpR op_ne (pe_callB call_len_seq (by rfl) mLen PySem.boot_len (pa_cons (pv 3) pa_nil)) pe_int (nomark _)) (pss_one (ps_ret (pe_lst (pa_cons (pe_un un_neg pe_int) pa_nil)))) pss_nil)
      (pss_cons (ps_if (pt_not (pt_val (pe_cm (pv 0) T.cl cAh (hr.mono (by decide)) (pa_cons (pv 1) pa_nil)))) (pss_one (ps_ret (pe_lst (pa_cons (pe_un un_neg pe_int) pa_nil)))) pss_nil)
      (pss_cons (ps_if (pt_val (pe_cm (pv 0) T.cl cTm (hr.mono (by decide)) (pa_cons (pv 3) pa_nil))) (pss_one (ps_ret (pe_lst (pa_cons (pe_un un_neg pe_int) pa_nil)))) pss_nil)
      (pss_cons (ps_set (i := 4) scCk.nd rfl (Or.inl rfl) (pe_cm (pv 0) T.cl cTw hr (pa_cons (pv 3) pa_nil)))
      (pss_cons (ps_set (i := 5) scCk.nd rfl (Or.inl rfl) (pe_cm (pv 4) Tt.cl cPw (hr.mono (by decide)) (pa_cons (pv 1) pa_nil)))
      (pss_cons (ps_set (i := 6) scCk.nd rfl (Or.inl rfl) (pe_cm (pv 4) Tt.cl cSu (hr.mono (by decide)) (pa_cons (pv 5) (pa_cons (pe_ix ix_list (pv 3) pe_int (fun _ _ => rfl)) (pa_cons (pe_ix ix_list (pv 3) pe_int (fun _ _ => rfl)) pa_nil)))))
      (pss_cons (ps_set (i := 7) scCk.nd rfl (Or.inl rfl) (pe_cm (pv 4) Tt.cl cAs (hr.mono (by decide)) (pa_cons (pv 5) pa_nil)))
      (pss_one (ps_ret (pe_lst (pa_cons (pe_ifExp (pt_val (pv 6)) pe_int pe_int) (pa_cons (pe_ifExp (pt_val (pv 7)) pe_int pe_int) (pa_cons (pe_cm (pv 0) T.cl cPr (hr.mono (by decide)) (pa_cons (pv 1) pa_nil)) pa_nil))))))))))))), ?_⟩
    obtain ⟨p, ch, a, O, b, g, l, rfl, hS, hok, hT, hg, ha, hl, q⟩ := h
    refine ⟨_, rfl, a, l, rfl, SqL.of ha, by omega, fun H1 r cs s1 hr0 hcs sp => ?_⟩
    obtain ⟨hv, hcl⟩ := splits_ok sp hl
    have hcs' := hcs
    obtain ⟨as, har, hA⟩ := hcs
    have hS1 := hS.ext (ExtN.of s1)
    have htwo := splits_two sp
    have hlen := hA.len
    refine ⟨_, rfl, r, _, rfl, .inl (SqL.of har), rfl, _, rfl, ?_⟩
    rw [List.length_map, hlen]
    have fail : ∀ {H2 : Hp} (v : Int), Same H H2 → stp b (.check g l) = (⟨b⟩, [v]) → ∀ r2, H2 r2 = none → Q (.ref r2) (upd H2 r2 (.lst [.int v])) := fun {H2} v sm es r2 hr2 => by
      rw [es] at q
      exact q.ret hS hT rfl sm hr2
    by_cases h2 : cs.length = 2
    · obtain ⟨c, d, rfl⟩ : ∃ c d, cs = [c, d] := by
        match cs, h2 with
        | [c, d], _ => exact ⟨c, d, rfl⟩
      refine ifF (neF h2) ?_
      have e : Oc.two l = some (c, d) := htwo
      obtain ⟨x, y, rfl, hx, hy⟩ : ∃ x y, as = [x, y] ∧ CAt H1 x c ∧ CAt H1 y d := by
        cases hA with
        | cons g1 h =>
          cases h with
          | cons g2 h =>
            cases h
            exact ⟨_, _, rfl, g1, g2⟩
      have hS1' := hS1
      obtain ⟨dx, lx, lh, lp, lk, tx, th, tk, e0, e1, _⟩ := hS1'
      refine ⟨_, rfl, p, dx, _, rfl, e1, sv_no (by decide +kernel) (by decide +kernel) (by decide +kernel) (by decide +kernel), _, rfl, p, ch, O, b, g, rfl, hS1, s1 _ _ hg, fun H2 s2 => ⟨_, rfl, ?_⟩⟩
      have s12 := s1.trans s2
      cases hasc : asc b.guesses.length 0 g with
      | false =>
        have ha2 := (asc_not _ _).1 hasc
        refine iteT ⟨_, rfl, by show 1 ≤ sizeLine; decide, fun r2 hr2 => fail (-2) s12 ?_ r2 hr2⟩
        unfold stp
        rw [st_check, e]
        simp only [if_pos ha2, out_ok]
      | true =>
        have hna : ¬ (Oc08.rising g = false ∨ (g.any fun i => decide (b.guesses.length ≤ i)) = true) := fun h => by
          rw [(asc_not _ _).2 h] at hasc
          cases hasc
        obtain ⟨gl, glt⟩ := asc_len _ _ _ hasc (Nat.zero_le _)
        have hgs := hok.gs
        have hax := hok.ax
        have hkp := hok.kp
        have hhl : (hyps b).length = b.guesses.length := List.length_map _
        refine iteF ⟨_, rfl, p, dx, _, rfl, s2 _ _ e1, sv_no (by decide +kernel) (by decide +kernel) (by decide +kernel) (by decide +kernel), _, rfl, p, r, O, b, [c, d], rfl, hS1.ext (ExtN.of s2), hok, ⟨[x, y], s2 _ _ har, hA.same s2⟩, hv, by simp, fun H3 s3 => ⟨_, rfl, ?_⟩⟩
        have s13 := s12.trans s3
        cases hm : Oc08.much ⟨b⟩ [c, d] with
        | true =>
          refine iteT ⟨_, rfl, by show 1 ≤ sizeLine; decide, fun r2 hr2 => fail (-7) s13 ?_ r2 hr2⟩
          unfold stp
          rw [st_check, e]
          simp only [if_neg hna, if_pos hm, out_ok]
        | false =>
          have es : stp b (.check g l) = (⟨b⟩, Oc08Neutral.out ⟨(Oc08.flag (b.does g c d) : Nat), [Oc08.flag (b.stays g), b.price g]⟩) := by
            unfold stp
            rw [st_check, e]
            simp only [if_neg hna, if_neg (show ¬ Oc08.much ⟨b⟩ [c, d] = true by rw [hm]; simp)]
          rw [es] at q
          have hf := fine_of hok hv (by simp) hm
          have t23 := s2.trans s3
          refine iteF ⟨_, rfl, p, dx, _, rfl, t23 _ _ e1, sv_no (by decide +kernel) (by decide +kernel) (by decide +kernel) (by decide +kernel), _, rfl, p, r, O, b, [c, d], rfl, hS1.ext (ExtN.of t23), hok, ⟨[x, y], t23 _ _ har, hA.same t23⟩, hf, fun H4 z s4 hTh => ?_⟩
          have ok := thOk_of hf (by omega) (by omega)
          have hTh' := hTh
          obtain ⟨dt, la4, lh4, lp4, pp4, ta4, th4, tk4, t1, _⟩ := hTh'
          have t24 := t23.trans s4
          have s14 := s13.trans s4
          refine ⟨_, rfl, z, dt, _, rfl, t1, tF_no (by decide +kernel) (by decide +kernel) (by decide +kernel) (by decide +kernel), _, rfl, ?_⟩
          refine ⟨z, ch, b.axioms, hyps b, b.keep, _, g, rfl, hTh, ok, s14 _ _ hg, fun i hi => by rw [hhl]; exact glt i hi, by omega, fun H5 s5 => ?_⟩
          have t25 := t24.trans s5
          have s15 := s14.trans s5
          have hr5 := t25 _ _ har
          refine ⟨_, rfl, z, dt, _, rfl, s5 _ _ t1, tF_no (by decide +kernel) (by decide +kernel) (by decide +kernel) (by decide +kernel), _, rfl, ?_⟩
          refine ⟨_, rfl, r, _, 0, _, rfl, rfl, SqL.of hr5, rfl, _, rfl, r, _, 1, _, rfl, rfl, SqL.of hr5, rfl, ?_⟩
          refine ⟨z, x, y, _, b.axioms, hyps b, b.keep, _, c, d, rfl, hTh.same s5, ok, hx.same t25, hy.same t25, asks_of hf (by simp [allC]), asks_of hf (by simp [allC]), fun H6 s6 => ?_⟩
          rw [does_is b g c d [c, d] (by simp) (by simp)]
          have s56 := s5.trans s6
          refine ⟨_, rfl, z, dt, _, rfl, s56 _ _ t1, tF_no (by decide +kernel) (by decide +kernel) (by decide +kernel) (by decide +kernel), _, rfl, ?_⟩
          refine ⟨z, _, b.axioms, hyps b, b.keep, _, rfl, hTh.same s56, ok, fun H7 s7 => ?_⟩
          rw [stays_is b g [c, d]]
          have s17 := (s15.trans s6).trans s7
          have hS7 := hS.ext (ExtN.of s17)
          have hS7' := hS7
          obtain ⟨dx7, lx7, lh7, lp7, lk7, tx7, th7, tk7, _, f1, _⟩ := hS7'
          have tail : ∀ (H8 : Hp) (r2 : Addr) (v1 v2 : Int), Same H7 H8 → H8 r2 = none → v1 = ((Oc08.flag (b.does g c d) : Nat) : Int) → v2 = ((Oc08.flag (b.stays g) : Nat) : Int) → Q (.ref r2) (upd H8 r2 (.lst [V.int v1, V.int v2, V.int ((b.price g : Nat) : Int)])) := fun H8 r2 v1 v2 s8 hr2 e1 e2 => by
            subst e1 e2
            exact q.ret hS hT rfl (s17.trans s8) hr2
          refine ⟨_, rfl, _, rfl, ?_⟩
          cases hd : b.does g c d <;> cases hs : b.stays g <;> rw [hd, hs] at tail <;>
            (first | refine iteT ⟨_, rfl, _, rfl, ?_⟩ | refine iteF ⟨_, rfl, _, rfl, ?_⟩) <;>
            (first
              | refine iteT ⟨_, rfl, p, dx7, _, rfl, f1, sv_no (by decide +kernel) (by decide +kernel) (by decide +kernel) (by decide +kernel), _, rfl, p, ch, O, b, g, rfl, hS7, s17 _ _ hg, glt, by omega, fun H8 s8 => ⟨by show 3 ≤ sizeLine; decide, fun r2 hr2 => ?_⟩⟩
              | refine iteF ⟨_, rfl, p, dx7, _, rfl, f1, sv_no (by decide +kernel) (by decide +kernel) (by decide +kernel) (by decide +kernel), _, rfl, p, ch, O, b, g, rfl, hS7, s17 _ _ hg, glt, by omega, fun H8 s8 => ⟨by show 3 ≤ sizeLine; decide, fun r2 hr2 => ?_⟩⟩) <;>
            exact tail H8 r2 _ _ s8 hr2 rfl rfl
    · refine ifT (neT h2) ?_
      refine ⟨_, rfl, by show 1 ≤ sizeLine; decide, fun r2 hr2 => fail (-1) s1 ?_ r2 hr2⟩
      unfold stp
      rw [st_check, two_none sp h2]
      rfl
end
end Mx
set_option Elab.async false
set_option maxRecDepth 100000
set_option maxHeartbeats 4000000
namespace Mx
open PySem PySem.Spec PyProof.Rows L2 LamX
open Oc (C Axiom)
open Oc08 (Book)
abbrev sTk : Stmt := inClass (top 23) 15
def spTk (C : Addr) (T : List (Addr × Str)) : Sp := fun vs H Q _ => ∃ (s : Addr) (O : List Addr) (b : Book) (i : Nat), vs = [.ref s, .int (i : Nat)] ∧ SvAt C H s O b ∧ BookOk b ∧ Tabs T H ∧ Done C T s O H (stp b (.take i)) Q
theorem scTk : FnScope ["self", "number"] ["self", "number"] (defScope sTk) := ⟨rfl, rfl, rfl, by decide +kernel, rfl, by decide +kernel, by decide +kernel⟩
/-- a list without its item at i -/
def cut {α : Type} (i : Nat) (l : List α) : List α := l.take i ++ l.drop (i + 1)
theorem cut_map {α β : Type} (f : α → β) (i : Nat) (l : List α) : (l.map f).eraseIdx i = (cut i l).map f := by
  rw [List.eraseIdx_eq_take_drop_succ, cut, List.map_append, List.map_take, List.map_drop]
theorem cut_in {α β : Type} (f : α → β) (i : Nat) (l : List α) : (cut i l).map f = cut i (l.map f) := by
  rw [cut, cut, List.map_append, List.map_take, List.map_drop]
theorem cut_len {α : Type} {i : Nat} {l : List α} (h : i < l.length) : (cut i l).length = l.length - 1 := by
  rw [cut, List.length_append, List.length_take, List.length_drop]
  omega
theorem Al2.cut {β : Type} {R : Addr → β → Prop} {as : List Addr} {bs : List β} (h : Al2 R as bs) : ∀ i : Nat, Al2 R (Mx.cut i as) (Mx.cut i bs) := by
  induction h with
  | nil =>
    intro i
    simp only [Mx.cut, List.take_nil, List.drop_nil, List.append_nil]
    exact .nil
  | cons h t ih =>
    intro i
    match i with
    | 0 => exact t
    | i + 1 => exact .cons h (ih i)
section
variable {P : Program} {w : World} {K : PySem.W.Frag} {mg : Str → Option Value} {base : Heap} {C : Addr}
theorem ok_tk {f : Addr} {fd : FuncData} {Tb : List (Addr × Str)} (F : Fun K "take" "Service.take" sTk f fd) (T : SvTxt K mg C) (mLen : mg "len" = none) : FnOk P w K mg base CX0 1 f fd ["self", "number"] (spTk C Tb) := by
  obtain ⟨tA, cA⟩ := T.cA
  refine F.ok scTk (fun vs H Q E h => ?_) (fun cdv A outer s H vs Q E hr h => ?_)
  · obtain ⟨s, O, b, i, rfl, _⟩ := h
    rfl
  · refine ⟨_, pss_cons (ps_if (pt_cmpR op_ge (pv 1) (pe_callB call_len_seq (by rfl) mLen PySem.boot_len (pa_cons (pe_fld (pv 0) rfl) pa_nil)) (nomark _)) (pss_one (ps_ret (pe_lst (pa_cons (pe_un un_neg pe_int) pa_nil)))) pss_nil)
      (pss_cons (ps_if (pt_cmpR op_ge (pe_callB call_len_seq (by rfl) mLen PySem.boot_len (pa_cons (pe_fld (pv 0) rfl) pa_nil)) (pe_glob (v := .int 4) (by rfl) cA ⟨tA, rfl⟩) (nomark _)) (pss_one (ps_ret (pe_lst (pa_cons (pe_un un_neg pe_int) pa_nil)))) pss_nil)
      (pss_cons (ps_expr (pe_bm PySem.F.plainAttrs_list PySem.F.slot_list_append PySem.F.type_list_append mt_append (pe_fld (pv 0) rfl)
          (pa_cons (pe_bm PySem.F.plainAttrs_list PySem.F.slot_list_pop PySem.F.type_list_pop mt_popAt (pe_fld (pv 0) rfl) (pa_cons (pv 1) pa_nil)) pa_nil)))
      (pss_cons (ps_expr (pe_bm PySem.F.plainAttrs_list PySem.F.slot_list_pop PySem.F.type_list_pop mt_popAt (pe_fld (pv 0) rfl) (pa_cons (pv 1) pa_nil)))
      (pss_one (ps_ret (pe_lst (pa_cons (pe_callB call_len_seq (by rfl) mLen PySem.boot_len (pa_cons (pe_fld (pv 0) rfl) pa_nil)) pa_nil))))))), ?_⟩
    obtain ⟨p, O, b, i, rfl, hS, hok, hT, q⟩ := h
    have hS' := hS
    obtain ⟨dx, lx, lh, lp, lk, tx, th, tk, e0, e1, e2, e3, e4, e5, e6, e7, e8, e9⟩ := hS'
    have hax := hok.ax
    have hgs := hok.gs
    have l5 : th.length = b.guesses.length := e5.len.trans (List.length_map _)
    have l3 := e3.len
    have fail : ∀ (v : Int), stp b (.take i) = (⟨b⟩, [v]) → ∀ r2, H r2 = none → Q (.ref r2) (upd H r2 (.lst [.int v])) := fun v es r2 hr2 => by
      rw [es] at q
      exact q.ret hS hT rfl (Same.refl H) hr2
    refine ⟨_, rfl, _, rfl, p, C, dx, _, _, rfl, e1, T.cl, T.nH, sv_hyps, lh, _, rfl, .inl (SqL.of e4), _, _, rfl, rfl, _, rfl, ?_⟩
    rw [List.length_map, l5]
    by_cases hi : b.guesses.length ≤ i
    · refine ifT (show decide (((b.guesses.length : Nat) : Int) ≤ ((i : Nat) : Int)) = true by rw [decide_eq_true_eq]; omega) ⟨_, rfl, by show 1 ≤ sizeLine; decide, fun r2 hr2 => fail (-2) ?_ r2 hr2⟩
      unfold stp
      rw [st_take, List.getElem?_eq_none hi]
      rfl
    refine ifF (show decide (((b.guesses.length : Nat) : Int) ≤ ((i : Nat) : Int)) = false by rw [decide_eq_false_iff_not]; omega) ?_
    have hil : i < b.guesses.length := by omega
    obtain ⟨g, hg⟩ : ∃ g, b.guesses[i]? = some g := ⟨_, List.getElem?_eq_getElem hil⟩
    refine ⟨_, rfl, p, C, dx, _, _, rfl, e1, T.cl, T.nA, sv_axioms, lx, _, rfl, .inl (SqL.of e2), _, _, rfl, rfl, _, rfl, ?_⟩
    rw [List.length_map, l3]
    by_cases h4 : b.axioms.length = 4
    · refine ifT (show decide ((4 : Int) ≤ (b.axioms.length : Nat)) = true by rw [h4]; rfl) ⟨_, rfl, by show 1 ≤ sizeLine; decide, fun r2 hr2 => fail (-7) ?_ r2 hr2⟩
      unfold stp
      rw [st_take, hg]
      simp only [if_pos h4, out_ok]
    refine ifF (show decide ((4 : Int) ≤ (b.axioms.length : Nat)) = false by rw [decide_eq_false_iff_not]; omega) ?_
    have es : stp b (.take i) = (⟨⟨b.axioms ++ [g.2], cut i b.guesses, b.keep⟩⟩, [((b.guesses.length - 1 : Nat) : Int)]) := by
      unfold stp
      rw [st_take, hg]
      simp only [if_neg h4, out_ok]
      rfl
    rw [es] at q
    obtain ⟨t, ht, hat⟩ := e5.geta (i := i) (b := g.2) (by unfold hyps; rw [List.getElem?_map, hg]; rfl)
    have nd := e9
    simp only [List.nodup_cons, List.mem_cons, List.not_mem_nil, or_false, not_or] at nd
    obtain ⟨⟨n1, n2, n3⟩, ⟨n4, n5⟩, n6, _⟩ := nd
    refine ⟨_, rfl, p, C, dx, _, _, rfl, e1, T.cl, T.nA, sv_axioms, tyList e2, _, rfl, p, C, dx, _, _, rfl, e1, T.cl, T.nH, sv_hyps, tyList e4, _, rfl, ?_⟩
    refine ⟨lh, _, _, i, V.ref t, rfl, rfl, e4, by omega, by omega, ?_, by rw [List.getElem?_map, ht]; rfl, ?_⟩
    · have := seqIndex_of (k := (i : Int)) (n := (th.map V.ref).length) (by omega) (by rw [List.length_map, l5]; omega)
      rw [Int.toNat_natCast] at this
      exact this
    rw [cut_map]
    have k1 : KB lh H (upd H lh (.lst ((cut i th).map V.ref))) := (KB.refl lh H).at
    have x1 : (upd H lh (.lst ((cut i th).map V.ref))) lh = some (.lst ((cut i th).map V.ref)) := upd_same
    generalize (upd H lh (.lst ((cut i th).map V.ref))) = H1 at k1 x1
    have p1 : H1 p = some (.ins C dx (svF lx lh lp lk)) := k1 _ _ e1 fun y => by rw [y, e4] at e1; cases e1
    have a1 : H1 lx = some (.lst (tx.map V.ref)) := k1 _ _ e2 n1
    refine ⟨lx, _, _, rfl, rfl, a1, ?_, ?_⟩
    · rw [List.length_map]
      exact small_lt (by omega)
    have k2 : KB lx H1 (upd H1 lx (.lst (tx.map V.ref ++ [V.ref t]))) := (KB.refl lx H1).at
    have x2 : (upd H1 lx (.lst (tx.map V.ref ++ [V.ref t]))) lx = some (.lst (tx.map V.ref ++ [V.ref t])) := upd_same
    generalize (upd H1 lx (.lst (tx.map V.ref ++ [V.ref t]))) = H2 at k2 x2
    have p2 : H2 p = some (.ins C dx (svF lx lh lp lk)) := k2 _ _ p1 fun y => by rw [y, a1] at p1; cases p1
    have c2 : H2 lp = some (.lst (Nv (costs b))) := k2 _ _ (k1 _ _ e6 (Ne.symm n4)) (Ne.symm n2)
    have hcl : (costs b).length = b.guesses.length := List.length_map _
    refine ⟨_, rfl, p, C, dx, _, _, rfl, p2, T.cl, T.nR, sv_prices, tyList c2, _, rfl, ?_⟩
    refine ⟨lp, _, _, i, V.int (cost b i : Nat), rfl, rfl, c2, by omega, by omega, ?_, Nv_at (cost_at hil), ?_⟩
    · have := seqIndex_of (k := (i : Int)) (n := (Nv (costs b)).length) (by omega) (by rw [Nv_len, hcl]; omega)
      rw [Int.toNat_natCast] at this
      exact this
    have ec : (Nv (costs b)).eraseIdx i = Nv (cut i (costs b)) := cut_map _ i (costs b)
    rw [ec]
    have k3 : KB lp H2 (upd H2 lp (.lst (Nv (cut i (costs b))))) := (KB.refl lp H2).at
    have x3 : (upd H2 lp (.lst (Nv (cut i (costs b))))) lp = some (.lst (Nv (cut i (costs b)))) := upd_same
    generalize (upd H2 lp (.lst (Nv (cut i (costs b))))) = H3 at k3 x3
    have p3 : H3 p = some (.ins C dx (svF lx lh lp lk)) := k3 _ _ p2 fun y => by rw [y, c2] at p2; cases p2
    have a3 : H3 lx = some (.lst (tx.map V.ref ++ [V.ref t])) := k3 _ _ x2 n2
    have h3 : H3 lh = some (.lst ((cut i th).map V.ref)) := k3 _ _ (k2 _ _ x1 (Ne.symm n1)) n4
    have q3 : H3 lk = some (.lst (tk.map V.ref)) := k3 _ _ (k2 _ _ (k1 _ _ e7 (Ne.symm n5)) (Ne.symm n3)) (Ne.symm n6)
    have tups : ∀ b xs, H b = some (.tup xs) → H3 b = some (.tup xs) := fun b xs z =>
      k3 _ _ (k2 _ _ (k1 _ _ z fun y => by rw [y, e4] at z; cases z) fun y => by rw [y, e2] at z; cases z) fun y => by rw [y, e6] at z; cases z
    refine ⟨_, rfl, p, C, dx, _, _, rfl, p3, T.cl, T.nH, sv_hyps, lh, _, rfl, .inl (SqL.of h3), by show 1 ≤ sizeLine; decide, fun r2 hr2 => ?_⟩
    have s5 := same_upd (o := HO.lst [V.int ((((cut i th).map V.ref).length : Nat) : Int)]) hr2
    have tb3 : Tabs Tb H3 := tabs_lst (tabs_lst (tabs_lst hT k1 e4) k2 a1) k3 c2
    refine q _ r2 O (fun b o z nt nb => ?_) (tb3.ext s5) ⟨dx, lx, lh, lp, lk, tx ++ [t], cut i th, tk, e0, s5 _ _ p3, ?_, ?_, s5 _ _ h3, ?_, ?_, s5 _ _ q3, ?_, e9⟩ (fun _ h => .inl h) (fun o z => ?_) ?_
    · exact s5 _ _ (k3 _ _ (k2 _ _ (k1 _ _ z fun y => nb (by rw [y, e0]; simp)) fun y => nb (by rw [y, e0]; simp)) fun y => nb (by rw [y, e0]; simp))
    · rw [List.map_append]
      exact s5 _ _ a3
    · exact ((e3.imp fun _ _ h => h.keep tups).app (.cons (hat.keep tups) .nil)).imp fun _ _ h => h.same s5
    · show Al2 _ (cut i th) ((cut i b.guesses).map (·.2))
      rw [show (cut i b.guesses).map (·.2) = cut i (hyps b) from cut_in _ i _]
      exact ((e5.cut i).imp fun _ _ h => h.keep tups).imp fun _ _ h => h.same s5
    · show _ = some (HO.lst (Nv ((cut i b.guesses).map (·.1))))
      rw [show (cut i b.guesses).map (·.1) = cut i (costs b) from cut_in _ i _]
      exact s5 _ _ x3
    · exact (e8.keep tups).same s5
    · by_cases h : r2 = lp
      · rw [h, x3] at hr2; cases hr2
      by_cases h2 : r2 = lx
      · rw [h2, a3] at hr2; cases hr2
      by_cases h3' : r2 = lh
      · rw [h3', h3] at hr2; cases hr2
      · rw [k3 _ _ (k2 _ _ (k1 _ _ z h3') h2) h] at hr2; cases hr2
    · rw [upd_same, List.length_map, cut_len (by omega), l5]
      rfl
end
end Mx
set_option Elab.async false
set_option maxRecDepth 100000
set_option maxHeartbeats 2000000
/-! The calls, one behind another, as they lie in the numbers. -/
namespace Mx
/-- whole numbers without a sign as whole numbers -/
def Iv (ms : List Nat) : List Int := ms.map fun (n : Nat) => (n : Int)
theorem Iv_drop (ms : List Nat) (k : Nat) : (Iv ms).drop k = Iv (ms.drop k) := by rw [Iv, Iv, List.map_drop]
theorem Iv_take (ms : List Nat) (k : Nat) : (Iv ms).take k = Iv (ms.take k) := by rw [Iv, Iv, List.map_take]
theorem Iv_len (ms : List Nat) : (Iv ms).length = ms.length := by rw [Iv, List.length_map]
theorem nats_Iv (ms : List Nat) : Oc08Neutral.nats (Iv ms) = ms := by
  rw [Oc08Neutral.nats, Iv, List.map_map]
  exact (List.map_congr_left fun x _ => (show (Int.toNat ∘ fun (n : Nat) => (n : Int)) x = x from Int.toNat_natCast x)).trans (List.map_id' ms)
theorem Iv_V (ms : List Nat) : (Iv ms).map L2.V.int = Nv ms := by rw [Iv, List.map_map]; rfl
theorem row_Iv {l : List Nat} {x t : List Int} (h : PyFlat.row (Iv l) = some (x, t)) : ∃ n r, l = n :: r ∧ n ≤ r.length ∧ x = Iv (r.take n) ∧ t = Iv (r.drop n) := by
  match l, h with
  | n :: r, h =>
    have h : (if 0 ≤ ((n : Nat) : Int) ∧ ((n : Nat) : Int).toNat ≤ (Iv r).length then some ((Iv r).take ((n : Nat) : Int).toNat, (Iv r).drop ((n : Nat) : Int).toNat) else none) = some (x, t) := h
    rw [Int.toNat_natCast, Iv_len, Iv_take, Iv_drop] at h
    split at h
    · next c =>
      cases h
      exact ⟨n, r, rfl, c.2, rfl, rfl⟩
    · cases h
/-- the call that comes behind the first i numbers ends behind the first j -/
inductive Nx (ms : List Nat) (i : Nat) : List (List Int) → Nat → Prop where
  | bare (p : Nat) : p = 0 ∨ p = 7 → ms[i]? = some p → Nx ms i [[(p : Int)]] (i + 1)
  | row (p n : Nat) : p = 1 ∨ p = 3 ∨ p = 4 ∨ p = 5 → ms[i]? = some p → ms[i + 1]? = some n → i + 1 + 1 + n ≤ ms.length → Nx ms i [[(p : Int)], Iv ((ms.drop (i + 1 + 1)).take n)] (i + 1 + 1 + n)
  | priced (w n : Nat) : ms[i]? = some 2 → ms[i + 1]? = some w → ms[i + 1 + 1]? = some n → i + 1 + 1 + 1 + n ≤ ms.length → Nx ms i [[2, (w : Int)], Iv ((ms.drop (i + 1 + 1 + 1)).take n)] (i + 1 + 1 + 1 + n)
  | rows (n m : Nat) : ms[i]? = some 6 → ms[i + 1]? = some n → i + 1 + 1 + n ≤ ms.length → ms[i + 1 + 1 + n]? = some m → i + 1 + 1 + n + 1 + m ≤ ms.length →
      Nx ms i [[6], Iv ((ms.drop (i + 1 + 1)).take n), Iv ((ms.drop (i + 1 + 1 + n + 1)).take m)] (i + 1 + 1 + n + 1 + m)
  | one (k : Nat) : ms[i]? = some 8 → ms[i + 1]? = some k → Nx ms i [[8, (k : Int)]] (i + 1 + 1)
theorem at_drop {ms l : List Nat} {i n : Nat} (h : ms.drop i = n :: l) : ms[i]? = some n ∧ ms.drop (i + 1) = l ∧ i < ms.length := by
  have h0 : (ms.drop i)[0]? = some n := by rw [h]; rfl
  rw [List.getElem?_drop, Nat.add_zero] at h0
  refine ⟨h0, ?_, (List.getElem?_eq_some_iff.mp h0).1⟩
  rw [← List.drop_drop, h]
  rfl
def shapeN : Nat → Option (Nat × Nat)
  | 0 => some (0, 0)
  | 1 => some (0, 1)
  | 2 => some (1, 1)
  | 3 => some (0, 1)
  | 4 => some (0, 1)
  | 5 => some (0, 1)
  | 6 => some (0, 2)
  | 7 => some (0, 0)
  | 8 => some (1, 0)
  | _ => none
theorem shape_nat (n : Nat) : PyOc08.shape (n : Int) = shapeN n := by
  match n with
  | 0 | 1 | 2 | 3 | 4 | 5 | 6 | 7 | 8 => rfl
  | n + 9 =>
    unfold PyOc08.shape
    have h : ∀ k : Int, k < 9 → ¬ (((n + 9 : Nat) : Int) = k) := fun k hk => by omega
    simp only [if_neg (h 0 (by decide)), if_neg (h 1 (by decide)), if_neg (h 2 (by decide)), if_neg (h 3 (by decide)), if_neg (h 4 (by decide)), if_neg (h 5 (by decide)), if_neg (h 6 (by decide)), if_neg (h 7 (by decide)), if_neg (h 8 (by decide))]
    rfl
theorem rows_one {l : List Int} {xs : List (List Int)} {t : List Int} (h : PyFlat.rows 1 l = some (xs, t)) : ∃ x, xs = [x] ∧ PyFlat.row l = some (x, t) := by
  unfold PyFlat.rows at h
  cases e : PyFlat.row l with
  | none =>
    rw [e] at h
    cases h
  | some xt =>
    obtain ⟨x, s⟩ := xt
    rw [e] at h
    cases h
    exact ⟨x, rfl, rfl⟩
theorem rows_two {l : List Int} {xs : List (List Int)} {t : List Int} (h : PyFlat.rows 2 l = some (xs, t)) : ∃ x y s, xs = [x, y] ∧ PyFlat.row l = some (x, s) ∧ PyFlat.row s = some (y, t) := by
  unfold PyFlat.rows at h
  cases e : PyFlat.row l with
  | none =>
    rw [e] at h
    cases h
  | some xt =>
    obtain ⟨x, s⟩ := xt
    rw [e] at h
    simp only at h
    cases e2 : PyFlat.rows 1 s with
    | none =>
      rw [e2] at h
      cases h
    | some yt =>
      obtain ⟨ys, u⟩ := yt
      rw [e2] at h
      cases h
      obtain ⟨y, rfl, e3⟩ := rows_one e2
      exact ⟨x, y, s, rfl, rfl, e3⟩
theorem row_drop {ms l : List Nat} {i : Nat} {x t : List Int} (hl : ms.drop i = l) (hi : i ≤ ms.length) (h : PyFlat.row (Iv l) = some (x, t)) : ∃ n, ms[i]? = some n ∧ i + 1 + n ≤ ms.length ∧ x = Iv ((ms.drop (i + 1)).take n) ∧ t = Iv (ms.drop (i + 1 + n)) := by
  obtain ⟨n, r, rfl, hn, rfl, rfl⟩ := row_Iv h
  obtain ⟨e1, rfl, e3⟩ := at_drop hl
  rw [List.length_drop] at hn
  exact ⟨n, e1, by omega, rfl, by rw [List.drop_drop]⟩
theorem nx_of {ms : List Nat} {i : Nat} {c : List (List Int)} {t : List Int} (h : PyFlat.call PyOc08.shape (Iv (ms.drop i)) = some (c, t)) : ∃ j, Nx ms i c j ∧ t = Iv (ms.drop j) ∧ i < j ∧ j ≤ ms.length := by
  cases hd : ms.drop i with
  | nil =>
    rw [hd] at h
    cases h
  | cons p l =>
    rw [hd] at h
    obtain ⟨e1, e2, e3⟩ := at_drop hd
    have h : (match PyOc08.shape ((p : Nat) : Int) with
      | none => none
      | some (n, k) => if (Iv l).length < n then none else match PyFlat.rows k ((Iv l).drop n) with
        | none => none
        | some (xs, t) => some ((((p : Nat) : Int) :: (Iv l).take n) :: xs, t)) = some (c, t) := h
    rw [shape_nat] at h
    have bare : (p = 0 ∨ p = 7) → shapeN p = some (0, 0) → ∃ j, Nx ms i c j ∧ t = Iv (ms.drop j) ∧ i < j ∧ j ≤ ms.length := fun hp e => by
      rw [e] at h
      simp only [Nat.not_lt_zero, if_false, List.drop_zero, List.take_zero] at h
      cases h
      exact ⟨i + 1, .bare p hp e1, by rw [e2], by omega, by omega⟩
    have row : (p = 1 ∨ p = 3 ∨ p = 4 ∨ p = 5) → shapeN p = some (0, 1) → ∃ j, Nx ms i c j ∧ t = Iv (ms.drop j) ∧ i < j ∧ j ≤ ms.length := fun hp e => by
      rw [e] at h
      simp only [Nat.not_lt_zero, if_false, List.drop_zero, List.take_zero] at h
      cases er : PyFlat.rows 1 (Iv l) with
      | none =>
        rw [er] at h
        cases h
      | some xt =>
        obtain ⟨xs, u⟩ := xt
        rw [er] at h
        cases h
        obtain ⟨x, rfl, eq⟩ := rows_one er
        obtain ⟨n, f1, f2, rfl, rfl⟩ := row_drop e2 (by omega) eq
        exact ⟨_, .row p n hp e1 f1 f2, rfl, by omega, f2⟩
    match p, hd, e1, h, bare, row with
    | 0, _, _, _, bare, _ => exact bare (.inl rfl) rfl
    | 7, _, _, _, bare, _ => exact bare (.inr rfl) rfl
    | 1, _, _, _, _, row => exact row (by simp) rfl
    | 3, _, _, _, _, row => exact row (by simp) rfl
    | 4, _, _, _, _, row => exact row (by simp) rfl
    | 5, _, _, _, _, row => exact row (by simp) rfl
    | 2, _, e1, h, _, _ =>
      simp only [shapeN] at h
      split at h
      · cases h
      · next hl =>
        cases l with
        | nil => simp [Iv] at hl
        | cons w l2 =>
          obtain ⟨g1, g2, g3⟩ := at_drop e2
          have h : (match PyFlat.rows 1 (Iv l2) with
            | none => none
            | some (xs, t) => some ([((2 : Nat) : Int), ((w : Nat) : Int)] :: xs, t)) = some (c, t) := h
          cases er : PyFlat.rows 1 (Iv l2) with
          | none =>
            rw [er] at h
            cases h
          | some xt =>
            obtain ⟨xs, u⟩ := xt
            rw [er] at h
            cases h
            obtain ⟨x, rfl, eq⟩ := rows_one er
            obtain ⟨n, f1, f2, rfl, rfl⟩ := row_drop g2 (by omega) eq
            exact ⟨_, .priced w n e1 g1 f1 f2, rfl, by omega, f2⟩
    | 6, _, e1, h, _, _ =>
      simp only [shapeN, Nat.not_lt_zero, if_false, List.drop_zero, List.take_zero] at h
      cases er : PyFlat.rows 2 (Iv l) with
      | none =>
        rw [er] at h
        cases h
      | some xt =>
        obtain ⟨xs, u⟩ := xt
        rw [er] at h
        cases h
        obtain ⟨x, y, s, rfl, eq, er2⟩ := rows_two er
        obtain ⟨n, f1, f2, rfl, rfl⟩ := row_drop e2 (by omega) eq
        obtain ⟨m, k1, k2, rfl, rfl⟩ := row_drop rfl f2 er2
        exact ⟨_, .rows n m e1 f1 f2 k1 k2, rfl, by omega, k2⟩
    | 8, _, e1, h, _, _ =>
      simp only [shapeN] at h
      split at h
      · cases h
      · next hl =>
        cases l with
        | nil => simp [Iv] at hl
        | cons w l2 =>
          obtain ⟨g1, g2, g3⟩ := at_drop e2
          have h : some ([[((8 : Nat) : Int), ((w : Nat) : Int)]], Iv l2) = some (c, t) := h
          cases h
          exact ⟨_, .one w e1 g1, by rw [g2], by omega, by omega⟩
    | p + 9, _, _, h, _, _ => cases h
end Mx
set_option Elab.async false
set_option maxRecDepth 100000
set_option maxHeartbeats 4000000
namespace Mx
open PySem PySem.Spec PyProof.Rows L2 LamX
open Oc08 (Book)
/-- a list that never changes -/
def FzL (K : PySem.W.Frag) (H : Hp) (a : Addr) (xs : List V) : Prop := (∃ o, H a = some (.frz o (.lst xs))) ∨ SqL K (fun _ => none) a xs
theorem FzL.sq {K : PySem.W.Frag} {H : Hp} {a : Addr} {xs : List V} (h : FzL K H a xs) : SqL K H a xs := by
  rcases h with h | (h | ⟨_, h⟩) | h
  · exact .inl (.inr h)
  · cases h
  · cases h
  · exact .inr h
theorem FzL.keep {K : PySem.W.Frag} {H H' : Hp} {a : Addr} {xs : List V} (h : FzL K H a xs) (k : ∀ o u, H a = some (.frz o u) → H' a = some (.frz o u)) : FzL K H' a xs := by
  rcases h with ⟨o, e⟩ | e
  · exact .inl ⟨o, k _ _ e⟩
  · exact .inr e
theorem FzL.kb {K : PySem.W.Frag} {H H' : Hp} {a p c dx : Addr} {fs : List (Str × V)} {xs : List V} (h : FzL K H a xs) (k : KB p H H') (hp : H p = some (.ins c dx fs)) : FzL K H' a xs := h.keep fun o u e => k _ _ e fun z => by rw [z, hp] at e; cases e
theorem SvAt.kb {C : Addr} {H H' : Hp} {s p c dx : Addr} {fs : List (Str × V)} {O : List Addr} {b : Book} (h : SvAt C H s O b) (k : KB p H H') (hp : H p = some (.ins c dx fs)) (n : p ∉ O) : SvAt C H' s O b := by
  obtain ⟨dx, lx, lh, lp, lk, tx, th, tk, e0, e1, e2, e3, e4, e5, e6, e7, e8, e9⟩ := h
  have no : ∀ z ∈ O, z ≠ p := fun z hz e => n (e ▸ hz)
  have tups : ∀ b xs, H b = some (.tup xs) → H' b = some (.tup xs) := k.tup hp
  exact ⟨dx, lx, lh, lp, lk, tx, th, tk, e0, k _ _ e1 (no _ (by rw [e0]; simp)), k.lst hp e2, e3.imp fun _ _ h => h.keep tups, k.lst hp e4, e5.imp fun _ _ h => h.keep tups, k.lst hp e6, k.lst hp e7, e8.keep tups, e9⟩
theorem SvAt.ins {C : Addr} {H : Hp} {s : Addr} {O : List Addr} {b : Book} (h : SvAt C H s O b) : ∃ (dx lx lh lp lk : Addr), H s = some (.ins C dx (svF lx lh lp lk)) := by
  obtain ⟨dx, lx, lh, lp, lk, tx, th, tk, e0, e1, _⟩ := h
  exact ⟨dx, lx, lh, lp, lk, e1⟩
theorem KB.trans {p : Addr} {H H1 H2 : Hp} (x : KB p H H1) (y : KB p H1 H2) : KB p H H2 := fun b o e n => y b o (x b o e n) n
theorem SvAt.fz {C : Addr} {H : Hp} {s a : Addr} {O : List Addr} {b : Book} {o : Obj} {u : HO} (h : SvAt C H s O b) (e : H a = some (.frz o u)) : a ∉ O := by
  obtain ⟨dx, lx, lh, lp, lk, tx, th, tk, e0, e1, e2, _, e4, _, e6, e7, _⟩ := h
  intro ha
  rw [e0] at ha
  simp only [List.mem_cons, List.not_mem_nil, or_false] at ha
  rcases ha with rfl | rfl | rfl | rfl | rfl
  · rw [e1] at e; cases e
  · rw [e2] at e; cases e
  · rw [e4] at e; cases e
  · rw [e6] at e; cases e
  · rw [e7] at e; cases e
/-- what one call leaves: the reader behind the first j numbers, the service as the specification's step says -/
def Comes (K : PySem.W.Frag) (C Cr : Addr) (T : List (Addr × Str)) (s r a : Addr) (ms : List Nat) (O : List Addr) (j : Nat) (H : Hp) (x : Oc08.House × List Int) (Q : VK) : Prop :=
  ∀ (H' : Hp) (q : Addr) (O' : List Addr), FrO (r :: O) H H' → Tabs T H' → SvAt C H' s O' x.1.book → (∀ z ∈ O', z ∈ O ∨ H z = none) → RdAt K Cr H' r a ms j → NewN H q → H' q = some (.lst (x.2.map V.int)) → Q (.ref q) H'
theorem Comes.done {K : PySem.W.Frag} {C Cr : Addr} {T : List (Addr × Str)} {s r a : Addr} {ms : List Nat} {O : List Addr} {j : Nat} {H H2 : Hp} {x : Oc08.House × List Int} {Q : VK}
    {b : Book} (h : Comes K C Cr T s r a ms O j H x Q) (hS : SvAt C H2 s O b) (k : KB r H H2) (n : r ∉ O) (hF : FzL K H2 a (Nv ms)) (hR : RdAt K Cr H2 r a ms j) : Done C T s O H2 x Q := fun H' q O' fr tb sv own new hq => by
  obtain ⟨dr, e1, e2⟩ := hR
  have fz : FzL K H' a (Nv ms) := hF.keep fun o u e => fr _ _ e (fun _ z => by cases z) (hS.fz e)
  refine h H' q O' (fun z o e nt hz => ?_) tb sv (fun z hz => ?_) ⟨dr, fr _ _ e1 (fun _ z => by cases z) n, fz.sq⟩ (fun o z => ?_) hq
  rotate_left 2
  · by_cases hqr : q = r
    · obtain ⟨ps, e⟩ := new _ (hqr ▸ e1)
      cases e
    · exact new o (k _ _ z hqr)
  · simp only [List.mem_cons, not_or] at hz
    exact fr _ _ (k _ _ e hz.1) nt hz.2
  · rcases own z hz with h1 | h1
    · exact .inl h1
    · refine .inr ?_
      cases e : H z with
      | none => rfl
      | some o =>
        by_cases hzr : z = r
        · rw [hzr, e1] at h1
          cases h1
        · rw [k _ _ e hzr] at h1
          cases h1
abbrev sAc : Stmt := top 27
def spAc (K : PySem.W.Frag) (C Cr : Addr) (T : List (Addr × Str)) : Sp := fun vs H Q _ => ∃ (s r a : Addr) (O : List Addr) (b : Book) (ms : List Nat) (i j : Nat) (c : List (List Int)), vs = [.ref s, .ref r] ∧ SvAt C H s O b ∧ BookOk b ∧ Tabs T H ∧
  RdAt K Cr H r a ms i ∧ FzL K H a (Nv ms) ∧ r ∉ O ∧ Nx ms i c j ∧ Oc08Neutral.asked1 c = true ∧ Comes K C Cr T s r a ms O j H (Oc08Neutral.step ⟨b⟩ c) Q
theorem scAc : FnScope ["target", "reader", "call", "price", "chosen"] ["target", "reader"] (defScope sAc) := ⟨rfl, rfl, rfl, by decide +kernel, rfl, by decide +kernel, by decide +kernel⟩
theorem row32_len {l : List Nat} (h : Oc08Neutral.row32 (Iv l) 30 = true) : l.length ≤ 30 := by
  unfold Oc08Neutral.row32 at h
  rw [Bool.and_eq_true, decide_eq_true_eq, Iv_len] at h
  exact h.1
theorem asked2 {w : Int} {l : List Nat} (h : Oc08Neutral.asked1 [[2, w], Iv l] = true) : l.length ≤ 30 := by
  have h : (Oc08Neutral.whole32 w && Oc08Neutral.row32 (Iv l) 30) = true := h
  rw [Bool.and_eq_true] at h
  exact row32_len h.2
theorem asked_row {p : Nat} {l : List Nat} (hp : p = 1 ∨ p = 3 ∨ p = 4 ∨ p = 5) (h : Oc08Neutral.asked1 [[(p : Int)], Iv l] = true) : l.length ≤ 30 := by
  rcases hp with rfl | rfl | rfl | rfl <;> exact row32_len h
theorem step1 (b : Book) (l : List Nat) : Oc08Neutral.step ⟨b⟩ [[((1 : Nat) : Int)], Iv l] = stp b (.line l) := by
  show stp b (.line (Oc08Neutral.nats (Iv l))) = _
  rw [nats_Iv]
theorem step2 (b : Book) (w : Nat) (l : List Nat) : Oc08Neutral.step ⟨b⟩ [[2, ((w : Nat) : Int)], Iv l] = stp b (.guess w l) := by
  show stp b (.guess ((w : Nat) : Int).toNat (Oc08Neutral.nats (Iv l))) = _
  rw [nats_Iv, Int.toNat_natCast]
theorem step3 (b : Book) (l : List Nat) : Oc08Neutral.step ⟨b⟩ [[((3 : Nat) : Int)], Iv l] = stp b (.keep l) := by
  show stp b (.keep (Oc08Neutral.nats (Iv l))) = _
  rw [nats_Iv]
theorem step4 (b : Book) (l : List Nat) : Oc08Neutral.step ⟨b⟩ [[((4 : Nat) : Int)], Iv l] = stp b (.answers l) := by
  show stp b (.answers (Oc08Neutral.nats (Iv l))) = _
  rw [nats_Iv]
theorem step5 (b : Book) (l : List Nat) : Oc08Neutral.step ⟨b⟩ [[((5 : Nat) : Int)], Iv l] = stp b (.cheapest l) := by
  show stp b (.cheapest (Oc08Neutral.nats (Iv l))) = _
  rw [nats_Iv]
theorem step6 (b : Book) (g l : List Nat) : Oc08Neutral.step ⟨b⟩ [[6], Iv g, Iv l] = stp b (.check g l) := by
  show stp b (.check (Oc08Neutral.nats (Iv g)) (Oc08Neutral.nats (Iv l))) = _
  rw [nats_Iv, nats_Iv]
theorem step7 (b : Book) : Oc08Neutral.step ⟨b⟩ [[((7 : Nat) : Int)]] = stp b .greatest := rfl
theorem step8 (b : Book) (k : Nat) : Oc08Neutral.step ⟨b⟩ [[8, ((k : Nat) : Int)]] = stp b (.take k) := by
  show stp b (.take ((k : Nat) : Int).toNat) = _
  rw [Int.toNat_natCast]
theorem asked6 {g l : List Nat} (h : Oc08Neutral.asked1 [[6], Iv g, Iv l] = true) : l.length ≤ 30 := by
  have h : (Oc08Neutral.row32 (Iv g) 30 && Oc08Neutral.row32 (Iv l) 30) = true := h
  rw [Bool.and_eq_true] at h
  exact row32_len h.2
theorem eqT {n k : Nat} (h : n = k) : decide (V.int ((n : Nat) : Int) = V.int ((k : Nat) : Int)) = true := by rw [h]; exact vT
theorem eqF {n k : Nat} (h : n ≠ k) : decide (V.int ((n : Nat) : Int) = V.int ((k : Nat) : Int)) = false := vF (by omega)
section
variable {P : Program} {w : World} {K : PySem.W.Frag} {mg : Str → Option Value} {base : Heap} {C Cr : Addr}
theorem ok_ac {f : Addr} {fd : FuncData} {Tb : List (Addr × Str)} (F : Fun K "apply_call" "apply_call" sAc f fd) (T : SvTxt K mg C) (Tr : RdTxt K Cr)
    (cNu : MCalled P w K mg base Cr "number" 1 ["self"] (spNu K Cr)) (cRo : MCalled P w K mg base Cr "row" 2 ["self"] (spRo K Cr)) (cBe : MCalled P w K mg base C "begins" 1 ["self"] (spBe C Tb))
    (cLi : MCalled P w K mg base C "line" 5 ["self", "numbers"] (spLi C Tb)) (cGu : MCalled P w K mg base C "guess" 5 ["self", "price", "numbers"] (spGu C Tb)) (cKe : MCalled P w K mg base C "keep" 5 ["self", "numbers"] (spKe C Tb))
    (cAn : MCalled P w K mg base C "answers_of" 11 ["self", "numbers"] (spAn C Tb)) (cCh : MCalled P w K mg base C "cheapest" 11 ["self", "numbers"] (spCh C Tb)) (cCk : MCalled P w K mg base C "check" 10 ["self", "chosen", "numbers"] (spCk C Tb))
    (cGr : MCalled P w K mg base C "greatest" 10 ["self"] (spGr C Tb)) (cTk : MCalled P w K mg base C "take" 1 ["self", "number"] (spTk C Tb)) : FnOk P w K mg base CX0 12 f fd ["target", "reader"] (spAc K C Cr Tb) := by
  refine F.ok scAc (fun vs H Q E h => ?_) (fun cdv A outer s H vs Q E hr h => ?_)
  · obtain ⟨s, r, a, O, b, ms, i, j, c, rfl, _⟩ := h
    rfl
  · refine ⟨_, pss_cons (ps_set (i := 2) scAc.nd rfl (Or.inl rfl) (pe_cm0 (pv 1) Tr.cl cNu (hr.mono (by decide))))
      (pss_cons (ps_if (pt_cmpR op_eq (pv 2) pe_int (nomark _)) (pss_one (ps_ret (pe_cm0 (pv 0) T.cl cBe (hr.mono (by decide))))) pss_nil)
      (pss_cons (ps_if (pt_cmpR op_eq (pv 2) pe_int (nomark _)) (pss_one (ps_ret (pe_cm (pv 0) T.cl cLi (hr.mono (by decide)) (pa_cons (pe_cm0 (pv 1) Tr.cl cRo (hr.mono (by decide))) pa_nil)))) pss_nil)
      (pss_cons (ps_if (pt_cmpR op_eq (pv 2) pe_int (nomark _)) (pss_cons (ps_set (i := 3) scAc.nd rfl (Or.inl rfl) (pe_cm0 (pv 1) Tr.cl cNu (hr.mono (by decide))))
          (pss_one (ps_ret (pe_cm (pv 0) T.cl cGu (hr.mono (by decide)) (pa_cons (pv 3) (pa_cons (pe_cm0 (pv 1) Tr.cl cRo (hr.mono (by decide))) pa_nil)))))) pss_nil)
      (pss_cons (ps_if (pt_cmpR op_eq (pv 2) pe_int (nomark _)) (pss_one (ps_ret (pe_cm (pv 0) T.cl cKe (hr.mono (by decide)) (pa_cons (pe_cm0 (pv 1) Tr.cl cRo (hr.mono (by decide))) pa_nil)))) pss_nil)
      (pss_cons (ps_if (pt_cmpR op_eq (pv 2) pe_int (nomark _)) (pss_one (ps_ret (pe_cm (pv 0) T.cl cAn hr (pa_cons (pe_cm0 (pv 1) Tr.cl cRo (hr.mono (by decide))) pa_nil)))) pss_nil)
      (pss_cons (ps_if (pt_cmpR op_eq (pv 2) pe_int (nomark _)) (pss_one (ps_ret (pe_cm (pv 0) T.cl cCh hr (pa_cons (pe_cm0 (pv 1) Tr.cl cRo (hr.mono (by decide))) pa_nil)))) pss_nil)
      (pss_cons (ps_if (pt_cmpR op_eq (pv 2) pe_int (nomark _)) (pss_cons (ps_set (i := 4) scAc.nd rfl (Or.inl rfl) (pe_cm0 (pv 1) Tr.cl cRo (hr.mono (by decide))))
          (pss_one (ps_ret (pe_cm (pv 0) T.cl cCk (hr.mono (by decide)) (pa_cons (pv 4) (pa_cons (pe_cm0 (pv 1) Tr.cl cRo (hr.mono (by decide))) pa_nil)))))) pss_nil)
      (pss_cons (ps_if (pt_cmpR op_eq (pv 2) pe_int (nomark _)) (pss_one (ps_ret (pe_cm0 (pv 0) T.cl cGr (hr.mono (by decide))))) pss_nil)
      (pss_cons (ps_if (pt_cmpR op_eq (pv 2) pe_int (nomark _)) (pss_one (ps_ret (pe_cm (pv 0) T.cl cTk (hr.mono (by decide)) (pa_cons (pe_cm0 (pv 1) Tr.cl cNu (hr.mono (by decide))) pa_nil)))) pss_nil)
      (pss_one ps_never)))))))))), ?_⟩
    obtain ⟨s, r, a, O, b, ms, i, j, c, rfl, hS, hok, hT, hR, hF, hn, hx, hasked, q⟩ := h
    have hR' := hR
    obtain ⟨dr, r1, r2⟩ := hR
    obtain ⟨p, hp⟩ : ∃ p, ms[i]? = some p := by
      cases hx with
      | bare p _ h => exact ⟨p, h⟩
      | row p n _ h => exact ⟨p, h⟩
      | priced w n h => exact ⟨2, h⟩
      | rows n m h => exact ⟨6, h⟩
      | one k h => exact ⟨8, h⟩
    refine ⟨_, rfl, r, dr, _, rfl, r1, rdF_no (by decide +kernel) (by decide +kernel), r, a, ms, i, p, rfl, hR', hp, fun H1 hR1 k1 => ?_⟩
    have hS1 := hS.kb k1 r1 hn
    have hF1 := hF.kb k1 r1
    have hT1 := tabs_ins hT k1 r1
    have hR1' := hR1
    obtain ⟨dr1, r11, r12⟩ := hR1
    obtain ⟨dx, lx, lh, lp, lk, s1⟩ := hS1.ins
    refine ⟨_, rfl, rfl, _, rfl, ?_⟩
    cases hx with
    | bare p' h01 h =>
      obtain rfl : p = p' := Option.some.inj (hp.symm.trans h)
      rcases h01 with rfl | rfl
      · refine ifT (eqT rfl) ?_
        refine ⟨_, rfl, s, dx, _, rfl, s1, sv_no (by decide +kernel) (by decide +kernel) (by decide +kernel) (by decide +kernel), ?_⟩
        exact ⟨s, O, b, rfl, hS1, hT1, q.done hS1 k1 hn hF1 hR1'⟩
      · rw [step7] at q
        refine ifF (eqF (by decide)) ⟨_, rfl, rfl, _, rfl, ?_⟩
        refine ifF (eqF (by decide)) ⟨_, rfl, rfl, _, rfl, ?_⟩
        refine ifF (eqF (by decide)) ⟨_, rfl, rfl, _, rfl, ?_⟩
        refine ifF (eqF (by decide)) ⟨_, rfl, rfl, _, rfl, ?_⟩
        refine ifF (eqF (by decide)) ⟨_, rfl, rfl, _, rfl, ?_⟩
        refine ifF (eqF (by decide)) ⟨_, rfl, rfl, _, rfl, ?_⟩
        refine ifF (eqF (by decide)) ⟨_, rfl, rfl, _, rfl, ?_⟩
        refine ifT (eqT rfl) ?_
        refine ⟨_, rfl, s, dx, _, rfl, s1, sv_no (by decide +kernel) (by decide +kernel) (by decide +kernel) (by decide +kernel), ?_⟩
        exact ⟨s, O, b, rfl, hS1, hok, hT1, q.done hS1 k1 hn hF1 hR1'⟩
    | one k h hk =>
      obtain rfl : p = 8 := Option.some.inj (hp.symm.trans h)
      refine ifF (eqF (by decide)) ⟨_, rfl, rfl, _, rfl, ?_⟩
      refine ifF (eqF (by decide)) ⟨_, rfl, rfl, _, rfl, ?_⟩
      refine ifF (eqF (by decide)) ⟨_, rfl, rfl, _, rfl, ?_⟩
      refine ifF (eqF (by decide)) ⟨_, rfl, rfl, _, rfl, ?_⟩
      refine ifF (eqF (by decide)) ⟨_, rfl, rfl, _, rfl, ?_⟩
      refine ifF (eqF (by decide)) ⟨_, rfl, rfl, _, rfl, ?_⟩
      refine ifF (eqF (by decide)) ⟨_, rfl, rfl, _, rfl, ?_⟩
      refine ifF (eqF (by decide)) ⟨_, rfl, rfl, _, rfl, ?_⟩
      refine ifT (eqT rfl) ?_
      refine ⟨_, rfl, s, dx, _, rfl, s1, sv_no (by decide +kernel) (by decide +kernel) (by decide +kernel) (by decide +kernel), _, rfl, r, dr1, _, rfl, r11, rdF_no (by decide +kernel) (by decide +kernel), r, a, ms, i + 1, k, rfl, hR1', hk, fun H2 hR2 k2 => ?_⟩
      have k02 := k1.trans k2
      have hS2 := hS.kb k02 r1 hn
      rw [step8] at q
      exact ⟨s, O, b, k, rfl, hS2, hok, tabs_ins hT k02 r1, q.done hS2 k02 hn (hF.kb k02 r1) hR2⟩
    | rows n m h hn2 hle hm hle2 =>
      obtain rfl : p = 6 := Option.some.inj (hp.symm.trans h)
      refine ifF (eqF (by decide)) ⟨_, rfl, rfl, _, rfl, ?_⟩
      refine ifF (eqF (by decide)) ⟨_, rfl, rfl, _, rfl, ?_⟩
      refine ifF (eqF (by decide)) ⟨_, rfl, rfl, _, rfl, ?_⟩
      refine ifF (eqF (by decide)) ⟨_, rfl, rfl, _, rfl, ?_⟩
      refine ifF (eqF (by decide)) ⟨_, rfl, rfl, _, rfl, ?_⟩
      refine ifF (eqF (by decide)) ⟨_, rfl, rfl, _, rfl, ?_⟩
      refine ifT (eqT rfl) ?_
      refine ⟨_, rfl, r, dr1, _, rfl, r11, rdF_no (by decide +kernel) (by decide +kernel), r, a, ms, i + 1, n, rfl, hR1', hn2, hle, fun H2 r2 hR2 k2 ne2 _ hl2 => ?_⟩
      have hS2 := hS1.kb k2 r11 hn
      obtain ⟨dx2, lx2, lh2, lp2, lk2, s2⟩ := hS2.ins
      have hR2' := hR2
      obtain ⟨dr2, r21, r22⟩ := hR2
      refine ⟨_, rfl, s, dx2, _, rfl, s2, sv_no (by decide +kernel) (by decide +kernel) (by decide +kernel) (by decide +kernel), _, rfl, _, rfl, r, dr2, _, rfl, r21, rdF_no (by decide +kernel) (by decide +kernel), ?_⟩
      refine ⟨r, a, ms, i + 1 + 1 + n, m, rfl, hR2', hm, hle2, fun H3 r3 hR3 k3 _ _ hl3 => ?_⟩
      have k03 := (k1.trans k2).trans k3
      have hS3 := hS.kb k03 r1 hn
      rw [step6] at q
      exact ⟨s, r2, r3, O, b, _, _, rfl, hS3, hok, tabs_ins hT k03 r1, k3 _ _ hl2 ne2, hl3, asked6 hasked, q.done hS3 k03 hn (hF.kb k03 r1) hR3⟩
    | priced w n h hw hn2 hle =>
      obtain rfl : p = 2 := Option.some.inj (hp.symm.trans h)
      refine ifF (eqF (by decide)) ⟨_, rfl, rfl, _, rfl, ?_⟩
      refine ifF (eqF (by decide)) ⟨_, rfl, rfl, _, rfl, ?_⟩
      refine ifT (eqT rfl) ?_
      refine ⟨_, rfl, r, dr1, _, rfl, r11, rdF_no (by decide +kernel) (by decide +kernel), r, a, ms, i + 1, w, rfl, hR1', hw, fun H2 hR2 k2 => ?_⟩
      have hS2 := hS1.kb k2 r11 hn
      obtain ⟨dx2, lx2, lh2, lp2, lk2, s2⟩ := hS2.ins
      have hR2' := hR2
      obtain ⟨dr2, r21, r22⟩ := hR2
      refine ⟨_, rfl, s, dx2, _, rfl, s2, sv_no (by decide +kernel) (by decide +kernel) (by decide +kernel) (by decide +kernel), _, rfl, _, rfl, r, dr2, _, rfl, r21, rdF_no (by decide +kernel) (by decide +kernel), ?_⟩
      refine ⟨r, a, ms, i + 1 + 1, n, rfl, hR2', hn2, hle, fun H3 r3 hR3 k3 _ _ hl3 => ?_⟩
      have k03 := (k1.trans k2).trans k3
      have hS3 := hS.kb k03 r1 hn
      rw [step2] at q
      have hrow : ((ms.drop (i + 1 + 1 + 1)).take n).length ≤ 30 := asked2 hasked
      exact ⟨s, r3, O, b, w, _, rfl, hS3, hok, tabs_ins hT k03 r1, hl3, hrow, q.done hS3 k03 hn (hF.kb k03 r1) hR3⟩
    | row p' n hpp h hn2 hle =>
      obtain rfl : p = p' := Option.some.inj (hp.symm.trans h)
      have hrow := asked_row hpp hasked
      have sn : ∀ m : Str, (m == ("axioms" : Str)) = false → (m == ("hypotheses" : Str)) = false → (m == ("prices" : Str)) = false → (m == ("protected" : Str)) = false → (svF lx lh lp lk).lookup m = none := fun m h1 h2 h3 h4 => sv_no h1 h2 h3 h4
      have rn : (rdF a (i + 1)).lookup ("row" : Str) = none := rdF_no (by decide +kernel) (by decide +kernel)
      rcases hpp with rfl | rfl | rfl | rfl
      · refine ifF (eqF (by decide)) ⟨_, rfl, rfl, _, rfl, ?_⟩
        refine ifT (eqT rfl) ?_
        refine ⟨_, rfl, s, dx, _, rfl, s1, sn _ (by decide +kernel) (by decide +kernel) (by decide +kernel) (by decide +kernel), _, rfl, r, dr1, _, rfl, r11, rn, r, a, ms, i + 1, n, rfl, hR1', hn2, hle, fun H3 r3 hR3 k3 _ _ hl3 => ?_⟩
        have k03 := k1.trans k3
        have hS3 := hS.kb k03 r1 hn
        rw [step1] at q
        exact ⟨s, r3, O, b, _, rfl, hS3, hok, tabs_ins hT k03 r1, hl3, hrow, q.done hS3 k03 hn (hF.kb k03 r1) hR3⟩
      · refine ifF (eqF (by decide)) ⟨_, rfl, rfl, _, rfl, ?_⟩
        refine ifF (eqF (by decide)) ⟨_, rfl, rfl, _, rfl, ?_⟩
        refine ifF (eqF (by decide)) ⟨_, rfl, rfl, _, rfl, ?_⟩
        refine ifT (eqT rfl) ?_
        refine ⟨_, rfl, s, dx, _, rfl, s1, sn _ (by decide +kernel) (by decide +kernel) (by decide +kernel) (by decide +kernel), _, rfl, r, dr1, _, rfl, r11, rn, r, a, ms, i + 1, n, rfl, hR1', hn2, hle, fun H3 r3 hR3 k3 _ _ hl3 => ?_⟩
        have k03 := k1.trans k3
        have hS3 := hS.kb k03 r1 hn
        rw [step3] at q
        exact ⟨s, r3, O, b, _, rfl, hS3, hok, tabs_ins hT k03 r1, hl3, hrow, q.done hS3 k03 hn (hF.kb k03 r1) hR3⟩
      · refine ifF (eqF (by decide)) ⟨_, rfl, rfl, _, rfl, ?_⟩
        refine ifF (eqF (by decide)) ⟨_, rfl, rfl, _, rfl, ?_⟩
        refine ifF (eqF (by decide)) ⟨_, rfl, rfl, _, rfl, ?_⟩
        refine ifF (eqF (by decide)) ⟨_, rfl, rfl, _, rfl, ?_⟩
        refine ifT (eqT rfl) ?_
        refine ⟨_, rfl, s, dx, _, rfl, s1, sn _ (by decide +kernel) (by decide +kernel) (by decide +kernel) (by decide +kernel), _, rfl, r, dr1, _, rfl, r11, rn, r, a, ms, i + 1, n, rfl, hR1', hn2, hle, fun H3 r3 hR3 k3 _ _ hl3 => ?_⟩
        have k03 := k1.trans k3
        have hS3 := hS.kb k03 r1 hn
        rw [step4] at q
        exact ⟨s, r3, O, b, _, rfl, hS3, hok, tabs_ins hT k03 r1, hl3, hrow, q.done hS3 k03 hn (hF.kb k03 r1) hR3⟩
      · refine ifF (eqF (by decide)) ⟨_, rfl, rfl, _, rfl, ?_⟩
        refine ifF (eqF (by decide)) ⟨_, rfl, rfl, _, rfl, ?_⟩
        refine ifF (eqF (by decide)) ⟨_, rfl, rfl, _, rfl, ?_⟩
        refine ifF (eqF (by decide)) ⟨_, rfl, rfl, _, rfl, ?_⟩
        refine ifF (eqF (by decide)) ⟨_, rfl, rfl, _, rfl, ?_⟩
        refine ifT (eqT rfl) ?_
        refine ⟨_, rfl, s, dx, _, rfl, s1, sn _ (by decide +kernel) (by decide +kernel) (by decide +kernel) (by decide +kernel), _, rfl, r, dr1, _, rfl, r11, rn, r, a, ms, i + 1, n, rfl, hR1', hn2, hle, fun H3 r3 hR3 k3 _ _ hl3 => ?_⟩
        have k03 := k1.trans k3
        have hS3 := hS.kb k03 r1 hn
        rw [step5] at q
        exact ⟨s, r3, O, b, _, rfl, hS3, hok, tabs_ins hT k03 r1, hl3, hrow, q.done hS3 k03 hn (hF.kb k03 r1) hR3⟩
end
end Mx
set_option Elab.async false
set_option maxRecDepth 100000
set_option maxHeartbeats 4000000
namespace Mx
open PySem PySem.Spec PyProof.Rows L2 LamX
open Oc08 (Book)
abbrev sAw : Stmt := top 28
theorem whole_id (c : List (List Int)) : PyOc08.whole c = c := by
  unfold PyOc08.whole
  split <;> rfl
/-- the calls of the numbers behind the first i -/
def restOf (ms : List Nat) (i : Nat) (cs : List (List (List Int))) : Prop := ∃ fuel, PyFlat.calls PyOc08.shape fuel (Iv (ms.drop i)) = some cs
theorem rest_end {ms : List Nat} {i : Nat} {cs : List (List (List Int))} (h : restOf ms i cs) (hi : ms.length ≤ i) : cs = [] := by
  obtain ⟨f, h⟩ := h
  rw [List.drop_eq_nil_of_le hi] at h
  have h : PyFlat.calls PyOc08.shape f [] = some cs := h
  cases f <;> (cases h; rfl)
theorem rest_next {ms : List Nat} {i : Nat} {cs : List (List (List Int))} (h : restOf ms i cs) (hi : i < ms.length) : ∃ c r j, cs = c :: r ∧ Nx ms i c j ∧ restOf ms j r ∧ i < j ∧ j ≤ ms.length := by
  obtain ⟨f, h⟩ := h
  cases hd : ms.drop i with
  | nil =>
    have := congrArg List.length hd
    rw [List.length_drop] at this
    simp at this
    omega
  | cons p l =>
    cases f with
    | zero =>
      rw [hd] at h
      cases h
    | succ f =>
      have h : (match PyFlat.call PyOc08.shape (Iv (ms.drop i)) with
        | none => none
        | some (c, t) => match PyFlat.calls PyOc08.shape f t with
          | none => none
          | some cs => some (c :: cs)) = some cs := by
        rw [hd] at h ⊢
        exact h
      cases e : PyFlat.call PyOc08.shape (Iv (ms.drop i)) with
      | none =>
        rw [e] at h
        cases h
      | some ct =>
        obtain ⟨c, t⟩ := ct
        rw [e] at h
        simp only at h
        obtain ⟨j, nx, rfl, lt, le⟩ := nx_of e
        cases e2 : PyFlat.calls PyOc08.shape f (Iv (ms.drop j)) with
        | none =>
          rw [e2] at h
          cases h
        | some r =>
          rw [e2] at h
          cases h
          exact ⟨c, r, j, rfl, nx, ⟨f, e2⟩, lt, le⟩
theorem SvAt.kbl {C : Addr} {H H' : Hp} {s p : Addr} {xs : List V} {O : List Addr} {b : Book} (h : SvAt C H s O b) (k : KB p H H') (hp : H p = some (.lst xs)) (n : p ∉ O) : SvAt C H' s O b := by
  obtain ⟨dx, lx, lh, lp, lk, tx, th, tk, e0, e1, e2, e3, e4, e5, e6, e7, e8, e9⟩ := h
  have no : ∀ z ∈ O, z ≠ p := fun z hz e => n (e ▸ hz)
  have tups : ∀ b xs, H b = some (.tup xs) → H' b = some (.tup xs) := fun b xs e => k _ _ e fun z => by rw [z, hp] at e; cases e
  exact ⟨dx, lx, lh, lp, lk, tx, th, tk, e0, k _ _ e1 (no _ (by rw [e0]; simp)), k _ _ e2 (no _ (by rw [e0]; simp)), e3.imp fun _ _ h => h.keep tups, k _ _ e4 (no _ (by rw [e0]; simp)), e5.imp fun _ _ h => h.keep tups,
    k _ _ e6 (no _ (by rw [e0]; simp)), k _ _ e7 (no _ (by rw [e0]; simp)), e8.keep tups, e9⟩
theorem SvAt.has {C : Addr} {H : Hp} {s z : Addr} {O : List Addr} {b : Book} (h : SvAt C H s O b) (hz : z ∈ O) : ∃ o, H z = some o := by
  obtain ⟨dx, lx, lh, lp, lk, tx, th, tk, e0, e1, e2, _, e4, _, e6, e7, _⟩ := h
  rw [e0] at hz
  simp only [List.mem_cons, List.not_mem_nil, or_false] at hz
  rcases hz with rfl | rfl | rfl | rfl | rfl
  · exact ⟨_, e1⟩
  · exact ⟨_, e2⟩
  · exact ⟨_, e4⟩
  · exact ⟨_, e6⟩
  · exact ⟨_, e7⟩
/-- the place of the reader -/
def plc (H : Hp) (r : Option V) : Nat := match r with
  | some (.ref a) => match H a with
    | some (.ins _ _ fs) => match fs.lookup ("place" : Str) with
      | some (.int i) => i.toNat
      | _ => 0
    | _ => 0
  | _ => 0
theorem plc_at {K : PySem.W.Frag} {C : Addr} {H : Hp} {r a : Addr} {ms : List Nat} {i : Nat} (h : RdAt K C H r a ms i) : plc H (some (.ref r)) = i := by
  obtain ⟨dx, e, _⟩ := h
  unfold plc
  simp only [e, rdF_place, Int.toNat_natCast]
/-- what is due -/
def due (b : Book) (cs : List (List (List Int))) : List Int := PyFlat.told (PyFlat.played Oc08Neutral.step ⟨b⟩ cs)
theorem due_cons (b : Book) (c : List (List Int)) (r : List (List (List Int))) : due b (c :: r) = (((Oc08Neutral.step ⟨b⟩ c).2.length : Int) :: (Oc08Neutral.step ⟨b⟩ c).2) ++ due (Oc08Neutral.step ⟨b⟩ c).1.book r := rfl
def spAw (K : PySem.W.Frag) (T : List (Addr × Str)) : Sp := fun vs H Q _ => ∃ (a : Addr) (ms : List Nat) (cs : List (List (List Int))), vs = [.ref a] ∧ FzL K H a (Nv ms) ∧ Tabs T H ∧ restOf ms 0 cs ∧ (∀ c ∈ cs, Oc08Neutral.asked1 c = true) ∧ (due ⟨[], [], []⟩ cs).length ≤ 10000000 ∧
  ∀ H' p, H' p = some (.lst ((due ⟨[], [], []⟩ cs).map V.int)) → Q (.ref p) H'
theorem scAw : FnScope ["calls", "reader", "target", "given", "result"] ["calls"] (defScope sAw) := ⟨rfl, rfl, rfl, by decide +kernel, rfl, by decide +kernel, by decide +kernel⟩
/-- a step of a call that is asked keeps the book as it has to be -/
theorem step_callOk {b : Book} {ms : List Nat} {i j : Nat} {c : List (List Int)} (ok : BookOk b) (nx : Nx ms i c j) (h : Oc08Neutral.asked1 c = true) : BookOk (Oc08Neutral.step ⟨b⟩ c).1.book := by
  cases nx with
  | bare p hp _ =>
    rcases hp with rfl | rfl
    · exact bookOk_init
    · exact step_ok ok .greatest trivial
  | row p n hp h1 h2 h3 =>
    have hl := asked_row hp h
    rcases hp with rfl | rfl | rfl | rfl
    · rw [step1]
      exact step_ok ok (.line _) hl
    · rw [step3]
      exact step_ok ok (.keep _) hl
    · rw [step4]
      exact step_ok ok (.answers _) trivial
    · exact step_ok ok (.cheapest _) trivial
  | priced w n h1 h2 h3 h4 =>
    rw [step2]
    exact step_ok ok (.guess _ _) (asked2 h)
  | rows n m h1 h2 h3 h4 h5 => exact step_ok ok (.check _ _) trivial
  | one k h1 h2 => exact step_ok ok (.take _) trivial
section
variable {P : Program} {w : World} {K : PySem.W.Frag} {mg : Str → Option Value} {base : Heap} {C Cr : Addr}
theorem ok_aw {f : Addr} {fd : FuncData} {Tb : List (Addr × Str)} (F : Fun K "answers" "answers" sAw f fd) (Tr : RdTxt K Cr) (mLen : mg "len" = none) (cRi : Made P w K mg base "CallReader" Cr 1 ["self", "calls"] (spRi K Cr))
    (cVi : Made P w K mg base "Service" C 1 ["self"] (spVi C)) (cHm : MCalled P w K mg base Cr "has_more" 1 ["self"] (spHm K Cr)) (cAc : Called P w K mg base "apply_call" 12 ["target", "reader"] (spAc K C Cr Tb)) :
    FnOk P w K mg base CX0 13 f fd ["calls"] (spAw K Tb) := by
  refine F.ok scAw (fun vs H Q E h => ?_) (fun cdv A outer s H vs Q E hr h => ?_)
  · obtain ⟨a, ms, cs, rfl, _⟩ := h
    rfl
  · refine ⟨_, pss_cons (ps_set (i := 1) scAw.nd rfl (Or.inl rfl) (pe_mk cRi (hr.mono (by decide)) (pa_cons (pv 0) pa_nil)))
      (pss_cons (ps_set (i := 2) scAw.nd rfl (Or.inl rfl) (pe_mk0 cVi (hr.mono (by decide))))
      (pss_cons (ps_set (i := 3) scAw.nd rfl (Or.inl rfl) (pe_lst pa_nil))
      (pss_cons (ps_while PassesOwn.never (pt_val (pe_cm0 (pv 1) Tr.cl cHm (hr.mono (by decide))))
        (pss_cons (ps_set (i := 4) scAw.nd rfl (Or.inl rfl) (pe_cl cAc hr (pa_cons (pv 2) (pa_cons (pv 1) pa_nil))))
        (pss_cons (ps_expr (pe_bm PySem.F.plainAttrs_list PySem.F.slot_list_append PySem.F.type_list_append mt_append (pv 3) (pa_cons (pe_callB call_len_seq (by rfl) mLen PySem.boot_len (pa_cons (pv 4) pa_nil)) pa_nil)))
        (pss_one (ps_expr (pe_bm PySem.F.plainAttrs_list PySem.F.slot_list_extend PySem.F.type_list_extend mt_extend (pv 3) (pa_cons (pv 4) pa_nil)))))))
      (pss_one (ps_ret (pv 3)))))), ?_⟩
    obtain ⟨a, ms, cs, rfl, hF, hT, hrest, hask, hshort, q⟩ := h
    refine ⟨_, rfl, ?_⟩
    intro r dr hr0 hdr hne
    have sr : Same H (upd (upd H dr (.own r)) r (.ins Cr dr [])) := (same_upd hdr).trans (same_upd (by rw [upd_ne (Ne.symm hne)]; exact hr0))
    have er : (upd (upd H dr (.own r)) r (.ins Cr dr [])) r = some (.ins Cr dr []) := upd_same
    generalize (upd (upd H dr (.own r)) r (.ins Cr dr [])) = H0 at sr er
    have hF0 := hF.keep fun o u e => sr _ _ e
    refine ⟨r, dr, a, ms, rfl, er, hF0.sq, fun H1 hR1 k1 => ⟨rfl, ?_⟩⟩
    have s1 : Same H H1 := fun b o e => k1 b o (sr _ _ e) (ne_of_none e hr0)
    have hF1 := hF0.kb (p := r) k1 er
    intro v dv hv0 hdv hnv
    have sv : Same H1 (upd (upd H1 dv (.own v)) v (.ins C dv [])) := (same_upd hdv).trans (same_upd (by rw [upd_ne (Ne.symm hnv)]; exact hv0))
    have ev : (upd (upd H1 dv (.own v)) v (.ins C dv [])) v = some (.ins C dv []) := upd_same
    generalize (upd (upd H1 dv (.own v)) v (.ins C dv [])) = H2 at sv ev
    refine ⟨v, dv, rfl, ev, fun H3 O hS3 hO k3 => ⟨rfl, ?_⟩⟩
    have s13 : Same H1 H3 := fun b o e => k3 b o (sv _ _ e) (ne_of_none e hv0)
    have hR3 : RdAt K Cr H3 r a ms 0 := by
      obtain ⟨dx, e1, e2⟩ := hR1
      exact ⟨dx, s13 _ _ e1, s13.seq e2⟩
    have hF3 := hF1.keep fun o u e => s13 _ _ e
    have hrO : r ∉ O := fun h => by
      obtain ⟨dx, e1, _⟩ := hR1
      rcases hO r h with h | h
      · rw [← h, e1] at hv0
        cases hv0
      · rw [sv _ _ e1] at h
        cases h
    refine ⟨by show 0 ≤ sizeLine; decide, fun g hg0 => ?_⟩
    have sg := same_upd (o := HO.lst []) hg0
    have eg : (upd H3 g (.lst [])) g = some (.lst []) := upd_same
    have hgO : g ∉ O := fun h => by
      obtain ⟨o, e⟩ := hS3.has h
      rw [e] at hg0
      cases hg0
    generalize (upd H3 g (.lst [])) = H4 at sg eg
    refine while_by (fun σ H' => ∃ (x : Option V) (i : Nat) (b : Book) (O : List Addr) (rest : List (List (List Int))) (T0 : List Int), σ = [some (.ref a), some (.ref r), some (.ref v), some (.ref g), x] ∧ RdAt K Cr H' r a ms i ∧ FzL K H' a (Nv ms) ∧
        SvAt C H' v O b ∧ BookOk b ∧ Tabs Tb H' ∧ r ∉ O ∧ g ∉ O ∧ H' g = some (.lst (T0.map V.int)) ∧ restOf ms i rest ∧ (∀ c ∈ rest, Oc08Neutral.asked1 c = true) ∧ T0 ++ due b rest = due ⟨[], [], []⟩ cs)
      (fun σ H' => ms.length - plc H' (σ.getD 1 none)) ?_ ?_ ?_
    · refine ⟨none, 0, _, O, cs, [], rfl, ?_, hF3.keep fun o u e => sg _ _ e, hS3.ext (ExtN.of sg), bookOk_init, (hT.ext (s1.trans s13)).ext sg, hrO, hgO, eg, hrest, hask, rfl⟩
      obtain ⟨dx, e1, e2⟩ := hR3
      exact ⟨dx, sg _ _ e1, sg.seq e2⟩
    · rintro σ H' ⟨x, i, b, O, rest, T0, rfl, hR, hFz, hS, hok, hTb, hrO, hgO, hg, hre, hak, hdue⟩
      have hR' := hR
      obtain ⟨dx, e1, e2⟩ := hR
      refine ⟨_, rfl, r, dx, _, rfl, e1, rdF_no (by decide +kernel) (by decide +kernel), r, a, ms, i, rfl, hR', ⟨_, rfl, ?_⟩⟩
      by_cases hi : i < ms.length
      · refine ifT (decide_eq_true hi) ?_
        obtain ⟨c, rest2, j, rfl, nx, hre2, hij, hjl⟩ := rest_next hre hi
        have hask1 := hak c (by simp)
        have hlen := congrArg List.length hdue
        rw [due_cons, List.length_append, List.length_append, List.length_cons] at hlen
        refine ⟨_, rfl, _, rfl, v, r, a, O, b, ms, i, j, c, rfl, hS, hok, hTb, hR', hFz, hrO, nx, hask1, fun H5 u O5 fr5 tb5 sv5 own5 hR5 new5 hu5 => ?_⟩
        have grO : g ∉ r :: O := by
          simp only [List.mem_cons, not_or]
          exact ⟨fun z => (by rw [z, e1] at hg; cases hg), hgO⟩
        have hg5 := fr5 _ _ hg (fun _ z => by cases z) grO
        have hug : u ≠ g := fun z => by
          obtain ⟨ps, e⟩ := new5 _ (z ▸ hg)
          cases e
        have hFz5 : FzL K H5 a (Nv ms) := hFz.keep fun o y e => fr5 _ _ e (fun _ z => by cases z) (by
          simp only [List.mem_cons, not_or]
          exact ⟨fun z => (by rw [z, e1] at e; cases e), hS.fz e⟩)
        have hrO5 : r ∉ O5 := fun h => by
          rcases own5 r h with h | h
          · exact hrO h
          · rw [e1] at h; cases h
        have hgO5 : g ∉ O5 := fun h => by
          rcases own5 g h with h | h
          · exact hgO h
          · rw [hg] at h; cases h
        have hok5 := step_callOk hok nx hask1
        generalize hst : Oc08Neutral.step ⟨b⟩ c = st at *
        obtain ⟨b5, res⟩ := st
        have rl : (res.map V.int).length = res.length := List.length_map _
        refine ⟨_, rfl, tyList hg5, _, rfl, u, _, rfl, .inl (SqL.of hu5), g, _, _, rfl, rfl, hg5, ?_, ?_⟩
        have hz : 10000001 < sizeLine := by decide
        · rw [List.length_map]
          omega
        have k6 : KB g H5 (upd H5 g (.lst (T0.map V.int ++ [V.int ((res.map V.int).length : Nat)]))) := (KB.refl g H5).at
        have g6 : (upd H5 g (.lst (T0.map V.int ++ [V.int ((res.map V.int).length : Nat)]))) g = some (.lst (T0.map V.int ++ [V.int ((res.map V.int).length : Nat)])) := upd_same
        generalize (upd H5 g (.lst (T0.map V.int ++ [V.int ((res.map V.int).length : Nat)]))) = H6 at k6 g6
        refine ⟨_, rfl, tyList g6, _, rfl, g, u, _, _, rfl, rfl, g6, k6 _ _ hu5 hug, ?_, ?_⟩
        have hz : 10000001 < sizeLine := by decide
        · rw [List.length_append, List.length_map, List.length_singleton, rl]
          have hlen : T0.length + (res.length + 1 + (due b5.book rest2).length) = (due ⟨[], [], []⟩ cs).length := hlen
          omega
        have k7 : KB g H5 (upd H6 g (.lst (T0.map V.int ++ [V.int ((res.map V.int).length : Nat)] ++ res.map V.int))) := k6.at
        have g7 : (upd H6 g (.lst (T0.map V.int ++ [V.int ((res.map V.int).length : Nat)] ++ res.map V.int))) g = some (.lst (T0.map V.int ++ [V.int ((res.map V.int).length : Nat)] ++ res.map V.int)) := upd_same
        generalize (upd H6 g (.lst (T0.map V.int ++ [V.int ((res.map V.int).length : Nat)] ++ res.map V.int))) = H7 at k7 g7
        have hR7 : RdAt K Cr H7 r a ms j := by
          obtain ⟨d5, f1, f2⟩ := hR5
          refine ⟨d5, k7 _ _ f1 fun z => ?_, FzL.sq (hFz5.keep fun o y e => k7 _ _ e fun z => ?_)⟩
          · rw [z, hg5] at f1; cases f1
          · rw [z, hg5] at e; cases e
        refine ⟨⟨some (.ref u), j, b5.book, O5, rest2, T0 ++ ((res.length : Int) :: res), rfl, hR7, hFz5.keep fun o y e => k7 _ _ e fun z => ?_, sv5.kbl k7 hg5 hgO5, hok5, tabs_lst tb5 k7 hg5, hrO5, hgO5, ?_, hre2, fun c hc => hak c (by simp [hc]), ?_⟩, ?_⟩
        · rw [z, hg5] at e; cases e
        · rw [g7, rl, List.map_append, List.map_cons, List.append_assoc]
          rfl
        · rw [due_cons, hst] at hdue
          rw [List.append_assoc]
          exact hdue
        · show ms.length - plc H7 (some (.ref r)) < ms.length - plc H' (some (.ref r))
          rw [plc_at hR7, plc_at hR']
          omega
      · refine ifF (decide_eq_false hi) ?_
        obtain rfl := rest_end hre (by omega)
        have : T0 = due ⟨[], [], []⟩ cs := by
          rw [← hdue]
          exact (List.append_nil _).symm
        subst this
        exact ⟨_, rfl, q _ g hg⟩
    · exact fun σ H Q Q' m ⟨x, e1, y, dy, fs, e2, e3, e4, p, a2, ms2, i2, e5, e6, c, e7, e8⟩ => ⟨x, e1, y, dy, fs, e2, e3, e4, p, a2, ms2, i2, e5, e6, c, e7, m _ _ e8⟩
end
end Mx
set_option Elab.async false
set_option maxRecDepth 100000
set_option maxHeartbeats 4000000
namespace Mx
open PySem PySem.Spec PyProof.Rows L2 LamX
/-- a def of the top, as the top has written it -/
structure GFn (K : PySem.W.Frag) (x : Str) (st : Stmt) : Prop where
  ex : ∃ (f : Addr) (fd : FuncData), PySem.W.nsIn K mainGlobals x = some (some (.ref f)) ∧ Fun K x x st f fd ∧ PySem.W.keepIn K (.ref f) = true
theorem gfn {K : PySem.W.Frag} {x : Str} {st : Stmt} {f : Addr} {oc kV dc pm cd ct : Value} {od an : Option Addr} {sl : Array (Option Value)} (a : PySem.W.nsIn K mainGlobals x = some (some (.ref f)))
    (l : K.lookup f = some ⟨oc, od, .func (PySem.W.fnOf x x (defArgs st) (defBody st) (defScope st) .none kV dc pm an cd ct), sl⟩) (c : PySem.W.codeIn K cd x = true) (k : PySem.W.keepIn K (.ref f) = true) : GFn K x st := ⟨f, _, a, fun_mk l c k, k⟩
/-- .. whose code object stands at c -/
structure GFc (K : PySem.W.Frag) (x : Str) (st : Stmt) (c : Addr) : Prop where
  ex : ∃ (f : Addr) (fd : FuncData), PySem.W.nsIn K mainGlobals x = some (some (.ref f)) ∧ FunC K x x st f fd c ∧ PySem.W.keepIn K (.ref f) = true ∧ ∀ ps : List Str, (∀ (kV doc pm : Value) (an : Option Addr) (cdv ct : Value) (us : List Value), us.length = ps.length →
    bindArgs (PySem.W.fnOf x x (defArgs st) (defBody st) (defScope st) .none kV doc pm an cdv ct) ⟨us, []⟩ = pure (ps.zip us)) → Binds K fd ps []
theorem gfc {K : PySem.W.Frag} {x : Str} {st : Stmt} {f co : Addr} {oc kV dc pm ct : Value} {od an : Option Addr} {sl : Array (Option Value)} (a : PySem.W.nsIn K mainGlobals x = some (some (.ref f)))
    (l : K.lookup f = some ⟨oc, od, .func (PySem.W.fnOf x x (defArgs st) (defBody st) (defScope st) .none kV dc pm an (.ref co) ct), sl⟩) (c : PySem.W.codeIn K (.ref co) x = true) (k : PySem.W.keepIn K (.ref f) = true) : GFc K x st co :=
  ⟨f, _, a, ⟨oc, od, kV, dc, pm, an, ct, sl, rfl, l, c⟩, k, fun ps h => (fun_mk l c k).binds h⟩
/-- a method, as the top has written it -/
structure GMe (K : PySem.W.Frag) (C : Addr) (m qual : Str) (st : Stmt) : Prop where
  ex : ∃ (f : Addr) (fd : FuncData), Fun K m qual st f fd ∧ Meth K C m f
theorem gme {K : PySem.W.Frag} {C : Addr} {m qual : Str} {st : Stmt} {f : Addr} {oc kV dc pm cd ct : Value} {od an : Option Addr} {sl : Array (Option Value)} (a : PySem.W.findIn K (.ref C) m = some (some (.ref f))) (i : PySem.W.isFn K (.ref f) = true)
    (l : K.lookup f = some ⟨oc, od, .func (PySem.W.fnOf m qual (defArgs st) (defBody st) (defScope st) .none kV dc pm an cd ct), sl⟩) (c : PySem.W.codeIn K cd qual = true) (k : PySem.W.keepIn K (.ref f) = true) : GMe K C m qual st := ⟨f, _, fun_mk l c k, a, i, k⟩
/-- .. that may be handed on -/
structure GBm (K : PySem.W.Frag) (C : Addr) (m qual : Str) (st : Stmt) : Prop where
  ex : ∃ (f : Addr) (fd : FuncData), Fun K m qual st f fd ∧ BMeth K C m f
theorem gbm {K : PySem.W.Frag} {C : Addr} {m qual : Str} {st : Stmt} {f : Addr} {oc kV dc pm cd ct : Value} {od an : Option Addr} {sl : Array (Option Value)} (a : PySem.W.findIn K (.ref C) m = some (some (.ref f))) (i : PySem.W.isFn K (.ref f) = true)
    (l : K.lookup f = some ⟨oc, od, .func (PySem.W.fnOf m qual (defArgs st) (defBody st) (defScope st) .none kV dc pm an cd ct), sl⟩) (c : PySem.W.codeIn K cd qual = true) (k : PySem.W.keepIn K (.ref f) = true)
    (g : PySem.W.specialIn K (.ref f) "__get__" = some (some (.builtin "function.__get__"))) (t : PySem.W.takesIn K (.ref f) = some false) (n : PySem.W.copiedNames.contains m = false) (q : PySem.W.fnIn K f = true) : GBm K C m qual st := ⟨f, _, fun_mk l c k, ⟨⟨a, i, k⟩, g, t, n, q⟩⟩
/-- a class, as the top has written it -/
structure GCl (K : PySem.W.Frag) (x : Str) (C : Addr) : Prop where
  at_ : PySem.W.nsIn K mainGlobals x = some (some (.ref C))
  cl : Cls K C
  makes : PySem.W.makesIn K C = true
  kp : PySem.W.keepIn K (.ref C) = true
section
variable {P : Program} {w : World} {K : PySem.W.Frag} {mg : Str → Option Value} {base h : Heap} {k : Nat} {ps : List Str} {sp : Sp} {x m qual : Str} {st : Stmt} {C : Addr}
theorem GFn.called (g : GFn K x st) (X : K.In h) (G : h.Ns mainGlobals mg) (ok : ∀ f fd, Fun K x x st f fd → FnOk P w K mg base CX0 k f fd ps sp)
    (hb : ∀ (kV doc pm : Value) (an : Option Addr) (cdv ct : Value) (us : List Value), us.length = ps.length → bindArgs (PySem.W.fnOf x x (defArgs st) (defBody st) (defScope st) .none kV doc pm an cdv ct) ⟨us, []⟩ = pure (ps.zip us)) : Called P w K mg base x k ps sp := by
  obtain ⟨f, fd, a, F, kp⟩ := g.ex
  exact ⟨f, fd, ok f fd F, PySem.W.mg_of X G a, kp, F.binds hb⟩
theorem GFc.called {c : Addr} (g : GFc K x st c) (X : K.In h) (G : h.Ns mainGlobals mg) (ok : ∀ f fd, FunC K x x st f fd c → FnOk P w K mg base CX0 k f fd ps sp)
    (hb : ∀ (kV doc pm : Value) (an : Option Addr) (cdv ct : Value) (us : List Value), us.length = ps.length → bindArgs (PySem.W.fnOf x x (defArgs st) (defBody st) (defScope st) .none kV doc pm an cdv ct) ⟨us, []⟩ = pure (ps.zip us)) : Called P w K mg base x k ps sp := by
  obtain ⟨f, fd, a, F, kp, b⟩ := g.ex
  exact ⟨f, fd, ok f fd F, PySem.W.mg_of X G a, kp, b ps hb⟩
theorem GMe.called (g : GMe K C m qual st) (ok : ∀ f fd, Fun K m qual st f fd → FnOk P w K mg base CX0 k f fd ps sp)
    (hb : ∀ (kV doc pm : Value) (an : Option Addr) (cdv ct : Value) (us : List Value), us.length = ps.length → bindArgs (PySem.W.fnOf m qual (defArgs st) (defBody st) (defScope st) .none kV doc pm an cdv ct) ⟨us, []⟩ = pure (ps.zip us)) : MCalled P w K mg base C m k ps sp := by
  obtain ⟨f, fd, F, M⟩ := g.ex
  exact ⟨f, fd, ok f fd F, M, F.binds hb⟩
theorem GBm.called (g : GBm K C m qual st) (ok : ∀ f fd, Fun K m qual st f fd → FnOk P w K mg base CX0 k f fd ps sp)
    (hb : ∀ (kV doc pm : Value) (an : Option Addr) (cdv ct : Value) (us : List Value), us.length = ps.length → bindArgs (PySem.W.fnOf m qual (defArgs st) (defBody st) (defScope st) .none kV doc pm an cdv ct) ⟨us, []⟩ = pure (ps.zip us)) : BCalled P w K mg base C m k ps sp := by
  obtain ⟨f, fd, F, M⟩ := g.ex
  exact ⟨f, fd, ok f fd F, M, F.binds hb⟩
theorem GMe.made (g : GMe K C "__init__" qual st) (c : GCl K x C) (X : K.In h) (G : h.Ns mainGlobals mg) (ok : ∀ f fd, Fun K "__init__" qual st f fd → FnOk P w K mg base CX0 k f fd ps sp)
    (hb : ∀ (kV doc pm : Value) (an : Option Addr) (cdv ct : Value) (us : List Value), us.length = ps.length → bindArgs (PySem.W.fnOf "__init__" qual (defArgs st) (defBody st) (defScope st) .none kV doc pm an cdv ct) ⟨us, []⟩ = pure (ps.zip us)) : Made P w K mg base x C k ps sp := by
  obtain ⟨f, fd, F, M⟩ := g.ex
  exact ⟨f, fd, ok f fd F, ⟨c.makes, M.at_, M.fn, c.kp⟩, PySem.W.mg_of X G c.at_, F.binds hb⟩
end
/-- a tuple of numbers that the top has written -/
theorem tup_in {K : PySem.W.Frag} {a n : Nat} {od : Option Addr} {its : Array Value} {sl : Array (Option Value)} {ns : List Nat} (l : K.lookup a = some ⟨.type "tuple", od, .seq its n, sl⟩) (hs : its.size ≤ sizeLine) (hv : Vals (Nv ns) its.toList) : ∀ H, SqT K H a (Nv ns) :=
  fun _ => .inr ⟨_, its, n, l, rfl, rfl, hs, hv⟩
/-- all defs together -/
theorem all_mk {P : Program} {w : World} {K : PySem.W.Frag} {h : Heap} {mg : Str → Option Value} {fa Cp Ct C Cr tI tL co Pt : Addr}
    (X : K.In h) (G : h.Ns mainGlobals mg) (hfa : mg "answers" = some (.ref fa))
    (kCp : GCl K "Profiles" Cp)
    (kCt : GCl K "Theory" Ct)
    (kC : GCl K "Service" C)
    (kCr : GCl K "CallReader" Cr)
    (nLen : PySem.W.nsIn K mainGlobals "len" = some none)
    (nTup : PySem.W.nsIn K mainGlobals "tuple" = some none)
    (nSum : PySem.W.nsIn K mainGlobals "sum" = some none)
    (nRange : PySem.W.nsIn K mainGlobals "range" = some none)
    (nRev : PySem.W.nsIn K mainGlobals "reversed" = some none)
    (nEn : PySem.W.nsIn K mainGlobals "enumerate" = some none)
    (nList : PySem.W.nsIn K mainGlobals "list" = some none)
    (nAll : PySem.W.nsIn K mainGlobals "all" = some none)
    (nSorted : PySem.W.nsIn K mainGlobals "sorted" = some none)
    (nAny : PySem.W.nsIn K mainGlobals "any" = some none)
    (nMin : PySem.W.nsIn K mainGlobals "min" = some none)
    (xAXIOMS : ∃ t, mg "MOST_AXIOMS" = some (.int 4 t))
    (xHYPOTHESES : ∃ t, mg "MOST_HYPOTHESES" = some (.int 4 t))
    (xPROTECTED : ∃ t, mg "MOST_PROTECTED" = some (.int 2 t))
    (xATOMS : ∃ t, mg "MOST_ATOMS" = some (.int 5 t))
    (xPRICE : ∃ t, mg "MOST_PRICE" = some (.int 1000 t))
    (aCp_atoms : PySem.W.findIn K (.ref Cp) "atoms" = some none)
    (aCp_total : PySem.W.findIn K (.ref Cp) "total" = some none)
    (aCp_full : PySem.W.findIn K (.ref Cp) "full" = some none)
    (aCp_demands : PySem.W.findIn K (.ref Cp) "demands" = some none)
    (aCt_axioms : PySem.W.findIn K (.ref Ct) "axioms" = some none)
    (aCt_hypotheses : PySem.W.findIn K (.ref Ct) "hypotheses" = some none)
    (aCt_protected : PySem.W.findIn K (.ref Ct) "protected" = some none)
    (aCt_profiles : PySem.W.findIn K (.ref Ct) "profiles" = some none)
    (aC_axioms : PySem.W.findIn K (.ref C) "axioms" = some none)
    (aC_hypotheses : PySem.W.findIn K (.ref C) "hypotheses" = some none)
    (aC_prices : PySem.W.findIn K (.ref C) "prices" = some none)
    (aC_protected : PySem.W.findIn K (.ref C) "protected" = some none)
    (aCr_calls : PySem.W.findIn K (.ref Cr) "calls" = some none)
    (aCr_place : PySem.W.findIn K (.ref Cr) "place" = some none)
    (aI : PySem.W.nsIn K mainGlobals "INNER_CONCEPTS" = some (some (.ref tI))) (lI : ∀ H, SqT K H tI (Nv inT)) (aL : PySem.W.nsIn K mainGlobals "ARGUMENT_LIMITS" = some (some (.ref tL))) (lL : ∀ H, SqT K H tL (Nv liT))
    (gHw : GFn K "head_width" sHw)
    (gCe : GFn K "concept_end" sCe)
    (gCs : GFn K "concept_starts" sCs)
    (gIa : GFn K "is_atom" sIa)
    (gSp : GFn K "split_concepts" sSp)
    (gAi : GFn K "atoms_in" sAi)
    (gAe : GMe K Cp "atom_extent" "Profiles.atom_extent" sAe)
    (gEx : GMe K Cp "extent" "Profiles.extent" sEx)
    (gRa : GMe K Cp "relation_atoms" "Profiles.relation_atoms" sRa)
    (gDo : GMe K Cp "demands_of" "Profiles.demands_of" sDo)
    (gPi : GMe K Cp "__init__" "Profiles.__init__" sPi)
    (gDm : GMe K Cp "demands_met" "Profiles.demands_met" sDm)
    (gPo : GMe K Cp "possible" "Profiles.possible" sPo)
    (gCo : GFn K "concepts_of" sCo)
    (gIw : GFn K "is_within" sIw)
    (gOs : GFc K "ordered_sets" sOs co) (_hPt : PySem.W.tabIn K "ordered_sets" = some (co, Pt))
    (gTi : GMe K Ct "__init__" "Theory.__init__" sTi)
    (gPw : GMe K Ct "possible_with" "Theory.possible_with" sPw)
    (gAs : GMe K Ct "all_satisfiable" "Theory.all_satisfiable" sAs)
    (gSu : GMe K Ct "subsumes" "Theory.subsumes" sSu)
    (gIs : GMe K Ct "is_sufficient" "Theory.is_sufficient" sIs)
    (gXp : GMe K Ct "explanations" "Theory.explanations" sXp)
    (gGs : GMe K Ct "greatest_sets" "Theory.greatest_sets" sGs)
    (gSr : GFn K "sets_result" sSr)
    (gVi : GMe K C "__init__" "Service.__init__" sVi)
    (gTm : GMe K C "too_many_atoms" "Service.too_many_atoms" sTm)
    (gBe : GMe K C "begins" "Service.begins" sBe)
    (gLi : GMe K C "line" "Service.line" sLi)
    (gGu : GMe K C "guess" "Service.guess" sGu)
    (gKe : GMe K C "keep" "Service.keep" sKe)
    (gQe : GMe K C "question_error" "Service.question_error" sQe)
    (gTw : GMe K C "theory_with" "Service.theory_with" sTw)
    (gXf : GMe K C "explanations_for" "Service.explanations_for" sXf)
    (gAn : GMe K C "answers_of" "Service.answers_of" sAn)
    (gPr : GBm K C "price_of" "Service.price_of" sPr)
    (gCh : GMe K C "cheapest" "Service.cheapest" sCh)
    (gAh : GMe K C "are_hypotheses" "Service.are_hypotheses" sAh)
    (gCk : GMe K C "check" "Service.check" sCk)
    (gGr : GMe K C "greatest" "Service.greatest" sGr)
    (gTk : GMe K C "take" "Service.take" sTk)
    (gRi : GMe K Cr "__init__" "CallReader.__init__" sRi)
    (gHm : GMe K Cr "has_more" "CallReader.has_more" sHm)
    (gNu : GMe K Cr "number" "CallReader.number" sNu)
    (gRo : GMe K Cr "row" "CallReader.row" sRo)
    (gAc : GFn K "apply_call" sAc)
    (gAw : GFn K "answers" sAw)
    : ∃ fd : FuncData, (∀ (s : Shared) (us : List Value), us.length = (["calls"] : List Str).length → BindsTo s fd ⟨us, []⟩ ((["calls"] : List Str).zip us)) ∧
      ∀ base : Heap, K.In base → base.Ns mainGlobals mg → (∀ p ∈ [(co, Pt)], TabB base mg p.1 p.2) → FnOk P w K mg base CX0 13 fa fd ["calls"] (spAw K (osT Pt)) := by
  have nLen := PySem.W.mg_none_of X G nLen
  have nTup := PySem.W.mg_none_of X G nTup
  have nSum := PySem.W.mg_none_of X G nSum
  have nRange := PySem.W.mg_none_of X G nRange
  have nRev := PySem.W.mg_none_of X G nRev
  have nEn := PySem.W.mg_none_of X G nEn
  have nList := PySem.W.mg_none_of X G nList
  have nAll := PySem.W.mg_none_of X G nAll
  have nSorted := PySem.W.mg_none_of X G nSorted
  have nAny := PySem.W.mg_none_of X G nAny
  have nMin := PySem.W.mg_none_of X G nMin
  have T1 : Txt1 K mg := ⟨nLen, ⟨tI, PySem.W.mg_of X G aI, lI⟩, ⟨tL, PySem.W.mg_of X G aL, lL⟩⟩
  have Tp : PfTxt K mg Cp := ⟨kCp.cl, aCp_atoms, aCp_total, aCp_full, aCp_demands⟩
  have Tt : ThTxt K Ct := ⟨kCt.cl, aCt_axioms, aCt_hypotheses, aCt_protected, aCt_profiles⟩
  obtain ⟨tAXIOMS, xAXIOMS⟩ := xAXIOMS
  obtain ⟨tHYPOTHESES, xHYPOTHESES⟩ := xHYPOTHESES
  obtain ⟨tPROTECTED, xPROTECTED⟩ := xPROTECTED
  obtain ⟨tATOMS, xATOMS⟩ := xATOMS
  obtain ⟨tPRICE, xPRICE⟩ := xPRICE
  have T : SvTxt K mg C := ⟨kC.cl, aC_axioms, aC_hypotheses, aC_prices, aC_protected, ⟨_, xAXIOMS⟩, ⟨_, xHYPOTHESES⟩, ⟨_, xPROTECTED⟩, ⟨_, xATOMS⟩, ⟨_, xPRICE⟩⟩
  have Tr : RdTxt K Cr := ⟨kCr.cl, aCr_calls, aCr_place⟩
  obtain ⟨f, fd, a, Fa, _⟩ := gAw.ex
  cases hfa.symm.trans (PySem.W.mg_of X G a)
  have FaF := Fa
  obtain ⟨oc, od, kV, doc, pm, an, cdv, ct, osl, rfl, lk, hcd⟩ := FaF.ex
  refine ⟨PySem.W.fnOf "answers" "answers" (defArgs sAw) (defBody sAw) (defScope sAw) .none kV doc pm an cdv ct, fun s us hu => match us, hu with | [_], _ => .of_eq rfl, fun base _ _ tb => ?_⟩
  have TB : TabB base mg co Pt := tb (co, Pt) (by simp)
  have cHw : Called P w K mg base "head_width" 1 ["numbers", "place"] (spHw K) := gHw.called X G (fun f fd F => ok_hw F T1) (fun _ _ _ _ _ _ us hl => match us, hl with | [_, _], _ => rfl)
  have cCe : Called P w K mg base "concept_end" 2 ["numbers", "start"] (spCe K) := gCe.called X G (fun f fd F => ok_ce F T1 cHw) (fun _ _ _ _ _ _ us hl => match us, hl with | [_, _], _ => rfl)
  have cCs : Called P w K mg base "concept_starts" 2 ["concept"] (spCs K) := gCs.called X G (fun f fd F => ok_cs F nLen cHw) (fun _ _ _ _ _ _ us hl => match us, hl with | [_], _ => rfl)
  have cIa : Called P w K mg base "is_atom" 1 ["concept"] (spIa K) := gIa.called X G (fun f fd F => ok_ia F ) (fun _ _ _ _ _ _ us hl => match us, hl with | [_], _ => rfl)
  have cSp : Called P w K mg base "split_concepts" 3 ["numbers"] (spSp K) := gSp.called X G (fun f fd F => ok_sp F nLen nTup cCe) (fun _ _ _ _ _ _ us hl => match us, hl with | [_], _ => rfl)
  have cAi : Called P w K mg base "atoms_in" 3 ["concepts"] (spAi K) := gAi.called X G (fun f fd F => ok_ai F cCs cCe cIa) (fun _ _ _ _ _ _ us hl => match us, hl with | [_], _ => rfl)
  have cAe : MCalled P w K mg base Cp "atom_extent" 1 ["self", "atom"] (spAe K Cp) := gAe.called (fun f fd F => ok_ae F Tp nSum nRange) (fun _ _ _ _ _ _ us hl => match us, hl with | [_, _], _ => rfl)
  have cEx : MCalled P w K mg base Cp "extent" 3 ["self", "concept"] (spEx K Cp) := gEx.called (fun f fd F => ok_ex F Tp nRev cCs cCe cAe) (fun _ _ _ _ _ _ us hl => match us, hl with | [_, _], _ => rfl)
  have cRa : MCalled P w K mg base Cp "relation_atoms" 4 ["self"] (spRa K Cp) := gRa.called (fun f fd F => ok_ra F Tp nEn cEx) (fun _ _ _ _ _ _ us hl => match us, hl with | [_], _ => rfl)
  have cDo : MCalled P w K mg base Cp "demands_of" 1 ["self", "profile", "relations"] (spDo K Cp) := gDo.called (fun f fd F => ok_do F Tp) (fun _ _ _ _ _ _ us hl => match us, hl with | [_, _, _], _ => rfl)
  have cPi : Made P w K mg base "Profiles" Cp 5 ["self", "atoms"] (spPi K Cp) := gPi.made kCp X G (fun f fd F => ok_pi F Tp nLen nList nRange cRa cDo) (fun _ _ _ _ _ _ us hl => match us, hl with | [_, _], _ => rfl)
  have cDm : MCalled P w K mg base Cp "demands_met" 1 ["self", "profile", "alive"] (spDm K Cp) := gDm.called (fun f fd F => ok_dm F Tp nAll) (fun _ _ _ _ _ _ us hl => match us, hl with | [_, _, _], _ => rfl)
  have cPo : MCalled P w K mg base Cp "possible" 4 ["self", "axioms"] (spPo K Cp) := gPo.called (fun f fd F => ok_po F Tp nSum nRange cEx cDm) (fun _ _ _ _ _ _ us hl => match us, hl with | [_, _], _ => rfl)
  have cCo : Called P w K mg base "concepts_of" 1 ["axioms"] (spCo K) := gCo.called X G (fun f fd F => ok_co F ) (fun _ _ _ _ _ _ us hl => match us, hl with | [_], _ => rfl)
  have cIw : Called P w K mg base "is_within" 1 ["inner", "outer"] (spIw K) := gIw.called X G (fun f fd F => ok_iw F nAll) (fun _ _ _ _ _ _ us hl => match us, hl with | [_, _], _ => rfl)
  have cOs : Called P w K mg base "ordered_sets" 4 ["count"] (spOs (osT Pt)) := gOs.called X G (fun f fd F => ok_os F TB nLen nRange nSorted) (fun _ _ _ _ _ _ us hl => match us, hl with | [_], _ => rfl)
  have cTi : Made P w K mg base "Theory" Ct 7 ["self", "axioms", "hypotheses", "protected", "asked"] (spTi K Ct Cp) := gTi.made kCt X G (fun f fd F => ok_ti F Tt nList cCo cAi cPi) (fun _ _ _ _ _ _ us hl => match us, hl with | [_, _, _, _, _], _ => rfl)
  have cPw : MCalled P w K mg base Ct "possible_with" 5 ["self", "chosen"] (spPw Ct Cp) := gPw.called (fun f fd F => ok_pw F Tt Tp cPo) (fun _ _ _ _ _ _ us hl => match us, hl with | [_, _], _ => rfl)
  have cAs : MCalled P w K mg base Ct "all_satisfiable" 4 ["self", "possible"] (spAs Ct Cp) := gAs.called (fun f fd F => ok_as F Tt Tp nAll cEx) (fun _ _ _ _ _ _ us hl => match us, hl with | [_, _], _ => rfl)
  have cSu : MCalled P w K mg base Ct "subsumes" 4 ["self", "possible", "first", "second"] (spSu Ct Cp) := gSu.called (fun f fd F => ok_su F Tt Tp cEx) (fun _ _ _ _ _ _ us hl => match us, hl with | [_, _, _, _], _ => rfl)
  have cIs : MCalled P w K mg base Ct "is_sufficient" 6 ["self", "chosen", "first", "second"] (spIs Ct Cp) := gIs.called (fun f fd F => ok_is F Tt cPw cAs cSu) (fun _ _ _ _ _ _ us hl => match us, hl with | [_, _, _, _], _ => rfl)
  have cXp : MCalled P w K mg base Ct "explanations" 7 ["self", "first", "second"] (spXp Ct Cp (osT Pt)) := gXp.called (fun f fd F => ok_xp F Tt nLen nAny cOs cIw cIs) (fun _ _ _ _ _ _ us hl => match us, hl with | [_, _, _], _ => rfl)
  have cGs : MCalled P w K mg base Ct "greatest_sets" 7 ["self"] (spGs Ct Cp (osT Pt)) := gGs.called (fun f fd F => ok_gs F Tt nLen nAny nRev nList cOs cIw cPw cAs) (fun _ _ _ _ _ _ us hl => match us, hl with | [_], _ => rfl)
  have cSr : Called P w K mg base "sets_result" 1 ["sets"] (spSr) := gSr.called X G (fun f fd F => ok_sr F nLen) (fun _ _ _ _ _ _ us hl => match us, hl with | [_], _ => rfl)
  have cVi : Made P w K mg base "Service" C 1 ["self"] (spVi C) := gVi.made kC X G (fun f fd F => ok_vi F T) (fun _ _ _ _ _ _ us hl => match us, hl with | [_], _ => rfl)
  have cTm : MCalled P w K mg base C "too_many_atoms" 4 ["self", "concepts"] (spTm C) := gTm.called (fun f fd F => ok_tm F T nLen cCo cAi) (fun _ _ _ _ _ _ us hl => match us, hl with | [_, _], _ => rfl)
  have cBe : MCalled P w K mg base C "begins" 1 ["self"] (spBe C (osT Pt)) := gBe.called (fun f fd F => ok_be F T) (fun _ _ _ _ _ _ us hl => match us, hl with | [_], _ => rfl)
  have cLi : MCalled P w K mg base C "line" 5 ["self", "numbers"] (spLi C (osT Pt)) := gLi.called (fun f fd F => ok_li F T nLen cSp cTm) (fun _ _ _ _ _ _ us hl => match us, hl with | [_, _], _ => rfl)
  have cGu : MCalled P w K mg base C "guess" 5 ["self", "price", "numbers"] (spGu C (osT Pt)) := gGu.called (fun f fd F => ok_gu F T nLen cSp cTm) (fun _ _ _ _ _ _ us hl => match us, hl with | [_, _, _], _ => rfl)
  have cKe : MCalled P w K mg base C "keep" 5 ["self", "numbers"] (spKe C (osT Pt)) := gKe.called (fun f fd F => ok_ke F T nLen cSp cTm) (fun _ _ _ _ _ _ us hl => match us, hl with | [_, _], _ => rfl)
  have cQe : MCalled P w K mg base C "question_error" 5 ["self", "concepts"] (spQe C) := gQe.called (fun f fd F => ok_qe F T nLen cTm) (fun _ _ _ _ _ _ us hl => match us, hl with | [_, _], _ => rfl)
  have cTw : MCalled P w K mg base C "theory_with" 9 ["self", "concepts"] (spTw C Ct Cp) := gTw.called (fun f fd F => ok_tw F T cTi) (fun _ _ _ _ _ _ us hl => match us, hl with | [_, _], _ => rfl)
  have cXf : MCalled P w K mg base C "explanations_for" 10 ["self", "concepts"] (spXf C (osT Pt)) := gXf.called (fun f fd F => ok_xf F T Tt cTw cXp) (fun _ _ _ _ _ _ us hl => match us, hl with | [_, _], _ => rfl)
  have cAn : MCalled P w K mg base C "answers_of" 11 ["self", "numbers"] (spAn C (osT Pt)) := gAn.called (fun f fd F => ok_an F T cSp cQe cXf cSr) (fun _ _ _ _ _ _ us hl => match us, hl with | [_, _], _ => rfl)
  have cPr : BCalled P w K mg base C "price_of" 1 ["self", "chosen"] (spPr C) := gPr.called (fun f fd F => ok_pr F T nSum) (fun _ _ _ _ _ _ us hl => match us, hl with | [_, _], _ => rfl)
  have cCh : MCalled P w K mg base C "cheapest" 11 ["self", "numbers"] (spCh C (osT Pt)) := gCh.called (fun f fd F => ok_ch F T nLen nMin cSp cQe cXf cPr) (fun _ _ _ _ _ _ us hl => match us, hl with | [_, _], _ => rfl)
  have cAh : MCalled P w K mg base C "are_hypotheses" 1 ["self", "chosen"] (spAh C) := gAh.called (fun f fd F => ok_ah F T nLen) (fun _ _ _ _ _ _ us hl => match us, hl with | [_, _], _ => rfl)
  have cCk : MCalled P w K mg base C "check" 10 ["self", "chosen", "numbers"] (spCk C (osT Pt)) := gCk.called (fun f fd F => ok_ck F T Tt nLen cSp cAh cTm cTw cPw cSu cAs cPr.m) (fun _ _ _ _ _ _ us hl => match us, hl with | [_, _, _], _ => rfl)
  have cGr : MCalled P w K mg base C "greatest" 10 ["self"] (spGr C (osT Pt)) := gGr.called (fun f fd F => ok_gr F T Tt cTw cGs cSr) (fun _ _ _ _ _ _ us hl => match us, hl with | [_], _ => rfl)
  have cTk : MCalled P w K mg base C "take" 1 ["self", "number"] (spTk C (osT Pt)) := gTk.called (fun f fd F => ok_tk F T nLen) (fun _ _ _ _ _ _ us hl => match us, hl with | [_, _], _ => rfl)
  have cRi : Made P w K mg base "CallReader" Cr 1 ["self", "calls"] (spRi K Cr) := gRi.made kCr X G (fun f fd F => ok_ri F Tr) (fun _ _ _ _ _ _ us hl => match us, hl with | [_, _], _ => rfl)
  have cHm : MCalled P w K mg base Cr "has_more" 1 ["self"] (spHm K Cr) := gHm.called (fun f fd F => ok_hm F Tr nLen) (fun _ _ _ _ _ _ us hl => match us, hl with | [_], _ => rfl)
  have cNu : MCalled P w K mg base Cr "number" 1 ["self"] (spNu K Cr) := gNu.called (fun f fd F => ok_nu F Tr) (fun _ _ _ _ _ _ us hl => match us, hl with | [_], _ => rfl)
  have cRo : MCalled P w K mg base Cr "row" 2 ["self"] (spRo K Cr) := gRo.called (fun f fd F => ok_ro F Tr cNu) (fun _ _ _ _ _ _ us hl => match us, hl with | [_], _ => rfl)
  have cAc : Called P w K mg base "apply_call" 12 ["target", "reader"] (spAc K C Cr (osT Pt)) := gAc.called X G (fun f fd F => ok_ac F T Tr cNu cRo cBe cLi cGu cKe cAn cCh cCk cGr cTk) (fun _ _ _ _ _ _ us hl => match us, hl with | [_, _], _ => rfl)
  exact ok_aw Fa Tr nLen cRi cVi cHm cAc
end Mx
set_option Elab.async false
set_option maxRecDepth 100000
set_option maxHeartbeats 4000000
namespace Mx
open PySem PySem.Spec PyProof.Rows L2 LamX
open PySem.W (Codec)
/-- what is asked of a list of calls, in the words of the proof -/
theorem asked_facts {l : List Int} (hn : ∀ z ∈ l, 0 ≤ z) (h : PyOc08.answers_asked l = true) :
    ∃ (ms : List Nat) (cs : List (List (List Int))), l = Iv ms ∧ restOf ms 0 cs ∧ (∀ c ∈ cs, Oc08Neutral.asked1 c = true) ∧ (due ⟨[], [], []⟩ cs).length ≤ 10000000 ∧ PyOc08.answers l = due ⟨[], [], []⟩ cs := by
  have hl : l = Iv (l.map Int.toNat) := by
    rw [Iv, List.map_map]
    refine ((List.map_id' l).symm.trans (List.map_congr_left fun z hz => ?_))
    exact (Int.toNat_of_nonneg (hn z hz)).symm
  unfold PyOc08.answers_asked at h
  cases e : PyFlat.calls PyOc08.shape l.length l with
  | none =>
    rw [e] at h
    cases h
  | some raw =>
    rw [e] at h
    simp only [Bool.and_eq_true] at h
    obtain ⟨⟨⟨⟨_, _⟩, _⟩, ha⟩, hs⟩ := h
    have ew : raw.map PyOc08.whole = raw := (List.map_congr_left fun c _ => whole_id c).trans (List.map_id' raw)
    rw [ew] at ha
    have ed : PyOc08.answers l = due ⟨[], [], []⟩ raw := by
      unfold PyOc08.answers PyOc08.calls
      rw [e]
      simp only [ew]
      rfl
    refine ⟨l.map Int.toNat, raw, hl, ⟨l.length, ?_⟩, fun c hc => ?_, ?_, ed⟩
    · rw [List.drop_zero, ← hl]
      exact e
    · unfold Oc08Neutral.asked at ha
      rw [Bool.and_eq_true] at ha
      exact List.all_eq_true.1 ha.1 c hc
    · rw [← ed]
      exact of_decide_eq_true hs
theorem fz_of {K : PySem.W.Frag} {cs : List (Addr × Addr)} {H : Hp} {a : Addr} {xs : List V} (hE : Empties cs H) (hO : OnlyFT cs H) (h : SqL K H a xs) : FzL K H a xs := by
  rcases h with (e | ⟨o, e⟩) | e
  · rcases hO a with z | z | ⟨o, u, z⟩
    · rw [e] at z; cases z
    · obtain ⟨p, hp, rfl⟩ := List.mem_map.1 z
      rw [hE p hp] at e
      cases e
    · rw [e] at z; cases z
  · exact .inl ⟨o, e⟩
  · exact .inr (.inr e)
theorem int_const {p : Program} {loose : List Str} {mean : ExcName → Option Value} {mg mb : Str → Option Value} {h : Heap} (T : PyProof.Rows.Top p loose mean mg mb h) {x : Str} {i : Int} (e : valOf p x = some (.int i)) : ∃ t, mg x = some (.int i t) := by
  obtain ⟨v, a, r⟩ := T.const x _ e
  cases r h
  exact ⟨_, a⟩
/-- the table of a def's code object -/
theorem tab_in {K : PySem.W.Frag} {x : Str} {f c P : Addr} {o1 o2 : Value} {d1 d2 : Option Addr} {s1 s2 : Array (Option Value)} {fd : FuncData} {vs : Array Value} (a : PySem.W.nsIn K mainGlobals x = some (some (.ref f)))
    (l : K.lookup f = some ⟨o1, d1, .func fd, s1⟩) (hc : fd.code = .ref c) (lc : K.lookup c = some ⟨o2, d2, .fields vs, s2⟩) (hv : vs[11]? = some (.ref P)) : PySem.W.tabIn K x = some (c, P) := by
  unfold PySem.W.tabIn
  rw [a]
  simp only [l, hc, lc, hv]
end Mx
open PySem PySem.W PyProof.Rows
set_option Elab.async false
set_option maxRecDepth 100000 in
set_option maxHeartbeats 8000000 in
theorem PySem.Challenge.cw_missingaxioms_s01_answers_holds : PySem.Challenge.rw_missingaxioms_s01_answers.Holds := by
  w_on; k_headS; (case hw => exact ⟨[.list [.int 0]], by decide +kernel, by decide +kernel⟩)
  k_fillS
  refine' Mx.tab_walk (r := PySem.Challenge.rw_missingaxioms_s01_answers) (k := 13) (CX := L2.CX0) (ps := ["calls"]) (sp := fun cs K => Mx.spAw K (Mx.osT (cs.headD (0, 0)).2)) (cs := [(_, _)]) (by decide +kernel) rfl rfl ⟨rfl, by decide, by decide⟩ (fun w h Y => PySem.W.kIn_of Y) ?F ?S (fun _ _ _ _ z => z)
  case F =>
    intro w mg mb mean fa h T KX hmg
    refine' ⟨?tabs, Mx.all_mk KX T.g hmg ?kCp ?kCt ?kC ?kCr ?nLen ?nTup ?nSum ?nRange ?nRev ?nEn ?nList ?nAll ?nSorted ?nAny ?nMin ?xAXIOMS ?xHYPOTHESES ?xPROTECTED ?xATOMS ?xPRICE ?aCp_atoms ?aCp_total ?aCp_full ?aCp_demands ?aCt_axioms ?aCt_hypotheses ?aCt_protected ?aCt_profiles ?aC_axioms ?aC_hypotheses ?aC_prices ?aC_protected ?aCr_calls ?aCr_place ?aI ?lI ?aL ?lL ?gHw ?gCe ?gCs ?gIa ?gSp ?gAi ?gAe ?gEx ?gRa ?gDo ?gPi ?gDm ?gPo ?gCo ?gIw ?gOs ?hPt ?gTi ?gPw ?gAs ?gSu ?gIs ?gXp ?gGs ?gSr ?gVi ?gTm ?gBe ?gLi ?gGu ?gKe ?gQe ?gTw ?gXf ?gAn ?gPr ?gCh ?gAh ?gCk ?gGr ?gTk ?gRi ?gHm ?gNu ?gRo ?gAc ?gAw⟩
    (case kCp => refine' ⟨?aCp, ⟨?bCp, ?cCp, ?dCp, ?eCp⟩, ?fCp, ?gCp⟩; (case aCp => k_is); (case bCp => k_is); (case cCp => k_is); (case dCp => k_is); (case eCp => k_is); (case fCp => k_is); (case gCp => k_is))
    (case kCt => refine' ⟨?aCt, ⟨?bCt, ?cCt, ?dCt, ?eCt⟩, ?fCt, ?gCt⟩; (case aCt => k_is); (case bCt => k_is); (case cCt => k_is); (case dCt => k_is); (case eCt => k_is); (case fCt => k_is); (case gCt => k_is))
    (case kC => refine' ⟨?aC, ⟨?bC, ?cC, ?dC, ?eC⟩, ?fC, ?gC⟩; (case aC => k_is); (case bC => k_is); (case cC => k_is); (case dC => k_is); (case eC => k_is); (case fC => k_is); (case gC => k_is))
    (case kCr => refine' ⟨?aCr, ⟨?bCr, ?cCr, ?dCr, ?eCr⟩, ?fCr, ?gCr⟩; (case aCr => k_is); (case bCr => k_is); (case cCr => k_is); (case dCr => k_is); (case eCr => k_is); (case fCr => k_is); (case gCr => k_is))
    (case nLen => k_is)
    (case nTup => k_is)
    (case nSum => k_is)
    (case nRange => k_is)
    (case nRev => k_is)
    (case nEn => k_is)
    (case nList => k_is)
    (case nAll => k_is)
    (case nSorted => k_is)
    (case nAny => k_is)
    (case nMin => k_is)
    (case xAXIOMS => exact Mx.int_const T (by kernel_rfl))
    (case xHYPOTHESES => exact Mx.int_const T (by kernel_rfl))
    (case xPROTECTED => exact Mx.int_const T (by kernel_rfl))
    (case xATOMS => exact Mx.int_const T (by kernel_rfl))
    (case xPRICE => exact Mx.int_const T (by kernel_rfl))
    (case aCp_atoms => k_is)
    (case aCp_total => k_is)
    (case aCp_full => k_is)
    (case aCp_demands => k_is)
    (case aCt_axioms => k_is)
    (case aCt_hypotheses => k_is)
    (case aCt_protected => k_is)
    (case aCt_profiles => k_is)
    (case aC_axioms => k_is)
    (case aC_hypotheses => k_is)
    (case aC_prices => k_is)
    (case aC_protected => k_is)
    (case aCr_calls => k_is)
    (case aCr_place => k_is)
    (case aI => k_is)
    (case aL => k_is)
    (case lI => refine' Mx.tup_in ?llI ?slI ?vlI; (case llI => k_is); (case slI => decide); (case vlI => exact .cons ⟨_, rfl⟩ (.cons ⟨_, rfl⟩ (.cons ⟨_, rfl⟩ (.cons ⟨_, rfl⟩ (.cons ⟨_, rfl⟩ (.cons ⟨_, rfl⟩ (.cons ⟨_, rfl⟩ (.cons ⟨_, rfl⟩ .nil)))))))))
    (case lL => refine' Mx.tup_in ?llL ?slL ?vlL; (case llL => k_is); (case slL => decide); (case vlL => exact .cons ⟨_, rfl⟩ (.cons ⟨_, rfl⟩ (.cons ⟨_, rfl⟩ (.cons ⟨_, rfl⟩ (.cons ⟨_, rfl⟩ (.cons ⟨_, rfl⟩ (.cons ⟨_, rfl⟩ (.cons ⟨_, rfl⟩ .nil)))))))))
    (case gHw => refine' Mx.gfn ?agHw ?lgHw ?cgHw ?kgHw; (case agHw => k_is); (case lgHw => k_is); (case cgHw => k_is); (case kgHw => k_is))
    (case gCe => refine' Mx.gfn ?agCe ?lgCe ?cgCe ?kgCe; (case agCe => k_is); (case lgCe => k_is); (case cgCe => k_is); (case kgCe => k_is))
    (case gCs => refine' Mx.gfn ?agCs ?lgCs ?cgCs ?kgCs; (case agCs => k_is); (case lgCs => k_is); (case cgCs => k_is); (case kgCs => k_is))
    (case gIa => refine' Mx.gfn ?agIa ?lgIa ?cgIa ?kgIa; (case agIa => k_is); (case lgIa => k_is); (case cgIa => k_is); (case kgIa => k_is))
    (case gSp => refine' Mx.gfn ?agSp ?lgSp ?cgSp ?kgSp; (case agSp => k_is); (case lgSp => k_is); (case cgSp => k_is); (case kgSp => k_is))
    (case gAi => refine' Mx.gfn ?agAi ?lgAi ?cgAi ?kgAi; (case agAi => k_is); (case lgAi => k_is); (case cgAi => k_is); (case kgAi => k_is))
    (case gAe => refine' Mx.gme ?agAe ?igAe ?lgAe ?cgAe ?kgAe; (case agAe => k_is); (case igAe => k_is); (case lgAe => k_is); (case cgAe => k_is); (case kgAe => k_is))
    (case gEx => refine' Mx.gme ?agEx ?igEx ?lgEx ?cgEx ?kgEx; (case agEx => k_is); (case igEx => k_is); (case lgEx => k_is); (case cgEx => k_is); (case kgEx => k_is))
    (case gRa => refine' Mx.gme ?agRa ?igRa ?lgRa ?cgRa ?kgRa; (case agRa => k_is); (case igRa => k_is); (case lgRa => k_is); (case cgRa => k_is); (case kgRa => k_is))
    (case gDo => refine' Mx.gme ?agDo ?igDo ?lgDo ?cgDo ?kgDo; (case agDo => k_is); (case igDo => k_is); (case lgDo => k_is); (case cgDo => k_is); (case kgDo => k_is))
    (case gPi => refine' Mx.gme ?agPi ?igPi ?lgPi ?cgPi ?kgPi; (case agPi => k_is); (case igPi => k_is); (case lgPi => k_is); (case cgPi => k_is); (case kgPi => k_is))
    (case gDm => refine' Mx.gme ?agDm ?igDm ?lgDm ?cgDm ?kgDm; (case agDm => k_is); (case igDm => k_is); (case lgDm => k_is); (case cgDm => k_is); (case kgDm => k_is))
    (case gPo => refine' Mx.gme ?agPo ?igPo ?lgPo ?cgPo ?kgPo; (case agPo => k_is); (case igPo => k_is); (case lgPo => k_is); (case cgPo => k_is); (case kgPo => k_is))
    (case gCo => refine' Mx.gfn ?agCo ?lgCo ?cgCo ?kgCo; (case agCo => k_is); (case lgCo => k_is); (case cgCo => k_is); (case kgCo => k_is))
    (case gIw => refine' Mx.gfn ?agIw ?lgIw ?cgIw ?kgIw; (case agIw => k_is); (case lgIw => k_is); (case cgIw => k_is); (case kgIw => k_is))
    (case gOs => refine' Mx.gfc ?aO ?lO ?cO ?kO; (case aO => k_is); (case lO => k_is); (case cO => k_is); (case kO => k_is))
    (case gTi => refine' Mx.gme ?agTi ?igTi ?lgTi ?cgTi ?kgTi; (case agTi => k_is); (case igTi => k_is); (case lgTi => k_is); (case cgTi => k_is); (case kgTi => k_is))
    (case gPw => refine' Mx.gme ?agPw ?igPw ?lgPw ?cgPw ?kgPw; (case agPw => k_is); (case igPw => k_is); (case lgPw => k_is); (case cgPw => k_is); (case kgPw => k_is))
    (case gAs => refine' Mx.gme ?agAs ?igAs ?lgAs ?cgAs ?kgAs; (case agAs => k_is); (case igAs => k_is); (case lgAs => k_is); (case cgAs => k_is); (case kgAs => k_is))
    (case gSu => refine' Mx.gme ?agSu ?igSu ?lgSu ?cgSu ?kgSu; (case agSu => k_is); (case igSu => k_is); (case lgSu => k_is); (case cgSu => k_is); (case kgSu => k_is))
    (case gIs => refine' Mx.gme ?agIs ?igIs ?lgIs ?cgIs ?kgIs; (case agIs => k_is); (case igIs => k_is); (case lgIs => k_is); (case cgIs => k_is); (case kgIs => k_is))
    (case gXp => refine' Mx.gme ?agXp ?igXp ?lgXp ?cgXp ?kgXp; (case agXp => k_is); (case igXp => k_is); (case lgXp => k_is); (case cgXp => k_is); (case kgXp => k_is))
    (case gGs => refine' Mx.gme ?agGs ?igGs ?lgGs ?cgGs ?kgGs; (case agGs => k_is); (case igGs => k_is); (case lgGs => k_is); (case cgGs => k_is); (case kgGs => k_is))
    (case gSr => refine' Mx.gfn ?agSr ?lgSr ?cgSr ?kgSr; (case agSr => k_is); (case lgSr => k_is); (case cgSr => k_is); (case kgSr => k_is))
    (case gVi => refine' Mx.gme ?agVi ?igVi ?lgVi ?cgVi ?kgVi; (case agVi => k_is); (case igVi => k_is); (case lgVi => k_is); (case cgVi => k_is); (case kgVi => k_is))
    (case gTm => refine' Mx.gme ?agTm ?igTm ?lgTm ?cgTm ?kgTm; (case agTm => k_is); (case igTm => k_is); (case lgTm => k_is); (case cgTm => k_is); (case kgTm => k_is))
    (case gBe => refine' Mx.gme ?agBe ?igBe ?lgBe ?cgBe ?kgBe; (case agBe => k_is); (case igBe => k_is); (case lgBe => k_is); (case cgBe => k_is); (case kgBe => k_is))
    (case gLi => refine' Mx.gme ?agLi ?igLi ?lgLi ?cgLi ?kgLi; (case agLi => k_is); (case igLi => k_is); (case lgLi => k_is); (case cgLi => k_is); (case kgLi => k_is))
    (case gGu => refine' Mx.gme ?agGu ?igGu ?lgGu ?cgGu ?kgGu; (case agGu => k_is); (case igGu => k_is); (case lgGu => k_is); (case cgGu => k_is); (case kgGu => k_is))
    (case gKe => refine' Mx.gme ?agKe ?igKe ?lgKe ?cgKe ?kgKe; (case agKe => k_is); (case igKe => k_is); (case lgKe => k_is); (case cgKe => k_is); (case kgKe => k_is))
    (case gQe => refine' Mx.gme ?agQe ?igQe ?lgQe ?cgQe ?kgQe; (case agQe => k_is); (case igQe => k_is); (case lgQe => k_is); (case cgQe => k_is); (case kgQe => k_is))
    (case gTw => refine' Mx.gme ?agTw ?igTw ?lgTw ?cgTw ?kgTw; (case agTw => k_is); (case igTw => k_is); (case lgTw => k_is); (case cgTw => k_is); (case kgTw => k_is))
    (case gXf => refine' Mx.gme ?agXf ?igXf ?lgXf ?cgXf ?kgXf; (case agXf => k_is); (case igXf => k_is); (case lgXf => k_is); (case cgXf => k_is); (case kgXf => k_is))
    (case gAn => refine' Mx.gme ?agAn ?igAn ?lgAn ?cgAn ?kgAn; (case agAn => k_is); (case igAn => k_is); (case lgAn => k_is); (case cgAn => k_is); (case kgAn => k_is))
    (case gPr => refine' Mx.gbm ?agPr ?igPr ?lgPr ?cgPr ?kgPr ?ggPr ?tgPr ?ngPr ?qgPr; (case agPr => k_is); (case igPr => k_is); (case lgPr => k_is); (case cgPr => k_is); (case kgPr => k_is); (case ggPr => k_is); (case tgPr => k_is); (case ngPr => decide +kernel); (case qgPr => k_is))
    (case gCh => refine' Mx.gme ?agCh ?igCh ?lgCh ?cgCh ?kgCh; (case agCh => k_is); (case igCh => k_is); (case lgCh => k_is); (case cgCh => k_is); (case kgCh => k_is))
    (case gAh => refine' Mx.gme ?agAh ?igAh ?lgAh ?cgAh ?kgAh; (case agAh => k_is); (case igAh => k_is); (case lgAh => k_is); (case cgAh => k_is); (case kgAh => k_is))
    (case gCk => refine' Mx.gme ?agCk ?igCk ?lgCk ?cgCk ?kgCk; (case agCk => k_is); (case igCk => k_is); (case lgCk => k_is); (case cgCk => k_is); (case kgCk => k_is))
    (case gGr => refine' Mx.gme ?agGr ?igGr ?lgGr ?cgGr ?kgGr; (case agGr => k_is); (case igGr => k_is); (case lgGr => k_is); (case cgGr => k_is); (case kgGr => k_is))
    (case gTk => refine' Mx.gme ?agTk ?igTk ?lgTk ?cgTk ?kgTk; (case agTk => k_is); (case igTk => k_is); (case lgTk => k_is); (case cgTk => k_is); (case kgTk => k_is))
    (case gRi => refine' Mx.gme ?agRi ?igRi ?lgRi ?cgRi ?kgRi; (case agRi => k_is); (case igRi => k_is); (case lgRi => k_is); (case cgRi => k_is); (case kgRi => k_is))
    (case gHm => refine' Mx.gme ?agHm ?igHm ?lgHm ?cgHm ?kgHm; (case agHm => k_is); (case igHm => k_is); (case lgHm => k_is); (case cgHm => k_is); (case kgHm => k_is))
    (case gNu => refine' Mx.gme ?agNu ?igNu ?lgNu ?cgNu ?kgNu; (case agNu => k_is); (case igNu => k_is); (case lgNu => k_is); (case cgNu => k_is); (case kgNu => k_is))
    (case gRo => refine' Mx.gme ?agRo ?igRo ?lgRo ?cgRo ?kgRo; (case agRo => k_is); (case igRo => k_is); (case lgRo => k_is); (case cgRo => k_is); (case kgRo => k_is))
    (case gAc => refine' Mx.gfn ?agAc ?lgAc ?cgAc ?kgAc; (case agAc => k_is); (case lgAc => k_is); (case cgAc => k_is); (case kgAc => k_is))
    (case gAw => refine' Mx.gfn ?agAw ?lgAw ?cgAw ?kgAw; (case agAw => k_is); (case lgAw => k_is); (case cgAw => k_is); (case kgAw => k_is))
    (case hPt => refine' Mx.tab_in ?aT ?lT ?hT ?kT ?vT; (case aT => k_is); (case lT => k_is); (case hT => rfl); (case kT => k_is); (case vT => rfl))
    (case tabs => intro p hp; obtain rfl := List.mem_singleton.1 hp; exact ⟨PySem.W.tab_of (x := "ordered_sets") T KX rfl (by kernel_rfl), by kernel_rfl⟩)
  case S =>
    intro K H xs a hE hO hwi hask hx
    cases hx with
    | cons h1 h2 =>
      cases h2
      cases h1 with
      | lst hs ha =>
        have e := L2.ints_dw a.1 _ ha
        subst e
        have q : ((Codec.inLen 0 2280 a.1 && a.1.all (Codec.inInt 0 4294967295)) && true) = true := hwi
        rw [Bool.and_eq_true, Bool.and_eq_true] at q
        obtain ⟨ms, cs, el, hr, h1, h2, ed⟩ := Mx.asked_facts (fun z hz => (Codec.inInt_iff.mp (List.all_eq_true.1 q.1.2 z hz)).1) hask
        refine ⟨_, ms, cs, rfl, ?_, fun p hp => ?_, hr, h1, h2, fun H' p hp => ?_⟩
        · rw [← Mx.Iv_V, ← el]
          exact Mx.fz_of hE hO hs
        · obtain rfl := List.mem_singleton.1 hp
          exact LamX.TabS.nil (hE _ (List.mem_singleton.2 rfl))
        · have ed : PyOc08.answers a.1 = Mx.due ⟨[], [], []⟩ cs := ed
          exact .lst (L2.SqL.of (hp.trans (by rw [← ed]; rfl))) (L2.dw_ints _)
