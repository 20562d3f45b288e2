import PyProof.Rows.All
import Wide.All
import OpenK.AllK
import Wide.FinOn
import Open.SpecLaws
import KE.OsGo
import HandS.ForSpec
import HandS.ForMost
import HandS.Evl
import HandS.Conv
import HandS.SortInts
import HandS.SortRule
import HandS.Flow
import HandS.Steps
import KE.DatumOrd
import PySem.Challenge.RW_gluedsquaresdesk_s01_answers
set_option Elab.async false
set_option linter.all false
set_option maxRecDepth 100000
set_option maxHeartbeats 2000000
/-! Permutations as lists, their cycles. -/
namespace Gs
open Krct

/-- a list that tells all of 0 .. n-1 once -/
structure Pm (n : Nat) (l : List Nat) : Prop where
  len : l.length = n
  lt : ∀ x ∈ l, x < n
  nd : l.Nodup

theorem full {n : Nat} {l : List Nat} (nd : l.Nodup) (lt : ∀ x ∈ l, x < n) (hl : l.length = n) (s : Nat) (hs : s < n) : s ∈ l := by
  apply Classical.byContradiction
  intro h
  have h1 : (s :: l).Nodup := List.nodup_cons.mpr ⟨h, nd⟩
  have h2 : (s :: l) ⊆ List.range n := by
    intro x hx
    rw [List.mem_range]
    rcases List.mem_cons.mp hx with rfl | hx
    · exact hs
    · exact lt x hx
  have h3 := h1.length_le_of_subset h2
  rw [List.length_range, List.length_cons] at h3
  omega

theorem short_of {n : Nat} {l : List Nat} (nd : l.Nodup) (lt : ∀ x ∈ l, x < n) : l.length ≤ n := by
  have h2 : l ⊆ List.range n := fun x hx => List.mem_range.mpr (lt x hx)
  have h3 := nd.length_le_of_subset h2
  rwa [List.length_range] at h3

theorem Pm.all {n : Nat} {l : List Nat} (h : Pm n l) (s : Nat) (hs : s < n) : s ∈ l := full h.nd h.lt h.len s hs

theorem isPerm_iff {n : Nat} {l : List Nat} : isPerm n l = true ↔ Pm n l := by
  constructor
  · intro h
    unfold isPerm at h
    rw [Bool.and_eq_true, beq_iff_eq, List.all_eq_true] at h
    obtain ⟨hl, ha⟩ := h
    have sub : List.range n ⊆ l := fun x hx => by simpa using ha x hx
    have nr : (List.range n).Nodup := List.nodup_range
    have key : ∀ (m : List Nat) (k : List Nat), k.Nodup → k ⊆ m → m.length = k.length → m.Nodup ∧ m ⊆ k := by
      intro m
      induction m with
      | nil =>
        intro k _ _ _
        exact ⟨List.nodup_nil, fun x hx => by cases hx⟩
      | cons a t ih =>
        intro k hk hs hl
        have ak : a ∈ k := by
          apply Classical.byContradiction
          intro h
          have : k ⊆ t := fun x hx => by
            rcases List.mem_cons.mp (hs hx) with rfl | q
            · exact absurd hx h
            · exact q
          have := hk.length_le_of_subset this
          rw [List.length_cons] at hl
          omega
        have hk2 : (k.erase a).Nodup := hk.erase a
        have hs2 : k.erase a ⊆ t := fun x hx => by
          have hx2 := (hk.mem_erase_iff).mp hx
          rcases List.mem_cons.mp (hs hx2.2) with q | q
          · exact absurd q hx2.1
          · exact q
        have hl2 : t.length = (k.erase a).length := by
          rw [List.length_erase, if_pos (by simpa using ak)]
          rw [List.length_cons] at hl
          omega
        obtain ⟨i1, i2⟩ := ih _ hk2 hs2 hl2
        refine ⟨List.nodup_cons.mpr ⟨fun q => ?_, i1⟩, fun x hx => ?_⟩
        · have := (hk.mem_erase_iff).mp (i2 q)
          exact this.1 rfl
        · rcases List.mem_cons.mp hx with rfl | q
          · exact ak
          · exact List.mem_of_mem_erase (i2 q)
    obtain ⟨k1, k2⟩ := key l (List.range n) nr sub (by rw [hl, List.length_range])
    exact ⟨hl, fun x hx => List.mem_range.mp (k2 hx), k1⟩
  · intro h
    unfold isPerm
    rw [Bool.and_eq_true, beq_iff_eq, List.all_eq_true]
    refine ⟨h.len, fun x hx => ?_⟩
    simpa using h.all x (List.mem_range.mp hx)

/-! to, from_ -/
theorem to_eq {l : List Nat} {s : Nat} (h : s < l.length) : to l s = l[s] := by
  unfold to
  rw [List.getD_eq_getElem?_getD, List.getElem?_eq_getElem h]
  rfl
theorem to_get {l : List Nat} {s : Nat} (h : s < l.length) : l[s]? = some (to l s) := by
  rw [to_eq h, List.getElem?_eq_getElem h]
theorem Pm.to_lt {n : Nat} {l : List Nat} (h : Pm n l) {s : Nat} (hs : s < n) : to l s < n := by
  rw [to_eq (by rw [h.len]; exact hs)]
  exact h.lt _ (List.getElem_mem _)
theorem Pm.from_lt {n : Nat} {l : List Nat} (h : Pm n l) {s : Nat} (hs : s < n) : from_ l s < n := by
  unfold from_
  have := List.idxOf_lt_length_of_mem (h.all s hs)
  rwa [h.len] at this
theorem Pm.to_from {n : Nat} {l : List Nat} (h : Pm n l) {s : Nat} (hs : s < n) : to l (from_ l s) = s := by
  have q : l.idxOf s < l.length := List.idxOf_lt_length_of_mem (h.all s hs)
  show to l (l.idxOf s) = s
  rw [to_eq q]
  exact List.getElem_idxOf q
theorem Pm.inj {n : Nat} {l : List Nat} (h : Pm n l) {s t : Nat} (hs : s < n) (ht : t < n) (e : to l s = to l t) : s = t := by
  rw [to_eq (by rw [h.len]; exact hs), to_eq (by rw [h.len]; exact ht)] at e
  exact (List.getElem_inj h.nd).mp e
theorem Pm.from_to {n : Nat} {l : List Nat} (h : Pm n l) {s : Nat} (hs : s < n) : from_ l (to l s) = s :=
  h.inj (h.from_lt (h.to_lt hs)) hs (h.to_from (h.to_lt hs))

theorem len_inverse {n : Nat} {l : List Nat} : (inverse n l).length = n := by
  unfold inverse
  rw [List.length_map, List.length_range]
theorem to_map {l : List Nat} {f : Nat → Nat} {s : Nat} (h : s < l.length) : to (l.map f) s = f (to l s) := by
  rw [to_eq (by rw [List.length_map]; exact h), to_eq h, List.getElem_map]
theorem to_range {n s : Nat} (h : s < n) : to (List.range n) s = s := by
  rw [to_eq (by rw [List.length_range]; exact h), List.getElem_range]
theorem to_inverse {n : Nat} {l : List Nat} {s : Nat} (hs : s < n) : to (inverse n l) s = from_ l s := by
  unfold inverse
  rw [to_map (by rw [List.length_range]; exact hs), to_range hs]
theorem len_after {l k : List Nat} : (after l k).length = l.length := List.length_map ..
theorem to_after {l k : List Nat} {s : Nat} (h : s < l.length) : to (after l k) s = to k (to l s) := to_map h

/-- a list is a permutation if its function is one-to-one below n -/
theorem Pm.of_fun {n : Nat} {l : List Nat} (hl : l.length = n) (lt : ∀ s, s < n → to l s < n) (inj : ∀ s t, s < n → t < n → to l s = to l t → s = t) : Pm n l := by
  refine ⟨hl, fun x hx => ?_, ?_⟩
  · obtain ⟨i, hi, rfl⟩ := List.getElem_of_mem hx
    rw [← to_eq hi]
    exact lt i (by rw [← hl]; exact hi)
  · rw [List.nodup_iff_pairwise_ne, List.pairwise_iff_getElem]
    intro i j hi hj hij e
    have := inj i j (by rw [← hl]; exact hi) (by rw [← hl]; exact hj) (by rw [to_eq hi, to_eq hj]; exact e)
    omega
theorem Pm.inverse {n : Nat} {l : List Nat} (h : Pm n l) : Pm n (inverse n l) := by
  refine Pm.of_fun len_inverse (fun s hs => ?_) (fun s t hs ht e => ?_)
  · rw [to_inverse hs]
    exact h.from_lt hs
  · rw [to_inverse hs, to_inverse ht] at e
    have := congrArg (to l) e
    rwa [h.to_from hs, h.to_from ht] at this
theorem Pm.after {n : Nat} {l k : List Nat} (h : Pm n l) (hk : Pm n k) : Pm n (after l k) := by
  have e : ∀ s, s < n → to (Krct.after l k) s = to k (to l s) := fun s hs => to_after (by rw [h.len]; exact hs)
  refine Pm.of_fun (by rw [len_after, h.len]) (fun s hs => ?_) (fun s t hs ht q => ?_)
  · rw [e s hs]
    exact hk.to_lt (h.to_lt hs)
  · rw [e s hs, e t ht] at q
    exact h.inj hs ht (hk.inj (h.to_lt hs) (h.to_lt ht) q)
theorem Pm.range (n : Nat) : Pm n (List.range n) := ⟨List.length_range, fun _ h => List.mem_range.mp h, List.nodup_range⟩
theorem Pm.ext {n : Nat} {l k : List Nat} (hl : l.length = n) (hk : k.length = n) (e : ∀ s, s < n → to l s = to k s) : l = k := by
  apply List.ext_getElem (by rw [hl, hk])
  intro i h1 h2
  rw [← to_eq h1, ← to_eq h2]
  exact e i (by rw [← hl]; exact h1)

/-! ## a one-to-one function below n, again and again -/
structure Bij (n : Nat) (f : Nat → Nat) : Prop where
  lt : ∀ s, s < n → f s < n
  inj : ∀ s t, s < n → t < n → f s = f t → s = t
theorem Pm.bij {n : Nat} {l : List Nat} (h : Pm n l) : Bij n (to l) := ⟨fun _ => h.to_lt, fun _ _ => h.inj⟩

def it (f : Nat → Nat) (s : Nat) : Nat → Nat
  | 0 => s
  | k + 1 => f (it f s k)
def orb (f : Nat → Nat) (s k : Nat) : List Nat := (List.range k).map (it f s)

theorem orb_succ (f : Nat → Nat) (s k : Nat) : orb f s (k + 1) = orb f s k ++ [it f s k] := by
  unfold orb
  rw [List.range_succ, List.map_append]
  rfl
theorem orb_len (f : Nat → Nat) (s k : Nat) : (orb f s k).length = k := by
  unfold orb
  rw [List.length_map, List.length_range]
theorem mem_orb {f : Nat → Nat} {s k x : Nat} : x ∈ orb f s k ↔ ∃ i, i < k ∧ it f s i = x := by
  unfold orb
  rw [List.mem_map]
  constructor
  · rintro ⟨i, hi, e⟩
    exact ⟨i, List.mem_range.mp hi, e⟩
  · rintro ⟨i, hi, e⟩
    exact ⟨i, List.mem_range.mpr hi, e⟩
theorem Bij.it_lt {n : Nat} {f : Nat → Nat} (h : Bij n f) {s : Nat} (hs : s < n) : ∀ k, it f s k < n
  | 0 => hs
  | k + 1 => h.lt _ (h.it_lt hs k)
theorem it_add (f : Nat → Nat) (s : Nat) (i : Nat) : ∀ j, it f s (i + j) = it f (it f s i) j
  | 0 => rfl
  | j + 1 => congrArg f (it_add f s i j)
theorem Bij.it_back {n : Nat} {f : Nat → Nat} (h : Bij n f) {s : Nat} (hs : s < n) : ∀ (i d : Nat), it f s i = it f s (i + d) → s = it f s d
  | 0, d, e => by
    rw [Nat.zero_add] at e
    exact e
  | i + 1, d, e => by
    have e2 : i + 1 + d = (i + d) + 1 := by omega
    rw [e2] at e
    exact h.it_back hs i d (h.inj _ _ (h.it_lt hs _) (h.it_lt hs _) e)

/-- k is how long the ring through s is -/
structure Per (f : Nat → Nat) (s k : Nat) : Prop where
  pos : 1 ≤ k
  back : it f s k = s
  first : ∀ j, 1 ≤ j → j < k → it f s j ≠ s

theorem Per.distinct {n : Nat} {f : Nat → Nat} {s k : Nat} (h : Bij n f) (hs : s < n) (p : ∀ j, 1 ≤ j → j < k → it f s j ≠ s) {i j : Nat} (hij : i < j) (hj : j < k) : it f s i ≠ it f s j := by
  intro e
  have e2 : j = i + (j - i) := by omega
  rw [e2] at e
  exact p (j - i) (by omega) (by omega) (h.it_back hs i (j - i) e).symm
theorem orb_nodup {n : Nat} {f : Nat → Nat} {s k : Nat} (h : Bij n f) (hs : s < n) (p : ∀ j, 1 ≤ j → j < k → it f s j ≠ s) : (orb f s k).Nodup := by
  unfold orb
  rw [List.nodup_iff_pairwise_ne, List.pairwise_map]
  refine List.Pairwise.imp_of_mem ?_ (List.pairwise_lt_range (n := k))
  intro i j hi hj hij
  exact Per.distinct h hs p hij (List.mem_range.mp hj)
theorem orb_lt {n : Nat} {f : Nat → Nat} {s k : Nat} (h : Bij n f) (hs : s < n) : ∀ x ∈ orb f s k, x < n := by
  intro x hx
  obtain ⟨i, _, rfl⟩ := mem_orb.mp hx
  exact h.it_lt hs i
theorem per_le {n : Nat} {f : Nat → Nat} {s k : Nat} (h : Bij n f) (hs : s < n) (p : ∀ j, 1 ≤ j → j < k → it f s j ≠ s) : k ≤ n := by
  have := short_of (orb_nodup h hs p) (orb_lt h hs)
  rwa [orb_len] at this
theorem per_exists {n : Nat} {f : Nat → Nat} {s : Nat} (h : Bij n f) (hs : s < n) : ∃ k, Per f s k := by
  apply Classical.byContradiction
  intro no
  have all : ∀ k, ∀ j, 1 ≤ j → j < k → it f s j ≠ s := by
    intro k
    induction k with
    | zero => intro j _ h2; omega
    | succ k ih =>
      intro j h1 h2
      by_cases c : j < k
      · exact ih j h1 c
      · have : j = k := by omega
        subst this
        intro e
        exact no ⟨j, h1, e, ih⟩
  have := per_le h hs (all (n + 1))
  omega
theorem Per.le {n : Nat} {f : Nat → Nat} {s k : Nat} (p : Per f s k) (h : Bij n f) (hs : s < n) : k ≤ n := per_le h hs p.first
theorem Per.mem {n : Nat} {f : Nat → Nat} {s k : Nat} (p : Per f s k) : ∀ i, it f s i ∈ orb f s k := by
  intro i
  induction i using Nat.strongRecOn with
  | ind i ih =>
    by_cases c : i < k
    · exact mem_orb.mpr ⟨i, c, rfl⟩
    · have e : i = k + (i - k) := by omega
      have q := ih (i - k) (by have := p.pos; omega)
      rw [e, it_add, p.back]
      exact q

theorem cycle_orb {n : Nat} {f : Nat → Nat} {s k : Nat} (p : Per f s k) (h : Bij n f) (hs : s < n) : ∀ (d i : Nat), i + d = k → 1 ≤ i → ∀ fuel, d + 1 ≤ fuel → cycle f fuel (orb f s i) (it f s (i - 1)) = orb f s k
  | 0, i, hi, h1, fuel + 1, _ => by
    have : i = k := by omega
    subst this
    have e : f (it f s (i - 1)) = s := by
      have q : it f s (i - 1 + 1) = s := by rw [Nat.sub_add_cancel h1]; exact p.back
      exact q
    have m : s ∈ orb f s i := mem_orb.mpr ⟨0, h1, rfl⟩
    unfold cycle
    rw [e, if_pos (by simpa using m)]
  | d + 1, i, hi, h1, fuel + 1, hf => by
    have e : f (it f s (i - 1)) = it f s i := by
      have q : f (it f s (i - 1)) = it f s (i - 1 + 1) := rfl
      rwa [Nat.sub_add_cancel h1] at q
    have m : it f s i ∉ orb f s i := by
      intro q
      obtain ⟨j, hj, e⟩ := mem_orb.mp q
      exact Per.distinct h hs p.first hj (by omega) e
    unfold cycle
    rw [e, if_neg (by simpa using m), ← orb_succ]
    exact cycle_orb p h hs d (i + 1) (by omega) (by omega) fuel (by omega)

theorem cycleOf_eq {n : Nat} {f : Nat → Nat} {s k : Nat} (p : Per f s k) (h : Bij n f) (hs : s < n) : cycleOf n f s = orb f s k := by
  have kn := p.le h hs
  exact cycle_orb p h hs (k - 1) 1 (by have := p.pos; omega) (Nat.le_refl 1) n (by have := p.pos; omega)

/-- in one ring -/
def Con (f : Nat → Nat) (s t : Nat) : Prop := ∃ i, it f s i = t
theorem mem_cycleOf {n : Nat} {f : Nat → Nat} {s x : Nat} (h : Bij n f) (hs : s < n) : x ∈ cycleOf n f s ↔ Con f s x := by
  obtain ⟨k, p⟩ := per_exists h hs
  rw [cycleOf_eq p h hs]
  constructor
  · intro q
    obtain ⟨i, _, e⟩ := mem_orb.mp q
    exact ⟨i, e⟩
  · rintro ⟨i, rfl⟩
    exact p.mem (n := n) i
theorem Con.refl (f : Nat → Nat) (s : Nat) : Con f s s := ⟨0, rfl⟩
theorem Con.trans {f : Nat → Nat} {s t u : Nat} : Con f s t → Con f t u → Con f s u := by
  rintro ⟨i, rfl⟩ ⟨j, rfl⟩
  exact ⟨i + j, it_add f s i j⟩
theorem Con.step (f : Nat → Nat) (s : Nat) : Con f s (f s) := ⟨1, rfl⟩
theorem Con.lt {n : Nat} {f : Nat → Nat} {s t : Nat} (h : Bij n f) (hs : s < n) : Con f s t → t < n := by
  rintro ⟨i, rfl⟩
  exact h.it_lt hs i
theorem it_mul_back {f : Nat → Nat} {s k : Nat} (e : it f s k = s) : ∀ m, it f s (k * m) = s
  | 0 => rfl
  | m + 1 => by
    rw [Nat.mul_succ, it_add, it_mul_back e m, e]
theorem Con.symm {n : Nat} {f : Nat → Nat} {s t : Nat} (h : Bij n f) (hs : s < n) : Con f s t → Con f t s := by
  rintro ⟨i, rfl⟩
  obtain ⟨k, p⟩ := per_exists h hs
  have hk := p.pos
  refine ⟨k * i - i, ?_⟩
  rw [← it_add]
  have e : i + (k * i - i) = k * i := by
    have : i ≤ k * i := Nat.le_mul_of_pos_left i (by omega)
    omega
  rw [e]
  exact it_mul_back p.back i
end Gs
/-! The rings of a permutation; surfaces; bands to the east. -/
namespace Gs
open Krct

/-! ## the rings -/
def putRing (n : Nat) (f : Nat → Nat) (l : List (List Nat)) (s : Nat) : List (List Nat) := if l.any fun c => c.contains s then l else l ++ [cycleOf n f s]
def ringsTo (n : Nat) (f : Nat → Nat) (m : Nat) : List (List Nat) := (List.range m).foldl (putRing n f) []
theorem cycles_eq (n : Nat) (f : Nat → Nat) : cycles n f = ringsTo n f n := rfl
theorem ringsTo_succ (n : Nat) (f : Nat → Nat) (m : Nat) : ringsTo n f (m + 1) = putRing n f (ringsTo n f m) m := by
  unfold ringsTo
  rw [List.range_succ, List.foldl_append]
  rfl

structure RingsOk (n : Nat) (f : Nat → Nat) (m : Nat) (R : List (List Nat)) : Prop where
  of : ∀ c ∈ R, ∃ s, s < m ∧ c = cycleOf n f s
  has : ∀ s, s < m → ∃ c ∈ R, s ∈ c
  apart : R.Pairwise fun c d => ∀ x ∈ c, x ∉ d

theorem any_iff {R : List (List Nat)} {s : Nat} : (R.any fun c => c.contains s) = true ↔ ∃ c ∈ R, s ∈ c := by
  rw [List.any_eq_true]
  constructor
  · rintro ⟨c, h, q⟩
    exact ⟨c, h, by simpa using q⟩
  · rintro ⟨c, h, q⟩
    exact ⟨c, h, by simpa using q⟩

theorem ringsTo_ok {n : Nat} {f : Nat → Nat} (h : Bij n f) : ∀ m, m ≤ n → RingsOk n f m (ringsTo n f m)
  | 0, _ => ⟨fun c hc => (by cases hc), fun s hs => (by omega), List.Pairwise.nil⟩
  | m + 1, hm => by
    have ih := ringsTo_ok h m (by omega)
    rw [ringsTo_succ]
    unfold putRing
    by_cases c : ((ringsTo n f m).any fun c => c.contains m) = true
    · rw [if_pos c]
      refine ⟨fun d hd => ?_, fun s hs => ?_, ih.apart⟩
      · obtain ⟨s, h1, h2⟩ := ih.of d hd
        exact ⟨s, by omega, h2⟩
      · by_cases e : s = m
        · subst e
          exact any_iff.mp c
        · exact ih.has s (by omega)
    · rw [if_neg c]
      refine ⟨fun d hd => ?_, fun s hs => ?_, ?_⟩
      · rcases List.mem_append.mp hd with q | q
        · obtain ⟨s, h1, h2⟩ := ih.of d q
          exact ⟨s, by omega, h2⟩
        · rw [List.mem_singleton] at q
          exact ⟨m, by omega, q⟩
      · by_cases e : s = m
        · subst e
          exact ⟨_, List.mem_append_right _ (List.mem_singleton.mpr rfl), (mem_cycleOf h (by omega)).mpr (Con.refl f s)⟩
        · obtain ⟨d, h1, h2⟩ := ih.has s (by omega)
          exact ⟨d, List.mem_append_left _ h1, h2⟩
      · rw [List.pairwise_append]
        refine ⟨ih.apart, List.pairwise_singleton _ _, fun d hd e he x hx hx2 => ?_⟩
        rw [List.mem_singleton] at he
        subst he
        obtain ⟨t, h1, h2⟩ := ih.of d hd
        subst h2
        have q1 := (mem_cycleOf h (by omega)).mp hx
        have q2 := (mem_cycleOf h (by omega)).mp hx2
        have q3 : Con f t m := q1.trans (q2.symm h (by omega))
        exact c (any_iff.mpr ⟨_, hd, (mem_cycleOf h (by omega)).mpr q3⟩)
theorem cycles_ok {n : Nat} {f : Nat → Nat} (h : Bij n f) : RingsOk n f n (cycles n f) := ringsTo_ok h n (Nat.le_refl n)

theorem cycleOf_head {n : Nat} {f : Nat → Nat} {s : Nat} (h : Bij n f) (hs : s < n) : (cycleOf n f s).headD 0 = s := by
  obtain ⟨k, p⟩ := per_exists h hs
  rw [cycleOf_eq p h hs]
  have := p.pos
  obtain ⟨j, rfl⟩ : ∃ j, k = j + 1 := ⟨k - 1, by omega⟩
  unfold orb
  rw [List.range_succ_eq_map, List.map_cons]
  rfl
theorem cycleOf_lt {n : Nat} {f : Nat → Nat} {s : Nat} (h : Bij n f) (hs : s < n) : ∀ x ∈ cycleOf n f s, x < n := fun _ hx => Con.lt h hs ((mem_cycleOf h hs).mp hx)
theorem cycleOf_nodup {n : Nat} {f : Nat → Nat} {s : Nat} (h : Bij n f) (hs : s < n) : (cycleOf n f s).Nodup := by
  obtain ⟨k, p⟩ := per_exists h hs
  rw [cycleOf_eq p h hs]
  exact orb_nodup h hs p.first

/-- which ring a square is in -/
def place (R : List (List Nat)) (s : Nat) : Nat := R.findIdx fun c => c.contains s
section
variable {n : Nat} {f : Nat → Nat} {R : List (List Nat)}
theorem RingsOk.place_lt (o : RingsOk n f n R) {s : Nat} (hs : s < n) : place R s < R.length := by
  obtain ⟨c, h1, h2⟩ := o.has s hs
  exact List.findIdx_lt_length_of_exists ⟨c, h1, by simpa using h2⟩
theorem RingsOk.place_mem (o : RingsOk n f n R) {s : Nat} (hs : s < n) : s ∈ R[place R s]'(o.place_lt hs) := by
  have l := o.place_lt hs
  have q := List.findIdx_getElem (xs := R) (p := fun c : List Nat => c.contains s) (w := l)
  exact List.contains_iff_mem.mp q
theorem RingsOk.place_eq (o : RingsOk n f n R) {s i : Nat} (hi : i < R.length) (hs : s ∈ R[i]) (hn : s < n) : place R s = i := by
  have l := o.place_lt hn
  have m := o.place_mem hn
  have pw := List.pairwise_iff_getElem.mp o.apart
  by_cases c : place R s < i
  · exact absurd hs (pw _ _ l hi c s m)
  · by_cases c2 : i < place R s
    · exact absurd m (pw _ _ hi l c2 s hs)
    · omega
theorem RingsOk.ring (o : RingsOk n f n R) {i : Nat} (hi : i < R.length) : ∃ s, s < n ∧ R[i] = cycleOf n f s := o.of _ (List.getElem_mem hi)
theorem RingsOk.mem_iff (o : RingsOk n f n R) (h : Bij n f) {i x t : Nat} (hi : i < R.length) (ht : t ∈ R[i]) : x ∈ R[i] ↔ Con f t x := by
  obtain ⟨s, hs, e⟩ := o.ring hi
  rw [e] at ht ⊢
  have ht' := (mem_cycleOf h hs).mp ht
  rw [mem_cycleOf h hs]
  constructor
  · intro q
    exact (ht'.symm h hs).trans q
  · intro q
    exact ht'.trans q
theorem RingsOk.lt (o : RingsOk n f n R) (h : Bij n f) {i x : Nat} (hi : i < R.length) (hx : x ∈ R[i]) : x < n := by
  obtain ⟨s, hs, e⟩ := o.ring hi
  rw [e] at hx
  exact cycleOf_lt h hs x hx
theorem RingsOk.head_mem (o : RingsOk n f n R) (h : Bij n f) {i : Nat} (hi : i < R.length) : R[i].headD 0 ∈ R[i] := by
  obtain ⟨s, hs, e⟩ := o.ring hi
  rw [e, cycleOf_head h hs]
  exact (mem_cycleOf h hs).mpr (Con.refl f s)
theorem RingsOk.head_place (o : RingsOk n f n R) (h : Bij n f) {i : Nat} (hi : i < R.length) : place R (R[i].headD 0) = i := o.place_eq hi (o.head_mem h hi) (o.lt h hi (o.head_mem h hi))
theorem RingsOk.len_le (o : RingsOk n f n R) (h : Bij n f) : R.length ≤ n := by
  have nd : (R.map fun c => c.headD 0).Nodup := by
    rw [List.nodup_iff_pairwise_ne, List.pairwise_map]
    rw [List.pairwise_iff_getElem]
    intro i j hi hj hij e
    have a := o.head_place h hi
    have b := o.head_place h hj
    rw [e] at a
    omega
  have lt : ∀ x ∈ R.map fun c => c.headD 0, x < n := by
    intro x hx
    obtain ⟨c, hc, rfl⟩ := List.mem_map.mp hx
    obtain ⟨i, hi, rfl⟩ := List.getElem_of_mem hc
    exact o.lt h hi (o.head_mem h hi)
  have := short_of nd lt
  rwa [List.length_map] at this
theorem RingsOk.con_place (o : RingsOk n f n R) (h : Bij n f) {s t : Nat} (hs : s < n) (c : Con f s t) : place R t = place R s :=
  o.place_eq (o.place_lt hs) ((o.mem_iff h (o.place_lt hs) (o.place_mem hs)).mpr c) (c.lt h hs)
theorem RingsOk.pos (o : RingsOk n f n R) (hn : 0 < n) : 0 < R.length := by
  have := o.place_lt hn
  omega
end
theorem zero_place {n : Nat} {f : Nat → Nat} (h : Bij n f) (hn : 0 < n) : place (cycles n f) 0 = 0 := by
  have o := cycles_ok h
  have ex : ∃ t, cycles n f = cycleOf n f 0 :: t := by
    rw [cycles_eq]
    have key : ∀ m, 1 ≤ m → ∃ t, ringsTo n f m = cycleOf n f 0 :: t := by
      intro m hm
      induction m with
      | zero => omega
      | succ m ih =>
        rw [ringsTo_succ]
        by_cases c : m = 0
        · subst c
          exact ⟨[], rfl⟩
        · obtain ⟨t, e⟩ := ih (by omega)
          rw [e]
          unfold putRing
          split
          · exact ⟨t, rfl⟩
          · exact ⟨t ++ [cycleOf n f m], rfl⟩
    exact key n hn
  obtain ⟨t, e⟩ := ex
  have hi : 0 < (cycles n f).length := o.pos hn
  refine o.place_eq hi ?_ hn
  have e2 : (cycles n f)[0]'hi = cycleOf n f 0 := by
    simp only [e, List.getElem_cons_zero]
  rw [e2]
  exact (mem_cycleOf h hn).mpr (Con.refl f 0)

/-! ## surfaces -/
structure Ok (g : Glued) : Prop where
  pos : 1 ≤ g.n
  six : g.n ≤ 6
  ea : Pm g.n g.east
  no : Pm g.n g.north
  con : ∀ S : Nat → Prop, S 0 → (∀ s, s < g.n → S s → S (to g.east s) ∧ S (to g.north s)) → ∀ s, s < g.n → S s

theorem closed_con {n : Nat} {f : Nat → Nat} (h : Bij n f) {S : Nat → Prop} (c : ∀ s, s < n → S s → S (f s)) {s t : Nat} (hs : s < n) (q : S s) : Con f s t → S t := by
  rintro ⟨i, rfl⟩
  induction i with
  | zero => exact q
  | succ i ih => exact c _ (h.it_lt hs i) ih
theorem closed_back {n : Nat} {f : Nat → Nat} (h : Bij n f) {S : Nat → Prop} (c : ∀ s, s < n → S s → S (f s)) {s : Nat} (hs : s < n) (q : S (f s)) : S s :=
  closed_con h c (h.lt s hs) q ((Con.step f s).symm h hs)

theorem Ok.shear {g : Glued} (o : Ok g) : Ok (Krcu.shear g) := by
  refine ⟨o.pos, o.six, o.ea, o.ea.inverse.after o.no, fun S h0 hc s hs => ?_⟩
  refine o.con S h0 (fun t ht q => ?_) s hs
  have e1 : S (to g.east t) := (hc t ht q).1
  refine ⟨e1, ?_⟩
  have e2 := (hc _ (o.ea.to_lt ht) e1).2
  have e3 : to (Krcu.shear g).north (to g.east t) = to g.north t := by
    show to (after (inverse g.n g.east) g.north) (to g.east t) = to g.north t
    rw [to_after (by rw [len_inverse]; exact o.ea.to_lt ht), to_inverse (o.ea.to_lt ht), o.ea.from_to ht]
  rwa [e3] at e2
theorem Ok.unshear {g : Glued} (o : Ok g) : Ok (Krcu.unshear g) := by
  refine ⟨o.pos, o.six, o.ea, o.ea.after o.no, fun S h0 hc s hs => ?_⟩
  refine o.con S h0 (fun t ht q => ?_) s hs
  refine ⟨(hc t ht q).1, ?_⟩
  have w := o.ea.from_lt ht
  have e1 : S (from_ g.east t) := closed_back o.ea.bij (fun u hu k => (hc u hu k).1) w (by rw [o.ea.to_from ht]; exact q)
  have e2 := (hc _ w e1).2
  have e3 : to (Krcu.unshear g).north (from_ g.east t) = to g.north t := by
    show to (after g.east g.north) (from_ g.east t) = to g.north t
    rw [to_after (by rw [o.ea.len]; exact w), o.ea.to_from ht]
  rwa [e3] at e2
theorem Ok.turn {g : Glued} (o : Ok g) : Ok (Krcu.turn g) := by
  refine ⟨o.pos, o.six, o.no.inverse, o.ea, fun S h0 hc s hs => ?_⟩
  refine o.con S h0 (fun t ht q => ?_) s hs
  refine ⟨(hc t ht q).2, ?_⟩
  refine closed_back o.no.inverse.bij (fun u hu k => (hc u hu k).1) (o.no.to_lt ht) ?_
  rw [to_inverse (o.no.to_lt ht), o.no.from_to ht]
  exact q

/-! ## once round -/
theorem round_eq (g : Glued) (s : Nat) : g.round s = from_ g.north (from_ g.east (to g.north (to g.east s))) := rfl
theorem Ok.round_bij {g : Glued} (o : Ok g) : Bij g.n g.round := by
  refine ⟨fun s hs => ?_, fun s t hs ht e => ?_⟩
  · rw [round_eq]
    exact o.no.from_lt (o.ea.from_lt (o.no.to_lt (o.ea.to_lt hs)))
  · rw [round_eq, round_eq] at e
    have e1 := congrArg (to g.north) e
    rw [o.no.to_from (o.ea.from_lt (o.no.to_lt (o.ea.to_lt hs))), o.no.to_from (o.ea.from_lt (o.no.to_lt (o.ea.to_lt ht)))] at e1
    have e2 := congrArg (to g.east) e1
    rw [o.ea.to_from (o.no.to_lt (o.ea.to_lt hs)), o.ea.to_from (o.no.to_lt (o.ea.to_lt ht))] at e2
    exact o.ea.inj hs ht (o.no.inj (o.ea.to_lt hs) (o.ea.to_lt ht) e2)
theorem Ok.round_self {g : Glued} (o : Ok g) {s : Nat} (hs : s < g.n) (e : g.round s = s) : to g.north (to g.east s) = to g.east (to g.north s) := by
  rw [round_eq] at e
  have e1 := congrArg (to g.north) e
  rw [o.no.to_from (o.ea.from_lt (o.no.to_lt (o.ea.to_lt hs)))] at e1
  have e2 := congrArg (to g.east) e1
  rwa [o.ea.to_from (o.no.to_lt (o.ea.to_lt hs))] at e2

/-! ## rows, and the row above -/
theorem smooth_iff {g : Glued} {r : List Nat} : Krcu.smooth g r = true ↔ ∀ s ∈ r, g.round s = s := by
  unfold Krcu.smooth
  rw [List.all_eq_true]
  constructor
  · intro h s hs
    simpa using h s hs
  · intro h s hs
    simpa using h s hs
theorem Ok.rows_ok {g : Glued} (o : Ok g) : RingsOk g.n (to g.east) g.n (Krcu.rows g) := cycles_ok o.ea.bij

/-- which row lies above the i-th, if that is smooth -/
def up (g : Glued) (i : Nat) : Option Nat := match (Krcu.rows g)[i]? with
  | none => none
  | some r => if Krcu.smooth g r then some (place (Krcu.rows g) (to g.north (r.headD 0))) else none

theorem up_eq {g : Glued} {i : Nat} (hi : i < (Krcu.rows g).length) : up g i = if Krcu.smooth g (Krcu.rows g)[i] then some (place (Krcu.rows g) (to g.north ((Krcu.rows g)[i].headD 0))) else none := by
  unfold up
  rw [List.getElem?_eq_getElem hi]

theorem up_con {g : Glued} (o : Ok g) {t : Nat} (ht : t < g.n) (sm : ∀ x, Con (to g.east) t x → g.round x = x) : ∀ j, to g.north (it (to g.east) t j) = it (to g.east) (to g.north t) j
  | 0 => rfl
  | j + 1 => by
    show to g.north (to g.east (it (to g.east) t j)) = to g.east (it (to g.east) (to g.north t) j)
    rw [← up_con o ht sm j]
    exact o.round_self (o.ea.bij.it_lt ht j) (sm _ ⟨j, rfl⟩)

theorem Ok.up_of {g : Glued} (o : Ok g) {i t : Nat} (hi : i < (Krcu.rows g).length) (ht : t ∈ (Krcu.rows g)[i]) : up g i = if Krcu.smooth g (Krcu.rows g)[i] then some (place (Krcu.rows g) (to g.north t)) else none := by
  rw [up_eq hi]
  by_cases c : Krcu.smooth g (Krcu.rows g)[i] = true
  · rw [if_pos c, if_pos c]
    have b := o.ea.bij
    have hm := o.rows_ok.head_mem b hi
    have hl := o.rows_ok.lt b hi hm
    have cn := (o.rows_ok.mem_iff b hi hm).mp ht
    have sm : ∀ x, Con (to g.east) ((Krcu.rows g)[i].headD 0) x → g.round x = x := fun x hx => smooth_iff.mp c x ((o.rows_ok.mem_iff b hi hm).mpr hx)
    obtain ⟨j, rfl⟩ := cn
    rw [up_con o hl sm j, o.rows_ok.con_place b (o.no.to_lt hl) ⟨j, rfl⟩]
  · rw [if_neg c, if_neg c]
theorem Ok.up_lt {g : Glued} (o : Ok g) {i j : Nat} (hi : i < (Krcu.rows g).length) (e : up g i = some j) : j < (Krcu.rows g).length := by
  rw [up_eq hi] at e
  split at e
  · cases e
    exact o.rows_ok.place_lt (o.no.to_lt (o.rows_ok.lt o.ea.bij hi (o.rows_ok.head_mem o.ea.bij hi)))
  · cases e
theorem Ok.up_inj {g : Glued} (o : Ok g) {i j k : Nat} (hi : i < (Krcu.rows g).length) (hj : j < (Krcu.rows g).length) (ei : up g i = some k) (ej : up g j = some k) : i = j := by
  have b := o.ea.bij
  have mi := o.rows_ok.head_mem b hi
  have mj := o.rows_ok.head_mem b hj
  have li := o.rows_ok.lt b hi mi
  have lj := o.rows_ok.lt b hj mj
  rw [up_eq hi] at ei
  rw [up_eq hj] at ej
  by_cases c : Krcu.smooth g (Krcu.rows g)[i] = true
  · by_cases d : Krcu.smooth g (Krcu.rows g)[j] = true
    · rw [if_pos c] at ei
      rw [if_pos d] at ej
      have e : place (Krcu.rows g) (to g.north ((Krcu.rows g)[i].headD 0)) = place (Krcu.rows g) (to g.north ((Krcu.rows g)[j].headD 0)) := by
        rw [Option.some.inj ei, Option.some.inj ej]
      have sm : ∀ x, Con (to g.east) ((Krcu.rows g)[i].headD 0) x → g.round x = x := fun x hx => smooth_iff.mp c x ((o.rows_ok.mem_iff b hi mi).mpr hx)
      have pl := o.rows_ok.place_lt (o.no.to_lt li)
      have q1 := o.rows_ok.place_mem (o.no.to_lt li)
      have q2 := o.rows_ok.place_mem (o.no.to_lt lj)
      have q3 : to g.north ((Krcu.rows g)[j].headD 0) ∈ (Krcu.rows g)[place (Krcu.rows g) (to g.north ((Krcu.rows g)[i].headD 0))]'pl := by
        simp only [e]
        exact q2
      obtain ⟨m, em⟩ := (o.rows_ok.mem_iff b pl q1).mp q3
      rw [← up_con o li sm m] at em
      have em2 := o.no.inj (b.it_lt li m) lj em
      have q4 : (Krcu.rows g)[j].headD 0 ∈ (Krcu.rows g)[i] := (o.rows_ok.mem_iff b hi mi).mpr ⟨m, em2⟩
      rw [← o.rows_ok.place_eq hi q4 lj]
      exact o.rows_ok.place_eq hj mj lj
    · rw [if_neg d] at ej
      cases ej
  · rw [if_neg c] at ei
    cases ei

/-! ## climbing, by the rows' places -/
def climbI (u : Nat → Option Nat) (i0 : Nat) : Nat → Nat → Nat
  | 0, _ => 0
  | k + 1, i => match u i with
    | none => 1
    | some j => if j = i0 then 1 else climbI u i0 k j + 1

theorem Ok.climb_eq {g : Glued} (o : Ok g) {i0 : Nat} (h0 : i0 < (Krcu.rows g).length) : ∀ (k i t : Nat) (hi : i < (Krcu.rows g).length), t ∈ (Krcu.rows g)[i] →
    Krcu.climb g (Krcu.rows g)[i0] k (Krcu.rowOf g t) = climbI (up g) i0 k i
  | 0, _, _, _, _ => rfl
  | k + 1, i, t, hi, ht => by
    have b := o.ea.bij
    have lt := o.rows_ok.lt b hi ht
    have same : ∀ x, x ∈ Krcu.rowOf g t ↔ x ∈ (Krcu.rows g)[i] := fun x => (mem_cycleOf b lt).trans (o.rows_ok.mem_iff b hi ht).symm
    have es : Krcu.smooth g (Krcu.rowOf g t) = Krcu.smooth g (Krcu.rows g)[i] := by
      rw [Bool.eq_iff_iff, smooth_iff, smooth_iff]
      constructor
      · intro q s hs
        exact q s ((same s).mpr hs)
      · intro q s hs
        exact q s ((same s).mp hs)
    have hh : (Krcu.rowOf g t).headD 0 = t := cycleOf_head b lt
    have ea : Krcu.above g (Krcu.rowOf g t) = Krcu.rowOf g (to g.north t) := by
      unfold Krcu.above
      rw [hh]
    unfold Krcu.climb climbI
    rw [es, ea, o.up_of hi ht]
    by_cases c : Krcu.smooth g (Krcu.rows g)[i] = true
    · rw [c, if_neg (by decide), if_pos rfl]
      have lN := o.no.to_lt lt
      have pl := o.rows_ok.place_lt lN
      have pm := o.rows_ok.place_mem lN
      have m0 := o.rows_ok.head_mem b h0
      have e : (Krcu.rowOf g (to g.north t)).contains ((Krcu.rows g)[i0].headD 0) = true ↔ place (Krcu.rows g) (to g.north t) = i0 := by
        rw [List.contains_iff_mem]
        constructor
        · intro q
          have q1 := (mem_cycleOf b lN).mp q
          rw [← o.rows_ok.con_place b lN q1]
          exact o.rows_ok.head_place b h0
        · intro q
          refine (mem_cycleOf b lN).mpr ((o.rows_ok.mem_iff b pl pm).mp ?_)
          simp only [q]
          exact m0
      show (if (Krcu.rowOf g (to g.north t)).contains ((Krcu.rows g)[i0].headD 0) = true then 1 else _) = if place (Krcu.rows g) (to g.north t) = i0 then 1 else _
      by_cases d : place (Krcu.rows g) (to g.north t) = i0
      · rw [if_pos d, if_pos (e.mpr d)]
      · rw [if_neg d, if_neg (fun q => d (e.mp q))]
        rw [o.climb_eq h0 k _ (to g.north t) pl pm]
    · rw [if_neg c]
      have c2 : Krcu.smooth g (Krcu.rows g)[i] = false := by simpa using c
      rw [c2]
      rfl
theorem Ok.row_of {g : Glued} (o : Ok g) {i : Nat} (hi : i < (Krcu.rows g).length) : (Krcu.rows g)[i] = Krcu.rowOf g ((Krcu.rows g)[i].headD 0) := by
  obtain ⟨s, hs, e⟩ := o.rows_ok.ring hi
  rw [e, cycleOf_head o.ea.bij hs]
  rfl
theorem Ok.climb_row {g : Glued} (o : Ok g) {i : Nat} (hi : i < (Krcu.rows g).length) (k : Nat) : Krcu.climb g (Krcu.rows g)[i] k (Krcu.rows g)[i] = climbI (up g) i k i := by
  have := o.climb_eq hi k i ((Krcu.rows g)[i].headD 0) hi (o.rows_ok.head_mem o.ea.bij hi)
  rwa [← o.row_of hi] at this
end Gs
/-! How high a band is; the bands to the east. -/
namespace Gs
open Krct

/-! ## a way upwards that comes to an end -/
def ht (u : Nat → Option Nat) : Nat → Nat → Nat
  | 0, _ => 0
  | k + 1, i => match u i with
    | none => 1
    | some j => ht u k j + 1
def ends (u : Nat → Option Nat) : Nat → Nat → Prop
  | 0, _ => False
  | k + 1, i => match u i with
    | none => True
    | some j => ends u k j
theorem ht_none {u : Nat → Option Nat} {k i : Nat} (e : u i = none) : ht u (k + 1) i = 1 := by
  unfold ht
  rw [e]
theorem ht_some {u : Nat → Option Nat} {k i j : Nat} (e : u i = some j) : ht u (k + 1) i = ht u k j + 1 := by
  conv => lhs; unfold ht
  rw [e]
theorem ends_none {u : Nat → Option Nat} {k i : Nat} (e : u i = none) : ends u (k + 1) i := by
  unfold ends
  rw [e]
  trivial
theorem ends_some {u : Nat → Option Nat} {k i j : Nat} (e : u i = some j) : ends u (k + 1) i ↔ ends u k j := by
  conv => lhs; unfold ends
  rw [e]
theorem ends_more {u : Nat → Option Nat} : ∀ {k i : Nat}, ends u k i → ends u (k + 1) i ∧ ht u (k + 1) i = ht u k i
  | 0, _, h => h.elim
  | k + 1, i, h => by
    cases e : u i with
    | none => exact ⟨ends_none e, by rw [ht_none e, ht_none e]⟩
    | some j =>
      have := ends_more ((ends_some e).mp h)
      exact ⟨(ends_some e).mpr this.1, by rw [ht_some e, ht_some e, this.2]⟩
theorem ends_add {u : Nat → Option Nat} {k i : Nat} (h : ends u k i) : ∀ d, ends u (k + d) i ∧ ht u (k + d) i = ht u k i
  | 0 => ⟨h, rfl⟩
  | d + 1 => by
    have a := ends_add h d
    have b := ends_more a.1
    exact ⟨b.1, b.2.trans a.2⟩
theorem ends_le {u : Nat → Option Nat} {k m i : Nat} (h : ends u k i) (hm : k ≤ m) : ends u m i ∧ ht u m i = ht u k i := by
  have := ends_add h (m - k)
  rwa [Nat.add_sub_cancel' hm] at this
theorem ht_pos {u : Nat → Option Nat} {k i : Nat} (h : ends u k i) : 1 ≤ ht u k i := by
  cases k with
  | zero => exact h.elim
  | succ k =>
    cases e : u i with
    | none => rw [ht_none e]; exact Nat.le_refl 1
    | some j => rw [ht_some e]; omega
theorem ht_le (u : Nat → Option Nat) : ∀ (k i : Nat), ht u k i ≤ k
  | 0, _ => Nat.le_refl 0
  | k + 1, i => by
    cases e : u i with
    | none => rw [ht_none e]; omega
    | some j =>
      rw [ht_some e]
      have := ht_le u k j
      omega

/-- the rows on the way -/
def ch (u : Nat → Option Nat) (i : Nat) : Nat → Option Nat
  | 0 => some i
  | k + 1 => (ch u i k).bind u
theorem ch_of_not {u : Nat → Option Nat} : ∀ (k i a : Nat), ch u i a = none → a ≤ k → ends u k i
  | k, i, 0, h, _ => by cases h
  | 0, i, a + 1, _, hk => by omega
  | k + 1, i, a + 1, h, hk => by
    cases e : u i with
    | none => exact ends_none e
    | some j =>
      have sh : ∀ b, ch u i (b + 1) = ch u j b := by
        intro b
        induction b with
        | zero => exact e
        | succ b ih =>
          show (ch u i (b + 1)).bind u = (ch u j b).bind u
          rw [ih]
      rw [sh] at h
      exact (ends_some e).mpr (ch_of_not k j a h (by omega))

structure Upw (m : Nat) (u : Nat → Option Nat) : Prop where
  lt : ∀ i j, i < m → u i = some j → j < m
  inj : ∀ i j k, i < m → j < m → u i = some k → u j = some k → i = j

theorem Upw.ch_lt {m : Nat} {u : Nat → Option Nat} (h : Upw m u) {i : Nat} (hi : i < m) : ∀ k j, ch u i k = some j → j < m
  | 0, j, e => by
    cases e
    exact hi
  | k + 1, j, e => by
    have e' : (ch u i k).bind u = some j := e
    cases c : ch u i k with
    | none => rw [c] at e'; cases e'
    | some x =>
      rw [c] at e'
      exact h.lt x j (h.ch_lt hi k x c) e'
theorem Upw.ch_ne {m : Nat} {u : Nat → Option Nat} (h : Upw m u) {i : Nat} (hi : i < m) (bot : ∀ j, j < m → u j ≠ some i) : ∀ (a b x : Nat), a < b → ch u i a = some x → ch u i b ≠ some x
  | a, 0, x, hab, _, _ => by omega
  | 0, b + 1, x, _, ea, eb => by
    cases ea
    have eb' : (ch u i b).bind u = some i := eb
    cases c : ch u i b with
    | none => rw [c] at eb'; cases eb'
    | some y =>
      rw [c] at eb'
      exact bot y (h.ch_lt hi b y c) eb'
  | a + 1, b + 1, x, hab, ea, eb => by
    have ea' : (ch u i a).bind u = some x := ea
    have eb' : (ch u i b).bind u = some x := eb
    cases c : ch u i a with
    | none => rw [c] at ea'; cases ea'
    | some y =>
      cases d : ch u i b with
      | none => rw [d] at eb'; cases eb'
      | some z =>
        rw [c] at ea'
        rw [d] at eb'
        have e := h.inj y z x (h.ch_lt hi a y c) (h.ch_lt hi b z d) ea' eb'
        subst e
        exact h.ch_ne hi bot a b y (by omega) c d
theorem Upw.ends {m : Nat} {u : Nat → Option Nat} (h : Upw m u) {i : Nat} (hi : i < m) (bot : ∀ j, j < m → u j ≠ some i) : Gs.ends u m i := by
  apply Classical.byContradiction
  intro no
  have all : ∀ a, a ≤ m → ∃ x, ch u i a = some x := by
    intro a ha
    cases c : ch u i a with
    | none => exact absurd (ch_of_not m i a c ha) no
    | some x => exact ⟨x, rfl⟩
  have nd : ((List.range (m + 1)).map fun a => (ch u i a).getD 0).Nodup := by
    rw [List.nodup_iff_pairwise_ne, List.pairwise_map]
    refine List.Pairwise.imp_of_mem ?_ (List.pairwise_lt_range (n := m + 1))
    intro a b ha hb hab e
    obtain ⟨x, ex⟩ := all a (by have := List.mem_range.mp ha; omega)
    obtain ⟨y, ey⟩ := all b (by have := List.mem_range.mp hb; omega)
    rw [ex, ey] at e
    have e' : x = y := e
    subst e'
    exact h.ch_ne hi bot a b x hab ex ey
  have lt : ∀ x ∈ (List.range (m + 1)).map fun a => (ch u i a).getD 0, x < m := by
    intro x hx
    obtain ⟨a, ha, rfl⟩ := List.mem_map.mp hx
    obtain ⟨y, ey⟩ := all a (by have := List.mem_range.mp ha; omega)
    rw [ey]
    exact h.ch_lt hi a y ey
  have := short_of nd lt
  rw [List.length_map, List.length_range] at this
  omega
theorem climb_ht {m : Nat} {u : Nat → Option Nat} (h : Upw m u) {i0 : Nat} (bot : ∀ j, j < m → u j ≠ some i0) : ∀ k i, i < m → climbI u i0 k i = ht u k i
  | 0, _, _ => rfl
  | k + 1, i, hi => by
    unfold climbI
    cases e : u i with
    | none => rw [ht_none e]
    | some j =>
      have hj : j ≠ i0 := fun q => bot i hi (by rw [e, q])
      rw [ht_some e]
      show (if j = i0 then 1 else climbI u i0 k j + 1) = _
      rw [if_neg hj, climb_ht h bot k j (h.lt i j hi e)]

/-! ## no lowest row -/
theorem perm_of_cover {m : Nat} {L : List Nat} (hl : L.length ≤ m) (c : ∀ i, i < m → i ∈ L) : Pm m L := by
  have h1 := (List.nodup_range (n := m)).length_le_of_subset (l₂ := L) (fun x hx => c x (List.mem_range.mp hx))
  rw [List.length_range] at h1
  refine isPerm_iff.mp ?_
  unfold isPerm
  rw [Bool.and_eq_true, beq_iff_eq, List.all_eq_true]
  exact ⟨by omega, fun x hx => by simpa using c x (List.mem_range.mp hx)⟩
theorem filterMap_full {u : Nat → Option Nat} : ∀ (l : List Nat), (l.filterMap u).length = l.length → ∀ i ∈ l, ∃ j, u i = some j
  | [], _, i, hi => by cases hi
  | a :: l, h, i, hi => by
    cases e : u a with
    | none =>
      rw [List.filterMap_cons_none e, List.length_cons] at h
      have := List.length_filterMap_le u l
      omega
    | some b =>
      rw [List.filterMap_cons_some e, List.length_cons, List.length_cons] at h
      rcases List.mem_cons.mp hi with rfl | q
      · exact ⟨b, e⟩
      · exact filterMap_full l (by omega) i q
theorem filterMap_total {u : Nat → Option Nat} : ∀ (l : List Nat), (∀ i ∈ l, ∃ j, u i = some j) → l.filterMap u = l.map fun i => (u i).getD 0
  | [], _ => rfl
  | a :: l, h => by
    obtain ⟨j, e⟩ := h a (List.mem_cons_self ..)
    rw [List.filterMap_cons_some e, List.map_cons, e, filterMap_total l fun i hi => h i (List.mem_cons_of_mem _ hi)]
    rfl
theorem round_up {m : Nat} {u : Nat → Option Nat} (cov : ∀ i, i < m → ∃ j, j < m ∧ u j = some i) : ∃ L, Pm m L ∧ ∀ i, i < m → u i = some (to L i) := by
  have hp : Pm m ((List.range m).filterMap u) := by
    refine perm_of_cover ?_ ?_
    · have := List.length_filterMap_le u (List.range m)
      rwa [List.length_range] at this
    · intro i hi
      obtain ⟨j, hj, e⟩ := cov i hi
      exact List.mem_filterMap.mpr ⟨j, List.mem_range.mpr hj, e⟩
  have tot := filterMap_full (List.range m) (by rw [hp.len, List.length_range])
  refine ⟨_, hp, fun i hi => ?_⟩
  rw [filterMap_total _ tot, to_map (by rw [List.length_range]; exact hi), to_range hi]
  obtain ⟨j, e⟩ := tot i (List.mem_range.mpr hi)
  rw [e]
  rfl
theorem climb_round {m : Nat} {u : Nat → Option Nat} {L : List Nat} (hp : Pm m L) (hu : ∀ i, i < m → u i = some (to L i)) {i0 p : Nat} (h0 : i0 < m) (per : Per (to L) i0 p) : ∀ (d i k : Nat), i + d + 1 = p → d + 1 ≤ k → climbI u i0 k (it (to L) i0 i) = d + 1
  | d, i, 0, _, hk => by omega
  | 0, i, k + 1, e, _ => by
    unfold climbI
    rw [hu _ (hp.bij.it_lt h0 i)]
    have : to L (it (to L) i0 i) = i0 := by
      have q := per.back
      rw [← e] at q
      exact q
    show (if to L (it (to L) i0 i) = i0 then 1 else _) = 1
    rw [if_pos this]
  | d + 1, i, k + 1, e, hk => by
    unfold climbI
    rw [hu _ (hp.bij.it_lt h0 i)]
    have : to L (it (to L) i0 i) ≠ i0 := per.first (i + 1) (by omega) (by omega)
    show (if to L (it (to L) i0 i) = i0 then 1 else climbI u i0 k (to L (it (to L) i0 i)) + 1) = d + 1 + 1
    rw [if_neg this]
    have := climb_round hp hu h0 per d (i + 1) k (by omega) (by omega)
    exact congrArg (· + 1) this

/-! ## the bands to the east -/
def rowAt (g : Glued) (i : Nat) : List Nat := (Krcu.rows g).getD i []
def rowsN (g : Glued) : Nat := (Krcu.rows g).length
def isBot (g : Glued) (i : Nat) : Bool := !(List.range (rowsN g)).any fun j => up g j == some i
def lowBands (g : Glued) : List (Nat × Nat) := ((List.range (rowsN g)).filter (isBot g)).map fun i => ((rowAt g i).length, ht (up g) g.n i)
def bandsM (g : Glued) : List (Nat × Nat) := if (lowBands g).isEmpty then [((rowAt g 0).length, rowsN g)] else lowBands g
def pairLe (x y : Nat × Nat) : Bool := decide (x.1 < y.1) || (x.1 == y.1 && decide (x.2 ≤ y.2))

theorem rowAt_eq {g : Glued} {i : Nat} (hi : i < rowsN g) : rowAt g i = (Krcu.rows g)[i]'hi := by
  unfold rowAt
  rw [List.getD_eq_getElem?_getD, List.getElem?_eq_getElem hi]
  rfl
theorem rows_map (g : Glued) : Krcu.rows g = (List.range (rowsN g)).map (rowAt g) := by
  apply List.ext_getElem
  · rw [List.length_map, List.length_range]
    rfl
  · intro i h1 h2
    rw [List.getElem_map, List.getElem_range, rowAt_eq h1]
theorem Ok.upw {g : Glued} (o : Ok g) : Upw (rowsN g) (up g) := ⟨fun _ _ hi e => o.up_lt hi e, fun _ _ _ hi hj a b => o.up_inj hi hj a b⟩
theorem isBot_iff {g : Glued} {i : Nat} : isBot g i = true ↔ ∀ j, j < rowsN g → up g j ≠ some i := by
  unfold isBot
  rw [Bool.not_eq_true', List.any_eq_false]
  constructor
  · intro h j hj e
    exact h j (List.mem_range.mpr hj) (by rw [e]; exact beq_self_eq_true _)
  · intro h j hj e
    exact h j (List.mem_range.mp hj) (by simpa using e)

theorem Ok.under {g : Glued} (o : Ok g) {i j : Nat} (hi : i < rowsN g) (hj : j < rowsN g) :
    (Krcu.smooth g (rowAt g j) && (Krcu.above g (rowAt g j)).contains ((rowAt g i).headD 0)) = (up g j == some i) := by
  rw [rowAt_eq hi, rowAt_eq hj]
  have b := o.ea.bij
  have mj := o.rows_ok.head_mem b hj
  have lj := o.rows_ok.lt b hj mj
  have mi := o.rows_ok.head_mem b hi
  have li := o.rows_ok.lt b hi mi
  rw [up_eq hj]
  by_cases c : Krcu.smooth g (Krcu.rows g)[j] = true
  · rw [c, if_pos rfl, Bool.true_and, Bool.eq_iff_iff, List.contains_iff_mem, beq_iff_eq]
    have lN := o.no.to_lt lj
    have pl := o.rows_ok.place_lt lN
    have pm := o.rows_ok.place_mem lN
    unfold Krcu.above Krcu.rowOf
    rw [mem_cycleOf b lN]
    constructor
    · intro q
      rw [← o.rows_ok.con_place b lN q, o.rows_ok.head_place b hi]
    · intro q
      refine (o.rows_ok.mem_iff b pl pm).mp ?_
      simp only [Option.some.inj q]
      exact mi
  · have c2 : Krcu.smooth g (Krcu.rows g)[j] = false := by simpa using c
    rw [c2]
    rfl
theorem Ok.bottoms_eq {g : Glued} (o : Ok g) : Krcu.bottoms g = ((List.range (rowsN g)).filter (isBot g)).map (rowAt g) := by
  unfold Krcu.bottoms
  conv => lhs; rw [rows_map g]
  rw [List.filter_map]
  congr 1
  apply List.filter_congr
  intro i hi
  have hi := List.mem_range.mp hi
  show (!(List.any ((List.range (rowsN g)).map (rowAt g)) _)) = isBot g i
  unfold isBot
  rw [List.any_map]
  congr 1
  rw [Bool.eq_iff_iff, List.any_eq_true, List.any_eq_true]
  constructor
  · rintro ⟨j, hj, q⟩
    exact ⟨j, hj, by rw [← o.under hi (List.mem_range.mp hj)]; exact q⟩
  · rintro ⟨j, hj, q⟩
    exact ⟨j, hj, by rw [← o.under hi (List.mem_range.mp hj)] at q; exact q⟩
theorem Ok.rows_pos {g : Glued} (o : Ok g) : 0 < rowsN g := o.rows_ok.pos o.pos
theorem Ok.rows_le {g : Glued} (o : Ok g) : rowsN g ≤ g.n := o.rows_ok.len_le o.ea.bij

/-- all rows are one band: as high as they are many -/
theorem Ok.climb_all {g : Glued} (o : Ok g) (no : ∀ i, i < rowsN g → isBot g i = false) : climbI (up g) 0 g.n 0 = rowsN g := by
  have cov : ∀ i, i < rowsN g → ∃ j, j < rowsN g ∧ up g j = some i := by
    intro i hi
    apply Classical.byContradiction
    intro q
    have : isBot g i = true := isBot_iff.mpr fun j hj e => q ⟨j, hj, e⟩
    rw [no i hi] at this
    cases this
  obtain ⟨L, hp, hu⟩ := round_up cov
  have h0 := o.rows_pos
  obtain ⟨p, per⟩ := per_exists hp.bij h0
  have pp := per.pos
  have pl := per.le hp.bij h0
  have rl := o.rows_le
  have e1 := climb_round hp hu h0 per (p - 1) 0 g.n (by omega) (by omega)
  have e2 : climbI (up g) 0 g.n 0 = p := by
    have : it (to L) 0 0 = 0 := rfl
    rw [this] at e1
    rw [e1]
    omega
  rw [e2]
  have b := o.ea.bij
  have z : place (Krcu.rows g) 0 = 0 := zero_place b o.pos
  have all : ∀ s, s < g.n → Con (to L) 0 (place (Krcu.rows g) s) := by
    refine o.con (fun s => Con (to L) 0 (place (Krcu.rows g) s)) ?_ ?_
    · show Con (to L) 0 (place (Krcu.rows g) 0)
      rw [z]
      exact Con.refl _ _
    · intro s hs q
      refine ⟨?_, ?_⟩
      · show Con (to L) 0 (place (Krcu.rows g) (to g.east s))
        rw [o.rows_ok.con_place b hs (Con.step _ s)]
        exact q
      · show Con (to L) 0 (place (Krcu.rows g) (to g.north s))
        have pl := o.rows_ok.place_lt hs
        have eu := o.up_of pl (o.rows_ok.place_mem hs)
        rw [hu _ pl] at eu
        split at eu
        · rw [← Option.some.inj eu]
          exact q.trans (Con.step _ _)
        · cases eu
  have sub : ∀ i, i < rowsN g → i ∈ orb (to L) 0 p := by
    intro i hi
    have m := o.rows_ok.head_mem b hi
    have l := o.rows_ok.lt b hi m
    have q := all _ l
    rw [o.rows_ok.head_place b hi] at q
    obtain ⟨k, e⟩ := q
    rw [← e]
    exact per.mem (n := rowsN g) k
  have h1 := (List.nodup_range (n := rowsN g)).length_le_of_subset (l₂ := orb (to L) 0 p) (fun x hx => sub x (List.mem_range.mp hx))
  rw [List.length_range, orb_len] at h1
  omega

theorem Ok.bands_eq {g : Glued} (o : Ok g) : Krcu.bandsOf g = (bandsM g).mergeSort pairLe := by
  unfold Krcu.bandsOf
  show List.mergeSort _ pairLe = _
  congr 1
  rw [o.bottoms_eq]
  unfold bandsM lowBands
  by_cases c : ((List.range (rowsN g)).filter (isBot g)) = []
  · rw [c]
    have r0 := o.rows_pos
    have nob : ∀ i, i < rowsN g → isBot g i = false := by
      intro i hi
      have := List.filter_eq_nil_iff.mp c i (List.mem_range.mpr hi)
      simpa using this
    show List.map _ ((Krcu.rows g).take 1) = [((rowAt g 0).length, rowsN g)]
    have e : (Krcu.rows g).take 1 = [rowAt g 0] := by
      rw [rowAt_eq r0]
      rw [List.take_one]
      rw [List.head?_eq_getElem?, List.getElem?_eq_getElem r0]
      rfl
    rw [e]
    show [((rowAt g 0).length, Krcu.climb g (rowAt g 0) g.n (rowAt g 0))] = _
    rw [rowAt_eq r0, o.climb_row r0, o.climb_all nob]
  · have h1 : (((List.range (rowsN g)).filter (isBot g)).map (rowAt g)).isEmpty = false := by
      rw [List.isEmpty_eq_false_iff]
      simpa using c
    have h2 : (((List.range (rowsN g)).filter (isBot g)).map fun i => ((rowAt g i).length, ht (up g) g.n i)).isEmpty = false := by
      rw [List.isEmpty_eq_false_iff]
      simpa using c
    rw [h1, h2]
    show List.map _ (List.map _ _) = List.map _ _
    rw [List.map_map]
    apply List.map_congr_left
    intro i hi
    obtain ⟨hi1, hi2⟩ := List.mem_filter.mp hi
    have hi3 := List.mem_range.mp hi1
    have bot := isBot_iff.mp hi2
    show ((rowAt g i).length, Krcu.climb g (rowAt g i) g.n (rowAt g i)) = _
    rw [rowAt_eq hi3, o.climb_row hi3, climb_ht o.upw bot g.n i hi3]
end Gs
/-! The order from a square; hanging together; the name; laid. -/
namespace Gs
open Krct

/-! ## the order from a square -/
def put1 (l : List Nat) (t : Nat) : List Nat := if l.contains t then l else l ++ [t]
theorem put1_in {l : List Nat} {t : Nat} (h : t ∈ l) : put1 l t = l := if_pos (by simpa using h)
theorem put1_out {l : List Nat} {t : Nat} (h : t ∉ l) : put1 l t = l ++ [t] := if_neg (by simpa using h)
theorem order_none {g : Glued} {k i : Nat} {l : List Nat} (h : l.length ≤ i) : order g k l i = l := by
  cases k with
  | zero => rfl
  | succ k =>
    unfold order
    rw [List.getElem?_eq_none h]
theorem order_some {g : Glued} {k i s : Nat} {l : List Nat} (h : l[i]? = some s) : order g (k + 1) l i = order g k (put1 (put1 l (to g.east s)) (to g.north s)) (i + 1) := by
  conv => lhs; unfold order
  rw [h]
  rfl
/-- squares, none twice -/
structure Few (n : Nat) (l : List Nat) : Prop where
  nd : l.Nodup
  lt : ∀ x ∈ l, x < n
theorem Few.len {n : Nat} {l : List Nat} (h : Few n l) : l.length ≤ n := short_of h.nd h.lt
theorem Few.put {n : Nat} {l : List Nat} (h : Few n l) {t : Nat} (ht : t < n) : Few n (put1 l t) := by
  by_cases c : t ∈ l
  · rw [put1_in c]
    exact h
  · rw [put1_out c]
    refine ⟨?_, fun x hx => ?_⟩
    · rw [List.nodup_append]
      refine ⟨h.nd, List.nodup_cons.mpr ⟨by simp, List.nodup_nil⟩, fun a ha b hb e => ?_⟩
      rw [List.mem_singleton] at hb
      subst hb
      subst e
      exact c ha
    · rcases List.mem_append.mp hx with q | q
      · exact h.lt x q
      · rw [List.mem_singleton] at q
        subst q
        exact ht
theorem put1_mem {l : List Nat} {t x : Nat} : x ∈ put1 l t ↔ x ∈ l ∨ x = t := by
  by_cases c : t ∈ l
  · rw [put1_in c]
    constructor
    · exact Or.inl
    · rintro (q | rfl)
      · exact q
      · exact c
  · rw [put1_out c, List.mem_append, List.mem_singleton]
theorem Few.one {n s : Nat} (hs : s < n) : Few n [s] := ⟨List.nodup_cons.mpr ⟨by simp, List.nodup_nil⟩, fun x hx => by rw [List.mem_singleton] at hx; subst hx; exact hs⟩

/-- what the order grows to is of squares once, and holds nothing but what one comes to -/
theorem order_few {g : Glued} (he : Pm g.n g.east) (hn : Pm g.n g.north) : ∀ (k i : Nat) (l : List Nat), Few g.n l → Few g.n (order g k l i)
  | 0, _, _, h => h
  | k + 1, i, l, h => by
    by_cases c : l.length ≤ i
    · rw [order_none c]
      exact h
    · have e : l[i]? = some l[i] := List.getElem?_eq_getElem (by omega)
      rw [order_some e]
      have hs := h.lt _ (List.getElem_mem (by omega : i < l.length))
      exact order_few he hn k (i + 1) _ ((h.put (he.to_lt hs)).put (hn.to_lt hs))
theorem order_in {g : Glued} (he : Pm g.n g.east) (hn : Pm g.n g.north) {S : Nat → Prop} (cl : ∀ s, s < g.n → S s → S (to g.east s) ∧ S (to g.north s)) : ∀ (k i : Nat) (l : List Nat), Few g.n l → (∀ x ∈ l, S x) → ∀ x ∈ order g k l i, S x
  | 0, _, _, _, h => h
  | k + 1, i, l, f, h => by
    by_cases c : l.length ≤ i
    · rw [order_none c]
      exact h
    · have e : l[i]? = some l[i] := List.getElem?_eq_getElem (by omega)
      rw [order_some e]
      have m := List.getElem_mem (by omega : i < l.length)
      have hs := f.lt _ m
      have q := cl _ hs (h _ m)
      refine order_in he hn cl k (i + 1) _ ((f.put (he.to_lt hs)).put (hn.to_lt hs)) fun x hx => ?_
      rcases put1_mem.mp hx with hx | rfl
      · rcases put1_mem.mp hx with hx | rfl
        · exact h x hx
        · exact q.1
      · exact q.2
theorem whole_con {g : Glued} (he : Pm g.n g.east) (hn : Pm g.n g.north) (h0 : 0 < g.n) (w : g.whole = true) :
    ∀ S : Nat → Prop, S 0 → (∀ s, s < g.n → S s → S (to g.east s) ∧ S (to g.north s)) → ∀ s, s < g.n → S s := by
  intro S s0 cl s hs
  have f := order_few he hn (g.n + 1) 0 [0] (Few.one h0)
  have len : (order g (g.n + 1) [0] 0).length = g.n := by
    have w' : ((orderFrom g 0).length == g.n) = true := w
    exact beq_iff_eq.mp w'
  exact order_in he hn cl (g.n + 1) 0 [0] (Few.one h0) (fun x hx => by rw [List.mem_singleton] at hx; subst hx; exact s0) s (full f.nd f.lt len s hs)
theorem ok_glue {n : Nat} {l k : List Nat} (h1 : 1 ≤ n) (h6 : n ≤ 6) (hl : Pm n l) (hk : Pm n k) (w : (Glued.mk n l k).whole = true) : Ok ⟨n, l, k⟩ :=
  ⟨h1, h6, hl, hk, whole_con (g := ⟨n, l, k⟩) hl hk h1 w⟩

/-! ## one row -/
theorem row_pm {n : Nat} (h1 : 1 ≤ n) : Pm n ((List.range n).map fun s => (s + 1) % n) := by
  have e : ∀ s, s < n → to ((List.range n).map fun s => (s + 1) % n) s = (s + 1) % n := fun s hs => by
    rw [to_map (by rw [List.length_range]; exact hs), to_range hs]
  refine Pm.of_fun (by rw [List.length_map, List.length_range]) (fun s hs => ?_) (fun s t hs ht q => ?_)
  · rw [e s hs]
    exact Nat.mod_lt _ h1
  · rw [e s hs, e t ht] at q
    by_cases a : s + 1 = n
    · by_cases b : t + 1 = n
      · omega
      · rw [a, Nat.mod_self, Nat.mod_eq_of_lt (by omega : t + 1 < n)] at q
        omega
    · by_cases b : t + 1 = n
      · rw [b, Nat.mod_self, Nat.mod_eq_of_lt (by omega : s + 1 < n)] at q
        omega
      · rw [Nat.mod_eq_of_lt (by omega : s + 1 < n), Nat.mod_eq_of_lt (by omega : t + 1 < n)] at q
        omega
theorem ok_row {n : Nat} (h1 : 1 ≤ n) (h6 : n ≤ 6) : Ok (Krct.row n) := by
  refine ⟨h1, h6, row_pm h1, Pm.range n, fun S h0 cl s hs => ?_⟩
  have hs : s < n := hs
  induction s with
  | zero => exact h0
  | succ s ih =>
    have q := (cl s (show s < n by omega) (ih (by omega) (by omega))).1
    have e : to (Krct.row n).east s = s + 1 := by
      show to ((List.range n).map fun s => (s + 1) % n) s = s + 1
      rw [to_map (by rw [List.length_range]; omega), to_range (by omega), Nat.mod_eq_of_lt hs]
    rwa [e] at q

/-! ## the name: the least of all -/
def tellIn (g : Glued) (s : Nat) : List Nat := (renamed g (orderFrom g s)).east ++ (renamed g (orderFrom g s)).north
def lexLt : List Nat → List Nat → Prop
  | a, b => lexLess a b = true
theorem lexLess_irrefl : ∀ l : List Nat, lexLess l l = false
  | [] => rfl
  | a :: l => by
    unfold lexLess
    rw [lexLess_irrefl l]
    simp
theorem lexLess_cons {a b : Nat} {l k : List Nat} : lexLess (a :: l) (b :: k) = true ↔ a < b ∨ (a = b ∧ lexLess l k = true) := by
  conv => lhs; unfold lexLess
  simp
theorem lexLess_trans : ∀ {a b c : List Nat}, lexLess a b = true → lexLess b c = true → lexLess a c = true
  | [], _, _, h, _ => by cases h
  | _ :: _, [], _, h, _ => by cases h
  | _ :: _, _ :: _, [], _, h => by cases h
  | x :: a, y :: b, z :: c, h, k => by
    rw [lexLess_cons] at h k ⊢
    rcases h with h | ⟨rfl, h⟩
    · rcases k with k | ⟨rfl, k⟩
      · left; omega
      · left; exact h
    · rcases k with k | ⟨rfl, k⟩
      · left; exact k
      · right; exact ⟨rfl, lexLess_trans h k⟩
/-- of two of one length, if neither is the less they are one -/
theorem lexLess_tri : ∀ {a b : List Nat}, a.length = b.length → lexLess a b = false → lexLess b a = false → a = b
  | [], [], _, _, _ => rfl
  | [], _ :: _, h, _, _ => by cases h
  | _ :: _, [], h, _, _ => by cases h
  | x :: a, y :: b, h, p, q => by
    have p' : ¬ lexLess (x :: a) (y :: b) = true := by rw [p]; decide
    have q' : ¬ lexLess (y :: b) (x :: a) = true := by rw [q]; decide
    rw [lexLess_cons] at p' q'
    have e : x = y := by
      have := fun z => p' (Or.inl z)
      have := fun z => q' (Or.inl z)
      omega
    subst e
    have : a = b := by
      refine lexLess_tri (by simpa using h) ?_ ?_
      · cases c : lexLess a b with
        | false => rfl
        | true => exact absurd (Or.inr ⟨rfl, c⟩) p'
      · cases c : lexLess b a with
        | false => rfl
        | true => exact absurd (Or.inr ⟨rfl, c⟩) q'
    rw [this]
/-- the least of a row of lists by a fold that keeps the first -/
def leastFold (m : List Nat) (l : List (List Nat)) : List Nat := l.foldl (fun m x => if lexLess x m then x else m) m
theorem name_fold (g : Glued) : (Krct.name g).east ++ (Krct.name g).north = leastFold (tellIn g 0) ((List.range g.n).map (tellIn g)) := by
  have key : ∀ (l : List Nat) (m : Glued), (l.foldl (fun m s => if less (renamed g (orderFrom g s)) m then renamed g (orderFrom g s) else m) m).east ++ (l.foldl (fun m s => if less (renamed g (orderFrom g s)) m then renamed g (orderFrom g s) else m) m).north = leastFold (m.east ++ m.north) (l.map (tellIn g)) := by
    intro l
    induction l with
    | nil => intro m; rfl
    | cons s l ih =>
      intro m
      rw [List.foldl_cons, ih, List.map_cons]
      show leastFold _ _ = leastFold (if lexLess (tellIn g s) (m.east ++ m.north) then tellIn g s else m.east ++ m.north) _
      congr 1
      unfold less
      show _ = if lexLess ((renamed g (orderFrom g s)).east ++ (renamed g (orderFrom g s)).north) (m.east ++ m.north) = true then _ else _
      split <;> rfl
  exact key (List.range g.n) (renamed g (orderFrom g 0))

/-! ## laid -/
theorem lay_zero {k : Nat} {p : Int} {g : Glued} : Krcu.lay (k + 1) p 0 g = if p < 0 then Krcu.turn (Krcu.turn g) else g := by
  unfold Krcu.lay
  rw [if_pos rfl]
def often (m : Int) (g : Glued) : Glued := if 0 ≤ m then Krcu.times Krcu.unshear m.toNat g else Krcu.times Krcu.shear (-m).toNat g
theorem lay_more {k : Nat} {p q : Int} {g : Glued} (h : q ≠ 0) : Krcu.lay (k + 1) p q g = Krcu.lay k (-q) (p - p.fdiv q * q) (Krcu.turn (often (p.fdiv q) g)) := by
  conv => lhs; unfold Krcu.lay
  rw [if_neg h]
  rfl
theorem rest_less {p q : Int} (h : q ≠ 0) : (p - p.fdiv q * q).natAbs < q.natAbs := by
  have e : p - p.fdiv q * q = p.fmod q := by
    have := Int.fmod_add_mul_fdiv p q
    have c := Int.mul_comm q (p.fdiv q)
    omega
  rw [e]
  rcases Int.lt_or_gt_of_ne h with c | c
  · have h2 : p.fmod q = p % q + if 0 ≤ q ∨ q ∣ p then 0 else q := Int.fmod_eq_emod
    have h3 := Int.emod_nonneg p h
    have h4 : p % q < (q.natAbs : Int) := by
      have := Int.emod_lt p h
      omega
    by_cases d : q ∣ p
    · have z : p % q = 0 := Int.emod_eq_zero_of_dvd d
      rw [h2, z, if_pos (Or.inr d)]
      omega
    · have ez : p % q ≠ 0 := fun z => d (Int.dvd_of_emod_eq_zero z)
      rw [h2, if_neg (by intro k; rcases k with k | k; omega; exact d k)]
      omega
  · have a := Int.fmod_nonneg_of_pos p c
    have b := Int.fmod_lt_of_pos p c
    omega
theorem times_ok {f : Glued → Glued} (hf : ∀ g, Ok g → Ok (f g)) : ∀ k g, Ok g → Ok (Krcu.times f k g)
  | 0, _, o => o
  | k + 1, g, o => times_ok hf k (f g) (hf g o)
theorem times_succ {f : Glued → Glued} : ∀ k g, Krcu.times f (k + 1) g = f (Krcu.times f k g)
  | 0, _ => rfl
  | k + 1, g => times_succ k (f g)
theorem often_ok {g : Glued} (o : Ok g) (m : Int) : Ok (often m g) := by
  unfold often
  split
  · exact times_ok (fun _ h => h.unshear) _ _ o
  · exact times_ok (fun _ h => h.shear) _ _ o
theorem lay_ok : ∀ (k : Nat) (p q : Int) (g : Glued), Ok g → Ok (Krcu.lay k p q g)
  | 0, _, _, _, o => o
  | k + 1, p, q, g, o => by
    by_cases h : q = 0
    · subst h
      rw [lay_zero]
      split
      · exact o.turn.turn
      · exact o
    · rw [lay_more h]
      exact lay_ok k _ _ _ (often_ok o _).turn
theorem laid_ok {g : Glued} (o : Ok g) (p q : Int) : Ok (Krcu.laid g p q) := lay_ok 40 p q g o
end Gs
/-! What the program's loops hold on their way. -/
namespace Gs
open Krct
theorem map_set {α : Type} {n i : Nat} {f g : Nat → α} {v : α} (h1 : ∀ x, x < n → x ≠ i → f x = g x) (h2 : i < n → g i = v) : ((List.range n).map f).set i v = (List.range n).map g := by
  apply List.ext_getElem
  · simp
  · intro x hx1 hx2
    have hx : x < n := by simpa using hx2
    rw [List.getElem_set, List.getElem_map, List.getElem_map, List.getElem_range]
    by_cases c : i = x
    · subst c
      rw [if_pos rfl, h2 hx]
    · rw [if_neg c]
      exact h1 x hx (fun q => c q.symm)
/-- backward, behind i turns -/
def backI (n : Nat) (l : List Nat) (i : Nat) : List Nat := (List.range n).map fun x => if from_ l x < i then from_ l x else 0
theorem backI_len {n : Nat} {l : List Nat} {i : Nat} : (backI n l i).length = n := by
  unfold backI
  rw [List.length_map, List.length_range]
theorem backI_zero {n : Nat} {l : List Nat} : backI n l 0 = List.replicate n 0 := by
  unfold backI
  apply List.ext_getElem
  · simp
  · intro i h1 h2
    simp
theorem backI_all {n : Nat} {l : List Nat} (h : Pm n l) : backI n l n = inverse n l := by
  unfold backI inverse
  apply List.map_congr_left
  intro x hx
  rw [if_pos (h.from_lt (List.mem_range.mp hx))]
theorem backI_step {n : Nat} {l : List Nat} (h : Pm n l) {i : Nat} (hi : i < n) : (backI n l i).set (to l i) i = backI n l (i + 1) := by
  unfold backI
  refine map_set (fun x hx c => ?_) (fun _ => ?_)
  · have e : from_ l x ≠ i := fun q => c (by rw [← q]; exact (h.to_from hx).symm)
    by_cases d : from_ l x < i
    · rw [if_pos d, if_pos (by omega)]
    · rw [if_neg d, if_neg (by omega)]
  · rw [h.from_to hi, if_pos (Nat.lt_succ_self i)]
/-- rings: which squares came, behind some rings -/
def seenIn (n : Nat) (R : List (List Nat)) : List Bool := (List.range n).map fun x => R.any fun c => c.contains x
theorem seenIn_len {n : Nat} {R : List (List Nat)} : (seenIn n R).length = n := by
  unfold seenIn
  rw [List.length_map, List.length_range]
theorem seenIn_nil {n : Nat} : seenIn n [] = List.replicate n false := by
  unfold seenIn
  apply List.ext_getElem
  · simp
  · intro i h1 h2
    simp
/-- .. and behind j squares of one more -/
def seenJ (n : Nat) (R : List (List Nat)) (c : List Nat) (j : Nat) : List Bool := seenIn n (R ++ [c.take j])
theorem seenJ_zero {n : Nat} {R : List (List Nat)} {c : List Nat} : seenJ n R c 0 = seenIn n R := by
  unfold seenJ seenIn
  apply List.map_congr_left
  intro x _
  simp
theorem take_more {α : Type} {c : List α} {j : Nat} {x : α} (h : c[j]? = some x) : c.take (j + 1) = c.take j ++ [x] := by
  rw [List.take_add_one, h]
  rfl
theorem seenJ_step {n : Nat} {R : List (List Nat)} {c : List Nat} {j x : Nat} (h : c[j]? = some x) : (seenJ n R c j).set x true = seenJ n R c (j + 1) := by
  unfold seenJ seenIn
  rw [take_more h]
  refine map_set (fun y hy d => ?_) (fun _ => ?_)
  · simp [d]
  · simp
theorem seenJ_all {n : Nat} {R : List (List Nat)} {c : List Nat} : seenJ n R c c.length = seenIn n (R ++ [c]) := by
  unfold seenJ
  rw [List.take_length]
/-- row_places -/
def plcI (n : Nat) (R : List (List Nat)) (i : Nat) : List Nat := (List.range n).map fun x => if place R x < i then place R x else 0
def plcJ (n : Nat) (R : List (List Nat)) (i : Nat) (c : List Nat) : List Nat := (List.range n).map fun x => if place R x < i then place R x else if c.contains x then i else 0
theorem plcI_len {n : Nat} {R : List (List Nat)} {i : Nat} : (plcI n R i).length = n := by
  unfold plcI
  rw [List.length_map, List.length_range]
theorem plcJ_len {n : Nat} {R : List (List Nat)} {i : Nat} {c : List Nat} : (plcJ n R i c).length = n := by
  unfold plcJ
  rw [List.length_map, List.length_range]
theorem plcI_zero {n : Nat} {R : List (List Nat)} : plcI n R 0 = List.replicate n 0 := by
  unfold plcI
  apply List.ext_getElem
  · simp
  · intro i h1 h2
    simp
theorem plcJ_nil {n : Nat} {R : List (List Nat)} {i : Nat} : plcJ n R i [] = plcI n R i := by
  unfold plcJ plcI
  apply List.map_congr_left
  intro x _
  simp
section
variable {n : Nat} {f : Nat → Nat} {R : List (List Nat)}
theorem plcJ_all (o : RingsOk n f n R) {i : Nat} (hi : i < R.length) : plcJ n R i R[i] = plcI n R (i + 1) := by
  unfold plcJ plcI
  apply List.map_congr_left
  intro x hx
  have hx := List.mem_range.mp hx
  by_cases c : place R x < i
  · rw [if_pos c, if_pos (by omega)]
  · rw [if_neg c]
    by_cases d : x ∈ R[i]
    · rw [if_pos (by simpa using d), o.place_eq hi d hx, if_pos (by omega)]
    · rw [if_neg (by simpa using d)]
      have : place R x ≠ i := by
        intro e
        have m := o.place_mem hx
        simp only [e] at m
        exact d m
      rw [if_neg (by omega)]
theorem plcJ_step (o : RingsOk n f n R) {i j x : Nat} (hi : i < R.length) (hj : R[i][j]? = some x) : (plcJ n R i (R[i].take j)).set x i = plcJ n R i (R[i].take (j + 1)) := by
  obtain ⟨hj2, e⟩ := List.getElem?_eq_some_iff.mp hj
  have mx : x ∈ R[i] := by rw [← e]; exact List.getElem_mem hj2
  unfold plcJ
  rw [take_more hj]
  refine map_set (fun y hy d => ?_) (fun hx => ?_)
  · simp [d]
  · rw [o.place_eq hi mx hx, if_neg (by omega)]
    simp
theorem plcI_all (o : RingsOk n f n R) : plcI n R R.length = (List.range n).map (place R) := by
  unfold plcI
  apply List.map_congr_left
  intro x hx
  rw [if_pos (o.place_lt (List.mem_range.mp hx))]
end
theorem ringsTo_len {n : Nat} {f : Nat → Nat} : ∀ i, (ringsTo n f i).length ≤ i
  | 0 => Nat.le_refl 0
  | i + 1 => by
    have ih := ringsTo_len (n := n) (f := f) i
    rw [ringsTo_succ]
    unfold putRing
    split
    · omega
    · rw [List.length_append, List.length_singleton]
      omega
end Gs
/-! The order from a square is of all squares. -/
namespace Gs
open Krct
/-- two permutations; they need not hang together -/
structure Two (g : Glued) : Prop where
  pos : 1 ≤ g.n
  six : g.n ≤ 6
  ea : Pm g.n g.east
  no : Pm g.n g.north
theorem Ok.two {g : Glued} (o : Ok g) : Two g := ⟨o.pos, o.six, o.ea, o.no⟩
theorem put1_more {l : List Nat} {t : Nat} : ∃ k, put1 l t = l ++ k := by
  by_cases c : t ∈ l
  · exact ⟨[], by rw [put1_in c, List.append_nil]⟩
  · exact ⟨[t], put1_out c⟩
theorem order_closed {g : Glued} (he : Pm g.n g.east) (hn : Pm g.n g.north) : ∀ (k i : Nat) (l : List Nat), Few g.n l → i ≤ l.length → (∀ (j x : Nat), j < i → l[j]? = some x → to g.east x ∈ l ∧ to g.north x ∈ l) → g.n + 1 ≤ k + i →
    ∀ x ∈ order g k l i, to g.east x ∈ order g k l i ∧ to g.north x ∈ order g k l i
  | 0, i, l, f, hi, _, hk => by
    have := f.len
    omega
  | k + 1, i, l, f, hi, hc, hk => by
    by_cases c : l.length ≤ i
    · rw [order_none c]
      intro x hx
      obtain ⟨j, hj, e⟩ := List.getElem_of_mem hx
      exact hc j x (by omega) (by rw [← e]; exact List.getElem?_eq_getElem hj)
    · have e : l[i]? = some l[i] := List.getElem?_eq_getElem (by omega)
      rw [order_some e]
      have hs := f.lt _ (List.getElem_mem (by omega : i < l.length))
      obtain ⟨k1, e1⟩ := put1_more (l := l) (t := to g.east l[i])
      obtain ⟨k2, e2⟩ := put1_more (l := put1 l (to g.east l[i])) (t := to g.north l[i])
      have e3 : put1 (put1 l (to g.east l[i])) (to g.north l[i]) = l ++ (k1 ++ k2) := by rw [e2, e1, List.append_assoc]
      refine order_closed he hn k (i + 1) _ ((f.put (he.to_lt hs)).put (hn.to_lt hs)) ?_ ?_ (by omega)
      · rw [e3, List.length_append]
        omega
      · intro j x hj hx
        have hx' : l[j]? = some x := by
          rw [e3, List.getElem?_append_left (by omega)] at hx
          exact hx
        by_cases d : j < i
        · have q := hc j x d hx'
          rw [e3]
          exact ⟨List.mem_append_left _ q.1, List.mem_append_left _ q.2⟩
        · have : j = i := by omega
          subst this
          rw [e] at hx'
          have ex := Option.some.inj hx'
          subst ex
          exact ⟨put1_mem.mpr (Or.inl (put1_mem.mpr (Or.inr rfl))), put1_mem.mpr (Or.inr rfl)⟩
theorem Two.order_few {g : Glued} (o : Two g) {s : Nat} (hs : s < g.n) : Few g.n (orderFrom g s) := Gs.order_few o.ea o.no _ _ _ (Few.one hs)
theorem order_keeps {g : Glued} : ∀ (k i : Nat) (l : List Nat), ∀ x ∈ l, x ∈ order g k l i
  | 0, _, _, _, h => h
  | k + 1, i, l, x, h => by
    by_cases c : l.length ≤ i
    · rw [order_none c]
      exact h
    · have e : l[i]? = some l[i] := List.getElem?_eq_getElem (by omega)
      rw [order_some e]
      exact order_keeps k (i + 1) _ x (put1_mem.mpr (Or.inl (put1_mem.mpr (Or.inl h))))
theorem Ok.order_pm {g : Glued} (o : Ok g) {s : Nat} (hs : s < g.n) : Pm g.n (orderFrom g s) := by
  have f := o.two.order_few hs
  have cl : ∀ x ∈ orderFrom g s, to g.east x ∈ orderFrom g s ∧ to g.north x ∈ orderFrom g s :=
    order_closed o.ea o.no (g.n + 1) 0 [s] (Few.one hs) (Nat.zero_le _) (fun j x hj => by omega) (by omega)
  have ms : s ∈ orderFrom g s := order_keeps _ _ _ s (List.mem_singleton.mpr rfl)
  have m0 : 0 ∈ orderFrom g s := by
    apply Classical.byContradiction
    intro h0
    have all := o.con (fun x => x ∉ orderFrom g s) h0 (fun x hx q => ⟨fun z => q ?_, fun z => q ?_⟩)
    · exact all s hs ms
    · exact closed_back (S := fun y => y ∈ orderFrom g s) o.ea.bij (fun y _ hy => (cl y hy).1) hx z
    · exact closed_back (S := fun y => y ∈ orderFrom g s) o.no.bij (fun y _ hy => (cl y hy).2) hx z
  have all := o.con (fun x => x ∈ orderFrom g s) m0 fun x _ q => cl x q
  refine ⟨?_, f.lt, f.nd⟩
  have h1 := (List.nodup_range (n := g.n)).length_le_of_subset (l₂ := orderFrom g s) (fun x hx => all x (List.mem_range.mp hx))
  rw [List.length_range] at h1
  have := f.len
  omega
theorem Ok.tellIn_len {g : Glued} (o : Ok g) {s : Nat} (hs : s < g.n) : (tellIn g s).length = 2 * g.n := by
  have := (o.order_pm hs).len
  show ((orderFrom g s).map _ ++ (orderFrom g s).map _).length = _
  rw [List.length_append, List.length_map, List.length_map]
  omega
/-- the name by a fold over all but the first -/
theorem Ok.name_rest {g : Glued} (o : Ok g) : (Krct.name g).east ++ (Krct.name g).north = leastFold (tellIn g 0) ((List.range (g.n - 1)).map fun s => tellIn g (s + 1)) := by
  rw [name_fold]
  have hp := o.pos
  have e : List.range g.n = 0 :: (List.range (g.n - 1)).map (· + 1) := by
    have : g.n = (g.n - 1) + 1 := by omega
    rw [this, List.range_succ_eq_map]
    rfl
  rw [e, List.map_cons, List.map_map]
  show leastFold (if lexLess (tellIn g 0) (tellIn g 0) then _ else _) _ = _
  rw [lexLess_irrefl]
  rfl
/-- once round, told as a list -/
def roundL (g : Glued) : List Nat := (List.range g.n).map g.round
theorem roundL_len {g : Glued} : (roundL g).length = g.n := by
  unfold roundL
  rw [List.length_map, List.length_range]
theorem to_roundL {g : Glued} {s : Nat} (hs : s < g.n) : to (roundL g) s = g.round s := by
  unfold roundL
  rw [to_map (by rw [List.length_range]; exact hs), to_range hs]
theorem Two.round_bij {g : Glued} (o : Two g) : Bij g.n g.round := by
  refine ⟨fun s hs => ?_, fun s t hs ht e => ?_⟩
  · rw [round_eq]
    exact o.no.from_lt (o.ea.from_lt (o.no.to_lt (o.ea.to_lt hs)))
  · rw [round_eq, round_eq] at e
    have e1 := congrArg (to g.north) e
    rw [o.no.to_from (o.ea.from_lt (o.no.to_lt (o.ea.to_lt hs))), o.no.to_from (o.ea.from_lt (o.no.to_lt (o.ea.to_lt ht)))] at e1
    have e2 := congrArg (to g.east) e1
    rw [o.ea.to_from (o.no.to_lt (o.ea.to_lt hs)), o.ea.to_from (o.no.to_lt (o.ea.to_lt ht))] at e2
    exact o.ea.inj hs ht (o.no.inj (o.ea.to_lt hs) (o.ea.to_lt ht) e2)
theorem Two.round_pm {g : Glued} (o : Two g) : Pm g.n (roundL g) := by
  refine Pm.of_fun roundL_len (fun s hs => ?_) (fun s t hs ht e => ?_)
  · rw [to_roundL hs]
    exact o.round_bij.lt s hs
  · rw [to_roundL hs, to_roundL ht] at e
    exact o.round_bij.inj s t hs ht e
/-- rings depend on the function below n alone -/
theorem it_congr {n : Nat} {f h : Nat → Nat} (b : Bij n f) (e : ∀ s, s < n → f s = h s) {s : Nat} (hs : s < n) : ∀ k, it f s k = it h s k
  | 0 => rfl
  | k + 1 => by
    show f (it f s k) = h (it h s k)
    rw [← it_congr b e hs k]
    exact e _ (b.it_lt hs k)
theorem Bij.congr {n : Nat} {f h : Nat → Nat} (b : Bij n f) (e : ∀ s, s < n → f s = h s) : Bij n h :=
  ⟨fun s hs => by rw [← e s hs]; exact b.lt s hs, fun s t hs ht q => b.inj s t hs ht (by rw [e s hs, e t ht]; exact q)⟩
theorem cycleOf_congr {n : Nat} {f h : Nat → Nat} (b : Bij n f) (e : ∀ s, s < n → f s = h s) {s : Nat} (hs : s < n) : cycleOf n f s = cycleOf n h s := by
  obtain ⟨k, p⟩ := per_exists b hs
  have b2 := b.congr e
  have p2 : Per h s k := ⟨p.pos, by rw [← it_congr b e hs]; exact p.back, fun j h1 h2 => by rw [← it_congr b e hs]; exact p.first j h1 h2⟩
  rw [cycleOf_eq p b hs, cycleOf_eq p2 b2 hs]
  unfold orb
  apply List.map_congr_left
  intro i _
  exact it_congr b e hs i
theorem ringsTo_congr {n : Nat} {f h : Nat → Nat} (b : Bij n f) (e : ∀ s, s < n → f s = h s) : ∀ m, m ≤ n → ringsTo n f m = ringsTo n h m
  | 0, _ => rfl
  | m + 1, hm => by
    rw [ringsTo_succ, ringsTo_succ, ringsTo_congr b e m (by omega)]
    unfold putRing
    rw [cycleOf_congr b e (by omega : m < n)]
theorem cycles_congr {n : Nat} {f h : Nat → Nat} (b : Bij n f) (e : ∀ s, s < n → f s = h s) : cycles n f = cycles n h := by
  rw [cycles_eq, cycles_eq]
  exact ringsTo_congr b e n (Nat.le_refl n)
theorem Two.corners_eq {g : Glued} (o : Two g) : g.corners = cycles g.n (to (roundL g)) := cycles_congr o.round_bij fun s hs => (to_roundL hs).symm
/-- tells_all_once -/
theorem perm_int {n : Nat} {l : List Int} (h0 : ∀ x ∈ l, 0 ≤ x) : l.Perm ((List.range n).map fun (x : Nat) => (x : Int)) ↔ isPerm n (l.map Int.toNat) = true := by
  constructor
  · intro h
    refine isPerm_iff.mpr ?_
    have h2 : (l.map Int.toNat).Perm (List.range n) := by
      have := h.map Int.toNat
      rw [List.map_map] at this
      have e : (Int.toNat ∘ fun (x : Nat) => (x : Int)) = id := by
        funext x
        simp
      rw [e, List.map_id] at this
      exact this
    refine ⟨by rw [h2.length_eq, List.length_range], fun x hx => List.mem_range.mp (h2.mem_iff.mp hx), h2.nodup_iff.mpr List.nodup_range⟩
  · intro h
    have p := isPerm_iff.mp h
    have h2 : (l.map Int.toNat).Perm (List.range n) := (List.perm_ext_iff_of_nodup p.nd List.nodup_range).mpr fun a => ⟨fun q => List.mem_range.mpr (p.lt a q), fun q => p.all a (List.mem_range.mp q)⟩
    have h3 := h2.map fun (x : Nat) => (x : Int)
    rw [List.map_map] at h3
    have e : l.map ((fun (x : Nat) => (x : Int)) ∘ Int.toNat) = l := by
      conv => rhs; rw [← List.map_id l]
      apply List.map_congr_left
      intro x hx
      have := h0 x hx
      show ((x.toNat : Nat) : Int) = x
      omega
    rw [e] at h3
    exact h3
end Gs
/-! Bands, as the program makes them. -/
namespace Gs
open Krct
theorem pairLe_iff {x y : Nat × Nat} : pairLe x y = true ↔ x.1 < y.1 ∨ (x.1 = y.1 ∧ x.2 ≤ y.2) := by
  unfold pairLe
  simp
theorem sort_eq {l z : List (Nat × Nat)} (p : z.Perm l) (s : z.Pairwise fun x y => pairLe x y = true) : z = l.mergeSort pairLe := by
  refine List.Perm.eq_of_pairwise (le := fun x y => pairLe x y = true) (fun a b _ _ h1 h2 => ?_) s ?_ (p.trans (List.mergeSort_perm l pairLe).symm)
  · rw [pairLe_iff] at h1 h2
    apply Prod.ext <;> omega
  · refine List.pairwise_mergeSort (fun a b c h1 h2 => ?_) (fun a b => ?_) l
    · rw [pairLe_iff] at h1 h2 ⊢
      omega
    · rw [Bool.or_eq_true, pairLe_iff, pairLe_iff]
      omega
/-- the bands behind i rows -/
def lowTo (g : Glued) (i : Nat) : List (Nat × Nat) := ((List.range i).filter (isBot g)).map fun i => ((rowAt g i).length, ht (up g) g.n i)
theorem lowTo_yes {g : Glued} {i : Nat} (h : isBot g i = true) : lowTo g (i + 1) = lowTo g i ++ [((rowAt g i).length, ht (up g) g.n i)] := by
  unfold lowTo
  rw [List.range_succ, List.filter_append, List.map_append, List.filter_cons, if_pos h]
  rfl
theorem lowTo_no {g : Glued} {i : Nat} (h : isBot g i = false) : lowTo g (i + 1) = lowTo g i := by
  unfold lowTo
  rw [List.range_succ, List.filter_append, List.map_append, List.filter_cons, if_neg (by rw [h]; decide)]
  show _ ++ [] = _
  rw [List.append_nil]
theorem lowTo_len {g : Glued} (i : Nat) : (lowTo g i).length ≤ i := by
  unfold lowTo
  rw [List.length_map]
  have := List.length_filter_le (isBot g) (List.range i)
  rwa [List.length_range] at this
theorem lowTo_all (g : Glued) : lowTo g (rowsN g) = lowBands g := rfl
end Gs
/-! How the list of calls is cut. -/
namespace Gs
def nOf (p : Int) : Nat := if p = 8 ∨ p = 9 ∨ p = 16 then 2 else if p = 0 ∨ p = 11 then 1 else 0
def kOf (p : Int) : Nat := if p = 1 then 2 else 0
theorem shape_of {p : Int} {n k : Nat} (h : PyKrcu.shape p = some (n, k)) : 0 ≤ p ∧ p ≤ 16 ∧ n = nOf p ∧ k = kOf p := by
  by_cases c0 : p = 0
  · subst c0
    have h : some (1, 0) = some (n, k) := h
    cases h
    decide
  by_cases c1 : p = 1
  · subst c1
    have h : some (0, 2) = some (n, k) := h
    cases h
    decide
  by_cases c2 : p = 2
  · subst c2
    have h : some (0, 0) = some (n, k) := h
    cases h
    decide
  by_cases c3 : p = 3
  · subst c3
    have h : some (0, 0) = some (n, k) := h
    cases h
    decide
  by_cases c4 : p = 4
  · subst c4
    have h : some (0, 0) = some (n, k) := h
    cases h
    decide
  by_cases c5 : p = 5
  · subst c5
    have h : some (0, 0) = some (n, k) := h
    cases h
    decide
  by_cases c6 : p = 6
  · subst c6
    have h : some (0, 0) = some (n, k) := h
    cases h
    decide
  by_cases c7 : p = 7
  · subst c7
    have h : some (0, 0) = some (n, k) := h
    cases h
    decide
  by_cases c8 : p = 8
  · subst c8
    have h : some (2, 0) = some (n, k) := h
    cases h
    decide
  by_cases c9 : p = 9
  · subst c9
    have h : some (2, 0) = some (n, k) := h
    cases h
    decide
  by_cases c10 : p = 10
  · subst c10
    have h : some (0, 0) = some (n, k) := h
    cases h
    decide
  by_cases c11 : p = 11
  · subst c11
    have h : some (1, 0) = some (n, k) := h
    cases h
    decide
  by_cases c12 : p = 12
  · subst c12
    have h : some (0, 0) = some (n, k) := h
    cases h
    decide
  by_cases c13 : p = 13
  · subst c13
    have h : some (0, 0) = some (n, k) := h
    cases h
    decide
  by_cases c14 : p = 14
  · subst c14
    have h : some (0, 0) = some (n, k) := h
    cases h
    decide
  by_cases c15 : p = 15
  · subst c15
    have h : some (0, 0) = some (n, k) := h
    cases h
    decide
  by_cases c16 : p = 16
  · subst c16
    have h : some (2, 0) = some (n, k) := h
    cases h
    decide
  exfalso
  unfold PyKrcu.shape at h
  rw [if_neg c0, if_neg c1, if_neg c2, if_neg c3, if_neg c4, if_neg c5, if_neg c6, if_neg c7, if_neg c8, if_neg c9, if_neg c10, if_neg c11, if_neg c12, if_neg c13, if_neg c14, if_neg c15, if_neg c16] at h
  cases h
theorem calls_nil {sh : Int → Option (Nat × Nat)} {f : Nat} {cs : List (List (List Int))} (h : PyFlat.calls sh f [] = some cs) : cs = [] := by
  cases f with
  | zero =>
    have h : some [] = some cs := h
    exact (Option.some.inj h).symm
  | succ f =>
    have h : some [] = some cs := h
    exact (Option.some.inj h).symm
theorem calls_cons {sh : Int → Option (Nat × Nat)} {f : Nat} {p : Int} {r : List Int} {cs : List (List (List Int))} (h : PyFlat.calls sh f (p :: r) = some cs) :
    ∃ f' n k xs t cs', sh p = some (n, k) ∧ n ≤ r.length ∧ PyFlat.rows k (r.drop n) = some (xs, t) ∧ cs = ((p :: r.take n) :: xs) :: cs' ∧ PyFlat.calls sh f' t = some cs' := by
  cases f with
  | zero => cases h
  | succ f =>
    have h1 : (match PyFlat.call sh (p :: r) with
      | none => none
      | some (c, t) => match PyFlat.calls sh f t with
        | none => none
        | some cs => some (c :: cs)) = some cs := h
    cases e : PyFlat.call sh (p :: r) with
    | none =>
      rw [e] at h1
      cases h1
    | some q =>
      obtain ⟨c, t⟩ := q
      rw [e] at h1
      have h2 : (match PyFlat.calls sh f t with
        | none => none
        | some cs => some (c :: cs)) = some cs := h1
      cases e2 : PyFlat.calls sh f t with
      | none =>
        rw [e2] at h2
        cases h2
      | some cs' =>
        rw [e2] at h2
        have h3 := Option.some.inj h2
        have e3 : (match sh p with
          | none => none
          | some (n, k) => if r.length < n then none else match PyFlat.rows k (r.drop n) with
            | none => none
            | some (xs, t) => some ((p :: r.take n) :: xs, t)) = some (c, t) := e
        cases es : sh p with
        | none =>
          rw [es] at e3
          cases e3
        | some nk =>
          obtain ⟨n, k⟩ := nk
          rw [es] at e3
          have e4 : (if r.length < n then none else match PyFlat.rows k (r.drop n) with
            | none => none
            | some (xs, t) => some ((p :: r.take n) :: xs, t)) = some (c, t) := e3
          by_cases d : r.length < n
          · rw [if_pos d] at e4
            cases e4
          · rw [if_neg d] at e4
            cases er : PyFlat.rows k (r.drop n) with
            | none =>
              rw [er] at e4
              cases e4
            | some q =>
              obtain ⟨xs, t'⟩ := q
              rw [er] at e4
              have e5 : some ((p :: r.take n) :: xs, t') = some (c, t) := e4
              have e6 := Option.some.inj e5
              cases e6
              exact ⟨f, n, k, xs, t, cs', rfl, by omega, er, h3.symm, e2⟩
theorem rows_zero {r : List Int} {xs : List (List Int)} {t : List Int} (h : PyFlat.rows 0 r = some (xs, t)) : xs = [] ∧ t = r := by
  have h : some ([], r) = some (xs, t) := h
  cases h
  exact ⟨rfl, rfl⟩
theorem rows_succ {k : Nat} {r : List Int} {xs : List (List Int)} {t : List Int} (h : PyFlat.rows (k + 1) r = some (xs, t)) :
    ∃ (m : Nat) (s : List Int) (xs' : List (List Int)), r = (m : Int) :: s ∧ m ≤ s.length ∧ xs = s.take m :: xs' ∧ PyFlat.rows k (s.drop m) = some (xs', t) := by
  have h1 : (match PyFlat.row r with
    | none => none
    | some (x, s) => match PyFlat.rows k s with
      | none => none
      | some (xs, t) => some (x :: xs, t)) = some (xs, t) := h
  cases r with
  | nil => cases h1
  | cons n s =>
    have er : PyFlat.row (n :: s) = if 0 ≤ n ∧ n.toNat ≤ s.length then some (s.take n.toNat, s.drop n.toNat) else none := rfl
    by_cases c : 0 ≤ n ∧ n.toNat ≤ s.length
    · rw [if_pos c] at er
      rw [er] at h1
      have h2 : (match PyFlat.rows k (s.drop n.toNat) with
        | none => none
        | some (xs, t) => some (s.take n.toNat :: xs, t)) = some (xs, t) := h1
      cases e : PyFlat.rows k (s.drop n.toNat) with
      | none =>
        rw [e] at h2
        cases h2
      | some q =>
        obtain ⟨xs', t'⟩ := q
        rw [e] at h2
        have h3 : some (s.take n.toNat :: xs', t') = some (xs, t) := h2
        cases h3
        refine ⟨n.toNat, s, xs', ?_, c.2, rfl, e⟩
        have : ((n.toNat : Nat) : Int) = n := by omega
        rw [this]
    · rw [if_neg c] at er
      rw [er] at h1
      cases h1
theorem rows_len {k : Nat} : ∀ {r : List Int} {xs : List (List Int)} {t : List Int}, PyFlat.rows k r = some (xs, t) → xs.length = k := by
  induction k with
  | zero =>
    intro r xs t h
    rw [(rows_zero h).1]
    rfl
  | succ k ih =>
    intro r xs t h
    obtain ⟨m, s, xs', _, _, e, h2⟩ := rows_succ h
    rw [e, List.length_cons, ih h2]
/-- a list from a place on -/
theorem drop_cons {α : Type} {l : List α} {i : Nat} {x : α} {r : List α} (h : l.drop i = x :: r) : l[i]? = some x ∧ l.drop (i + 1) = r ∧ i < l.length := by
  have hi : i < l.length := by
    apply Classical.byContradiction
    intro c
    rw [List.drop_eq_nil_of_le (by omega)] at h
    cases h
  have e := List.drop_eq_getElem_cons hi
  rw [e] at h
  have h1 := List.cons.inj h
  exact ⟨by rw [List.getElem?_eq_getElem hi, h1.1], h1.2, hi⟩
end Gs
/-! Directions, counts, and what each call answers. -/
namespace Gs
open Krct (Glued)
theorem Ok.bandsOf_len {g : Glued} (o : Ok g) : 1 ≤ (Krcu.bandsOf g).length ∧ (Krcu.bandsOf g).length ≤ 6 := by
  rw [o.bands_eq, List.length_mergeSort]
  have r := o.rows_le
  have s := o.six
  unfold bandsM
  by_cases c : (lowBands g).isEmpty = true
  · rw [if_pos c]
    exact ⟨Nat.le_refl _, by show 1 ≤ 6; decide⟩
  · rw [if_neg c]
    have l : (lowBands g).length ≤ rowsN g := by
      rw [← lowTo_all]
      exact lowTo_len _
    refine ⟨?_, by omega⟩
    cases e : lowBands g with
    | nil =>
      rw [e] at c
      exact absurd rfl c
    | cons a t => exact Nat.succ_le_succ (Nat.zero_le _)
theorem Ok.bands_len {g : Glued} (o : Ok g) (p q : Int) : 1 ≤ (Krcu.bands g p q).length ∧ (Krcu.bands g p q).length ≤ 6 := (laid_ok o p q).bandsOf_len
/-! ## directions -/
def cop (d : Int × Int) : Bool := Krcu.coprime d.1 d.2
def dirP (k q p : Nat) : Int × Int := ((p : Int) - (k : Int), (q : Int) + 1)
def dirR (k q j : Nat) : List (Int × Int) := ((List.range j).map (dirP k q)).filter cop
def dirTo (k i : Nat) : List (Int × Int) := (1, 0) :: ((List.range i).flatMap fun q => (List.range (2 * k + 1)).map (dirP k q)).filter cop
theorem dirTo_zero (k : Nat) : dirTo k 0 = [(1, 0)] := rfl
theorem dirTo_all (k : Nat) : dirTo k k = Krcu.directions k := rfl
theorem dirR_zero (k q : Nat) : dirR k q 0 = [] := rfl
theorem dirTo_succ (k i : Nat) : dirTo k (i + 1) = dirTo k i ++ dirR k i (2 * k + 1) := by
  unfold dirTo dirR
  rw [List.range_succ (n := i), List.flatMap_append, List.filter_append, List.flatMap_singleton]
  rfl
theorem dirR_yes {k q j : Nat} (h : cop (dirP k q j) = true) : dirR k q (j + 1) = dirR k q j ++ [dirP k q j] := by
  unfold dirR
  rw [List.range_succ, List.map_append, List.filter_append]
  congr 1
  show [dirP k q j].filter cop = _
  rw [List.filter_cons, if_pos h]
  rfl
theorem dirR_no {k q j : Nat} (h : cop (dirP k q j) = false) : dirR k q (j + 1) = dirR k q j := by
  unfold dirR
  rw [List.range_succ, List.map_append, List.filter_append]
  show _ ++ [dirP k q j].filter cop = _
  rw [List.filter_cons, if_neg (by rw [h]; decide)]
  exact List.append_nil _
theorem dirR_len (k q j : Nat) : (dirR k q j).length ≤ j := by
  unfold dirR
  have := List.length_filter_le cop ((List.range j).map (dirP k q))
  rw [List.length_map, List.length_range] at this
  exact this
theorem dirTo_len (k : Nat) : ∀ i, (dirTo k i).length ≤ 1 + i * (2 * k + 1)
  | 0 => by
    rw [dirTo_zero]
    exact Nat.le_add_right _ _
  | i + 1 => by
    have a := dirTo_len k i
    have b := dirR_len k i (2 * k + 1)
    rw [dirTo_succ, List.length_append, Nat.succ_mul i]
    omega
theorem dirTo_small {k i : Nat} (hk : k ≤ 5) (hi : i ≤ 5) : (dirTo k i).length ≤ 56 := by
  have a := dirTo_len k i
  have b : i * (2 * k + 1) ≤ 5 * 11 := Nat.mul_le_mul hi (by omega)
  omega
theorem dir_mem {k : Nat} (hk : 1 ≤ k) {d : Int × Int} (h : d ∈ Krcu.directions k) : (-(k : Int) ≤ d.1 ∧ d.1 ≤ k) ∧ (-(k : Int) ≤ d.2 ∧ d.2 ≤ k) := by
  unfold Krcu.directions at h
  rcases List.mem_cons.mp h with h | h
  · subst h
    exact ⟨⟨by show -(k : Int) ≤ 1; omega, by show (1 : Int) ≤ k; omega⟩, ⟨by show -(k : Int) ≤ 0; omega, by show (0 : Int) ≤ k; omega⟩⟩
  · have h := (List.mem_filter.mp h).1
    obtain ⟨q, hq, h⟩ := List.mem_flatMap.mp h
    obtain ⟨p, hp, h⟩ := List.mem_map.mp h
    have hq := List.mem_range.mp hq
    have hp := List.mem_range.mp hp
    subst h
    exact ⟨⟨by show -(k : Int) ≤ (p : Int) - k; omega, by show (p : Int) - k ≤ k; omega⟩, ⟨by show -(k : Int) ≤ (q : Int) + 1; omega, by show (q : Int) + 1 ≤ k; omega⟩⟩
/-! ## the first of a list -/
theorem split_at {α : Type} {l : List α} {i : Nat} {x : α} (h : l[i]? = some x) : l = l.take i ++ x :: l.drop (i + 1) := by
  obtain ⟨hi, e⟩ := List.getElem?_eq_some_iff.mp h
  have := List.drop_eq_getElem_cons hi
  rw [e] at this
  rw [← this, List.take_append_drop]
theorem find_at {α : Type} {l : List α} {f : α → Bool} {i : Nat} {x : α} (h : l[i]? = some x) (hb : (l.take i).find? f = none) (hx : f x = true) : l.find? f = some x := by
  rw [split_at h, List.find?_append, hb, List.find?_cons, hx]
  rfl
theorem find_more {α : Type} {l : List α} {f : α → Bool} {i : Nat} {x : α} (h : l[i]? = some x) (hb : (l.take i).find? f = none) (hx : f x = false) : (l.take (i + 1)).find? f = none := by
  rw [take_more h, List.find?_append, hb, List.find?_cons, hx]
  rfl
/-! ## how many of each -/
def tally (l : List Nat) : List Nat := (List.range 6).map fun i => (l.filter fun b => b == i + 1).length
theorem tally_nil : tally [] = List.replicate 6 0 := rfl
theorem tally_len (l : List Nat) : (tally l).length = 6 := rfl
theorem tally_cons (b : Nat) (l : List Nat) (i : Nat) : ((b :: l).filter fun c => c == i + 1).length = (l.filter fun c => c == i + 1).length + (if b = i + 1 then 1 else 0) := by
  rw [List.filter_cons]
  by_cases c : b = i + 1
  · rw [if_pos (beq_iff_eq.mpr c), if_pos c]
    rfl
  · rw [if_neg (fun z => c (beq_iff_eq.mp z)), if_neg c]
    rfl
theorem tally_at (l : List Nat) : tally l = [(l.filter fun c => c == 1).length, (l.filter fun c => c == 2).length, (l.filter fun c => c == 3).length, (l.filter fun c => c == 4).length, (l.filter fun c => c == 5).length, (l.filter fun c => c == 6).length] := rfl
theorem tally_more {l : List Nat} {b : Nat} (h : 1 ≤ b ∧ b ≤ 6) : tally (l ++ [b]) = (tally l).set (b - 1) (Krct.to (tally l) (b - 1) + 1) := by
  have key : ∀ i, ((l ++ [b]).filter fun c => c == i).length = (l.filter fun c => c == i).length + (if b = i then 1 else 0) := fun i => by
    rw [List.filter_append, List.length_append]
    congr 1
    rw [List.filter_cons]
    by_cases c : b = i
    · rw [if_pos (beq_iff_eq.mpr c), if_pos c]
      rfl
    · rw [if_neg (fun z => c (beq_iff_eq.mp z)), if_neg c]
      rfl
  rw [tally_at, tally_at, key, key, key, key, key, key]
  have hb : b = 1 ∨ b = 2 ∨ b = 3 ∨ b = 4 ∨ b = 5 ∨ b = 6 := by omega
  rcases hb with rfl | rfl | rfl | rfl | rfl | rfl <;> rfl
theorem tally_sum : ∀ {l : List Nat}, (∀ b ∈ l, 1 ≤ b ∧ b ≤ 6) → (tally l).sum = l.length
  | [], _ => rfl
  | b :: l, h => by
    have ih := tally_sum (l := l) fun c hc => h c (List.mem_cons_of_mem _ hc)
    have hb := h b List.mem_cons_self
    have key : ∀ i, ((b :: l).filter fun c => c == i).length = (l.filter fun c => c == i).length + (if b = i then 1 else 0) := fun i => by
      rw [List.filter_cons]
      by_cases c : b = i
      · rw [if_pos (beq_iff_eq.mpr c), if_pos c]
        rfl
      · rw [if_neg (fun z => c (beq_iff_eq.mp z)), if_neg c]
        rfl
    rw [tally_at] at ih ⊢
    rw [key, key, key, key, key, key, List.length_cons, ← ih]
    simp only [List.sum_cons, List.sum_nil]
    have hb' : b = 1 ∨ b = 2 ∨ b = 3 ∨ b = 4 ∨ b = 5 ∨ b = 6 := by omega
    rcases hb' with rfl | rfl | rfl | rfl | rfl | rfl <;> simp <;> omega
theorem int_sum (l : List Nat) : (l.map fun (x : Nat) => (x : Int)).sum = ((l.sum : Nat) : Int) := by
  induction l with
  | nil => rfl
  | cons a l ih =>
    rw [List.map_cons, List.sum_cons, List.sum_cons, ih]
    omega
/-! ## the greatest -/
theorem fold_le {m : Nat} : ∀ {l : List Nat} {a : Nat}, a ≤ m → (∀ y ∈ l, y ≤ m) → l.foldl max a ≤ m
  | [], a, h, _ => h
  | y :: l, a, h, k => by
    rw [List.foldl_cons]
    exact fold_le (Nat.max_le.mpr ⟨h, k y List.mem_cons_self⟩) fun z hz => k z (List.mem_cons_of_mem _ hz)
theorem le_fold {m : Nat} : ∀ {l : List Nat} {a : Nat}, m ≤ a ∨ m ∈ l → m ≤ l.foldl max a
  | [], a, h => by
    rcases h with h | h
    · exact h
    · cases h
  | y :: l, a, h => by
    rw [List.foldl_cons]
    apply le_fold
    rcases h with h | h
    · exact Or.inl (Nat.le_trans h (Nat.le_max_left _ _))
    · rcases List.mem_cons.mp h with h | h
      · exact Or.inl (by rw [h]; exact Nat.le_max_right _ _)
      · exact Or.inr h
theorem fold_max {l : List Nat} {m : Nat} (hm : m ∈ l) (h : ∀ y ∈ l, y ≤ m) : l.foldl max 0 = m := Nat.le_antisymm (fold_le (Nat.zero_le _) h) (le_fold (Or.inr hm))
/-! ## the calls that may be asked -/
inductive Ask : List (List Int) → Prop
  | begin_ (a : Int) : 0 ≤ a → Ask [[0, a]]
  | glue (l k : List Int) : (∀ x ∈ l, 0 ≤ x) → (∀ x ∈ k, 0 ≤ x) → Ask [[1], l, k]
  | bare (p : Int) : (p = 2 ∨ p = 3 ∨ p = 4 ∨ p = 5 ∨ p = 6 ∨ p = 7 ∨ p = 10 ∨ p = 12 ∨ p = 13 ∨ p = 14 ∨ p = 15) → Ask [[p]]
  | dir (p a b : Int) : (p = 8 ∨ p = 9 ∨ p = 16) → Ask [[p, a, b]]
  | counts (a : Int) : 0 ≤ a → Ask [[11, a]]
theorem natural_of {z : Int} {n : Nat} (h : KrcuNeutral.natural z n = true) : 0 ≤ z := by
  unfold KrcuNeutral.natural at h
  rw [Bool.and_eq_true, decide_eq_true_iff] at h
  exact h.1
theorem ask_of {c : List (List Int)} (h : KrcuNeutral.asked1 c = true) : Ask c := by
  unfold KrcuNeutral.asked1 at h
  split at h
  · exact .begin_ _ (natural_of h)
  · simp only [Bool.and_eq_true, List.all_eq_true] at h
    exact .glue _ _ (fun x hx => natural_of (h.1.1.1 x hx)) (fun x hx => natural_of (h.1.2 x hx))
  · exact .bare _ (by decide)
  · exact .bare _ (by decide)
  · exact .bare _ (by decide)
  · exact .bare _ (by decide)
  · exact .bare _ (by decide)
  · exact .bare _ (by decide)
  · exact .dir _ _ _ (by decide)
  · exact .dir _ _ _ (by decide)
  · exact .bare _ (by decide)
  · exact .counts _ (natural_of h)
  · exact .bare _ (by decide)
  · exact .bare _ (by decide)
  · exact .bare _ (by decide)
  · exact .bare _ (by decide)
  · exact .dir _ _ _ (by decide)
  · cases h
theorem whole_eq (c : List (List Int)) : PyKrcu.whole c = c := by
  unfold PyKrcu.whole
  split <;> rfl
theorem map_whole (cs : List (List (List Int))) : cs.map PyKrcu.whole = cs := by
  induction cs with
  | nil => rfl
  | cons c cs ih => rw [List.map_cons, whole_eq, ih]
/-- what the function gives back -/
theorem answers_eq {l : List Int} {raw : List (List (List Int))} (h : PyFlat.calls PyKrcu.shape l.length l = some raw) : PyKrcu.answers l = PyFlat.told (PyFlat.played KrcuNeutral.step none raw) := by
  unfold PyKrcu.answers PyKrcu.calls
  rw [h]
  show PyFlat.told (PyFlat.played KrcuNeutral.step KrcuNeutral.start (raw.map PyKrcu.whole)) = _
  rw [map_whole]
  rfl
theorem asked_of {l : List Int} (h : PyKrcu.answers_asked l = true) : ∃ raw, PyFlat.calls PyKrcu.shape l.length l = some raw ∧ raw.length ≤ 40 ∧ ∀ c ∈ raw, Ask c := by
  unfold PyKrcu.answers_asked at h
  cases e : PyFlat.calls PyKrcu.shape l.length l with
  | none =>
    rw [e] at h
    cases h
  | some raw =>
    rw [e] at h
    have h : (PyFlat.atMost 40 raw && PyInside.calls PyKrcu.bound raw && KrcuNeutral.asked (raw.map PyKrcu.whole) && PyFlat.short 10000000 (PyKrcu.answers l)) = true := h
    rw [map_whole] at h
    simp only [Bool.and_eq_true] at h
    refine ⟨raw, rfl, of_decide_eq_true h.1.1.1, fun c hc => ask_of ?_⟩
    have h2 := h.1.2
    unfold KrcuNeutral.asked at h2
    rw [Bool.and_eq_true, List.all_eq_true] at h2
    exact h2.1 c hc
/-! ## playing on -/
def stateOf (s : Option Glued) : List (List (List Int)) → Option Glued
  | [] => s
  | c :: r => stateOf (KrcuNeutral.step s c).1 r
theorem played_app (a : List (List (List Int))) (c : List (List Int)) : ∀ s : Option Glued, PyFlat.played KrcuNeutral.step s (a ++ [c]) = PyFlat.played KrcuNeutral.step s a ++ [(KrcuNeutral.step (stateOf s a) c).2] := by
  induction a with
  | nil => exact fun s => rfl
  | cons b a ih =>
    intro s
    show _ :: PyFlat.played KrcuNeutral.step (KrcuNeutral.step s b).1 (a ++ [c]) = _
    rw [ih]
    rfl
theorem state_app (a : List (List (List Int))) (c : List (List Int)) : ∀ s : Option Glued, stateOf s (a ++ [c]) = (KrcuNeutral.step (stateOf s a) c).1 := by
  induction a with
  | nil => exact fun s => rfl
  | cons b a ih =>
    intro s
    show stateOf (KrcuNeutral.step s b).1 (a ++ [c]) = _
    rw [ih]
    rfl
theorem told_app (a : List (List Int)) (x : List Int) : PyFlat.told (a ++ [x]) = PyFlat.told a ++ ((x.length : Int) :: x) := by
  unfold PyFlat.told
  rw [List.flatMap_append, List.flatMap_singleton]
end Gs
/-! What each call answers, told as the program goes. -/
namespace Gs
open Krct (Glued)
theorem least_mem : ∀ (l : List (List Nat)) (m : List Nat), leastFold m l = m ∨ leastFold m l ∈ l
  | [], _ => Or.inl rfl
  | x :: l, m => by
    show leastFold (if Krct.lexLess x m then x else m) l = m ∨ leastFold (if Krct.lexLess x m then x else m) l ∈ x :: l
    by_cases c : Krct.lexLess x m = true
    · rw [if_pos c]
      rcases least_mem l x with h | h
      · rw [h]
        exact Or.inr List.mem_cons_self
      · exact Or.inr (List.mem_cons_of_mem _ h)
    · rw [if_neg c]
      rcases least_mem l m with h | h
      · exact Or.inl h
      · exact Or.inr (List.mem_cons_of_mem _ h)
theorem Ok.name_len {g : Glued} (o : Ok g) : ((Krct.name g).east ++ (Krct.name g).north).length ≤ 12 := by
  rw [name_fold]
  have six := o.six
  rcases least_mem ((List.range g.n).map (tellIn g)) (tellIn g 0) with h | h
  · rw [h, o.tellIn_len o.pos]
    omega
  · obtain ⟨s, hs, e⟩ := List.mem_map.mp h
    rw [← e, o.tellIn_len (List.mem_range.mp hs)]
    omega
def cI (l : List Int) : List Int := (l.length : Int) :: l
theorem ints_len (l : List Nat) : (Krct.ints l).length = l.length := List.length_map ..
def topsL (g : Glued) : List Int := (Krcu.rows g).map fun r => if Krcu.smooth g r then 1 else 0
def oneOf (g : Glued) : Option (Int × Int) := (Krcu.directions 5).find? fun d => (Krcu.bands g d.1 d.2).length == 1
def oneL (g : Glued) : List Int := match oneOf g with
  | none => [-33]
  | some d => [0, d.1, d.2]
def blen (g : Glued) (d : Int × Int) : Nat := (Krcu.bands g d.1 d.2).length
def toldB (B : List (Nat × Nat)) : List Int := (B.length : Int) :: Krct.ints (B.flatMap fun b => [b.1, b.2])
def longM (g : Glued) (p q : Int) : Nat := ((Krcu.bands g p q).map Prod.fst).foldl max 0
def tellM (g : Glued) (p : Int) : List Int :=
  if p = 2 then cI (Krct.ints (g.corners.map List.length)) else
  if p = 3 then [(g.holes : Int)] else
  if p = 4 then cI (Krct.ints ((Krct.cycles g.n (Krct.to g.east)).map List.length)) else
  if p = 5 then cI (Krct.ints ((Krct.cycles g.n (Krct.to g.north)).map List.length)) else
  if p = 6 then cI (Krct.ints ((Krct.name g).east ++ (Krct.name g).north)) else
  if p = 10 then oneL g else
  if p = 12 then cI (topsL g) else
  (g.n : Int) :: Krct.ints (g.east ++ g.north)
theorem step_tell {g : Glued} {p : Int} (hp : p = 2 ∨ p = 3 ∨ p = 4 ∨ p = 5 ∨ p = 6 ∨ p = 7 ∨ p = 10 ∨ p = 12) : KrcuNeutral.step (some g) [[p]] = (some g, tellM g p) := by
  rcases hp with rfl | rfl | rfl | rfl | rfl | rfl | rfl | rfl
  · show (some g, _) = (some g, cI (Krct.ints (g.corners.map List.length)))
    unfold cI
    rw [ints_len]
    rfl
  · rfl
  · show (some g, _) = (some g, cI (Krct.ints ((Krct.cycles g.n (Krct.to g.east)).map List.length)))
    unfold cI
    rw [ints_len]
    rfl
  · show (some g, _) = (some g, cI (Krct.ints ((Krct.cycles g.n (Krct.to g.north)).map List.length)))
    unfold cI
    rw [ints_len]
    rfl
  · show (some g, _) = (some g, cI (Krct.ints ((Krct.name g).east ++ (Krct.name g).north)))
    unfold cI
    rw [ints_len]
    rfl
  · rfl
  · show (some g, KrcuNeutral.told (match oneOf g with
      | none => Krct.say (-33)
      | some d => { num := 0, nums := [d.1, d.2] })) = (some g, oneL g)
    unfold oneL
    cases oneOf g with
    | none => rfl
    | some d => rfl
  · show (some g, _) = (some g, cI (topsL g))
    have : (topsL g).length = (Krcu.rows g).length := List.length_map ..
    unfold cI
    rw [this]
    rfl
def dirM (g : Glued) (p a b : Int) : Option Glued × List Int :=
  if Krcu.dirOk a b = true then (if p = 16 then (some (Krcu.laid g a b), [0]) else if p = 9 then (some g, [(longM g a b : Int)]) else (some g, toldB (Krcu.bands g a b))) else (some g, [-22])
theorem step_dir {g : Glued} {p a b : Int} (hp : p = 8 ∨ p = 9 ∨ p = 16) : KrcuNeutral.step (some g) [[p, a, b]] = dirM g p a b := by
  unfold dirM
  rcases hp with rfl | rfl | rfl
  · show (some g, KrcuNeutral.told (if (!Krcu.dirOk a b) = true then Krct.say (-22) else Krcu.told (Krcu.bands g a b))) = _
    cases Krcu.dirOk a b <;> rfl
  · show (some g, KrcuNeutral.told (if (!Krcu.dirOk a b) = true then Krct.say (-22) else Krct.nat (longM g a b))) = _
    cases Krcu.dirOk a b <;> rfl
  · show ((if (!Krcu.dirOk a b) = true then (some g, Krct.say (-22)) else (some (Krcu.laid g a b), Krct.say 0)).1, KrcuNeutral.told (if (!Krcu.dirOk a b) = true then (some g, Krct.say (-22)) else (some (Krcu.laid g a b), Krct.say 0)).2) = _
    cases Krcu.dirOk a b <;> rfl
def countM (g : Glued) (n : Nat) : List Int := if n = 0 ∨ 4 < n then [-22] else ((Krcu.directions n).length : Int) :: Krct.ints (tally ((Krcu.directions n).map (blen g)))
theorem step_count {g : Glued} {a : Int} : KrcuNeutral.step (some g) [[11, a]] = (some g, countM g a.toNat) := by
  show (some g, KrcuNeutral.told (if (decide (a.toNat = 0) || decide (4 < a.toNat)) = true then Krct.say (-22) else { num := (((Krcu.directions a.toNat).map fun d => (Krcu.bands g d.1 d.2).length).length : Int), nums := Krct.ints (tally ((Krcu.directions a.toNat).map (blen g))) })) = _
  unfold countM
  by_cases c : a.toNat = 0 ∨ 4 < a.toNat
  · rw [if_pos c, if_pos (by simpa using c)]
    rfl
  · rw [if_neg c, if_neg (by simpa using c), List.length_map]
    rfl
def glueM (g : Glued) (l k : List Nat) : Option Glued × List Int :=
  if Krct.isPerm g.n l = true ∧ Krct.isPerm g.n k = true then (if (Glued.mk g.n l k).whole = true then (some ⟨g.n, l, k⟩, [((Glued.mk g.n l k).corners.length : Int)]) else (some g, [-33])) else (some g, [-22])
theorem step_glue {g : Glued} {l k : List Int} : KrcuNeutral.step (some g) [[1], l, k] = glueM g (l.map Int.toNat) (k.map Int.toNat) := by
  show ((if (!Krct.isPerm g.n (l.map Int.toNat) || !Krct.isPerm g.n (k.map Int.toNat)) = true then (some g, Krct.say (-22)) else if (!(Glued.mk g.n (l.map Int.toNat) (k.map Int.toNat)).whole) = true then (some g, Krct.say (-33)) else (some (Glued.mk g.n (l.map Int.toNat) (k.map Int.toNat)), Krct.nat (Glued.mk g.n (l.map Int.toNat) (k.map Int.toNat)).corners.length)).1,
    KrcuNeutral.told (if (!Krct.isPerm g.n (l.map Int.toNat) || !Krct.isPerm g.n (k.map Int.toNat)) = true then (some g, Krct.say (-22)) else if (!(Glued.mk g.n (l.map Int.toNat) (k.map Int.toNat)).whole) = true then (some g, Krct.say (-33)) else (some (Glued.mk g.n (l.map Int.toNat) (k.map Int.toNat)), Krct.nat (Glued.mk g.n (l.map Int.toNat) (k.map Int.toNat)).corners.length)).2) = _
  unfold glueM
  generalize l.map Int.toNat = l
  generalize k.map Int.toNat = k
  generalize (Glued.mk g.n l k).whole = w
  cases Krct.isPerm g.n l <;> cases Krct.isPerm g.n k <;> cases w <;> rfl
def beginM (y : Option Glued) (n : Nat) : Option Glued × List Int := if n = 0 ∨ 6 < n then (y, [-22]) else (some (Krct.row n), [0])
theorem step_begin {y : Option Glued} {a : Int} : KrcuNeutral.step y [[0, a]] = beginM y a.toNat := by
  show ((if (decide (a.toNat = 0) || decide (Krct.mostSquares < a.toNat)) = true then (y, Krct.say (-22)) else (some (Krct.row a.toNat), Krct.say 0)).1, KrcuNeutral.told (if (decide (a.toNat = 0) || decide (Krct.mostSquares < a.toNat)) = true then (y, Krct.say (-22)) else (some (Krct.row a.toNat), Krct.say 0)).2) = _
  unfold beginM Krct.mostSquares
  by_cases c : a.toNat = 0 ∨ 6 < a.toNat
  · rw [if_pos c, if_pos (by simpa using c)]
    rfl
  · rw [if_neg c, if_neg (by simpa using c)]
    rfl
/-- before a begin -/
theorem step_none {c : List (List Int)} (h : Ask c) (hn : ∀ a, c ≠ [[0, a]]) : KrcuNeutral.step none c = (none, [-11]) := by
  cases h with
  | begin_ a _ => exact absurd rfl (hn a)
  | glue l k _ _ => rfl
  | bare p hp => rcases hp with rfl | rfl | rfl | rfl | rfl | rfl | rfl | rfl | rfl | rfl | rfl <;> rfl
  | dir p a b hp => rcases hp with rfl | rfl | rfl <;> rfl
  | counts a _ => rfl
theorem step_change {g : Glued} {p : Int} {f : Glued → Glued} (h : (p = 13 ∧ f = Krcu.shear) ∨ (p = 14 ∧ f = Krcu.unshear) ∨ (p = 15 ∧ f = Krcu.turn)) : KrcuNeutral.step (some g) [[p]] = (some (f g), [0]) := by
  rcases h with ⟨rfl, rfl⟩ | ⟨rfl, rfl⟩ | ⟨rfl, rfl⟩ <;> rfl
/-! ## how long an answer is -/
theorem Ok.toldB_len {g : Glued} (o : Ok g) (p q : Int) : (toldB (Krcu.bands g p q)).length ≤ 13 := by
  have b := (o.bands_len p q).2
  have key : ∀ B : List (Nat × Nat), (B.flatMap fun b => [b.1, b.2]).length = 2 * B.length := fun B => by
    induction B with
    | nil => rfl
    | cons x B ih =>
      rw [List.flatMap_cons, List.length_append, ih]
      show 2 + 2 * B.length = 2 * (B.length + 1)
      omega
  unfold toldB
  rw [List.length_cons, ints_len, key]
  omega
end Gs
namespace Gw
open PySem PySem.Spec PyProof.Rows L2 Evl
def top (i : Nat) : Stmt := PySem.Challenge.pw_gluedsquaresdesk_s01_answers.main.body.getD i (.Pass ⟨0, 0, 0, 0⟩)
/-- a def of the text, where it stands -/
structure Df (K : PySem.W.Frag) (mg : Str → Option Value) (x : Str) (st : Stmt) (ps : List Str) where
  f : Addr
  fd : FuncData
  fn : Fun K x x st f fd
  g : mg x = some (.ref f)
  b : Binds K fd ps []
  bt : ∀ (s : Shared) (us : List Value), us.length = ps.length → BindsTo s fd ⟨us, []⟩ (ps.zip us)
theorem df_use {Goal : Prop} {K : PySem.W.Frag} {h : Heap} {mg : Str → Option Value} {x : Str} {st : Stmt} {ps : List Str} {f : Addr} {od an : Option Addr} {sl : Array (Option Value)} {oc kV dc pm cd ct : Value} (X : K.In h) (G : h.Ns mainGlobals mg)
    (a : PySem.W.nsIn K mainGlobals x = some (some (.ref f))) (l : K.lookup f = some ⟨oc, od, .func (PySem.W.fnOf x x (defArgs st) (defBody st) (defScope st) .none kV dc pm an cd ct), sl⟩) (c : PySem.W.codeIn K cd x = true) (k : PySem.W.keepIn K (.ref f) = true)
    (b : ∀ (kV doc pm : Value) (an : Option Addr) (cdv ct : Value) (us : List Value), us.length = ps.length → bindArgs (PySem.W.fnOf x x (defArgs st) (defBody st) (defScope st) .none kV doc pm an cdv ct) ⟨us, []⟩ = pure (ps.zip us)) (cont : Df K mg x st ps → Goal) : Goal :=
  cont ⟨f, _, fun_mk l c k, PySem.W.mg_of X G a, (fun_mk l c k).binds b, fun s us hu => .of_eq (b _ _ _ _ _ _ us hu)⟩
theorem con_use {Goal : Prop} {K : PySem.W.Frag} {h : Heap} {mg : Str → Option Value} {x : Str} {i : Int} {t : Tok} (X : K.In h) (G : h.Ns mainGlobals mg) (a : PySem.W.nsIn K mainGlobals x = some (some (.int i t))) (cont : ∀ t : Tok, mg x = some (.int i t) → Goal) : Goal := cont t (PySem.W.mg_of X G a)
theorem none_use {Goal : Prop} {K : PySem.W.Frag} {h : Heap} {mg : Str → Option Value} {x : Str} (X : K.In h) (G : h.Ns mainGlobals mg) (a : PySem.W.nsIn K mainGlobals x = some none) (cont : mg x = none → Goal) : Goal := cont (PySem.W.mg_none_of X G a)
abbrev s_init_Surface : Stmt := inClass (top 7) 0
theorem sc_init_Surface : FnScope ["self", "eastern", "northern"] ["self", "eastern", "northern"] (defScope s_init_Surface) := ⟨rfl, rfl, rfl, by decide +kernel, rfl, by decide +kernel, by decide +kernel⟩
abbrev s_init_Desk : Stmt := inClass (top 67) 0
theorem sc_init_Desk : FnScope ["self"] ["self"] (defScope s_init_Desk) := ⟨rfl, rfl, rfl, by decide +kernel, rfl, by decide +kernel, by decide +kernel⟩
abbrev s_common_part : Stmt := top 2
theorem sc_common_part : FnScope ["one", "other", "rest"] ["one", "other"] (defScope s_common_part) := ⟨rfl, rfl, rfl, by decide +kernel, rfl, by decide +kernel, by decide +kernel⟩
abbrev s_has_no_common_part : Stmt := top 3
theorem sc_has_no_common_part : FnScope ["p", "q"] ["p", "q"] (defScope s_has_no_common_part) := ⟨rfl, rfl, rfl, by decide +kernel, rfl, by decide +kernel, by decide +kernel⟩
abbrev s_is_direction : Stmt := top 4
theorem sc_is_direction : FnScope ["p", "q"] ["p", "q"] (defScope s_is_direction) := ⟨rfl, rfl, rfl, by decide +kernel, rfl, by decide +kernel, by decide +kernel⟩
abbrev s_directions_up_to : Stmt := top 5
theorem sc_directions_up_to : FnScope ["greatest", "found", "q", "p"] ["greatest"] (defScope s_directions_up_to) := ⟨rfl, rfl, rfl, by decide +kernel, rfl, by decide +kernel, by decide +kernel⟩
abbrev s_one_row : Stmt := top 8
theorem sc_one_row : FnScope ["many", "eastern", "square"] ["many"] (defScope s_one_row) := ⟨rfl, rfl, rfl, by decide +kernel, rfl, by decide +kernel, by decide +kernel⟩
abbrev s_tells_all_once : Stmt := top 9
theorem sc_tells_all_once : FnScope ["squares", "many"] ["squares", "many"] (defScope s_tells_all_once) := ⟨rfl, rfl, rfl, by decide +kernel, rfl, by decide +kernel, by decide +kernel⟩
abbrev s_backward : Stmt := top 10
theorem sc_backward : FnScope ["step", "back", "square"] ["step"] (defScope s_backward) := ⟨rfl, rfl, rfl, by decide +kernel, rfl, by decide +kernel, by decide +kernel⟩
abbrev s_ring_from : Stmt := top 11
theorem sc_ring_from : FnScope ["step", "square", "ring", "there"] ["step", "square"] (defScope s_ring_from) := ⟨rfl, rfl, rfl, by decide +kernel, rfl, by decide +kernel, by decide +kernel⟩
abbrev s_rings : Stmt := top 12
theorem sc_rings : FnScope ["step", "found", "seen", "square", "ring", "member"] ["step"] (defScope s_rings) := ⟨rfl, rfl, rfl, by decide +kernel, rfl, by decide +kernel, by decide +kernel⟩
abbrev s_ring_lengths : Stmt := top 13
theorem sc_ring_lengths : FnScope ["step", "ring"] ["step"] (defScope s_ring_lengths) := ⟨rfl, rfl, rfl, by decide +kernel, rfl, by decide +kernel, by decide +kernel⟩
abbrev s_once_round : Stmt := top 14
theorem sc_once_round : FnScope ["surface", "western", "southern", "northeastern", "square"] ["surface"] (defScope s_once_round) := ⟨rfl, rfl, rfl, by decide +kernel, rfl, by decide +kernel, by decide +kernel⟩
abbrev s_corner_turns : Stmt := top 15
theorem sc_corner_turns : FnScope ["surface"] ["surface"] (defScope s_corner_turns) := ⟨rfl, rfl, rfl, by decide +kernel, rfl, by decide +kernel, by decide +kernel⟩
abbrev s_how_many_holes : Stmt := top 16
theorem sc_how_many_holes : FnScope ["surface", "less"] ["surface"] (defScope s_how_many_holes) := ⟨rfl, rfl, rfl, by decide +kernel, rfl, by decide +kernel, by decide +kernel⟩
abbrev s_order_from : Stmt := top 17
theorem sc_order_from : FnScope ["surface", "first", "order", "place", "square", "there"] ["surface", "first"] (defScope s_order_from) := ⟨rfl, rfl, rfl, by decide +kernel, rfl, by decide +kernel, by decide +kernel⟩
abbrev s_hangs_together : Stmt := top 18
theorem sc_hangs_together : FnScope ["surface"] ["surface"] (defScope s_hangs_together) := ⟨rfl, rfl, rfl, by decide +kernel, rfl, by decide +kernel, by decide +kernel⟩
abbrev s_told_in_order : Stmt := top 19
theorem sc_told_in_order : FnScope ["surface", "order", "renamed", "eastern", "northern", "square"] ["surface", "order"] (defScope s_told_in_order) := ⟨rfl, rfl, rfl, by decide +kernel, rfl, by decide +kernel, by decide +kernel⟩
abbrev s_name_of : Stmt := top 20
theorem sc_name_of : FnScope ["surface", "told", "first"] ["surface"] (defScope s_name_of) := ⟨rfl, rfl, rfl, by decide +kernel, rfl, by decide +kernel, by decide +kernel⟩
abbrev s_sheared : Stmt := top 25
theorem sc_sheared : FnScope ["surface", "western", "square"] ["surface"] (defScope s_sheared) := ⟨rfl, rfl, rfl, by decide +kernel, rfl, by decide +kernel, by decide +kernel⟩
abbrev s_sheared_back : Stmt := top 26
theorem sc_sheared_back : FnScope ["surface", "square"] ["surface"] (defScope s_sheared_back) := ⟨rfl, rfl, rfl, by decide +kernel, rfl, by decide +kernel, by decide +kernel⟩
abbrev s_turned : Stmt := top 27
theorem sc_turned : FnScope ["surface"] ["surface"] (defScope s_turned) := ⟨rfl, rfl, rfl, by decide +kernel, rfl, by decide +kernel, by decide +kernel⟩
abbrev s_sheared_back_often : Stmt := top 28
theorem sc_sheared_back_often : FnScope ["surface", "many", "lying", "again"] ["surface", "many"] (defScope s_sheared_back_often) := ⟨rfl, rfl, rfl, by decide +kernel, rfl, by decide +kernel, by decide +kernel⟩
abbrev s_laid : Stmt := top 29
theorem sc_laid : FnScope ["surface", "p", "q", "lying", "many", "rest"] ["surface", "p", "q"] (defScope s_laid) := ⟨rfl, rfl, rfl, by decide +kernel, rfl, by decide +kernel, by decide +kernel⟩
abbrev s_is_smooth : Stmt := top 30
theorem sc_is_smooth : FnScope ["row", "around", "square"] ["row", "around"] (defScope s_is_smooth) := ⟨rfl, rfl, rfl, by decide +kernel, rfl, by decide +kernel, by decide +kernel⟩
abbrev s_tops : Stmt := top 31
theorem sc_tops : FnScope ["surface", "around", "row"] ["surface"] (defScope s_tops) := ⟨rfl, rfl, rfl, by decide +kernel, rfl, by decide +kernel, by decide +kernel⟩
abbrev s_row_places : Stmt := top 32
theorem sc_row_places : FnScope ["rows", "many", "places", "place", "square"] ["rows", "many"] (defScope s_row_places) := ⟨rfl, rfl, rfl, by decide +kernel, rfl, by decide +kernel, by decide +kernel⟩
abbrev s_rows_above : Stmt := top 33
theorem sc_rows_above : FnScope ["surface", "rows", "around", "places", "above", "row"] ["surface", "rows"] (defScope s_rows_above) := ⟨rfl, rfl, rfl, by decide +kernel, rfl, by decide +kernel, by decide +kernel⟩
abbrev s_height_from : Stmt := top 34
theorem sc_height_from : FnScope ["lowest", "above", "height", "place"] ["lowest", "above"] (defScope s_height_from) := ⟨rfl, rfl, rfl, by decide +kernel, rfl, by decide +kernel, by decide +kernel⟩
abbrev s_bands_to_east : Stmt := top 35
theorem sc_bands_to_east : FnScope ["surface", "rows", "above", "found", "place"] ["surface"] (defScope s_bands_to_east) := ⟨rfl, rfl, rfl, by decide +kernel, rfl, by decide +kernel, by decide +kernel⟩
abbrev s_bands_in : Stmt := top 36
theorem sc_bands_in : FnScope ["surface", "p", "q"] ["surface", "p", "q"] (defScope s_bands_in) := ⟨rfl, rfl, rfl, by decide +kernel, rfl, by decide +kernel, by decide +kernel⟩
abbrev s_longest_in : Stmt := top 37
theorem sc_longest_in : FnScope ["surface", "p", "q", "band"] ["surface", "p", "q"] (defScope s_longest_in) := ⟨rfl, rfl, rfl, by decide +kernel, rfl, by decide +kernel, by decide +kernel⟩
abbrev s_first_with_one_band : Stmt := top 38
theorem sc_first_with_one_band : FnScope ["surface", "direction"] ["surface"] (defScope s_first_with_one_band) := ⟨rfl, rfl, rfl, by decide +kernel, rfl, by decide +kernel, by decide +kernel⟩
abbrev s_directions_by_bands : Stmt := top 39
theorem sc_directions_by_bands : FnScope ["surface", "greatest", "many", "direction", "bands"] ["surface", "greatest"] (defScope s_directions_by_bands) := ⟨rfl, rfl, rfl, by decide +kernel, rfl, by decide +kernel, by decide +kernel⟩
abbrev s_how_many_numbers : Stmt := top 57
theorem sc_how_many_numbers : FnScope ["call"] ["call"] (defScope s_how_many_numbers) := ⟨rfl, rfl, rfl, by decide +kernel, rfl, by decide +kernel, by decide +kernel⟩
abbrev s_how_many_lists : Stmt := top 58
theorem sc_how_many_lists : FnScope ["call"] ["call"] (defScope s_how_many_lists) := ⟨rfl, rfl, rfl, by decide +kernel, rfl, by decide +kernel, by decide +kernel⟩
abbrev s_cut_into_calls : Stmt := top 59
theorem sc_cut_into_calls : FnScope ["calls", "found", "at", "call", "numbers", "lists", "place", "behind"] ["calls"] (defScope s_cut_into_calls) := ⟨rfl, rfl, rfl, by decide +kernel, rfl, by decide +kernel, by decide +kernel⟩
abbrev s_counted : Stmt := top 68
theorem sc_counted : FnScope ["numbers"] ["numbers"] (defScope s_counted) := ⟨rfl, rfl, rfl, by decide +kernel, rfl, by decide +kernel, by decide +kernel⟩
abbrev s_begin : Stmt := top 69
theorem sc_begin : FnScope ["desk", "many"] ["desk", "many"] (defScope s_begin) := ⟨rfl, rfl, rfl, by decide +kernel, rfl, by decide +kernel, by decide +kernel⟩
abbrev s_glue : Stmt := top 70
theorem sc_glue : FnScope ["desk", "eastern", "northern", "many", "glued"] ["desk", "eastern", "northern"] (defScope s_glue) := ⟨rfl, rfl, rfl, by decide +kernel, rfl, by decide +kernel, by decide +kernel⟩
abbrev s_change : Stmt := top 71
theorem sc_change : FnScope ["desk", "changed"] ["desk", "changed"] (defScope s_change) := ⟨rfl, rfl, rfl, by decide +kernel, rfl, by decide +kernel, by decide +kernel⟩
abbrev s_tell_bands : Stmt := top 72
theorem sc_tell_bands : FnScope ["surface", "p", "q", "found", "told", "band"] ["surface", "p", "q"] (defScope s_tell_bands) := ⟨rfl, rfl, rfl, by decide +kernel, rfl, by decide +kernel, by decide +kernel⟩
abbrev s_answer_direction : Stmt := top 73
theorem sc_answer_direction : FnScope ["desk", "call", "p", "q"] ["desk", "call", "p", "q"] (defScope s_answer_direction) := ⟨rfl, rfl, rfl, by decide +kernel, rfl, by decide +kernel, by decide +kernel⟩
abbrev s_tell_one : Stmt := top 74
theorem sc_tell_one : FnScope ["surface", "direction"] ["surface"] (defScope s_tell_one) := ⟨rfl, rfl, rfl, by decide +kernel, rfl, by decide +kernel, by decide +kernel⟩
abbrev s_tell_counts : Stmt := top 75
theorem sc_tell_counts : FnScope ["surface", "greatest", "many"] ["surface", "greatest"] (defScope s_tell_counts) := ⟨rfl, rfl, rfl, by decide +kernel, rfl, by decide +kernel, by decide +kernel⟩
abbrev s_tell : Stmt := top 76
theorem sc_tell : FnScope ["surface", "call"] ["surface", "call"] (defScope s_tell) := ⟨rfl, rfl, rfl, by decide +kernel, rfl, by decide +kernel, by decide +kernel⟩
abbrev s_answer_begun : Stmt := top 77
theorem sc_answer_begun : FnScope ["desk", "call", "numbers", "lists"] ["desk", "call", "numbers", "lists"] (defScope s_answer_begun) := ⟨rfl, rfl, rfl, by decide +kernel, rfl, by decide +kernel, by decide +kernel⟩
abbrev s_answer : Stmt := top 78
theorem sc_answer : FnScope ["desk", "call", "numbers", "lists"] ["desk", "call", "numbers", "lists"] (defScope s_answer) := ⟨rfl, rfl, rfl, by decide +kernel, rfl, by decide +kernel, by decide +kernel⟩
abbrev s_answers : Stmt := top 79
theorem sc_answers : FnScope ["calls", "desk", "told", "cut"] ["calls"] (defScope s_answers) := ⟨rfl, rfl, rfl, by decide +kernel, rfl, by decide +kernel, by decide +kernel⟩
structure Kl_Surface (K : PySem.W.Frag) (mg : Str → Option Value) where
  C : Addr
  f : Addr
  fd : FuncData
  g : mg "Surface" = some (.ref C)
  cl : Cls K C
  m : Mk K C f
  fn : Fun K "__init__" "Surface.__init__" s_init_Surface f fd
  b : Binds K fd ["self", "eastern", "northern"] []
  n_eastern : NoAttr K C "eastern"
  n_northern : NoAttr K C "northern"
theorem kl_Surface_use {Goal : Prop} {K : PySem.W.Frag} {h : Heap} {mg : Str → Option Value} {C f1 : Addr} {od an : Option Addr} {sl : Array (Option Value)} {oc kV dc pm cd ct : Value} (X : K.In h) (G : h.Ns mainGlobals mg)
    (a : PySem.W.nsIn K mainGlobals "Surface" = some (some (.ref C))) (f : PySem.W.findIn K (.ref C) "__init__" = some (some (.ref f1))) (i : PySem.W.isFn K (.ref f1) = true)
    (l : K.lookup f1 = some ⟨oc, od, .func (PySem.W.fnOf "__init__" "Surface.__init__" (defArgs s_init_Surface) (defBody s_init_Surface) (defScope s_init_Surface) .none kV dc pm an cd ct), sl⟩) (c : PySem.W.codeIn K cd "Surface.__init__" = true) (k : PySem.W.keepIn K (.ref f1) = true)
    (pg : PySem.W.plainGet K C Str.empty = true) (hd : PySem.W.hasDictIn K C = true) (po : PySem.W.plainOver K C = true) (sa : PySem.W.findIn K (.ref C) "__setattr__" = some (some (.builtin "object.__setattr__"))) (mk : PySem.W.makesIn K C = true) (kc : PySem.W.keepIn K (.ref C) = true)
    (n0 : PySem.W.findIn K (.ref C) "eastern" = some none) (n1 : PySem.W.findIn K (.ref C) "northern" = some none)
    (b : ∀ (kV doc pm : Value) (an : Option Addr) (cdv ct : Value) (us : List Value), us.length = (["self", "eastern", "northern"] : List Str).length → bindArgs (PySem.W.fnOf "__init__" "Surface.__init__" (defArgs s_init_Surface) (defBody s_init_Surface) (defScope s_init_Surface) .none kV doc pm an cdv ct) ⟨us, []⟩ = pure ((["self", "eastern", "northern"] : List Str).zip us)) (cont : Kl_Surface K mg → Goal) : Goal :=
  cont ⟨C, f1, _, PySem.W.mg_of X G a, ⟨pg, hd, po, sa⟩, ⟨mk, f, i, kc⟩, fun_mk (st := s_init_Surface) l c k, (fun_mk (st := s_init_Surface) l c k).binds b, n0, n1⟩
structure Kl_Desk (K : PySem.W.Frag) (mg : Str → Option Value) where
  C : Addr
  f : Addr
  fd : FuncData
  g : mg "Desk" = some (.ref C)
  cl : Cls K C
  m : Mk K C f
  fn : Fun K "__init__" "Desk.__init__" s_init_Desk f fd
  b : Binds K fd ["self"] []
  n_surface : NoAttr K C "surface"
theorem kl_Desk_use {Goal : Prop} {K : PySem.W.Frag} {h : Heap} {mg : Str → Option Value} {C f1 : Addr} {od an : Option Addr} {sl : Array (Option Value)} {oc kV dc pm cd ct : Value} (X : K.In h) (G : h.Ns mainGlobals mg)
    (a : PySem.W.nsIn K mainGlobals "Desk" = some (some (.ref C))) (f : PySem.W.findIn K (.ref C) "__init__" = some (some (.ref f1))) (i : PySem.W.isFn K (.ref f1) = true)
    (l : K.lookup f1 = some ⟨oc, od, .func (PySem.W.fnOf "__init__" "Desk.__init__" (defArgs s_init_Desk) (defBody s_init_Desk) (defScope s_init_Desk) .none kV dc pm an cd ct), sl⟩) (c : PySem.W.codeIn K cd "Desk.__init__" = true) (k : PySem.W.keepIn K (.ref f1) = true)
    (pg : PySem.W.plainGet K C Str.empty = true) (hd : PySem.W.hasDictIn K C = true) (po : PySem.W.plainOver K C = true) (sa : PySem.W.findIn K (.ref C) "__setattr__" = some (some (.builtin "object.__setattr__"))) (mk : PySem.W.makesIn K C = true) (kc : PySem.W.keepIn K (.ref C) = true)
    (n0 : PySem.W.findIn K (.ref C) "surface" = some none)
    (b : ∀ (kV doc pm : Value) (an : Option Addr) (cdv ct : Value) (us : List Value), us.length = (["self"] : List Str).length → bindArgs (PySem.W.fnOf "__init__" "Desk.__init__" (defArgs s_init_Desk) (defBody s_init_Desk) (defScope s_init_Desk) .none kV doc pm an cdv ct) ⟨us, []⟩ = pure ((["self"] : List Str).zip us)) (cont : Kl_Desk K mg → Goal) : Goal :=
  cont ⟨C, f1, _, PySem.W.mg_of X G a, ⟨pg, hd, po, sa⟩, ⟨mk, f, i, kc⟩, fun_mk (st := s_init_Desk) l c k, (fun_mk (st := s_init_Desk) l c k).binds b, n0⟩
/-- what the top leaves -/
structure All (K : PySem.W.Frag) (mg : Str → Option Value) where
  r_abs : mg "abs" = none
  r_all : mg "all" = none
  r_len : mg "len" = none
  r_list : mg "list" = none
  r_max : mg "max" = none
  r_min : mg "min" = none
  r_range : mg "range" = none
  r_sorted : mg "sorted" = none
  r_sum : mg "sum" = none
  t_GREATEST : Tok
  c_GREATEST : mg "GREATEST" = some (.int (20) t_GREATEST)
  t_NO_ROW : Tok
  c_NO_ROW : mg "NO_ROW" = some (.int (-1) t_NO_ROW)
  t_MOST_BANDS : Tok
  c_MOST_BANDS : mg "MOST_BANDS" = some (.int (6) t_MOST_BANDS)
  t_FAR_ENOUGH : Tok
  c_FAR_ENOUGH : mg "FAR_ENOUGH" = some (.int (5) t_FAR_ENOUGH)
  t_BEGIN : Tok
  c_BEGIN : mg "BEGIN" = some (.int (0) t_BEGIN)
  t_GLUE : Tok
  c_GLUE : mg "GLUE" = some (.int (1) t_GLUE)
  t_CORNERS : Tok
  c_CORNERS : mg "CORNERS" = some (.int (2) t_CORNERS)
  t_HOLES : Tok
  c_HOLES : mg "HOLES" = some (.int (3) t_HOLES)
  t_ROWS : Tok
  c_ROWS : mg "ROWS" = some (.int (4) t_ROWS)
  t_COLUMNS : Tok
  c_COLUMNS : mg "COLUMNS" = some (.int (5) t_COLUMNS)
  t_NAME : Tok
  c_NAME : mg "NAME" = some (.int (6) t_NAME)
  t_BANDS : Tok
  c_BANDS : mg "BANDS" = some (.int (8) t_BANDS)
  t_LONGEST : Tok
  c_LONGEST : mg "LONGEST" = some (.int (9) t_LONGEST)
  t_ONE : Tok
  c_ONE : mg "ONE" = some (.int (10) t_ONE)
  t_COUNTS : Tok
  c_COUNTS : mg "COUNTS" = some (.int (11) t_COUNTS)
  t_TOPS : Tok
  c_TOPS : mg "TOPS" = some (.int (12) t_TOPS)
  t_SHEAR : Tok
  c_SHEAR : mg "SHEAR" = some (.int (13) t_SHEAR)
  t_UNSHEAR : Tok
  c_UNSHEAR : mg "UNSHEAR" = some (.int (14) t_UNSHEAR)
  t_TURN : Tok
  c_TURN : mg "TURN" = some (.int (15) t_TURN)
  t_LAY : Tok
  c_LAY : mg "LAY" = some (.int (16) t_LAY)
  t_NOT_BEGUN : Tok
  c_NOT_BEGUN : mg "NOT_BEGUN" = some (.int (-11) t_NOT_BEGUN)
  t_NOT_RIGHT : Tok
  c_NOT_RIGHT : mg "NOT_RIGHT" = some (.int (-22) t_NOT_RIGHT)
  t_NOT_TOGETHER : Tok
  c_NOT_TOGETHER : mg "NOT_TOGETHER" = some (.int (-33) t_NOT_TOGETHER)
  t_NONE_THERE : Tok
  c_NONE_THERE : mg "NONE_THERE" = some (.int (-33) t_NONE_THERE)
  t_MOST_SQUARES : Tok
  c_MOST_SQUARES : mg "MOST_SQUARES" = some (.int (6) t_MOST_SQUARES)
  t_MOST_COUNTED : Tok
  c_MOST_COUNTED : mg "MOST_COUNTED" = some (.int (4) t_MOST_COUNTED)
  k_Surface : Kl_Surface K mg
  k_Desk : Kl_Desk K mg
  d_common_part : Df K mg "common_part" s_common_part ["one", "other"]
  d_has_no_common_part : Df K mg "has_no_common_part" s_has_no_common_part ["p", "q"]
  d_is_direction : Df K mg "is_direction" s_is_direction ["p", "q"]
  d_directions_up_to : Df K mg "directions_up_to" s_directions_up_to ["greatest"]
  d_one_row : Df K mg "one_row" s_one_row ["many"]
  d_tells_all_once : Df K mg "tells_all_once" s_tells_all_once ["squares", "many"]
  d_backward : Df K mg "backward" s_backward ["step"]
  d_ring_from : Df K mg "ring_from" s_ring_from ["step", "square"]
  d_rings : Df K mg "rings" s_rings ["step"]
  d_ring_lengths : Df K mg "ring_lengths" s_ring_lengths ["step"]
  d_once_round : Df K mg "once_round" s_once_round ["surface"]
  d_corner_turns : Df K mg "corner_turns" s_corner_turns ["surface"]
  d_how_many_holes : Df K mg "how_many_holes" s_how_many_holes ["surface"]
  d_order_from : Df K mg "order_from" s_order_from ["surface", "first"]
  d_hangs_together : Df K mg "hangs_together" s_hangs_together ["surface"]
  d_told_in_order : Df K mg "told_in_order" s_told_in_order ["surface", "order"]
  d_name_of : Df K mg "name_of" s_name_of ["surface"]
  d_sheared : Df K mg "sheared" s_sheared ["surface"]
  d_sheared_back : Df K mg "sheared_back" s_sheared_back ["surface"]
  d_turned : Df K mg "turned" s_turned ["surface"]
  d_sheared_back_often : Df K mg "sheared_back_often" s_sheared_back_often ["surface", "many"]
  d_laid : Df K mg "laid" s_laid ["surface", "p", "q"]
  d_is_smooth : Df K mg "is_smooth" s_is_smooth ["row", "around"]
  d_tops : Df K mg "tops" s_tops ["surface"]
  d_row_places : Df K mg "row_places" s_row_places ["rows", "many"]
  d_rows_above : Df K mg "rows_above" s_rows_above ["surface", "rows"]
  d_height_from : Df K mg "height_from" s_height_from ["lowest", "above"]
  d_bands_to_east : Df K mg "bands_to_east" s_bands_to_east ["surface"]
  d_bands_in : Df K mg "bands_in" s_bands_in ["surface", "p", "q"]
  d_longest_in : Df K mg "longest_in" s_longest_in ["surface", "p", "q"]
  d_first_with_one_band : Df K mg "first_with_one_band" s_first_with_one_band ["surface"]
  d_directions_by_bands : Df K mg "directions_by_bands" s_directions_by_bands ["surface", "greatest"]
  d_how_many_numbers : Df K mg "how_many_numbers" s_how_many_numbers ["call"]
  d_how_many_lists : Df K mg "how_many_lists" s_how_many_lists ["call"]
  d_cut_into_calls : Df K mg "cut_into_calls" s_cut_into_calls ["calls"]
  d_counted : Df K mg "counted" s_counted ["numbers"]
  d_begin : Df K mg "begin" s_begin ["desk", "many"]
  d_glue : Df K mg "glue" s_glue ["desk", "eastern", "northern"]
  d_change : Df K mg "change" s_change ["desk", "changed"]
  d_tell_bands : Df K mg "tell_bands" s_tell_bands ["surface", "p", "q"]
  d_answer_direction : Df K mg "answer_direction" s_answer_direction ["desk", "call", "p", "q"]
  d_tell_one : Df K mg "tell_one" s_tell_one ["surface"]
  d_tell_counts : Df K mg "tell_counts" s_tell_counts ["surface", "greatest"]
  d_tell : Df K mg "tell" s_tell ["surface", "call"]
  d_answer_begun : Df K mg "answer_begun" s_answer_begun ["desk", "call", "numbers", "lists"]
  d_answer : Df K mg "answer" s_answer ["desk", "call", "numbers", "lists"]
  d_answers : Df K mg "answers" s_answers ["calls"]
abbrev All.C_Surface {K : PySem.W.Frag} {mg : Str → Option Value} (A : All K mg) := A.k_Surface.C
abbrev All.f_Surface {K : PySem.W.Frag} {mg : Str → Option Value} (A : All K mg) := A.k_Surface.f
abbrev All.fd_Surface {K : PySem.W.Frag} {mg : Str → Option Value} (A : All K mg) := A.k_Surface.fd
abbrev All.g_Surface {K : PySem.W.Frag} {mg : Str → Option Value} (A : All K mg) := A.k_Surface.g
abbrev All.cl_Surface {K : PySem.W.Frag} {mg : Str → Option Value} (A : All K mg) := A.k_Surface.cl
abbrev All.m_Surface {K : PySem.W.Frag} {mg : Str → Option Value} (A : All K mg) := A.k_Surface.m
abbrev All.fn_Surface {K : PySem.W.Frag} {mg : Str → Option Value} (A : All K mg) := A.k_Surface.fn
abbrev All.b_Surface {K : PySem.W.Frag} {mg : Str → Option Value} (A : All K mg) := A.k_Surface.b
abbrev All.n_Surface_eastern {K : PySem.W.Frag} {mg : Str → Option Value} (A : All K mg) := A.k_Surface.n_eastern
abbrev All.n_Surface_northern {K : PySem.W.Frag} {mg : Str → Option Value} (A : All K mg) := A.k_Surface.n_northern
abbrev All.C_Desk {K : PySem.W.Frag} {mg : Str → Option Value} (A : All K mg) := A.k_Desk.C
abbrev All.f_Desk {K : PySem.W.Frag} {mg : Str → Option Value} (A : All K mg) := A.k_Desk.f
abbrev All.fd_Desk {K : PySem.W.Frag} {mg : Str → Option Value} (A : All K mg) := A.k_Desk.fd
abbrev All.g_Desk {K : PySem.W.Frag} {mg : Str → Option Value} (A : All K mg) := A.k_Desk.g
abbrev All.cl_Desk {K : PySem.W.Frag} {mg : Str → Option Value} (A : All K mg) := A.k_Desk.cl
abbrev All.m_Desk {K : PySem.W.Frag} {mg : Str → Option Value} (A : All K mg) := A.k_Desk.m
abbrev All.fn_Desk {K : PySem.W.Frag} {mg : Str → Option Value} (A : All K mg) := A.k_Desk.fn
abbrev All.b_Desk {K : PySem.W.Frag} {mg : Str → Option Value} (A : All K mg) := A.k_Desk.b
abbrev All.n_Desk_surface {K : PySem.W.Frag} {mg : Str → Option Value} (A : All K mg) := A.k_Desk.n_surface
end Gw
namespace Gw
open PySem PySem.Spec PyProof.Rows L2 Evl
/-! ## words of my own over Evl -/
abbrev nl (l : List Nat) : List V := l.map fun (x : Nat) => V.int (x : Int)
def IsV (H : Hp) (v : V) (xs : List V) : Prop := ∃ p, v = .ref p ∧ H p = some (.lst xs)
/-- the shape of a promise's end: any value of which P holds, what was known stays -/
def Ret (P : V → Hp → Prop) (H : Hp) (Q : VK) : Prop := ∀ v H2, Ex H H2 → P v H2 → Q v H2
def EvP (te : TE) (σ : L2.St) (H : Hp) (P : V → Hp → Prop) : Prop := ∀ H1, Ex H H1 → ∀ Q : VK, Ret P H1 Q → te σ H1 Q
def EvAP (ta : TA) (σ : L2.St) (H : Hp) (P : List V → Hp → Prop) : Prop := ∀ H1, Ex H H1 → ∀ Q : List V → Hp → Prop, (∀ vs H2, Ex H1 H2 → P vs H2 → Q vs H2) → ta σ H1 Q
theorem IsV.ex {H H' : Hp} {v : V} {xs : List V} (e : Ex H H') : IsV H v xs → IsV H' v xs
  | ⟨p, a, b⟩ => ⟨p, a, e p _ b⟩
theorem Ret.ex {P : V → Hp → Prop} {H H' : Hp} {Q : VK} (e : Ex H H') (r : Ret P H Q) : Ret P H' Q := fun v H2 e2 p => r v H2 (e.trans e2) p
section
variable {K : PySem.W.Frag} {σ : L2.St} {H H' : Hp} {ta tb te tx : TE} {t u : TT} {x y z v : V} {r : R2} {D : Ends} {tu tw tz : TS} {P : V → Hp → Prop}
theorem EvP.mono (e : Ex H H') (h : EvP te σ H P) : EvP te σ H' P := fun H1 a Q q => h H1 (e.trans a) Q q
theorem EvP.of (h : Ev te σ H v) : EvP te σ H fun v' _ => v' = v := fun H1 e Q q => h H1 e Q fun H2 e2 => q v H2 e2 rfl
theorem EvP.ofL {xs : List V} (h : EvL te σ H xs) : EvP te σ H fun v H => IsV H v xs := fun H1 e Q q => h H1 e Q fun p H2 _ e2 hp => q (.ref p) H2 e2 ⟨p, rfl, hp⟩
theorem EvP.imp {P' : V → Hp → Prop} (h : EvP te σ H P) (i : ∀ v H1, Ex H H1 → P v H1 → P' v H1) : EvP te σ H P' := fun H1 e Q q => h H1 e Q fun v H2 e2 p => q v H2 e2 (i v H2 (e.trans e2) p)
theorem q_asgP {i : Nat} (h : EvP te σ H P) (k : ∀ v H1, Ex H H1 → P v H1 → tz D (σ.set i (some v)) H1) : tSeq (tAsg te (gName i)) tz D σ H := h H (Ex.refl H) _ fun v H1 e p => k v H1 e p
theorem s_asgP {i : Nat} (h : EvP te σ H P) (k : ∀ v H1, Ex H H1 → P v H1 → D.nx (σ.set i (some v)) H1) : tAsg te (gName i) D σ H := h H (Ex.refl H) _ fun v H1 e p => k v H1 e p
theorem s_retP (h : EvP te σ H P) (k : ∀ v H1, Ex H H1 → P v H1 → D.rt v H1) : tRet te D σ H := h H (Ex.refl H) _ fun v H1 e p => k v H1 e p
theorem eap_nil : EvAP tNil σ H fun vs _ => vs = [] := fun H1 _ _ q => q [] H1 (Ex.refl H1) rfl
theorem eap_of {ta : TA} {vs : List V} (h : EvA ta σ H vs) : EvAP ta σ H fun vs' _ => vs' = vs := fun H1 e Q q => h H1 e Q fun H2 e2 => q vs H2 e2 rfl
theorem eap_cons {tr : TA} {P2 : V → List V → Hp → Prop} (h : EvP te σ H P) (hr : ∀ v H1, Ex H H1 → P v H1 → EvAP tr σ H1 (P2 v)) : EvAP (tCons te tr) σ H fun vs H2 => ∃ v vs', vs = v :: vs' ∧ P2 v vs' H2 := fun H1 e Q q =>
  h H1 e _ fun v H2 e2 p => hr v H2 (e.trans e2) p H2 (Ex.refl H2) _ fun vs H3 e3 p3 => q (v :: vs) H3 (e2.trans e3) ⟨v, vs, rfl, p3⟩
/-- one argument -/
theorem eap_one (h : EvP te σ H P) : EvAP (tCons te tNil) σ H fun vs H2 => ∃ v, vs = [v] ∧ P v H2 := fun H1 e Q q => h H1 e _ fun v H2 e2 p => q [v] H2 e2 ⟨v, rfl, p⟩
theorem ep_call {sp : Sp} {E : XK} {ta : TA} {PA : List V → Hp → Prop} (h : EvAP ta σ H PA) (hs : ∀ vs H1, Ex H H1 → PA vs H1 → ∀ Q : VK, Ret P H1 Q → sp vs H1 Q E) : EvP (tCall sp [] E ta) σ H P := fun H1 e Q q =>
  h H1 e _ fun vs H2 e2 p => by
    show sp (vs ++ []) H2 Q E
    rw [List.append_nil]
    exact hs vs H2 (e.trans e2) p Q (q.ex e2)
theorem ep_callA {sp : Sp} {E : XK} {ta : TA} {vs : List V} (h : EvA ta σ H vs) (hs : ∀ H1, Ex H H1 → ∀ Q : VK, Ret P H1 Q → sp vs H1 Q E) : EvP (tCall sp [] E ta) σ H P :=
  ep_call (eap_of h) fun vs' H1 e hv Q q => by
    subst hv
    exact hs H1 e Q q
/-- [a] * k -/
theorem el_rep {xs : List V} {k : Nat} (ha : EvL ta σ H xs) (hb : Ev tb σ H (.int (k : Int))) (hz : xs.length * k ≤ 1000) (hk : k ≤ 1000) : EvL (tOp rRep ta tb) σ H (List.replicate k xs).flatten := fun H1 e Q q =>
  ha H1 e _ fun p H2 hp e2 h2 => hb H2 (e.trans e2) _ fun H3 e3 => ⟨p, (k : Int), xs, rfl, rfl, e3 p _ h2, by omega, by omega, by
    have : ((k : Int)).toNat = k := by simp
    rw [this]
    exact sz_of (by omega), fun l hl => q l _ (fresh_back (e2.trans e3) hl) ((e2.trans e3).trans (Ex.new hl)) upd_same⟩
theorem flat_one {α : Type} {a : α} : ∀ k : Nat, (List.replicate k [a]).flatten = List.replicate k a
  | 0 => rfl
  | k + 1 => by
    rw [List.replicate_succ, List.flatten_cons, flat_one k]
    rfl
/-- len(x) -/
theorem ev_lenV {xs : List V} (ha : Ev ta σ H v) (h : IsV H v xs) : Ev (tCB (rLenS K) (tCons ta tNil)) σ H (.int (xs.length : Int)) := by
  obtain ⟨p, rfl, hp⟩ := h
  exact ev_len ha (sq_of hp)
theorem ev_lenP {xs : List V} (ha : EvP ta σ H fun v H => IsV H v xs) : Ev (tCB (rLenS K) (tCons ta tNil)) σ H (.int (xs.length : Int)) := fun H1 e Q q =>
  ha H1 e _ fun v H2 e2 ⟨p, hv, hp⟩ => ⟨p, xs, by rw [hv], Or.inl (sq_of hp), q H2 e2⟩
theorem ev_at {p : Addr} {xs : List V} {i : Nat} (ha : Ev ta σ H (.ref p)) (hb : Ev tb σ H (.int (i : Int))) (h : SqL K H p xs) (hi : xs[i]? = some v) : Ev (tOp (rIxL K) ta tb) σ H v := ev_op ha hb (rv_ixL h (atI_nat hi))
theorem ev_fld {a C dx : Addr} {fs : List (Str × V)} {f : Str} (ha : Ev ta σ H (.ref a)) (h : H a = some (.ins C dx fs)) (cl : Cls K C) (na : NoAttr K C f) (hl : fs.lookup f = some v) : Ev (tFld K ta f) σ H v := fun H1 e Q q =>
  ha H1 e _ fun H2 e2 => ⟨a, C, dx, fs, v, rfl, (e.trans e2) a _ h, cl, na, hl, q H2 e2⟩
end
section
variable {K : PySem.W.Frag} {σ : L2.St} {H H' : Hp} {ta tb te tx : TE} {t u : TT} {x y z v : V} {r : R2} {D : Ends} {tu tw tz : TS} {P : V → Hp → Prop}
theorem yes_go {σ : L2.St} {H : Hp} {Q : Bool → Hp → Prop} (h : Q true H) : tYes σ H Q := h
/-- [e for x in l], each e's value known -/
theorem el_lcP {tl : TE} {j n : Nat} {vs : List Nat} (val : Nat → V) (h : EvP tl σ H P) (hn : n ≤ 40000) (hw : ∀ x, wipe ((wipe σ vs).set j (some x)) vs = wipe σ vs)
    (hp : ∀ v H1, Ex H H1 → P v H1 → ∃ p xs, v = .ref p ∧ SqL K H1 p xs ∧ xs.length = n ∧ ∀ (i : Nat) (x : V) (H2 : Hp), xs[i]? = some x → Ex H1 H2 → Ev te ((wipe σ vs).set j (some x)) H2 (val i)) :
    EvL (tLc (iList K tl) (gName j) tYes te vs) σ H ((List.range n).map val) := fun H0 e Q q => h H0 e _ fun v H1 e1 pv => by
  obtain ⟨a, xs, rfl, hs, hl, hx⟩ := hp v H1 (e.trans e1) pv
  refine ⟨a, rfl, ⟨xs, hs⟩, fun Dl hD => ?_⟩
  refine lc_list (xs := xs) (fun i H' => Ex H1 H' ∧ H' Dl = some (.lst ((List.range i).map val))) ⟨Ex.new hD, upd_same⟩ (fun i H' _ p => ex_l p.1 hs) (fun i x H' hi p => ⟨hw x, ?_⟩) (fun H' p => ?_)
  · refine yes_go ?_
    rw [if_pos rfl]
    refine hx i x H' hi p.1 H' (Ex.refl H') _ fun H2 e2 => ⟨_, e2 Dl _ p.2, ?_, ?_, ?_⟩
    · rw [List.length_map, List.length_range]
      have := (List.getElem?_eq_some_iff.mp hi).1
      exact sz_lt (by omega)
    · exact Ex.mut (p.1.trans e2) hD
    · rw [List.range_succ, List.map_append]
      exact upd_same
  · rw [hl] at p
    exact q Dl H' (fresh_back e1 hD) (e1.trans p.1) p.2
end
theorem nl_len (l : List Nat) : (nl l).length = l.length := List.length_map ..
theorem nl_at {l : List Nat} {i x : Nat} (h : l[i]? = some x) : (nl l)[i]? = some (.int (x : Int)) := by
  show (l.map _)[i]? = _
  rw [List.getElem?_map, h]
  rfl
theorem nl_to {l : List Nat} {i : Nat} (h : i < l.length) : (nl l)[i]? = some (.int (Krct.to l i : Int)) := nl_at (Gs.to_get h)
theorem nl_set {l : List Nat} {i x : Nat} : (nl l).set i (.int (x : Int)) = nl (l.set i x) := (List.map_set ..).symm
theorem nl_app {l k : List Nat} : nl l ++ nl k = nl (l ++ k) := (List.map_append ..).symm

/-! ## backward -/
def sp_backward : Sp := fun vs H Q _ => ∃ (n : Nat) (l : List Nat) (v : V), vs = [v] ∧ IsV H v (nl l) ∧ Gs.Pm n l ∧ n ≤ 6 ∧ RetL (nl (Krct.inverse n l)) H Q
section
variable {P : Program} {w : World} {K : PySem.W.Frag} {mg : Str → Option Value} {base : Heap}
theorem ok_backward (A : All K mg) : FnOk P w K mg base CX0 1 A.d_backward.f A.d_backward.fd ["step"] sp_backward := by
  refine A.d_backward.fn.ok sc_backward (fun vs H Q E h => ?_) (fun cdv Ar outer s H vs Q E hr h => ⟨_, pss_cons (ps_set (i := 1) sc_backward.nd rfl (.inl rfl) (pe_op op_rep (pe_lst (pa_cons pe_int pa_nil)) (pe_callB call_len_seq rfl A.r_len PySem.boot_len (pa_cons (pv 0) pa_nil))))
      (pss_cons (ps_for PassesOwn.never rfl (pi_range1 rfl A.r_range (pa_cons (pe_callB call_len_seq rfl A.r_len PySem.boot_len (pa_cons (pv 0) pa_nil)) pa_nil)) (pg_name (i := 2) sc_backward.nd rfl (.inl rfl))
        (pss_one (ps_asg (pv 2) (pg_sub (pv 1) (pe_ix ix_list (pv 0) (pv 2) (fun _ _ => rfl)) set_list))))
      (pss_one (ps_ret (pv 1)))), ?_⟩)
  · obtain ⟨n, l, v, rfl, _⟩ := h
    rfl
  · obtain ⟨n, l, v, rfl, ⟨p, rfl, hp⟩, hm, h6, k⟩ := h
    have ln : (nl l).length = n := by rw [nl_len, hm.len]
    have hlen : ∀ {σ : L2.St} {H1 : Hp}, σ[0]? = some (some (.ref p)) → Ex H H1 → Ev (tCB (rLenS K) (tCons (tVar 0) tNil)) σ H1 (.int (n : Int)) := fun hσ e => by
      have := ev_len (K := K) (ev_var (H := _) hσ) (sq_of (e p _ hp))
      rw [ln] at this
      exact this
    refine q_asgL (el_rep (k := n) (el_lst (ea_cons ev_c ea_nil) (by decide)) (hlen rfl (Ex.refl H)) (by show 1 * n ≤ 1000; omega) (by omega)) fun q H1 hq e1 h1 => ?_
    rw [flat_one] at h1
    refine q_forR1 (n := (n : Int)) (ea_cons (hlen rfl e1) ea_nil) (by omega) (fun i σ' H' => ∃ x, σ' = [some (.ref p), some (.ref q), x] ∧ Ex H H' ∧ H' q = some (.lst (nl (Gs.backI n l i)))) (fun H2 e2 => ⟨none, rfl, e1.trans e2, ?_⟩) ?_ ?_
    · rw [e2 q _ h1, Gs.backI_zero, nl, List.map_replicate]
      rfl
    · rintro i σ' H' hi ⟨x, rfl, e2, h2⟩
      have hi' : i < n := by omega
      refine s_setL (j := Krct.to l i) h2 (ev_var rfl) (ev_var rfl) (ev_at (K := K) (ev_var rfl) (ev_var rfl) (sq_of (e2 p _ hp)) (nl_to (by rw [hm.len]; exact hi'))) (by rw [nl_len, Gs.backI_len]; exact hm.to_lt hi') fun H3 e3 => ⟨_, rfl, Ex.mut (e2.trans e3) hq, ?_⟩
      rw [nl_set, Gs.backI_step hm hi']
      exact upd_same
    · rintro σ' H' ⟨x, rfl, e2, h2⟩
      refine s_ret (ev_var rfl) fun H3 e3 => k q H3 hq (e2.trans e3) ?_
      have : ((n : Int)).toNat = n := by simp
      rw [this, Gs.backI_all hm] at h2
      exact e3 q _ h2
end
end Gw
namespace Gw
open PySem PySem.Spec PyProof.Rows L2 Evl
section
variable {P : Program} {w : World} {K : PySem.W.Frag} {mg : Str → Option Value} {base : Heap}
/-! ## ring_from -/
def sp_ring_from : Sp := fun vs H Q _ => ∃ (n : Nat) (l : List Nat) (v : V) (s : Nat), vs = [v, .int (s : Int)] ∧ IsV H v (nl l) ∧ Gs.Pm n l ∧ n ≤ 6 ∧ s < n ∧ RetL (nl (Krct.cycleOf n (Krct.to l) s)) H Q
theorem ok_ring_from (A : All K mg) : FnOk P w K mg base CX0 1 A.d_ring_from.f A.d_ring_from.fd ["step", "square"] sp_ring_from := by
  refine A.d_ring_from.fn.ok sc_ring_from (fun vs H Q E h => ?_) (fun cdv Ar outer s H vs Q E hr h => ⟨_, pss_cons (ps_set (i := 2) sc_ring_from.nd rfl (.inl rfl) (pe_lst (pa_cons (pv 1) pa_nil)))
      (pss_cons (ps_set (i := 3) sc_ring_from.nd rfl (.inl rfl) (pe_ix ix_list (pv 0) (pv 1) (fun _ _ => rfl)))
      (pss_cons (ps_while PassesOwn.never (pt_cmpR op_ne (pv 3) (pv 1) (nomark _))
        (pss_cons (ps_expr (pe_bm PySem.F.plainAttrs_list PySem.F.slot_list_append PySem.F.type_list_append mt_append (pv 2) (pa_cons (pv 3) pa_nil)))
          (pss_one (ps_set (i := 3) sc_ring_from.nd rfl (.inl rfl) (pe_ix ix_list (pv 0) (pv 3) (fun _ _ => rfl))))))
      (pss_one (ps_ret (pv 2))))), ?_⟩)
  · obtain ⟨n, l, v, s, rfl, _⟩ := h
    rfl
  · obtain ⟨n, l, v, a, rfl, ⟨p, rfl, hp⟩, hm, h6, ha, k⟩ := h
    obtain ⟨c, per⟩ := Gs.per_exists hm.bij ha
    have cn := per.le hm.bij ha
    have cp := per.pos
    have hat : ∀ {H1 : Hp} {σ : L2.St} {te : TE} {x : Nat}, Ex H H1 → x < n → σ[0]? = some (some (.ref p)) → Ev te σ H1 (.int (x : Int)) → Ev (tOp (rIxL K) (tVar 0) te) σ H1 (.int (Krct.to l x : Int)) := fun e hx hσ he =>
      ev_at (ev_var hσ) he (sq_of (e p _ hp)) (nl_to (by rw [hm.len]; exact hx))
    refine q_asgL (el_lst (ea_cons (ev_var rfl) ea_nil) (by show 1 ≤ 100000; decide)) fun q H1 hq e1 h1 => ?_
    refine q_asg (hat e1 ha rfl (ev_var rfl)) fun H2 e2 => ?_
    refine q_while (fun m σ' H' => ∃ i, m = c - i ∧ 1 ≤ i ∧ i ≤ c ∧ σ' = [some (.ref p), some (.int (a : Int)), some (.ref q), some (.int (Gs.it (Krct.to l) a i : Int))] ∧ Ex H H' ∧ H' q = some (.lst (nl (Gs.orb (Krct.to l) a i)))) (c - 1) ⟨1, rfl, Nat.le_refl 1, cp, rfl, e1.trans e2, e2 q _ h1⟩ ?_
    rintro m σ' H' ⟨i, rfl, i1, i2, rfl, e3, h3⟩
    refine ⟨_, et_test (ev_op (ev_var rfl) (ev_var rfl) (rv_ne rfl)), fun hb H4 e4 => ?_, fun hb H4 e4 => ?_⟩
    · have ne : Gs.it (Krct.to l) a i ≠ a := fun q => by
        rw [q] at hb
        simp at hb
      have lt : i < c := by
        rcases Nat.lt_or_ge i c with q | q
        · exact q
        · have : i = c := by omega
          subst this
          exact absurd per.back ne
      refine ⟨_, fun σ2 H2 hN => ⟨c - (i + 1), by omega, hN⟩, ?_⟩
      refine q_app (K := K) (e4 q _ h3) (ev_var rfl) (ev_var rfl) (by rw [nl_len, Gs.orb_len]; omega) fun H5 e5 => ?_
      have ex : Ex H (upd H5 q (.lst (nl (Gs.orb (Krct.to l) a i) ++ [.int (Gs.it (Krct.to l) a i : Int)]))) := Ex.mut ((e3.trans e4).trans e5) hq
      refine s_asg (hat ex (hm.bij.it_lt ha i) rfl (ev_var rfl)) fun H6 e6 => ⟨i + 1, rfl, by omega, lt, rfl, ex.trans e6, e6 q _ ?_⟩
      rw [Gs.orb_succ, ← nl_app]
      exact upd_same
    · have eq : Gs.it (Krct.to l) a i = a := by
        have : ((Gs.it (Krct.to l) a i : Nat) : Int) = (a : Int) := by simpa using hb
        omega
      have ic : i = c := by
        rcases Nat.lt_or_ge i c with q | q
        · exact absurd eq (per.first i i1 q)
        · omega
      subst ic
      refine s_ret (ev_var rfl) fun H5 e5 => k q H5 hq ((e3.trans e4).trans e5) ?_
      rw [Gs.cycleOf_eq per hm.bij ha]
      exact (e4.trans e5) q _ h3

/-! ## rings -/
/-- lists that stand in a list, at none of the places of X -/
structure RowsAt (X : List Addr) (H : Hp) (vs : List V) (R : List (List Nat)) : Prop where
  len : vs.length = R.length
  at_ : ∀ (i : Nat) (r : List Nat), R[i]? = some r → ∃ q, vs[i]? = some (.ref q) ∧ q ∉ X ∧ H q = some (.lst (nl r))
theorem RowsAt.ex {X : List Addr} {H H' : Hp} {vs : List V} {R : List (List Nat)} (e : Ex H H') (h : RowsAt X H vs R) : RowsAt X H' vs R :=
  ⟨h.len, fun i r hr => by
    obtain ⟨q, a, b, c⟩ := h.at_ i r hr
    exact ⟨q, a, b, e q _ c⟩⟩
theorem RowsAt.old {X : List Addr} {H : Hp} {vs : List V} {R : List (List Nat)} {p : Addr} {o : HO} (h : RowsAt X H vs R) (hp : p ∈ X) : RowsAt X (upd H p o) vs R :=
  ⟨h.len, fun i r hr => by
    obtain ⟨q, a, b, c⟩ := h.at_ i r hr
    refine ⟨q, a, b, ?_⟩
    rw [upd_ne (fun z => by rw [z] at b; exact b hp)]
    exact c⟩
theorem RowsAt.push {X : List Addr} {H : Hp} {vs : List V} {R : List (List Nat)} {q : Addr} {r : List Nat} (h : RowsAt X H vs R) (hq : q ∉ X) (hr : H q = some (.lst (nl r))) : RowsAt X H (vs ++ [.ref q]) (R ++ [r]) := by
  refine ⟨by rw [List.length_append, List.length_append, h.len]; rfl, fun i r' hi => ?_⟩
  rcases Nat.lt_or_ge i R.length with c | c
  · rw [List.getElem?_append_left c] at hi
    obtain ⟨q', a, b, d⟩ := h.at_ i r' hi
    exact ⟨q', by rw [List.getElem?_append_left (by rw [h.len]; exact c)]; exact a, b, d⟩
  · rw [List.getElem?_append_right c] at hi
    have e : i = R.length := by
      have := (List.getElem?_eq_some_iff.mp hi).1
      simp at this
      omega
    subst e
    simp at hi
    subst hi
    refine ⟨q, ?_, hq, hr⟩
    rw [List.getElem?_append_right (by rw [h.len]; exact Nat.le_refl _), h.len]
    simp
def IsR (H : Hp) (v : V) (R : List (List Nat)) : Prop := ∃ p vs, v = .ref p ∧ H p = some (.lst vs) ∧ vs.length = R.length ∧ ∀ (i : Nat) (r : List Nat), R[i]? = some r → ∃ q, vs[i]? = some (.ref q) ∧ H q = some (.lst (nl r))
theorem IsR.ex {H H' : Hp} {v : V} {R : List (List Nat)} (e : Ex H H') : IsR H v R → IsR H' v R
  | ⟨p, vs, a, b, c, d⟩ => ⟨p, vs, a, e p _ b, c, fun i r hr => by
    obtain ⟨q, x, y⟩ := d i r hr
    exact ⟨q, x, e q _ y⟩⟩
abbrev bls (l : List Bool) : List V := l.map V.bl
def sp_rings : Sp := fun vs H Q _ => ∃ (n : Nat) (l : List Nat) (v : V), vs = [v] ∧ IsV H v (nl l) ∧ Gs.Pm n l ∧ n ≤ 6 ∧ Ret (fun v H => IsR H v (Krct.cycles n (Krct.to l))) H Q
theorem ok_rings (A : All K mg) : FnOk P w K mg base CX0 2 A.d_rings.f A.d_rings.fd ["step"] sp_rings := by
  refine A.d_rings.fn.ok sc_rings (fun vs H Q E h => ?_) (fun cdv Ar outer s H vs Q E hr h => ⟨_, pss_cons (ps_set (i := 1) sc_rings.nd rfl (.inl rfl) (pe_lst pa_nil))
      (pss_cons (ps_set (i := 2) sc_rings.nd rfl (.inl rfl) (pe_op op_rep (pe_lst (pa_cons pe_bl pa_nil)) (pe_callB call_len_seq rfl A.r_len PySem.boot_len (pa_cons (pv 0) pa_nil))))
      (pss_cons (ps_for PassesOwn.never rfl (pi_range1 rfl A.r_range (pa_cons (pe_callB call_len_seq rfl A.r_len PySem.boot_len (pa_cons (pv 0) pa_nil)) pa_nil)) (pg_name (i := 3) sc_rings.nd rfl (.inl rfl))
        (pss_one (ps_if (pt_not (pt_val (pe_ix ix_list (pv 2) (pv 3) (fun _ _ => rfl))))
            (pss_cons (ps_set (i := 4) sc_rings.nd rfl (.inl rfl) (pe_call (ok_ring_from A) (hr.mono (by decide)) rfl A.d_ring_from.g A.d_ring_from.fn.kp A.d_ring_from.b .nil pass0 (pa_cons (pv 0) (pa_cons (pv 3) pa_nil))))
              (pss_cons (ps_for PassesOwn.never rfl (pi_list (pv 4)) (pg_name (i := 5) sc_rings.nd rfl (.inl rfl))
                (pss_one (ps_asg pe_bl (pg_sub (pv 2) (pv 5) set_list))))
              (pss_one (ps_expr (pe_bm PySem.F.plainAttrs_list PySem.F.slot_list_append PySem.F.type_list_append mt_append (pv 1) (pa_cons (pv 4) pa_nil))))))
            (pss_nil))))
      (pss_one (ps_ret (pv 1))))), ?_⟩)
  · obtain ⟨n, l, v, rfl, _⟩ := h
    rfl
  · obtain ⟨n, l, v, rfl, ⟨p, rfl, hp⟩, hm, h6, k⟩ := h
    have bj := hm.bij
    have ln : (nl l).length = n := by rw [nl_len, hm.len]
    have hlen : ∀ {σ : L2.St} {H1 : Hp}, σ[0]? = some (some (.ref p)) → Ex H H1 → Ev (tCB (rLenS K) (tCons (tVar 0) tNil)) σ H1 (.int (n : Int)) := fun hσ e => by
      have := ev_len (K := K) (ev_var (H := _) hσ) (sq_of (e p _ hp))
      rw [ln] at this
      exact this
    refine q_asgL (el_lst ea_nil (by decide)) fun pf H1 hf e1 h1 => ?_
    refine q_asgL (el_rep (k := n) (el_lst (ea_cons ev_c ea_nil) (by decide)) (hlen rfl e1) (by show 1 * n ≤ 1000; omega) (by omega)) fun ps H2 hs e2 h2 => ?_
    rw [flat_one] at h2
    have h1' := e2 pf _ h1
    have nfs : pf ≠ ps := fun z => by rw [z, hs] at h1; cases h1
    have hsH : H ps = none := fresh_back e1 hs
    have e12 := e1.trans e2
    refine q_forR1 (n := (n : Int)) (ea_cons (hlen rfl e12) ea_nil) (by omega) (fun i σ' H' => ∃ x y z vs, σ' = [some (.ref p), some (.ref pf), some (.ref ps), x, y, z] ∧ Ex H H' ∧ H' pf = some (.lst vs) ∧ RowsAt [pf, ps] H' vs (Gs.ringsTo n (Krct.to l) i) ∧ H' ps = some (.lst (bls (Gs.seenIn n (Gs.ringsTo n (Krct.to l) i)))))
      (fun H3 e3 => ⟨none, none, none, [], rfl, e12.trans e3, e3 pf _ h1', ⟨rfl, fun i r hr => by simp [Gs.ringsTo] at hr⟩, ?_⟩) ?_ ?_
    · rw [e3 ps _ h2]
      show _ = some (HO.lst (bls (Gs.seenIn n [])))
      rw [Gs.seenIn_nil, bls, List.map_replicate]
    · rintro i σ' H' hi ⟨x, y, z, vs, rfl, e3, h3, h4, h5⟩
      have hi' : i < n := by omega
      have ro := Gs.ringsTo_ok bj i (by omega)
      refine s_when (et_not (et_B (b := (Gs.ringsTo n (Krct.to l) i).any fun c => c.contains i) (ev_at (K := K) (ev_var rfl) (ev_var rfl) (sq_of h5) ?_))) ?_ ?_
      · rw [List.getElem?_map, Gs.seenIn, List.getElem?_map, List.getElem?_range hi']
        rfl
      · intro hb H4 e4
        have hb' : ((Gs.ringsTo n (Krct.to l) i).any fun c => c.contains i) = false := by simpa using hb
        refine q_asgL (xs := nl (Krct.cycleOf n (Krct.to l) i)) (el_call (ea_cons (ev_var rfl) (ea_cons (ev_var rfl) ea_nil)) fun H5 e5 Q' q' E' => ⟨n, l, .ref p, i, rfl, ⟨p, rfl, ((e3.trans e4).trans e5) p _ hp⟩, hm, h6, hi', fun q H6 hq e6 h6' => q' q H6 hq e6 h6'⟩) fun pr H5 hr5 e5 h5r => ?_
        have er : Gs.ringsTo n (Krct.to l) (i + 1) = Gs.ringsTo n (Krct.to l) i ++ [Krct.cycleOf n (Krct.to l) i] := by
          rw [Gs.ringsTo_succ]
          exact if_neg (by rw [hb']; decide)
        have np : pr ∉ [pf, ps] := fun z => by
          rcases List.mem_cons.mp z with z | z
          · rw [z, e4 pf _ h3] at hr5
            cases hr5
          · rw [List.mem_singleton.mp z, e4 ps _ h5] at hr5
            cases hr5
        have e35 := (e3.trans e4).trans e5
        generalize hc : Krct.cycleOf n (Krct.to l) i = c at h5r er
        have clt : ∀ x ∈ c, x < n := by
          rw [← hc]
          exact Gs.cycleOf_lt bj hi'
        refine q_forLn (K := K) (ev_var rfl) (sq_of h5r) (fun j σ' H' => ∃ z, σ' = [some (.ref p), some (.ref pf), some (.ref ps), some (.int (i : Int)), some (.ref pr), z] ∧ Ex H H' ∧ H' pf = some (.lst vs) ∧ RowsAt [pf, ps] H' vs (Gs.ringsTo n (Krct.to l) i) ∧ H' pr = some (.lst (nl c)) ∧ H' ps = some (.lst (bls (Gs.seenJ n (Gs.ringsTo n (Krct.to l) i) c j))))
          (fun H6 e6 => ⟨_, rfl, e35.trans e6, ((e4.trans e5).trans e6) pf _ h3, h4.ex ((e4.trans e5).trans e6), e6 pr _ h5r, ?_⟩) (fun j σ' H' _ ⟨z, _, _, _, _, hr, _⟩ => sq_of hr) ?_ ?_
        · rw [Gs.seenJ_zero]
          exact ((e4.trans e5).trans e6) ps _ h5
        · rintro j x σ' H' hj ⟨z, rfl, e6, h6a, h6b, h6c, h6d⟩
          obtain ⟨y, hy, rfl⟩ : ∃ y, c[j]? = some y ∧ x = V.int (y : Int) := by
            rw [List.getElem?_map] at hj
            cases hcj : c[j]? with
            | none => rw [hcj] at hj; cases hj
            | some y =>
              rw [hcj] at hj
              exact ⟨y, rfl, (Option.some.inj hj).symm⟩
          have yn : y < n := clt y (by obtain ⟨h, e⟩ := List.getElem?_eq_some_iff.mp hy; rw [← e]; exact List.getElem_mem h)
          refine s_setL (j := y) h6d ev_c (ev_var rfl) (ev_var rfl) (by rw [List.length_map]; unfold Gs.seenJ; rw [Gs.seenIn_len]; exact yn) fun H7 e7 => ⟨_, rfl, Ex.mut (e6.trans e7) hsH, ?_, (h6b.ex e7).old (by simp), ?_, ?_⟩
          · rw [upd_ne nfs]
            exact e7 pf _ h6a
          · rw [upd_ne (fun z => np (by simp [z]))]
            exact e7 pr _ h6c
          · rw [upd_same, ← Gs.seenJ_step hy]
            exact congrArg (fun z => some (HO.lst z)) (List.map_set ..).symm
        · rintro σ' H' ⟨z, rfl, e6, h6a, h6b, h6c, h6d⟩
          rw [nl_len, Gs.seenJ_all] at h6d
          have ll := h6b.len
          have rl : (Gs.ringsTo n (Krct.to l) i).length ≤ 100 := by
            have := Gs.ringsTo_len (n := n) (f := Krct.to l) i
            omega
          refine s_app (K := K) h6a (ev_var rfl) (ev_var rfl) (by omega) fun H7 e7 => ⟨_, _, _, _, rfl, Ex.mut (e6.trans e7) hf, upd_same, ?_, ?_⟩
          · rw [er]
            exact (h6b.push np h6c).ex e7 |>.old (by simp)
          · rw [upd_ne nfs.symm, er]
            exact e7 ps _ h6d
      · intro hb H4 e4
        have hb' : ((Gs.ringsTo n (Krct.to l) i).any fun c => c.contains i) = true := by simpa using hb
        have er : Gs.ringsTo n (Krct.to l) (i + 1) = Gs.ringsTo n (Krct.to l) i := by
          rw [Gs.ringsTo_succ]
          exact if_pos hb'
        refine ⟨_, _, _, vs, rfl, e3.trans e4, e4 pf _ h3, ?_, ?_⟩
        · rw [er]
          exact h4.ex e4
        · rw [er]
          exact e4 ps _ h5
    · rintro σ' H' ⟨x, y, z, vs, rfl, e3, h3, h4, h5⟩
      have tn : ((n : Int)).toNat = n := by simp
      rw [tn] at h4
      refine s_ret (ev_var rfl) fun H4 e4 => k _ H4 (e3.trans e4) ⟨pf, vs, rfl, e4 pf _ h3, h4.len, fun i r hr => ?_⟩
      obtain ⟨q, a, b, c⟩ := h4.at_ i r hr
      exact ⟨q, a, e4 q _ c⟩
end
end Gw
namespace Gw
open PySem PySem.Spec PyProof.Rows L2 Evl
theorem IsR.at {H : Hp} {v : V} {R : List (List Nat)} (h : IsR H v R) : ∃ p vs, v = .ref p ∧ H p = some (.lst vs) ∧ vs.length = R.length ∧ ∀ (i : Nat) (x : V), vs[i]? = some x → ∃ q r, x = .ref q ∧ R[i]? = some r ∧ H q = some (.lst (nl r)) := by
  obtain ⟨p, vs, hv, hp, hl, hr⟩ := h
  refine ⟨p, vs, hv, hp, hl, fun i x hx => ?_⟩
  have hi := (List.getElem?_eq_some_iff.mp hx).1
  have e : R[i]? = some (R[i]'(by omega)) := List.getElem?_eq_getElem (by omega)
  obtain ⟨q, a, b⟩ := hr i _ e
  rw [hx] at a
  exact ⟨q, _, Option.some.inj a, e, b⟩
section
variable {P : Program} {w : World} {K : PySem.W.Frag} {mg : Str → Option Value} {base : Heap}
/-! ## ring_lengths -/
def sp_ring_lengths : Sp := fun vs H Q _ => ∃ (n : Nat) (l : List Nat) (v : V), vs = [v] ∧ IsV H v (nl l) ∧ Gs.Pm n l ∧ n ≤ 6 ∧ RetL (nl ((Krct.cycles n (Krct.to l)).map List.length)) H Q
theorem rings_call {sp : Sp} {σ : L2.St} {H : Hp} {ta : TA} {n : Nat} {l : List Nat} {v : V} (ha : EvA ta σ H [v]) (hv : IsV H v (nl l)) (hm : Gs.Pm n l) (h6 : n ≤ 6) : EvP (tCall sp_rings [] E0 ta) σ H fun v H => IsR H v (Krct.cycles n (Krct.to l)) :=
  ep_callA ha fun H1 e Q q => ⟨n, l, v, rfl, hv.ex e, hm, h6, q⟩
theorem map_at {α β : Type} (l : List α) (f : α → β) (d : α) : l.map f = (List.range l.length).map fun i => f (l.getD i d) := by
  apply List.ext_getElem
  · simp
  · intro i h1 h2
    simp at h1 h2 ⊢
    rw [List.getElem?_eq_getElem h1]
    rfl
theorem ok_ring_lengths (A : All K mg) : FnOk P w K mg base CX0 3 A.d_ring_lengths.f A.d_ring_lengths.fd ["step"] sp_ring_lengths := by
  refine A.d_ring_lengths.fn.ok sc_ring_lengths (fun vs H Q E h => ?_) (fun cdv Ar outer s H vs Q E hr h => ⟨_, pss_one (ps_ret (pe_lc (own := [("ring", 1)]) (g := gName 1) (tt := tYes) (te := (tCB (rLenS K) (tCons (tVar 1) tNil))) rfl sc_ring_lengths.nd (pi_list (pe_call (ok_rings A) (hr.mono (by decide)) rfl A.d_rings.g A.d_rings.fn.kp A.d_rings.b .nil pass0 (pa_cons (pv 0) pa_nil))) (blkOk_by (N := ["step", "ring"]) (sc := defScope s_ring_lengths) (by decide +kernel)) (fun _ _ _ _ _ => pg_name (i := 1) sc_ring_lengths.nd rfl (.inl rfl)) (fun _ _ _ _ _ => pts_nil) (fun _ _ _ _ _ => (pe_callB call_len_seq rfl A.r_len PySem.boot_len (pa_cons (pv 1) pa_nil))))), ?_⟩)
  · obtain ⟨n, l, v, rfl, _⟩ := h
    rfl
  · obtain ⟨n, l, v, rfl, hv, hm, h6, k⟩ := h
    have o := Gs.cycles_ok hm.bij
    have hl := o.len_le hm.bij
    have e : nl ((Krct.cycles n (Krct.to l)).map List.length) = (List.range (Krct.cycles n (Krct.to l)).length).map fun i => V.int (((Krct.cycles n (Krct.to l)).getD i []).length : Int) := by
      show ((Krct.cycles n (Krct.to l)).map List.length).map _ = _
      rw [List.map_map]
      exact map_at _ _ []
    rw [e] at k
    refine s_retL (el_lcP (K := K) _ (rings_call (sp := sp_rings) (ea_cons (ev_var rfl) ea_nil) hv hm h6) (by omega) (fun x => rfl) fun v' H1 e1 hr => ?_) fun p H1 hp e1 h1 => k p H1 hp e1 h1
    obtain ⟨p, vs, rfl, hp, hlen, hat⟩ := hr.at
    refine ⟨p, vs, rfl, sq_of hp, hlen, fun i x H2 hx e2 => ?_⟩
    obtain ⟨q, r, rfl, hr, hq⟩ := hat i x hx
    have : (Krct.cycles n (Krct.to l)).getD i [] = r := by
      rw [List.getD_eq_getElem?_getD, hr]
      rfl
    rw [this]
    have := ev_len (K := K) (σ := List.set (wipe [some v, none] [1]) 1 (some (V.ref q))) (ta := tVar 1) (H := H2) (ev_var rfl) (sq_of (e2 q _ hq))
    rw [nl_len] at this
    exact this

/-! ## a surface -/
def sF (x y : V) : List (Str × V) := [("eastern", x), ("northern", y)]
theorem sF_e (x y : V) : (sF x y).lookup ("eastern" : Str) = some x := by
  have e : (("eastern" : Str) == ("eastern" : Str)) = true := beq_self_eq_true _
  unfold sF
  simp only [List.lookup, e]
theorem sF_n (x y : V) : (sF x y).lookup ("northern" : Str) = some y := by
  have e : (("northern" : Str) == ("eastern" : Str)) = false := by decide +kernel
  have e2 : (("northern" : Str) == ("northern" : Str)) = true := beq_self_eq_true _
  unfold sF
  simp only [List.lookup, e, e2]
theorem sF_put (x y : V) : putF "northern" y (putF "eastern" x []) = sF x y := by
  show putF "northern" y [("eastern", x)] = sF x y
  have e : ¬ (("eastern" : Str) = ("northern" : Str)) := by decide +kernel
  show (if ("eastern" : Str) = ("northern" : Str) then _ else _) = _
  rw [if_neg e]
  rfl
def IsS (C : Addr) (H : Hp) (v : V) (g : Krct.Glued) : Prop := ∃ a dx pe pn, v = .ref a ∧ H a = some (.ins C dx (sF (.ref pe) (.ref pn))) ∧ H pe = some (.lst (nl g.east)) ∧ H pn = some (.lst (nl g.north))
theorem IsS.ex {C : Addr} {H H' : Hp} {v : V} {g : Krct.Glued} (e : Ex H H') : IsS C H v g → IsS C H' v g
  | ⟨a, dx, pe, pn, h1, h2, h3, h4⟩ => ⟨a, dx, pe, pn, h1, e _ _ h2, e _ _ h3, e _ _ h4⟩
theorem IsS.eastern {A : All K mg} {σ : L2.St} {H : Hp} {v : V} {g : Krct.Glued} {te : TE} (h : IsS A.C_Surface H v g) (he : Ev te σ H v) : ∃ pe, Ev (tFld K te "eastern") σ H (.ref pe) ∧ H pe = some (.lst (nl g.east)) := by
  obtain ⟨a, dx, pe, pn, rfl, h2, h3, h4⟩ := h
  exact ⟨pe, ev_fld he h2 A.cl_Surface A.n_Surface_eastern (sF_e _ _), h3⟩
theorem IsS.northern {A : All K mg} {σ : L2.St} {H : Hp} {v : V} {g : Krct.Glued} {te : TE} (h : IsS A.C_Surface H v g) (he : Ev te σ H v) : ∃ pn, Ev (tFld K te "northern") σ H (.ref pn) ∧ H pn = some (.lst (nl g.north)) := by
  obtain ⟨a, dx, pe, pn, rfl, h2, h3, h4⟩ := h
  exact ⟨pn, ev_fld he h2 A.cl_Surface A.n_Surface_northern (sF_n _ _), h4⟩
def sp_init_Surface (C : Addr) : Sp := fun vs H Q _ => ∃ (p dx : Addr) (x y : V), vs = [.ref p, x, y] ∧ H p = some (.ins C dx []) ∧
  ∀ H' : Hp, H' p = some (.ins C dx (sF x y)) → (∀ b o, H b = some o → b ≠ p → H' b = some o) → Q .non H'
theorem ok_init_Surface (A : All K mg) : FnOk P w K mg base CX0 1 A.f_Surface A.fd_Surface ["self", "eastern", "northern"] (sp_init_Surface A.C_Surface) := by
  refine A.fn_Surface.ok sc_init_Surface (fun vs H Q E h => ?_) (fun cdv Ar outer s H vs Q E hr h => ⟨_, pss_cons (ps_fld (pv 0) (pv 1) rfl) (pss_one (ps_fld (pv 0) (pv 2) rfl)), ?_⟩)
  · obtain ⟨p, dx, x, y, rfl, _⟩ := h
    rfl
  · obtain ⟨p, dx, x, y, rfl, hp, k⟩ := h
    refine ⟨_, rfl, _, rfl, p, _, dx, [], rfl, hp, A.cl_Surface, A.n_Surface_eastern, (by show 0 < 1000; decide), ?_⟩
    refine ⟨_, rfl, _, rfl, p, _, dx, _, rfl, upd_same, A.cl_Surface, A.n_Surface_northern, (by show 1 < 1000; decide), ?_⟩
    refine k _ ?_ fun b o e hb => by
      rw [upd_ne hb, upd_ne hb]
      exact e
    rw [upd_same, sF_put]
/-- Surface(e, f) -/
theorem ep_surface {C : Addr} {σ : L2.St} {H : Hp} {te tf : TE} {g : Krct.Glued} {P1 : V → Hp → Prop} (h1 : EvP te σ H P1) (h2 : ∀ v H1, Ex H H1 → P1 v H1 → EvP tf σ H1 fun v' H2 => ∃ pe pn, v = .ref pe ∧ v' = .ref pn ∧ H2 pe = some (.lst (nl g.east)) ∧ H2 pn = some (.lst (nl g.north))) :
    EvP (tMake C (sp_init_Surface C) [] E0 (tCons te (tCons tf tNil))) σ H fun v H => IsS C H v g := fun H1 e1 Q q =>
  h1 H1 e1 _ fun v H2 e2 p1 => h2 v H2 (e1.trans e2) p1 H2 (Ex.refl H2) _ fun v' H3 e3 p2 => by
    obtain ⟨pe, pn, rfl, rfl, he, hn⟩ := p2
    intro x dx nx nd ne
    refine ⟨x, dx, .ref pe, .ref pn, rfl, upd_same, fun H4 h4 hk => ⟨rfl, ?_⟩⟩
    have k4 : Ex H3 H4 := fun b o hb => hk b o (by rw [upd_ne (ne_of_none hb nx), upd_ne (ne_of_none hb nd)]; exact hb) (ne_of_none hb nx)
    exact q (.ref x) H4 ((e2.trans e3).trans k4) ⟨x, dx, pe, pn, rfl, h4, k4 _ _ he, k4 _ _ hn⟩

/-! ## once_round -/
theorem backward_call {σ : L2.St} {H : Hp} {te : TE} {n : Nat} {l : List Nat} {p : Addr} (ha : Ev te σ H (.ref p)) (hv : H p = some (.lst (nl l))) (hm : Gs.Pm n l) (h6 : n ≤ 6) : EvL (tCall sp_backward [] E0 (tCons te tNil)) σ H (nl (Krct.inverse n l)) :=
  el_call (ea_cons ha ea_nil) fun H1 e Q q E => ⟨n, l, .ref p, rfl, ⟨p, rfl, e p _ hv⟩, hm, h6, q⟩
/-- xs[e] of a list of squares -/
theorem ev_sq {σ : L2.St} {H : Hp} {ta tb : TE} {l : List Nat} {p : Addr} {i : Nat} (ha : Ev ta σ H (.ref p)) (hb : Ev tb σ H (.int (i : Int))) (hp : H p = some (.lst (nl l))) (hi : i < l.length) : Ev (tOp (rIxL K) ta tb) σ H (.int (Krct.to l i : Int)) :=
  ev_at ha hb (sq_of hp) (nl_to hi)
theorem map_nl {l : List Nat} {f : Nat → Nat} : nl (l.map f) = (List.range l.length).map fun i => V.int ((f (Krct.to l i) : Nat) : Int) := by
  show (l.map f).map _ = _
  rw [List.map_map]
  exact map_at _ _ 0
def sp_once_round (C : Addr) : Sp := fun vs H Q _ => ∃ (g : Krct.Glued) (v : V), vs = [v] ∧ IsS C H v g ∧ Gs.Two g ∧ RetL (nl (Gs.roundL g)) H Q
theorem ok_once_round (A : All K mg) : FnOk P w K mg base CX0 2 A.d_once_round.f A.d_once_round.fd ["surface"] (sp_once_round A.C_Surface) := by
  refine A.d_once_round.fn.ok sc_once_round (fun vs H Q E h => ?_) (fun cdv Ar outer s H vs Q E hr h => ⟨_, pss_cons (ps_set (i := 1) sc_once_round.nd rfl (.inr rfl) (pe_call (ok_backward A) (hr.mono (by decide)) rfl A.d_backward.g A.d_backward.fn.kp A.d_backward.b .nil pass0 (pa_cons (pe_fld (pv 0) rfl) pa_nil)))
      (pss_cons (ps_set (i := 2) sc_once_round.nd rfl (.inr rfl) (pe_call (ok_backward A) (hr.mono (by decide)) rfl A.d_backward.g A.d_backward.fn.kp A.d_backward.b .nil pass0 (pa_cons (pe_fld (pv 0) rfl) pa_nil)))
      (pss_cons (ps_setLc (i := 3) (own := [("square", 4)]) (g := gName 4) (tt := tYes) (te := (tOp (rIxL K) (tFld K (tVar 0) "northern") (tVar 4))) rfl sc_once_round.nd rfl rfl (sw_true rfl rfl rfl (by decide +kernel)) (pi_list (pe_fld (pv 0) rfl)) (blkOk_by (N := ["surface", "western", "southern", "northeastern", "square"]) (sc := defScope s_once_round) (by decide +kernel)) (fun _ _ _ _ _ => pg_name (i := 4) sc_once_round.nd rfl (.inl rfl)) (fun _ _ _ _ _ => pts_nil) (fun _ _ _ _ _ => (pe_ix ix_list (pe_fld (pv 0) rfl) (pv 4) (fun _ _ => rfl))))
      (pss_one (ps_ret (pe_lc (own := [("square", 4)]) (g := gName 4) (tt := tYes) (te := (tOp (rIxL K) (tVar 2) (tOp (rIxL K) (tVar 1) (tVar 4)))) rfl sc_once_round.nd (pi_list (pv 3)) (blkOk_by (N := ["surface", "western", "southern", "northeastern", "square"]) (sc := defScope s_once_round) (by decide +kernel)) (fun _ _ _ _ _ => pg_name (i := 4) sc_once_round.nd rfl (.inl rfl)) (fun _ _ _ _ _ => pts_nil) (fun _ _ _ _ _ => (pe_ix ix_list (pv 2) (pe_ix ix_list (pv 1) (pv 4) (fun _ _ => rfl)) (fun _ _ => rfl)))))))), ?_⟩)
  · obtain ⟨g, v, rfl, _⟩ := h
    rfl
  · obtain ⟨g, v, rfl, hv, o, k⟩ := h
    obtain ⟨pe, f1, g1⟩ := hv.eastern (A := A) (σ := L2.start ["surface", "western", "southern", "northeastern", "square"] [v]) (te := tVar 0) (ev_var rfl)
    refine q_asgL (backward_call f1 g1 o.ea o.six) fun pw H1 nw e1 h1 => ?_
    obtain ⟨pn, f2, g2⟩ := (hv.ex e1).northern (A := A) (σ := [some v, some (.ref pw), none, none, none]) (te := tVar 0) (ev_var rfl)
    refine q_asgL (backward_call f2 g2 o.no o.six) fun ps H2 ns e2 h2 => ?_
    have lE : g.east.length = g.n := o.ea.len
    have lN : g.north.length = g.n := o.no.len
    obtain ⟨pe', f3, g3⟩ := (hv.ex (e1.trans e2)).eastern (A := A) (σ := [some v, some (.ref pw), some (.ref ps), none, none]) (te := tVar 0) (ev_var rfl)
    refine q_asgL (el_lcP (K := K) (n := g.n) (fun i => V.int ((Krct.to g.north (Krct.to g.east i) : Nat) : Int)) (EvP.of f3) (by have := o.six; omega) (fun x => rfl) fun v' H3 e3 hv' => ?_) fun pm H3 nm e3 h3 => ?_
    · subst hv'
      refine ⟨pe', _, rfl, sq_of (e3 _ _ g3), by rw [nl_len, lE], fun i x H4 hx e4 => ?_⟩
      have hi : i < g.n := by
        have := (List.getElem?_eq_some_iff.mp hx).1
        rw [nl_len, lE] at this
        exact this
      rw [nl_to (by rw [lE]; exact hi)] at hx
      have hx := Option.some.inj hx
      subst hx
      obtain ⟨pn', f4, g4⟩ := (hv.ex ((e1.trans e2).trans (e3.trans e4))).northern (A := A) (σ := [some v, some (.ref pw), some (.ref ps), none, some (.int (Krct.to g.east i : Int))]) (te := tVar 0) (ev_var rfl)
      exact ev_sq f4 (ev_var rfl) g4 (by rw [lN]; exact o.ea.to_lt hi)
    · have e13 := (e1.trans e2).trans e3
      have er : nl (Gs.roundL g) = (List.range g.n).map fun i => V.int ((g.round i : Nat) : Int) := by
        show ((List.range g.n).map g.round).map _ = _
        rw [List.map_map]
        rfl
      rw [er] at k
      refine s_retL (el_lcP (K := K) (n := g.n) (fun i => V.int ((g.round i : Nat) : Int)) (EvP.of (ev_var (v := .ref pm) rfl)) (by have := o.six; omega) (fun x => rfl) fun v' H4 e4 hv' => ?_) fun p H4 hp e4 h4 => k p H4 (fresh_back e13 hp) (e13.trans e4) h4
      subst hv'
      refine ⟨pm, _, rfl, sq_of (e4 _ _ h3), by rw [List.length_map, List.length_range], fun i x H5 hx e5 => ?_⟩
      have hi : i < g.n := by
        have := (List.getElem?_eq_some_iff.mp hx).1
        rw [List.length_map, List.length_range] at this
        exact this
      rw [List.getElem?_map, List.getElem?_range hi] at hx
      have hx := Option.some.inj hx
      subst hx
      have l1 : Krct.to g.north (Krct.to g.east i) < g.n := o.no.to_lt (o.ea.to_lt hi)
      have a1 := ev_sq (K := K) (σ := [some v, some (.ref pw), some (.ref ps), some (.ref pm), some (.int (Krct.to g.north (Krct.to g.east i) : Int))]) (ta := tVar 1) (tb := tVar 4) (ev_var rfl) (ev_var rfl) ((e2.trans (e3.trans (e4.trans e5))) _ _ h1) (by rw [Gs.len_inverse]; exact l1)
      rw [Gs.to_inverse l1] at a1
      have a2 := ev_sq (K := K) (ta := tVar 2) (ev_var rfl) a1 ((e3.trans (e4.trans e5)) _ _ h2) (by rw [Gs.len_inverse]; exact o.ea.from_lt l1)
      rw [Gs.to_inverse (o.ea.from_lt l1)] at a2
      exact a2
end
end Gw
namespace Gw
open PySem PySem.Spec PyProof.Rows L2 Evl
section
variable {P : Program} {w : World} {K : PySem.W.Frag} {mg : Str → Option Value} {base : Heap}
/-! ## corner_turns, how_many_holes -/
theorem round_call {C : Addr} {σ : L2.St} {H : Hp} {te : TE} {g : Krct.Glued} {v : V} (ha : Ev te σ H v) (hv : IsS C H v g) (o : Gs.Two g) : EvL (tCall (sp_once_round C) [] E0 (tCons te tNil)) σ H (nl (Gs.roundL g)) :=
  el_call (ea_cons ha ea_nil) fun H1 e Q q E => ⟨g, v, rfl, hv.ex e, o, q⟩
/-- a call with one argument that is a new list -/
theorem el_call1 {sp : Sp} {E : XK} {σ : L2.St} {H : Hp} {te : TE} {xs ys : List V} (h : EvL te σ H xs) (hs : ∀ p H1, Ex H H1 → H1 p = some (.lst xs) → ∀ Q : VK, RetL ys H1 Q → sp [.ref p] H1 Q E) : EvL (tCall sp [] E (tCons te tNil)) σ H ys := fun H1 e Q q =>
  h H1 e _ fun p H2 hp e2 h2 => hs p H2 (e.trans e2) h2 Q fun p' H3 hp' e3 h3 => q p' H3 (fresh_back e2 hp') (e2.trans e3) h3
def sp_corner_turns (C : Addr) : Sp := fun vs H Q _ => ∃ (g : Krct.Glued) (v : V), vs = [v] ∧ IsS C H v g ∧ Gs.Two g ∧ RetL (nl (g.corners.map List.length)) H Q
theorem ok_corner_turns (A : All K mg) : FnOk P w K mg base CX0 4 A.d_corner_turns.f A.d_corner_turns.fd ["surface"] (sp_corner_turns A.C_Surface) := by
  refine A.d_corner_turns.fn.ok sc_corner_turns (fun vs H Q E h => ?_) (fun cdv Ar outer s H vs Q E hr h => ⟨_, pss_one (ps_ret (pe_call (ok_ring_lengths A) (hr.mono (by decide)) rfl A.d_ring_lengths.g A.d_ring_lengths.fn.kp A.d_ring_lengths.b .nil pass0 (pa_cons (pe_call (ok_once_round A) (hr.mono (by decide)) rfl A.d_once_round.g A.d_once_round.fn.kp A.d_once_round.b .nil pass0 (pa_cons (pv 0) pa_nil)) pa_nil))), ?_⟩)
  · obtain ⟨g, v, rfl, _⟩ := h
    rfl
  · obtain ⟨g, v, rfl, hv, o, k⟩ := h
    refine s_retL (el_call1 (round_call (ev_var rfl) hv o) fun p H1 e1 h1 Q' q' => ⟨g.n, Gs.roundL g, .ref p, rfl, ⟨p, rfl, h1⟩, o.round_pm, o.six, ?_⟩) k
    rw [← o.corners_eq]
    exact q'
theorem corners_call {C : Addr} {σ : L2.St} {H : Hp} {te : TE} {g : Krct.Glued} {v : V} (ha : Ev te σ H v) (hv : IsS C H v g) (o : Gs.Two g) : EvL (tCall (sp_corner_turns C) [] E0 (tCons te tNil)) σ H (nl (g.corners.map List.length)) :=
  el_call (ea_cons ha ea_nil) fun H1 e Q q E => ⟨g, v, rfl, hv.ex e, o, q⟩
def sp_how_many_holes (C : Addr) : Sp := fun vs H Q _ => ∃ (g : Krct.Glued) (v : V), vs = [v] ∧ IsS C H v g ∧ Gs.Two g ∧ RetV (.int (g.holes : Int)) H Q
theorem corners_le {g : Krct.Glued} (o : Gs.Two g) : g.corners.length ≤ g.n := (Gs.cycles_ok o.round_bij).len_le o.round_bij
theorem ok_how_many_holes (A : All K mg) : FnOk P w K mg base CX0 5 A.d_how_many_holes.f A.d_how_many_holes.fd ["surface"] (sp_how_many_holes A.C_Surface) := by
  refine A.d_how_many_holes.fn.ok sc_how_many_holes (fun vs H Q E h => ?_) (fun cdv Ar outer s H vs Q E hr h => ⟨_, pss_cons (ps_set (i := 1) sc_how_many_holes.nd rfl (.inl rfl) (pe_op op_sub (pe_callB call_len_seq rfl A.r_len PySem.boot_len (pa_cons (pe_fld (pv 0) rfl) pa_nil)) (pe_callB call_len_seq rfl A.r_len PySem.boot_len (pa_cons (pe_call (ok_corner_turns A) (hr.mono (by decide)) rfl A.d_corner_turns.g A.d_corner_turns.fn.kp A.d_corner_turns.b .nil pass0 (pa_cons (pv 0) pa_nil)) pa_nil))))
      (pss_one (ps_ret (pe_op op_add (pe_op op_fdiv (pv 1) pe_int) pe_int))), ?_⟩)
  · obtain ⟨g, v, rfl, _⟩ := h
    rfl
  · obtain ⟨g, v, rfl, hv, o, k⟩ := h
    obtain ⟨pe, f1, g1⟩ := hv.eastern (A := A) (σ := L2.start ["surface", "less"] [v]) (te := tVar 0) (ev_var rfl)
    have l1 := ev_len (K := K) f1 (sq_of g1)
    rw [nl_len, o.ea.len] at l1
    have l2 := ev_lenN (K := K) (corners_call (C := A.C_Surface) (ev_var (σ := L2.start ["surface", "less"] [v]) (i := 0) rfl) hv o)
    rw [nl_len, List.length_map] at l2
    refine q_asg (ev_op l1 l2 rv_I0) fun H1 e1 => ?_
    refine s_ret (ev_op (ev_op (ev_var rfl) ev_c (rv_I ⟨by decide, by decide⟩)) ev_c rv_I0) fun H2 e2 => ?_
    have := k H2 (e1.trans e2)
    have e : (g.holes : Int) = ((g.n : Int) - (g.corners.length : Int)) / 2 + 1 := by
      have := corners_le o
      unfold Krct.Glued.holes
      omega
    rw [e] at this
    exact this

/-! ## one_row -/
theorem el_lcR {σ : L2.St} {H : Hp} {ta : TA} {te : TE} {j n : Nat} {vs : List Nat} (val : Nat → V) (h : EvA ta σ H [.int (n : Int)]) (hn : n ≤ 40000) (hw : ∀ x, wipe ((wipe σ vs).set j (some x)) vs = wipe σ vs)
    (he : ∀ (i : Nat) (H2 : Hp), i < n → Ex H H2 → Ev te ((wipe σ vs).set j (some (.int (i : Int)))) H2 (val i)) :
    EvL (tLc (iRng1 ta) (gName j) tYes te vs) σ H ((List.range n).map val) := fun H0 e Q q => h H0 e _ fun H1 e1 => by
  refine ⟨(n : Int), rfl, by omega, by omega, fun Dl hD => ?_⟩
  refine lc_range (lo := 0) (n := ((n : Int)).toNat) (fun i H' => Ex H1 H' ∧ H' Dl = some (.lst ((List.range i).map val))) ⟨Ex.new hD, upd_same⟩ (fun i H' hi p => ?_) (fun H' p => ?_)
  · have e0 : (0 : Int) + (i : Int) = (i : Int) := Int.zero_add _
    rw [e0]
    refine ⟨hw _, yes_go ?_⟩
    rw [if_pos rfl]
    refine he i H' (by omega) ((e.trans e1).trans p.1) H' (Ex.refl H') _ fun H2 e2 => ⟨_, e2 Dl _ p.2, ?_, ?_, ?_⟩
    · rw [List.length_map, List.length_range]
      exact sz_lt (by omega)
    · exact Ex.mut (p.1.trans e2) hD
    · rw [List.range_succ, List.map_append]
      exact upd_same
  · have : ((n : Int)).toNat = n := by simp
    rw [this] at p
    exact q Dl H' (fresh_back e1 hD) (e1.trans p.1) p.2
theorem rgV_nl (n : Nat) : rgV 0 (n : Int) = nl (List.range n) := by
  unfold rgV
  have : ((n : Int) - 0).toNat = n := by omega
  rw [this]
  apply List.map_congr_left
  intro i _
  rw [Int.zero_add]
theorem el_listRg {σ : L2.St} {H : Hp} {te : TE} {n : Nat} (h : Ev te σ H (.int (n : Int))) (hn : n ≤ 40000) : EvL (tLstRg (tRg1 te)) σ H (nl (List.range n)) := fun H1 e Q q =>
  h H1 e _ fun H2 e2 => ⟨(n : Int), rfl, RgOk.of_le (by omega) (by omega) (by omega) (by omega), fun p hp => q p _ (fresh_back e2 hp) (e2.trans (Ex.new hp)) (by rw [← rgV_nl]; exact upd_same)⟩
def sp_one_row (C : Addr) : Sp := fun vs H Q _ => ∃ (n : Nat), vs = [.int (n : Int)] ∧ 1 ≤ n ∧ n ≤ 6 ∧ Ret (fun v H => IsS C H v (Krct.row n)) H Q
theorem ok_one_row (A : All K mg) : FnOk P w K mg base CX0 3 A.d_one_row.f A.d_one_row.fd ["many"] (sp_one_row A.C_Surface) := by
  refine A.d_one_row.fn.ok sc_one_row (fun vs H Q E h => ?_) (fun cdv Ar outer s H vs Q E hr h => ⟨_, pss_cons (ps_setLc (i := 1) (own := [("square", 2)]) (g := gName 2) (tt := tYes) (te := (tOp (rI (fun _ j => 0 < j) fun i j => .int (i % j)) (tOp (rI0 fun i j => .int (i + j)) (tVar 2) (tC (.int 1))) (tVar 0))) rfl sc_one_row.nd rfl rfl (sw_true rfl rfl rfl (by decide +kernel)) (pi_range1 rfl A.r_range (pa_cons (pv 0) pa_nil)) (blkOk_by (N := ["many", "eastern", "square"]) (sc := defScope s_one_row) (by decide +kernel)) (fun _ _ _ _ _ => pg_name (i := 2) sc_one_row.nd rfl (.inl rfl)) (fun _ _ _ _ _ => pts_nil) (fun _ _ _ _ _ => (pe_op op_mod (pe_op op_add (pv 2) pe_int) (pv 0))))
      (pss_one (ps_ret (pe_make A.m_Surface (ok_init_Surface A) (hr.mono (by decide)) rfl A.g_Surface A.b_Surface .nil pass0 (pa_cons (pv 1) (pa_cons (pe_listRg rfl rfl A.r_list (prg_1 rfl A.r_range (pv 0))) pa_nil))))), ?_⟩)
  · obtain ⟨n, rfl, _⟩ := h
    rfl
  · obtain ⟨n, rfl, h1, h6, k⟩ := h
    refine q_asgL (el_lcR (n := n) (fun i => V.int (((i + 1) % n : Nat) : Int)) (ea_cons (ev_var rfl) ea_nil) (by omega) (fun x => rfl) fun i H2 hi e2 => ?_) fun p H1 hp e1 g1 => ?_
    · have := ev_op (r := rI (fun _ j => 0 < j) fun i j => .int (i % j)) (σ := [some (V.int (n : Int)), none, some (.int (i : Int))]) (H := H2) (ev_op (ev_var (i := 2) rfl) (ev_c (v := .int 1)) (rv_I0 (g := fun i j => .int (i + j)))) (ev_var (i := 0) rfl) (rv_I (by show (0 : Int) < n; omega))
      exact this
    · refine s_retP (ep_surface (P1 := fun v H => v = .ref p) (EvP.of (ev_var rfl)) (g := Krct.row n) fun v H2 e2 hv => ?_) fun v H2 e2 hs => k v H2 (e1.trans e2) hs
      subst hv
      refine (EvP.ofL (el_listRg (ev_var rfl) (by omega))).imp fun v H3 e3 ⟨q, hv, hq⟩ => ⟨p, q, rfl, hv, ?_, hq⟩
      rw [(e2.trans e3) p _ g1]
      show _ = some (HO.lst (((List.range n).map _).map _))
      rw [List.map_map]
      rfl

/-! ## tells_all_once -/
theorem dp_ints {H : Hp} : ∀ l : List Int, DpAll K H (l.map V.int) (l.map PyData.int)
  | [] => .nil
  | i :: l => .cons (.int i) (dp_ints l)
theorem depthAll_ints : ∀ l : List Int, PyData.depthAll (l.map PyData.int) = 0
  | [] => rfl
  | i :: l => by
    rw [List.map_cons, PyData.depthAll, depthAll_ints l]
    rfl
theorem canAll_ints : ∀ l : List Int, PyData.canLayAll0 (l.map PyData.int) = true
  | [] => rfl
  | i :: l => by
    rw [List.map_cons, PyData.canLayAll0, canAll_ints l]
    rfl
theorem shaped_ints (l : List Int) : SeqAt.shaped (.list (l.map PyData.int)) = true := by
  unfold SeqAt.shaped
  rw [Bool.and_eq_true]
  refine ⟨?_, ?_⟩
  · rw [PyData.canLay0]
    exact canAll_ints l
  · rw [PyData.depth, depthAll_ints]
    decide
theorem eqv_ints (l k : List Int) : PyData.eqv (.list (l.map PyData.int)) (.list (k.map PyData.int)) = decide (l = k) := PySem.W.Datum.eqv (α := List Int) l k
abbrev il (l : List Int) : List V := l.map V.int
theorem nl_il (l : List Nat) : nl l = il (l.map fun (x : Nat) => (x : Int)) := by
  show _ = (l.map _).map _
  rw [List.map_map]
  rfl
def sp_tells_all_once : Sp := fun vs H Q _ => ∃ (n : Nat) (l : List Int) (v : V), vs = [v, .int (n : Int)] ∧ IsV H v (il l) ∧ (∀ x ∈ l, 0 ≤ x) ∧ n ≤ 6 ∧ RetV (.bl (Krct.isPerm n (l.map Int.toNat))) H Q
theorem ok_tells_all_once (A : All K mg) : FnOk P w K mg base CX0 1 A.d_tells_all_once.f A.d_tells_all_once.fd ["squares", "many"] sp_tells_all_once := by
  refine A.d_tells_all_once.fn.ok sc_tells_all_once (fun vs H Q E h => ?_) (fun cdv Ar outer s H vs Q E hr h => ⟨_, pss_one (ps_ret (pe_cmpR (op_eqD hr.units) (pe_callB cr_sortedI rfl A.r_sorted (by decide +kernel) (pa_cons (pv 0) pa_nil)) (pe_listRg rfl rfl A.r_list (prg_1 rfl A.r_range (pv 1))) (nomark _))), ?_⟩)
  · obtain ⟨n, l, v, rfl, _⟩ := h
    rfl
  · obtain ⟨n, l, v, rfl, ⟨p, rfl, hp⟩, h0, h6, k⟩ := h
    refine ⟨_, rfl, p, l, rfl, sq_of hp, fun ns q pm pw hq => ?_⟩
    refine el_listRg (ev_var rfl) (by omega) _ (Ex.refl _) _ fun q2 H2 hq2 e2 h2 => ?_
    refine ⟨_, _, .lst (sq_of (e2 q _ upd_same)) (dp_ints ns), .lst (sq_of (by rw [nl_il] at h2; exact h2)) (dp_ints _), shaped_ints _, shaped_ints _, ?_⟩
    rw [eqv_ints]
    have ee : decide (ns = (List.range n).map fun (x : Nat) => (x : Int)) = Krct.isPerm n (l.map Int.toNat) := by
      rw [Bool.eq_iff_iff, decide_eq_true_iff, ← Gs.perm_int h0]
      constructor
      · intro e
        rw [← e]
        exact pm.symm
      · intro e
        refine List.Perm.eq_of_pairwise (le := (· ≤ ·)) (fun a b _ _ h1 h2 => Int.le_antisymm h1 h2) pw ?_ (pm.trans e)
        rw [List.pairwise_map]
        exact (List.pairwise_le_range (n := n)).imp fun h => by omega
    rw [ee]
    exact k H2 (fun b o hb => e2 b o (by rw [upd_ne (ne_of_none hb hq)]; exact hb))
end
end Gw
namespace Gw
open PySem PySem.Spec PyProof.Rows L2 Evl
theorem inV_nl (x : Nat) : ∀ l : List Nat, inV (.int (x : Int)) (nl l) = l.contains x
  | [] => rfl
  | y :: l => by
    have ih := inV_nl x l
    show (eqV (.int (y : Int)) (.int (x : Int)) || inV (.int (x : Int)) (nl l)) = _
    rw [ih, List.contains_cons]
    congr 1
    show ((y : Int) == (x : Int)) = (x == y)
    rw [Bool.eq_iff_iff, beq_iff_eq, beq_iff_eq]
    omega
theorem flat_nl : ∀ l : List Nat, (nl l).all flatV = true
  | [] => rfl
  | y :: l => by
    show (true && (nl l).all flatV) = true
    rw [flat_nl l]
    rfl
section
variable {P : Program} {w : World} {K : PySem.W.Frag} {mg : Str → Option Value} {base : Heap}
theorem ev_notIn {σ : L2.St} {H : Hp} {ta tb : TE} {l : List Nat} {p : Addr} {x : Nat} (ha : Ev ta σ H (.int (x : Int))) (hb : Ev tb σ H (.ref p)) (hp : H p = some (.lst (nl l))) : Ev (tOp (rIn K true) ta tb) σ H (.bl (!l.contains x)) := by
  have := ev_op ha hb (rv_niL (K := K) (sq_of hp) (rfl : flatV (.int (x : Int)) = true) (flat_nl l))
  rw [inV_nl] at this
  exact this
/-- for x in (a, b), the tuple made on the way -/
theorem q_forU {σ : L2.St} {H : Hp} {tl : TE} {xs : List V} {j : Nat} {tu tz : TS} {D : Ends} (h : EvU tl σ H xs) (Pv : Addr → Nat → L2.St → Hp → Prop) (h0 : ∀ p H1, H p = none → Ex H H1 → H1 p = some (.tup xs) → Pv p 0 σ H1) (hl : ∀ p i σ' H', i ≤ xs.length → Pv p i σ' H' → H' p = some (.tup xs))
    (hs : ∀ p i x σ' H', xs[i]? = some x → Pv p i σ' H' → tu { D with nx := Pv p (i + 1), ct := Pv p (i + 1), bk := tz D } (σ'.set j (some x)) H') (hd : ∀ p σ' H', Pv p xs.length σ' H' → tz D σ' H') : tSeq (tFor (iTup K tl) (gName j) tu) tz D σ H :=
  h H (Ex.refl H) _ fun p H1 hp e h1 => ⟨p, rfl, ⟨xs, st_of h1⟩, for_tup (D := { D with nx := tz D }) (Pv p) (h0 p H1 hp e h1) (fun i σ' H' hi q => st_of (hl p i σ' H' hi q)) (hs p) (hd p)⟩
/-! ## order_from -/
def sp_order_from (C : Addr) : Sp := fun vs H Q _ => ∃ (g : Krct.Glued) (v : V) (s : Nat), vs = [v, .int (s : Int)] ∧ IsS C H v g ∧ Gs.Two g ∧ s < g.n ∧ RetL (nl (Krct.orderFrom g s)) H Q
theorem ok_order_from (A : All K mg) : FnOk P w K mg base CX0 1 A.d_order_from.f A.d_order_from.fd ["surface", "first"] (sp_order_from A.C_Surface) := by
  refine A.d_order_from.fn.ok sc_order_from (fun vs H Q E h => ?_) (fun cdv Ar outer s H vs Q E hr h => ⟨_, pss_cons (ps_set (i := 2) sc_order_from.nd rfl (.inl rfl) (pe_lst (pa_cons (pv 1) pa_nil)))
      (pss_cons (ps_set (i := 3) sc_order_from.nd rfl (.inl rfl) pe_int)
      (pss_cons (ps_while PassesOwn.never (pt_cmpR op_lt (pv 3) (pe_callB call_len_seq rfl A.r_len PySem.boot_len (pa_cons (pv 2) pa_nil)) (nomark _))
        (pss_cons (ps_set (i := 4) sc_order_from.nd rfl (.inl rfl) (pe_ix ix_list (pv 2) (pv 3) (fun _ _ => rfl)))
          (pss_cons (ps_for PassesOwn.never rfl (pi_tup (pe_tup (pa_cons (pe_ix ix_list (pe_fld (pv 0) rfl) (pv 4) (fun _ _ => rfl)) (pa_cons (pe_ix ix_list (pe_fld (pv 0) rfl) (pv 4) (fun _ _ => rfl)) pa_nil)))) (pg_name (i := 5) sc_order_from.nd rfl (.inl rfl))
            (pss_one (ps_if (pt_cmpR op_notIn_seq (pv 5) (pv 2) rfl)
                (pss_one (ps_expr (pe_bm PySem.F.plainAttrs_list PySem.F.slot_list_append PySem.F.type_list_append mt_append (pv 2) (pa_cons (pv 5) pa_nil))))
                (pss_nil))))
          (pss_one (ps_aug (i := 3) sc_order_from.nd rfl (.inl rfl) pe_int ip_add)))))
      (pss_one (ps_ret (pv 2))))), ?_⟩)
  · obtain ⟨g, v, a, rfl, _⟩ := h
    rfl
  · obtain ⟨g, v, a, rfl, hv, o, ha, k⟩ := h
    have lE : g.east.length = g.n := o.ea.len
    have lN : g.north.length = g.n := o.no.len
    refine q_asgL (el_lst (ea_cons (ev_var rfl) ea_nil) (by show 1 ≤ 100000; decide)) fun q H1 hq e1 h1 => ?_
    refine q_asg ev_c fun H2 e2 => ?_
    refine q_while (fun m σ' H' => ∃ (i : Nat) (l : List Nat) (x y : Option V), m = g.n + 1 - i ∧ i ≤ l.length ∧ Gs.Few g.n l ∧ Krct.order g (g.n + 1 - i) l i = Krct.orderFrom g a ∧ σ' = [some v, some (.int (a : Int)), some (.ref q), some (.int (i : Int)), x, y] ∧ Ex H H' ∧ H' q = some (.lst (nl l)))
      (g.n + 1) ⟨0, [a], none, none, rfl, Nat.zero_le _, Gs.Few.one ha, rfl, rfl, e1.trans e2, e2 q _ h1⟩ ?_
    rintro m σ' H' ⟨i, l, x, y, rfl, il, fw, eo, rfl, e3, h3⟩
    have fl := fw.len
    refine ⟨decide ((i : Int) < ((nl l).length : Int)), et_test (ev_op (ev_var rfl) (ev_len (K := K) (ev_var rfl) (sq_of h3)) rv_I0), fun hb H4 e4 => ?_, fun hb H4 e4 => ?_⟩
    · have hi : i < l.length := by
        have := of_decide_eq_true hb
        rw [nl_len] at this
        omega
      have hx : l[i]? = some l[i] := List.getElem?_eq_getElem hi
      generalize hs : l[i] = s at hx
      have sn : s < g.n := fw.lt s (by rw [← hs]; exact List.getElem_mem hi)
      refine ⟨_, fun σ2 H2 hN => ⟨g.n + 1 - (i + 1), by omega, hN⟩, ?_⟩
      refine q_asg (ev_at (K := K) (ev_var rfl) (ev_var rfl) (sq_of (e4 q _ h3)) (nl_at hx)) fun H5 e5 => ?_
      have e35 := (e3.trans e4).trans e5
      have h5 := (e4.trans e5) q _ h3
      -- for there in (..)
      obtain ⟨pe, f1, g1⟩ := (hv.ex e35).eastern (A := A) (σ := [some v, some (.int (a : Int)), some (.ref q), some (.int (i : Int)), some (.int (s : Int)), y]) (te := tVar 0) (ev_var rfl)
      obtain ⟨pn, f2, g2⟩ := (hv.ex e35).northern (A := A) (σ := [some v, some (.int (a : Int)), some (.ref q), some (.int (i : Int)), some (.int (s : Int)), y]) (te := tVar 0) (ev_var rfl)
      have tupE := eu_tup (ea_cons (ev_sq (K := K) f1 (ev_var (i := 4) rfl) g1 (by rw [lE]; exact sn)) (ea_cons (ev_sq (K := K) f2 (ev_var (i := 4) rfl) g2 (by rw [lN]; exact sn)) ea_nil)) (by show 2 ≤ 100000; decide)
      have E1 := Krct.to g.east s
      have lt1 := o.ea.to_lt sn
      have lt2 := o.no.to_lt sn
      let L : Nat → List Nat := fun j => if j = 0 then l else if j = 1 then Gs.put1 l (Krct.to g.east s) else Gs.put1 (Gs.put1 l (Krct.to g.east s)) (Krct.to g.north s)
      have fL : ∀ j, Gs.Few g.n (L j) := fun j => by
        show Gs.Few g.n (if j = 0 then l else if j = 1 then Gs.put1 l (Krct.to g.east s) else Gs.put1 (Gs.put1 l (Krct.to g.east s)) (Krct.to g.north s))
        split
        · exact fw
        · split
          · exact fw.put lt1
          · exact (fw.put lt1).put lt2
      refine q_forU (K := K) tupE (fun pt j σ' H' => ∃ z, σ' = [some v, some (.int (a : Int)), some (.ref q), some (.int (i : Int)), some (.int (s : Int)), z] ∧ pt ≠ q ∧ Ex H H' ∧ H' pt = some (.tup [.int (Krct.to g.east s : Int), .int (Krct.to g.north s : Int)]) ∧ H' q = some (.lst (nl (L j))))
        (fun pt H6 hpt e6 h6 => ⟨_, rfl, (fun z => by rw [z, h5] at hpt; cases hpt), e35.trans e6, h6, e6 q _ h5⟩) (fun pt j σ' H' _ ⟨_, _, _, _, ht, _⟩ => ht) ?_ ?_
      · rintro pt j x' σ' H' hj ⟨z, rfl, nq, e7, h7, h8⟩
        obtain ⟨t, rfl, hL⟩ : ∃ t : Nat, x' = V.int (t : Int) ∧ L (j + 1) = Gs.put1 (L j) t := by
          match j, hj with
          | 0, hj => exact ⟨Krct.to g.east s, (Option.some.inj hj).symm, rfl⟩
          | 1, hj => exact ⟨Krct.to g.north s, (Option.some.inj hj).symm, rfl⟩
          | j + 2, hj => simp at hj
        refine s_when (et_test (ev_notIn (K := K) (ev_var rfl) (ev_var rfl) h8)) (fun hb H8 e8 => ?_) (fun hb H8 e8 => ?_)
        · have out : t ∉ L j := by simpa using hb
          have := (fL j).len
          have := o.six
          refine s_app (K := K) (e8 q _ h8) (ev_var rfl) (ev_var rfl) (by rw [nl_len]; omega) fun H9 e9 => ⟨_, rfl, nq, Ex.mut ((e7.trans e8).trans e9) hq, ?_, ?_⟩
          · rw [upd_ne nq]
            exact (e8.trans e9) pt _ h7
          · rw [upd_same, hL, Gs.put1_out out, ← nl_app]
            rfl
        · have inn : t ∈ L j := by simpa using hb
          refine ⟨_, rfl, nq, e7.trans e8, e8 pt _ h7, ?_⟩
          rw [hL, Gs.put1_in inn]
          exact e8 q _ h8
      · rintro pt σ' H' ⟨z, rfl, nq, e7, h7, h8⟩
        refine s_aug (f := fun i j => i + j) (b := 1) rfl ev_c fun H8 e8 => ⟨i + 1, L 2, _, _, rfl, ?_, fL 2, ?_, rfl, e7.trans e8, e8 q _ h8⟩
        · obtain ⟨k1, q1⟩ := Gs.put1_more (l := l) (t := Krct.to g.east s)
          obtain ⟨k2, q2⟩ := Gs.put1_more (l := Gs.put1 l (Krct.to g.east s)) (t := Krct.to g.north s)
          show i + 1 ≤ (Gs.put1 (Gs.put1 l (Krct.to g.east s)) (Krct.to g.north s)).length
          rw [q2, q1, List.length_append, List.length_append]
          omega
        · rw [← eo]
          have e9 : g.n + 1 - i = (g.n + 1 - (i + 1)) + 1 := by omega
          rw [e9, Gs.order_some hx]
          rfl
    · have hi : l.length ≤ i := by
        have := of_decide_eq_false hb
        rw [nl_len] at this
        omega
      rw [Gs.order_none hi] at eo
      subst eo
      exact s_ret (ev_var rfl) fun H5 e5 => k q H5 hq ((e3.trans e4).trans e5) ((e4.trans e5) q _ h3)

/-! ## hangs_together -/
def sp_hangs_together (C : Addr) : Sp := fun vs H Q _ => ∃ (g : Krct.Glued) (v : V), vs = [v] ∧ IsS C H v g ∧ Gs.Two g ∧ RetV (.bl g.whole) H Q
theorem order_call {C : Addr} {σ : L2.St} {H : Hp} {te tf : TE} {g : Krct.Glued} {v : V} {s : Nat} (ha : Ev te σ H v) (hb : Ev tf σ H (.int (s : Int))) (hv : IsS C H v g) (o : Gs.Two g) (hs : s < g.n) : EvL (tCall (sp_order_from C) [] E0 (tCons te (tCons tf tNil))) σ H (nl (Krct.orderFrom g s)) :=
  el_call (ea_cons ha (ea_cons hb ea_nil)) fun H1 e Q q E => ⟨g, v, s, rfl, hv.ex e, o, hs, q⟩
theorem ok_hangs_together (A : All K mg) : FnOk P w K mg base CX0 2 A.d_hangs_together.f A.d_hangs_together.fd ["surface"] (sp_hangs_together A.C_Surface) := by
  refine A.d_hangs_together.fn.ok sc_hangs_together (fun vs H Q E h => ?_) (fun cdv Ar outer s H vs Q E hr h => ⟨_, pss_one (ps_ret (pe_cmpR op_eq (pe_callB call_len_seq rfl A.r_len PySem.boot_len (pa_cons (pe_call (ok_order_from A) (hr.mono (by decide)) rfl A.d_order_from.g A.d_order_from.fn.kp A.d_order_from.b .nil pass0 (pa_cons (pv 0) (pa_cons pe_int pa_nil))) pa_nil)) (pe_callB call_len_seq rfl A.r_len PySem.boot_len (pa_cons (pe_fld (pv 0) rfl) pa_nil)) (nomark _))), ?_⟩)
  · obtain ⟨g, v, rfl, _⟩ := h
    rfl
  · obtain ⟨g, v, rfl, hv, o, k⟩ := h
    obtain ⟨pe, f1, g1⟩ := hv.eastern (A := A) (σ := L2.start ["surface"] [v]) (te := tVar 0) (ev_var rfl)
    have l1 := ev_len (K := K) f1 (sq_of g1)
    rw [nl_len, o.ea.len] at l1
    have l2 := ev_lenN (K := K) (order_call (C := A.C_Surface) (s := 0) (ev_var (σ := L2.start ["surface"] [v]) (i := 0) rfl) (ev_c (v := .int 0)) hv o o.pos)
    rw [nl_len] at l2
    refine s_ret (ev_op l2 l1 (rv_eq rfl)) fun H1 e1 => ?_
    have := k H1 e1
    have e : g.whole = decide (V.int ((Krct.orderFrom g 0).length : Int) = V.int (g.n : Int)) := by
      show ((Krct.orderFrom g 0).length == g.n) = _
      rw [Bool.eq_iff_iff, beq_iff_eq, decide_eq_true_iff]
      constructor
      · intro e
        rw [e]
      · intro e
        have := V.int.inj e
        omega
    rw [e] at this
    exact this
end
end Gw
namespace Gw
open PySem PySem.Spec PyProof.Rows L2 Evl
section
variable {P : Program} {w : World} {K : PySem.W.Frag} {mg : Str → Option Value} {base : Heap}
theorem el_cat {σ : L2.St} {H : Hp} {ta tb : TE} {p q : Addr} {xs ys : List V} (ha : Ev ta σ H (.ref p)) (hb : Ev tb σ H (.ref q)) (hp : H p = some (.lst xs)) (hq : H q = some (.lst ys)) (hz : xs.length + ys.length ≤ 100000) : EvL (tOp rCat ta tb) σ H (xs ++ ys) := fun H1 e Q k =>
  ha H1 e _ fun H2 e2 => hb H2 (e.trans e2) _ fun H3 e3 => ⟨p, q, xs, ys, rfl, rfl, ((e.trans e2).trans e3) p _ hp, ((e.trans e2).trans e3) q _ hq, sz_of hz, fun l hl => k l _ (fresh_back (e2.trans e3) hl) ((e2.trans e3).trans (Ex.new hl)) upd_same⟩
/-- a new list + one that stands -/
theorem el_cat1 {σ : L2.St} {H : Hp} {ta tb : TE} {q : Addr} {xs ys : List V} (ha : EvL ta σ H xs) (hb : Ev tb σ H (.ref q)) (hq : H q = some (.lst ys)) (hz : xs.length + ys.length ≤ 100000) : EvL (tOp rCat ta tb) σ H (xs ++ ys) := fun H1 e Q k =>
  ha H1 e _ fun p H2 hp e2 h2 => hb H2 (e.trans e2) _ fun H3 e3 => ⟨p, q, xs, ys, rfl, rfl, e3 p _ h2, ((e.trans e2).trans e3) q _ hq, sz_of hz, fun l hl => k l _ (fresh_back (e2.trans e3) hl) ((e2.trans e3).trans (Ex.new hl)) upd_same⟩
/-! ## told_in_order -/
def tell (g : Krct.Glued) (l : List Nat) : List Nat := (Krct.renamed g l).east ++ (Krct.renamed g l).north
def sp_told_in_order (C : Addr) : Sp := fun vs H Q _ => ∃ (g : Krct.Glued) (l : List Nat) (v u : V), vs = [v, u] ∧ IsS C H v g ∧ IsV H u (nl l) ∧ Gs.Two g ∧ Gs.Pm g.n l ∧ RetL (nl (tell g l)) H Q
theorem ok_told_in_order (A : All K mg) : FnOk P w K mg base CX0 2 A.d_told_in_order.f A.d_told_in_order.fd ["surface", "order"] (sp_told_in_order A.C_Surface) := by
  refine A.d_told_in_order.fn.ok sc_told_in_order (fun vs H Q E h => ?_) (fun cdv Ar outer s H vs Q E hr h => ⟨_, pss_cons (ps_set (i := 2) sc_told_in_order.nd rfl (.inr rfl) (pe_call (ok_backward A) (hr.mono (by decide)) rfl A.d_backward.g A.d_backward.fn.kp A.d_backward.b .nil pass0 (pa_cons (pv 1) pa_nil)))
      (pss_cons (ps_setLc (i := 3) (own := [("square", 5)]) (g := gName 5) (tt := tYes) (te := (tOp (rIxL K) (tVar 2) (tOp (rIxL K) (tFld K (tVar 0) "eastern") (tVar 5)))) rfl sc_told_in_order.nd rfl rfl (sw_true rfl rfl rfl (by decide +kernel)) (pi_list (pv 1)) (blkOk_by (N := ["surface", "order", "renamed", "eastern", "northern", "square"]) (sc := defScope s_told_in_order) (by decide +kernel)) (fun _ _ _ _ _ => pg_name (i := 5) sc_told_in_order.nd rfl (.inl rfl)) (fun _ _ _ _ _ => pts_nil) (fun _ _ _ _ _ => (pe_ix ix_list (pv 2) (pe_ix ix_list (pe_fld (pv 0) rfl) (pv 5) (fun _ _ => rfl)) (fun _ _ => rfl))))
      (pss_cons (ps_setLc (i := 4) (own := [("square", 5)]) (g := gName 5) (tt := tYes) (te := (tOp (rIxL K) (tVar 2) (tOp (rIxL K) (tFld K (tVar 0) "northern") (tVar 5)))) rfl sc_told_in_order.nd rfl rfl (sw_true rfl rfl rfl (by decide +kernel)) (pi_list (pv 1)) (blkOk_by (N := ["surface", "order", "renamed", "eastern", "northern", "square"]) (sc := defScope s_told_in_order) (by decide +kernel)) (fun _ _ _ _ _ => pg_name (i := 5) sc_told_in_order.nd rfl (.inl rfl)) (fun _ _ _ _ _ => pts_nil) (fun _ _ _ _ _ => (pe_ix ix_list (pv 2) (pe_ix ix_list (pe_fld (pv 0) rfl) (pv 5) (fun _ _ => rfl)) (fun _ _ => rfl))))
      (pss_one (ps_ret (pe_op op_cat (pv 3) (pv 4)))))), ?_⟩)
  · obtain ⟨g, l, v, u, rfl, _⟩ := h
    rfl
  · obtain ⟨g, l, v, u, rfl, hv, ⟨po, rfl, ho⟩, o, hm, k⟩ := h
    have lE : g.east.length = g.n := o.ea.len
    have lN : g.north.length = g.n := o.no.len
    have six := o.six
    refine q_asgL (backward_call (ev_var rfl) ho hm o.six) fun pr H1 nr e1 h1 => ?_
    have hx : ∀ (i : Nat) (x : V), (nl l)[i]? = some x → i < g.n ∧ x = .int (Krct.to l i : Int) := fun i x hx => by
      have hi : i < l.length := by
        have := (List.getElem?_eq_some_iff.mp hx).1
        rwa [nl_len] at this
      rw [nl_to hi] at hx
      exact ⟨by rw [← hm.len]; exact hi, (Option.some.inj hx).symm⟩
    -- eastern
    refine q_asgL (el_lcP (K := K) (n := g.n) (fun i => V.int ((Krct.from_ l (Krct.to g.east (Krct.to l i)) : Nat) : Int)) (EvP.of (ev_var (v := .ref po) rfl)) (by omega) (fun x => rfl) fun v' H2 e2 hv' => ?_) fun pe H2 ne e2 h2 => ?_
    · subst hv'
      refine ⟨po, _, rfl, sq_of ((e1.trans e2) _ _ ho), by rw [nl_len, hm.len], fun i x H3 hi e3 => ?_⟩
      obtain ⟨hin, rfl⟩ := hx i x hi
      have ht := hm.to_lt hin
      obtain ⟨q, f4, g4⟩ := (hv.ex (e1.trans (e2.trans e3))).eastern (A := A) (σ := [some v, some (.ref po), some (.ref pr), none, none, some (.int (Krct.to l i : Int))]) (te := tVar 0) (ev_var rfl)
      have := ev_sq (K := K) (ta := tVar 2) (ev_var rfl) (ev_sq (K := K) f4 (ev_var (i := 5) rfl) g4 (by rw [lE]; exact ht)) ((e2.trans e3) _ _ h1) (by rw [Gs.len_inverse]; exact o.ea.to_lt ht)
      rw [Gs.to_inverse (o.ea.to_lt ht)] at this
      exact this
    · refine q_asgL (el_lcP (K := K) (n := g.n) (fun i => V.int ((Krct.from_ l (Krct.to g.north (Krct.to l i)) : Nat) : Int)) (EvP.of (ev_var (v := .ref po) rfl)) (by omega) (fun x => rfl) fun v' H3 e3 hv' => ?_) fun pn H3 nn e3 h3 => ?_
      · subst hv'
        refine ⟨po, _, rfl, sq_of ((e1.trans (e2.trans e3)) _ _ ho), by rw [nl_len, hm.len], fun i x H4 hi e4 => ?_⟩
        obtain ⟨hin, rfl⟩ := hx i x hi
        have ht := hm.to_lt hin
        obtain ⟨q, f4, g4⟩ := (hv.ex (e1.trans (e2.trans (e3.trans e4)))).northern (A := A) (σ := [some v, some (.ref po), some (.ref pr), some (.ref pe), none, some (.int (Krct.to l i : Int))]) (te := tVar 0) (ev_var rfl)
        have := ev_sq (K := K) (ta := tVar 2) (ev_var rfl) (ev_sq (K := K) f4 (ev_var (i := 5) rfl) g4 (by rw [lN]; exact ht)) ((e2.trans (e3.trans e4)) _ _ h1) (by rw [Gs.len_inverse]; exact o.no.to_lt ht)
        rw [Gs.to_inverse (o.no.to_lt ht)] at this
        exact this
      · have e13 := (e1.trans e2).trans e3
        refine s_retL (el_cat (ev_var rfl) (ev_var rfl) (e3 _ _ h2) h3 (by simp; omega)) fun p H4 hp e4 h4 => k p H4 (fresh_back e13 hp) (e13.trans e4) ?_
        rw [h4]
        have m1 : nl (tell g l) = nl ((Krct.renamed g l).east) ++ nl ((Krct.renamed g l).north) := nl_app.symm
        rw [m1]
        have a1 : nl (Krct.renamed g l).east = (List.range g.n).map fun i => V.int ((Krct.from_ l (Krct.to g.east (Krct.to l i)) : Nat) : Int) := by
          rw [← hm.len]
          exact map_nl
        have a2 : nl (Krct.renamed g l).north = (List.range g.n).map fun i => V.int ((Krct.from_ l (Krct.to g.north (Krct.to l i)) : Nat) : Int) := by
          rw [← hm.len]
          exact map_nl
        rw [a1, a2]

/-! ## min of a list of lists of ints -/
def rMinL (K : PySem.W.Frag) : List V → Hp → VK → Prop := fun vs H Q => ∃ (a : Addr) (xs : List V) (l : List Int) (ls : List (List Int)), vs = [.ref a] ∧ SqL K H a xs ∧ xs.length = ls.length + 1 ∧
  (∀ (i : Nat) (r : List Int), (l :: ls)[i]? = some r → ∃ q, xs[i]? = some (.ref q) ∧ SqL K H q (il r)) ∧ ∀ (i : Nat) (q : Addr), xs[i]? = some (.ref q) → (l :: ls)[i]? = some (PySem.W.minOf l ls) → Q (.ref q) H
theorem vals_at : ∀ {xs : List V} {us : List Value}, Vals xs us → ∀ (i : Nat) (u : Value), us[i]? = some u → ∃ x, xs[i]? = some x ∧ L2.RelV x u
  | _, _, .nil, i, u, h => by simp at h
  | _, _, .cons (a := x) r rs, 0, u, h => by
    have e := Option.some.inj h
    subst e
    exact ⟨x, rfl, r⟩
  | _, _, .cons r rs, i + 1, u, h => vals_at rs i u h
theorem dp_lists {H : Hp} : ∀ (xs : List V) (ls : List (List Int)), xs.length = ls.length → (∀ (i : Nat) (r : List Int), ls[i]? = some r → ∃ q, xs[i]? = some (.ref q) ∧ SqL K H q (il r)) → DpAll K H xs (ls.map (PySem.W.Datum.toD (α := List Int)))
  | [], [], _, _ => .nil
  | [], _ :: _, h, _ => by cases h
  | _ :: _, [], h, _ => by cases h
  | x :: xs, l :: ls, hl, h => by
    obtain ⟨q, a, b⟩ := h 0 l rfl
    have a' : x = .ref q := Option.some.inj a
    subst a'
    refine .cons (.lst b (dp_ints l)) (dp_lists xs ls (by simpa using hl) fun i r hr => h (i + 1) r hr)
theorem intsAre_inj : ∀ {us : List Value} {l k : List Int}, IntsAre us l → IntsAre us k → l = k
  | _, _, _, .nil, h => by
    cases h
    rfl
  | _, _, _, .cons n t r, h => by
    cases h with
    | cons n' t' r' => rw [intsAre_inj r r']
theorem cr_minL {X : Cx} (hc : X.calm = true) (hu : X.A.units + 64 < cLine) : CallR X (.builtin "min") (rMinL X.K) := by
  intro pins s σ H vs us Q I r h
  obtain ⟨a, xs, l, ls, rfl, hs, hl, hx, q⟩ := h
  obtain ⟨its, rv, hL, _⟩ := I.list hs
  rw [Vals.ref1 r]
  obtain ⟨as, ra⟩ := Dp.readsAll I _ _ _ (dp_lists xs (l :: ls) (by rw [hl]; rfl) hx) rv
  refine PySem.W.min_list_datum (α := List Int) (I.ok.hd hc) hL.isList ⟨as, by simpa using ra⟩ (by show _ + 1 + 1 < _; omega) fun i v h' tk hi hH hk => ?_
  obtain ⟨x, ex, rx⟩ := vals_at rv i v (by simpa using hi)
  have hlt : i < (l :: ls).length := by
    have := (List.getElem?_eq_some_iff.mp ex).1
    rw [List.length_cons]
    omega
  obtain ⟨p, ep, sp⟩ := hx i _ (List.getElem?_eq_getElem hlt)
  rw [ex] at ep
  have ep := Option.some.inj ep
  subst ep
  obtain rfl : v = Value.ref p := rx
  obtain ⟨its2, rv2, hL2, _⟩ := I.list sp
  obtain ⟨bs, rb⟩ := hH
  obtain ⟨l2, o2, its3, n3, e1, _, e3, _, e5, e6⟩ := reads_ints_open rb
  cases e1
  obtain ⟨o4, g4, _, n4, d4⟩ := hL2.isList
  have g5 := hk _ _ g4
  rw [e3] at g5
  have g6 := Option.some.inj g5
  subst g6
  rw [e5] at d4
  have d5 : its3 = its2.toArray := by
    injection d4
  subst d5
  have d6 : (l :: ls)[i] = PySem.W.minOf l ls := intsAre_inj rv2.ints (by simpa using e6)
  exact ⟨.ref p, H, I.kept hk, rfl, q i p ex (by rw [List.getElem?_eq_getElem hlt, d6])⟩
theorem listLt_lex : ∀ (a b : List Nat), a.length = b.length → PySem.W.listLt (a.map fun (x : Nat) => (x : Int)) (b.map fun (x : Nat) => (x : Int)) = Krct.lexLess a b
  | [], [], _ => rfl
  | [], _ :: _, h => by cases h
  | _ :: _, [], h => by cases h
  | x :: a, y :: b, h => by
    have ih := listLt_lex a b (by simpa using h)
    rw [List.map_cons, List.map_cons]
    unfold PySem.W.listLt Krct.lexLess
    rw [ih]
    by_cases c : x = y
    · subst c
      rw [if_pos rfl]
      simp
    · rw [if_neg (by omega)]
      show decide ((x : Int) < (y : Int)) = _
      have : (x == y) = false := by simpa using c
      rw [this]
      simp
theorem minOf_least {n : Nat} : ∀ (ls : List (List Nat)) (l : List Nat), l.length = n → (∀ k ∈ ls, k.length = n) →
    PySem.W.minOf (l.map fun (x : Nat) => (x : Int)) (ls.map fun k => k.map fun (x : Nat) => (x : Int)) = (Gs.leastFold l ls).map fun (x : Nat) => (x : Int)
  | [], _, _, _ => rfl
  | k :: ls, l, hl, hk => by
    have k1 := hk k (List.mem_cons_self ..)
    have e : PySem.W.minOf (l.map fun (x : Nat) => (x : Int)) ((k :: ls).map fun k => k.map fun (x : Nat) => (x : Int)) = PySem.W.minOf ((if Krct.lexLess k l then k else l).map fun (x : Nat) => (x : Int)) (ls.map fun k => k.map fun (x : Nat) => (x : Int)) := by
      unfold PySem.W.minOf
      rw [List.map_cons, List.foldl_cons]
      congr 1
      show (if PySem.W.listLt (k.map fun (x : Nat) => (x : Int)) (l.map fun (x : Nat) => (x : Int)) = true then _ else _) = _
      rw [listLt_lex k l (by omega)]
      split <;> rfl
    rw [e, minOf_least ls _ (by split <;> assumption) fun j hj => hk j (List.mem_cons_of_mem _ hj)]
    rfl

/-! ## name_of -/
def sp_name_of (C : Addr) : Sp := fun vs H Q _ => ∃ (g : Krct.Glued) (v : V), vs = [v] ∧ IsS C H v g ∧ Gs.Ok g ∧ Ret (fun v H => IsV H v (nl ((Krct.name g).east ++ (Krct.name g).north))) H Q
theorem ok_name_of (A : All K mg) : FnOk P w K mg base CX0 3 A.d_name_of.f A.d_name_of.fd ["surface"] (sp_name_of A.C_Surface) := by
  refine A.d_name_of.fn.ok sc_name_of (fun vs H Q E h => ?_) (fun cdv Ar outer s H vs Q E hr h => ⟨_, pss_cons (ps_set (i := 1) sc_name_of.nd rfl (.inl rfl) (pe_lst pa_nil))
      (pss_cons (ps_for PassesOwn.never rfl (pi_range1 rfl A.r_range (pa_cons (pe_callB call_len_seq rfl A.r_len PySem.boot_len (pa_cons (pe_fld (pv 0) rfl) pa_nil)) pa_nil)) (pg_name (i := 2) sc_name_of.nd rfl (.inl rfl))
        (pss_one (ps_expr (pe_bm PySem.F.plainAttrs_list PySem.F.slot_list_append PySem.F.type_list_append mt_append (pv 1) (pa_cons (pe_call (ok_told_in_order A) (hr.mono (by decide)) rfl A.d_told_in_order.g A.d_told_in_order.fn.kp A.d_told_in_order.b .nil pass0 (pa_cons (pv 0) (pa_cons (pe_call (ok_order_from A) (hr.mono (by decide)) rfl A.d_order_from.g A.d_order_from.fn.kp A.d_order_from.b .nil pass0 (pa_cons (pv 0) (pa_cons (pv 2) pa_nil))) pa_nil))) pa_nil)))))
      (pss_one (ps_ret (pe_callB (cr_minL rfl (hr.units)) rfl A.r_min (by decide +kernel) (pa_cons (pv 1) pa_nil))))), ?_⟩)
  · obtain ⟨g, v, rfl, _⟩ := h
    rfl
  · obtain ⟨g, v, rfl, hv, o, k⟩ := h
    have lE : g.east.length = g.n := o.ea.len
    have six := o.six
    refine q_asgL (el_lst ea_nil (by decide)) fun pt H1 nt e1 h1 => ?_
    obtain ⟨pe, f1, g1⟩ := (hv.ex e1).eastern (A := A) (σ := [some v, some (.ref pt), none]) (te := tVar 0) (ev_var rfl)
    have l1 := ev_len (K := K) f1 (sq_of g1)
    rw [nl_len, lE] at l1
    refine q_forR1 (n := (g.n : Int)) (ea_cons l1 ea_nil) (by omega) (fun i σ' H' => ∃ x vs, σ' = [some v, some (.ref pt), x] ∧ Ex H H' ∧ H' pt = some (.lst vs) ∧ RowsAt [pt] H' vs ((List.range i).map (Gs.tellIn g)))
      (fun H2 e2 => ⟨none, [], rfl, e1.trans e2, e2 _ _ h1, ⟨rfl, fun i r hr => by simp at hr⟩⟩) ?_ ?_
    · rintro i σ' H' hi ⟨x, vs, rfl, e2, h2, h3⟩
      have hi' : i < g.n := by omega
      have hlen := h3.len
      rw [List.length_map, List.length_range] at hlen
      refine s_appL (K := K) (ys := nl (Gs.tellIn g i)) h2 (ev_var rfl) ?_ (by omega) fun q H3 hq e3 h4 => ⟨_, _, rfl, Ex.mut (e2.trans e3) nt, upd_same, ?_⟩
      · have oc := order_call (C := A.C_Surface) (ev_var (σ := [some v, some (.ref pt), some (.int (i : Int))]) (i := 0) (H := H') rfl) (ev_var (i := 2) (v := .int (i : Int)) rfl) (hv.ex e2) o.two hi'
        intro H4 e4 Q4 q4
        refine ⟨v, rfl, oc H4 e4 _ fun po H5 hpo e5 h5 => ?_⟩
        refine ⟨g, Krct.orderFrom g i, v, .ref po, rfl, hv.ex ((e2.trans e4).trans e5), ⟨po, rfl, h5⟩, o.two, o.order_pm hi', fun p H6 hp e6 h6 => q4 p H6 (fresh_back e5 hp) (e5.trans e6) h6⟩
      · rw [List.range_succ, List.map_append]
        have nq : q ∉ [pt] := fun z => by
          rw [List.mem_singleton.mp z, h2] at hq
          cases hq
        exact ((h3.ex e3).push nq h4).old (by simp)
    · rintro σ' H' ⟨x, vs, rfl, e2, h2, h3⟩
      have tn : ((g.n : Int)).toNat = g.n := by simp
      rw [tn] at h3
      have hlen := h3.len
      rw [List.length_map, List.length_range] at hlen
      have pos := o.pos
      have er : List.range g.n = 0 :: (List.range (g.n - 1)).map (· + 1) := by
        have : g.n = (g.n - 1) + 1 := by omega
        rw [this, List.range_succ_eq_map]
        rfl
      let ci : List Nat → List Int := fun l => l.map fun (x : Nat) => (x : Int)
      have em : PySem.W.minOf (ci (Gs.tellIn g 0)) (((List.range (g.n - 1)).map fun s => Gs.tellIn g (s + 1)).map ci) = ci ((Krct.name g).east ++ (Krct.name g).north) := by
        rw [o.name_rest]
        refine minOf_least (n := 2 * g.n) _ _ (o.tellIn_len (by omega)) fun j hj => ?_
        obtain ⟨s, hs, rfl⟩ := List.mem_map.mp hj
        have := List.mem_range.mp hs
        exact o.tellIn_len (by omega)
      have ec : ci (Gs.tellIn g 0) :: ((List.range (g.n - 1)).map fun s => Gs.tellIn g (s + 1)).map ci = ((List.range g.n).map (Gs.tellIn g)).map ci := by
        rw [er, List.map_cons, List.map_cons, List.map_map, List.map_map, List.map_map]
        rfl
      refine ⟨_, rfl, pt, vs, ci (Gs.tellIn g 0), ((List.range (g.n - 1)).map fun s => Gs.tellIn g (s + 1)).map ci, rfl, sq_of h2, ?_, fun i r hr => ?_, fun i q hq hr => ?_⟩
      · rw [hlen]
        simp
        omega
      · rw [ec, List.getElem?_map] at hr
        cases c : ((List.range g.n).map (Gs.tellIn g))[i]? with
        | none =>
          rw [c] at hr
          cases hr
        | some t =>
          rw [c] at hr
          have hr := Option.some.inj hr
          obtain ⟨q, a, b, d⟩ := h3.at_ i t c
          refine ⟨q, a, sq_of ?_⟩
          rw [d, nl_il, ← hr]
      · rw [em, ec, List.getElem?_map] at hr
        cases c : ((List.range g.n).map (Gs.tellIn g))[i]? with
        | none =>
          rw [c] at hr
          cases hr
        | some t =>
          rw [c] at hr
          have hr := Option.some.inj hr
          obtain ⟨q', a, b, d⟩ := h3.at_ i t c
          rw [hq] at a
          have a := V.ref.inj (Option.some.inj a)
          subst a
          refine k _ H' e2 ⟨q, rfl, ?_⟩
          rw [d, nl_il, nl_il]
          exact congrArg (fun z => some (HO.lst (il z))) hr
end
end Gw
namespace Gw
open PySem PySem.Spec PyProof.Rows L2 Evl
section
variable {P : Program} {w : World} {K : PySem.W.Frag} {mg : Str → Option Value} {base : Heap}
/-! ## sheared, sheared_back, turned -/
/-- list(surface.eastern) -/
theorem el_copyE {A : All K mg} {σ : L2.St} {H : Hp} {v : V} {g : Krct.Glued} {te : TE} (h : IsS A.C_Surface H v g) (he : Ev te σ H v) : EvL (tCB (rListS K) (tCons (tFld K te "eastern") tNil)) σ H (nl g.east) := by
  obtain ⟨pe, f1, g1⟩ := h.eastern (A := A) he
  exact el_list f1 (sq_of g1)
theorem after_nl {l k : List Nat} : nl (Krct.after l k) = (List.range l.length).map fun i => V.int ((Krct.to k (Krct.to l i) : Nat) : Int) := map_nl
def sp_sheared (C : Addr) : Sp := fun vs H Q _ => ∃ (g : Krct.Glued) (v : V), vs = [v] ∧ IsS C H v g ∧ Gs.Ok g ∧ Ret (fun v H => IsS C H v (Krcu.shear g)) H Q
theorem ok_sheared (A : All K mg) : FnOk P w K mg base CX0 3 A.d_sheared.f A.d_sheared.fd ["surface"] (sp_sheared A.C_Surface) := by
  refine A.d_sheared.fn.ok sc_sheared (fun vs H Q E h => ?_) (fun cdv Ar outer s H vs Q E hr h => ⟨_, pss_cons (ps_set (i := 1) sc_sheared.nd rfl (.inl rfl) (pe_call (ok_backward A) (hr.mono (by decide)) rfl A.d_backward.g A.d_backward.fn.kp A.d_backward.b .nil pass0 (pa_cons (pe_fld (pv 0) rfl) pa_nil)))
      (pss_one (ps_ret (pe_make A.m_Surface (ok_init_Surface A) (hr.mono (by decide)) rfl A.g_Surface A.b_Surface .nil pass0 (pa_cons (pe_callTy call_list_of rfl A.r_list (by decide +kernel) (pa_cons (pe_fld (pv 0) rfl) pa_nil)) (pa_cons (pe_lc (own := [("square", 2)]) (g := gName 2) (tt := tYes) (te := (tOp (rIxL K) (tFld K (tVar 0) "northern") (tVar 2))) rfl sc_sheared.nd (pi_list (pv 1)) (blkOk_by (N := ["surface", "western", "square"]) (sc := defScope s_sheared) (by decide +kernel)) (fun _ _ _ _ _ => pg_name (i := 2) sc_sheared.nd rfl (.inl rfl)) (fun _ _ _ _ _ => pts_nil) (fun _ _ _ _ _ => (pe_ix ix_list (pe_fld (pv 0) rfl) (pv 2) (fun _ _ => rfl)))) pa_nil))))), ?_⟩)
  · obtain ⟨g, v, rfl, _⟩ := h
    rfl
  · obtain ⟨g, v, rfl, hv, o, k⟩ := h
    have lN : g.north.length = g.n := o.no.len
    have six := o.six
    obtain ⟨pe, f1, g1⟩ := hv.eastern (A := A) (σ := L2.start ["surface", "western", "square"] [v]) (te := tVar 0) (ev_var rfl)
    refine q_asgL (backward_call f1 g1 o.ea o.six) fun pw H1 nw e1 h1 => ?_
    refine s_retP (ep_surface (g := Krcu.shear g) (EvP.ofL (el_copyE (A := A) (hv.ex e1) (ev_var rfl))) fun v' H2 e2 hv' => ?_) fun v' H2 e2 hs => k v' H2 (e1.trans e2) hs
    obtain ⟨pe', rfl, he'⟩ := hv'
    refine (EvP.ofL (el_lcP (K := K) (n := g.n) (fun i => V.int ((Krct.to g.north (Krct.to (Krct.inverse g.n g.east) i) : Nat) : Int)) (EvP.of (ev_var (v := .ref pw) rfl)) (by omega) (fun x => rfl) fun v' H3 e3 hv' => ?_)).imp fun v' H3 e3 ⟨q, hv', hq⟩ => ⟨pe', q, rfl, hv', e3 _ _ he', ?_⟩
    · subst hv'
      refine ⟨pw, _, rfl, sq_of ((e2.trans e3) _ _ h1), by rw [nl_len, Gs.len_inverse], fun i x H4 hx e4 => ?_⟩
      have hi : i < (Krct.inverse g.n g.east).length := by
        have := (List.getElem?_eq_some_iff.mp hx).1
        rwa [nl_len] at this
      rw [nl_to hi] at hx
      have hx := Option.some.inj hx
      subst hx
      rw [Gs.len_inverse] at hi
      obtain ⟨pn', f4, g4⟩ := (hv.ex (e1.trans (e2.trans (e3.trans e4)))).northern (A := A) (σ := [some v, some (.ref pw), some (.int (Krct.to (Krct.inverse g.n g.east) i : Int))]) (te := tVar 0) (ev_var rfl)
      exact ev_sq f4 (ev_var rfl) g4 (by rw [lN, Gs.to_inverse hi]; exact o.ea.from_lt hi)
    · rw [hq]
      have := after_nl (l := Krct.inverse g.n g.east) (k := g.north)
      rw [Gs.len_inverse] at this
      exact congrArg (fun z => some (HO.lst z)) this.symm
def sp_sheared_back (C : Addr) : Sp := fun vs H Q _ => ∃ (g : Krct.Glued) (v : V), vs = [v] ∧ IsS C H v g ∧ Gs.Ok g ∧ Ret (fun v H => IsS C H v (Krcu.unshear g)) H Q
theorem ok_sheared_back (A : All K mg) : FnOk P w K mg base CX0 3 A.d_sheared_back.f A.d_sheared_back.fd ["surface"] (sp_sheared_back A.C_Surface) := by
  refine A.d_sheared_back.fn.ok sc_sheared_back (fun vs H Q E h => ?_) (fun cdv Ar outer s H vs Q E hr h => ⟨_, pss_one (ps_ret (pe_make A.m_Surface (ok_init_Surface A) (hr.mono (by decide)) rfl A.g_Surface A.b_Surface .nil pass0 (pa_cons (pe_callTy call_list_of rfl A.r_list (by decide +kernel) (pa_cons (pe_fld (pv 0) rfl) pa_nil)) (pa_cons (pe_lc (own := [("square", 1)]) (g := gName 1) (tt := tYes) (te := (tOp (rIxL K) (tFld K (tVar 0) "northern") (tVar 1))) rfl sc_sheared_back.nd (pi_list (pe_fld (pv 0) rfl)) (blkOk_by (N := ["surface", "square"]) (sc := defScope s_sheared_back) (by decide +kernel)) (fun _ _ _ _ _ => pg_name (i := 1) sc_sheared_back.nd rfl (.inl rfl)) (fun _ _ _ _ _ => pts_nil) (fun _ _ _ _ _ => (pe_ix ix_list (pe_fld (pv 0) rfl) (pv 1) (fun _ _ => rfl)))) pa_nil)))), ?_⟩)
  · obtain ⟨g, v, rfl, _⟩ := h
    rfl
  · obtain ⟨g, v, rfl, hv, o, k⟩ := h
    have lE : g.east.length = g.n := o.ea.len
    have lN : g.north.length = g.n := o.no.len
    have six := o.six
    refine s_retP (ep_surface (g := Krcu.unshear g) (EvP.ofL (el_copyE (A := A) hv (ev_var rfl))) fun v' H2 e2 hv' => ?_) fun v' H2 e2 hs => k v' H2 e2 hs
    obtain ⟨pe', rfl, he'⟩ := hv'
    obtain ⟨pe, f1, g1⟩ := (hv.ex e2).eastern (A := A) (σ := L2.start ["surface", "square"] [v]) (te := tVar 0) (ev_var rfl)
    refine (EvP.ofL (el_lcP (K := K) (n := g.n) (fun i => V.int ((Krct.to g.north (Krct.to g.east i) : Nat) : Int)) (EvP.of f1) (by omega) (fun x => rfl) fun v' H3 e3 hv' => ?_)).imp fun v' H3 e3 ⟨q, hv', hq⟩ => ⟨pe', q, rfl, hv', e3 _ _ he', ?_⟩
    · subst hv'
      refine ⟨pe, _, rfl, sq_of (e3 _ _ g1), by rw [nl_len, lE], fun i x H4 hx e4 => ?_⟩
      have hi : i < g.east.length := by
        have := (List.getElem?_eq_some_iff.mp hx).1
        rwa [nl_len] at this
      rw [nl_to hi] at hx
      have hx := Option.some.inj hx
      subst hx
      rw [lE] at hi
      obtain ⟨pn', f4, g4⟩ := (hv.ex (e2.trans (e3.trans e4))).northern (A := A) (σ := [some v, some (.int (Krct.to g.east i : Int))]) (te := tVar 0) (ev_var rfl)
      exact ev_sq f4 (ev_var rfl) g4 (by rw [lN]; exact o.ea.to_lt hi)
    · rw [hq]
      have := after_nl (l := g.east) (k := g.north)
      rw [lE] at this
      exact congrArg (fun z => some (HO.lst z)) this.symm
def sp_turned (C : Addr) : Sp := fun vs H Q _ => ∃ (g : Krct.Glued) (v : V), vs = [v] ∧ IsS C H v g ∧ Gs.Ok g ∧ Ret (fun v H => IsS C H v (Krcu.turn g)) H Q
theorem ok_turned (A : All K mg) : FnOk P w K mg base CX0 3 A.d_turned.f A.d_turned.fd ["surface"] (sp_turned A.C_Surface) := by
  refine A.d_turned.fn.ok sc_turned (fun vs H Q E h => ?_) (fun cdv Ar outer s H vs Q E hr h => ⟨_, pss_one (ps_ret (pe_make A.m_Surface (ok_init_Surface A) (hr.mono (by decide)) rfl A.g_Surface A.b_Surface .nil pass0 (pa_cons (pe_call (ok_backward A) (hr.mono (by decide)) rfl A.d_backward.g A.d_backward.fn.kp A.d_backward.b .nil pass0 (pa_cons (pe_fld (pv 0) rfl) pa_nil)) (pa_cons (pe_callTy call_list_of rfl A.r_list (by decide +kernel) (pa_cons (pe_fld (pv 0) rfl) pa_nil)) pa_nil)))), ?_⟩)
  · obtain ⟨g, v, rfl, _⟩ := h
    rfl
  · obtain ⟨g, v, rfl, hv, o, k⟩ := h
    obtain ⟨pn, f1, g1⟩ := hv.northern (A := A) (σ := L2.start ["surface"] [v]) (te := tVar 0) (ev_var rfl)
    refine s_retP (ep_surface (g := Krcu.turn g) (EvP.ofL (backward_call f1 g1 o.no o.six)) fun v' H2 e2 hv' => ?_) fun v' H2 e2 hs => k v' H2 e2 hs
    obtain ⟨pe', rfl, he'⟩ := hv'
    exact (EvP.ofL (el_copyE (A := A) (hv.ex e2) (ev_var rfl))).imp fun v' H3 e3 ⟨q, hv', hq⟩ => ⟨pe', q, rfl, hv', e3 _ _ he', hq⟩

/-! ## sheared_back_often -/
theorem q_forI {σ : L2.St} {H : Hp} {ta : TA} {j : Nat} {n : Int} {tu tz : TS} {D : Ends} (h : EvA ta σ H [.int n]) (hn : -100000 ≤ n ∧ n ≤ 100000) (Pv : Nat → L2.St → Hp → Prop) (h0 : ∀ H1, Ex H H1 → Pv 0 σ H1)
    (hs : ∀ (i : Nat) σ' H', i < n.toNat → Pv i σ' H' → tu { D with nx := Pv (i + 1), ct := Pv (i + 1), bk := tz D } (σ'.set j (some (.int (i : Int)))) H') (hd : ∀ σ' H', Pv n.toNat σ' H' → tz D σ' H') : tSeq (tFor (iRng1 ta) (gName j) tu) tz D σ H :=
  h H (Ex.refl H) _ fun H1 e => ⟨n, rfl, by omega, by omega, for_range (D := { D with nx := tz D }) (lo := 0) (n := n.toNat) Pv (h0 H1 e) (fun i σ' H' hi p => by
    have e0 : (0 : Int) + (i : Int) = (i : Int) := Int.zero_add _
    show tu { D with nx := Pv (i + 1), ct := Pv (i + 1), bk := tz D } (σ'.set j (some (.int ((0 : Int) + (i : Int))))) H'
    rw [e0]
    exact hs i σ' H' hi p) hd⟩
theorem surf_call {C : Addr} {f : Krct.Glued → Krct.Glued} {σ : L2.St} {H : Hp} {te : TE} {g : Krct.Glued} {P1 : V → Hp → Prop} {sp : Sp} (hsp : ∀ v H Q, IsS C H v g → Ret (fun v H => IsS C H v (f g)) H Q → sp [v] H Q E0) (ha : EvP te σ H P1) (hP : ∀ v H1, Ex H H1 → P1 v H1 → IsS C H1 v g) : EvP (tCall sp [] E0 (tCons te tNil)) σ H fun v H => IsS C H v (f g) :=
  ep_call (eap_one ha) fun vs H1 e ⟨v, hv, hp⟩ Q q => by
    subst hv
    exact hsp v H1 Q (hP v H1 e hp) q
theorem shear_call {C : Addr} {σ : L2.St} {H : Hp} {te : TE} {g : Krct.Glued} (o : Gs.Ok g) (ha : EvP te σ H fun v H => IsS C H v g) : EvP (tCall (sp_sheared C) [] E0 (tCons te tNil)) σ H fun v H => IsS C H v (Krcu.shear g) :=
  surf_call (fun v H Q hs q => ⟨g, v, rfl, hs, o, q⟩) ha fun _ _ _ p => p
theorem unshear_call {C : Addr} {σ : L2.St} {H : Hp} {te : TE} {g : Krct.Glued} (o : Gs.Ok g) (ha : EvP te σ H fun v H => IsS C H v g) : EvP (tCall (sp_sheared_back C) [] E0 (tCons te tNil)) σ H fun v H => IsS C H v (Krcu.unshear g) :=
  surf_call (fun v H Q hs q => ⟨g, v, rfl, hs, o, q⟩) ha fun _ _ _ p => p
theorem turn_call {C : Addr} {σ : L2.St} {H : Hp} {te : TE} {g : Krct.Glued} (o : Gs.Ok g) (ha : EvP te σ H fun v H => IsS C H v g) : EvP (tCall (sp_turned C) [] E0 (tCons te tNil)) σ H fun v H => IsS C H v (Krcu.turn g) :=
  surf_call (fun v H Q hs q => ⟨g, v, rfl, hs, o, q⟩) ha fun _ _ _ p => p
theorem EvP.var {C : Addr} {σ : L2.St} {H : Hp} {i : Nat} {v : V} {g : Krct.Glued} (hσ : σ[i]? = some (some v)) (h : IsS C H v g) : EvP (tVar i) σ H fun v H => IsS C H v g :=
  (EvP.of (ev_var hσ)).imp fun v' H1 e hv => by
    rw [hv]
    exact h.ex e
def sp_sheared_back_often (C : Addr) : Sp := fun vs H Q _ => ∃ (g : Krct.Glued) (v : V) (m : Int), vs = [v, .int m] ∧ IsS C H v g ∧ Gs.Ok g ∧ (-1000 ≤ m ∧ m ≤ 1000) ∧ Ret (fun v H => IsS C H v (Gs.often m g)) H Q
theorem ok_sheared_back_often (A : All K mg) : FnOk P w K mg base CX0 4 A.d_sheared_back_often.f A.d_sheared_back_often.fd ["surface", "many"] (sp_sheared_back_often A.C_Surface) := by
  refine A.d_sheared_back_often.fn.ok sc_sheared_back_often (fun vs H Q E h => ?_) (fun cdv Ar outer s H vs Q E hr h => ⟨_, pss_cons (ps_set (i := 2) sc_sheared_back_often.nd rfl (.inl rfl) (pv 0))
      (pss_cons (ps_for PassesOwn.never rfl (pi_range1 rfl A.r_range (pa_cons (pv 1) pa_nil)) (pg_name (i := 3) sc_sheared_back_often.nd rfl (.inl rfl))
        (pss_one (ps_set (i := 2) sc_sheared_back_often.nd rfl (.inl rfl) (pe_call (ok_sheared_back A) (hr.mono (by decide)) rfl A.d_sheared_back.g A.d_sheared_back.fn.kp A.d_sheared_back.b .nil pass0 (pa_cons (pv 2) pa_nil)))))
      (pss_cons (ps_for PassesOwn.never rfl (pi_range1 rfl A.r_range (pa_cons (pe_un un_neg (pv 1)) pa_nil)) (pg_name (i := 3) sc_sheared_back_often.nd rfl (.inl rfl))
        (pss_one (ps_set (i := 2) sc_sheared_back_often.nd rfl (.inl rfl) (pe_call (ok_sheared A) (hr.mono (by decide)) rfl A.d_sheared.g A.d_sheared.fn.kp A.d_sheared.b .nil pass0 (pa_cons (pv 2) pa_nil)))))
      (pss_one (ps_ret (pv 2))))), ?_⟩)
  · obtain ⟨g, v, m, rfl, _⟩ := h
    rfl
  · obtain ⟨g, v, m, rfl, hv, o, hm, k⟩ := h
    refine q_asg (ev_var rfl) fun H1 e1 => ?_
    refine q_forI (n := m) (ea_cons (ev_var rfl) ea_nil) (by omega) (fun i σ' H' => ∃ x y, σ' = [some v, some (.int m), some x, y] ∧ Ex H H' ∧ IsS A.C_Surface H' x (Krcu.times Krcu.unshear i g))
      (fun H2 e2 => ⟨v, none, rfl, e1.trans e2, hv.ex (e1.trans e2)⟩) ?_ ?_
    · rintro i σ' H' hi ⟨x, y, rfl, e2, hx⟩
      refine s_asgP (unshear_call (C := A.C_Surface) (Gs.times_ok (fun _ h => h.unshear) i g o) (EvP.var rfl hx)) fun v' H2 e3 hv' => ⟨v', _, rfl, e2.trans e3, ?_⟩
      rw [Gs.times_succ]
      exact hv'
    · rintro σ' H' ⟨x, y, rfl, e2, hx⟩
      have o1 := Gs.times_ok (fun _ h => h.unshear) m.toNat g o
      refine q_forI (n := -m) (ea_cons (ev_un (ev_var rfl) ru_neg) ea_nil) (by omega) (fun i σ' H' => ∃ x y, σ' = [some v, some (.int m), some x, y] ∧ Ex H H' ∧ IsS A.C_Surface H' x (Krcu.times Krcu.shear i (Krcu.times Krcu.unshear m.toNat g)))
        (fun H2 e3 => ⟨x, y, rfl, e2.trans e3, hx.ex e3⟩) ?_ ?_
      · rintro i σ' H' hi ⟨x, y, rfl, e2, hx⟩
        refine s_asgP (shear_call (C := A.C_Surface) (Gs.times_ok (fun _ h => h.shear) i _ o1) (EvP.var rfl hx)) fun v' H2 e3 hv' => ⟨v', _, rfl, e2.trans e3, ?_⟩
        rw [Gs.times_succ]
        exact hv'
      · rintro σ' H' ⟨x, y, rfl, e3, hx⟩
        refine s_ret (ev_var rfl) fun H2 e4 => k x H2 (e3.trans e4) ?_
        have ee : Krcu.times Krcu.shear (-m).toNat (Krcu.times Krcu.unshear m.toNat g) = Gs.often m g := by
          unfold Gs.often
          by_cases c : 0 ≤ m
          · rw [if_pos c]
            have : (-m).toNat = 0 := by omega
            rw [this]
            rfl
          · rw [if_neg c]
            have : m.toNat = 0 := by omega
            rw [this]
            rfl
        rw [ee] at hx
        exact hx.ex e4
theorem often_call {C : Addr} {σ : L2.St} {H : Hp} {te tf : TE} {g : Krct.Glued} {m : Int} (o : Gs.Ok g) (hm : -1000 ≤ m ∧ m ≤ 1000) {v : V} (ha : Ev te σ H v) (hv : IsS C H v g) (hb : Ev tf σ H (.int m)) : EvP (tCall (sp_sheared_back_often C) [] E0 (tCons te (tCons tf tNil))) σ H fun v H => IsS C H v (Gs.often m g) :=
  ep_callA (ea_cons ha (ea_cons hb ea_nil)) fun H1 e Q q => ⟨g, v, m, rfl, hv.ex e, o, hm, q⟩

/-! ## common_part, is_direction -/
def sp_common_part : Sp := fun vs H Q _ => ∃ (a b : Nat), vs = [.int (a : Int), .int (b : Int)] ∧ RetV (.int (Nat.gcd a b : Int)) H Q
theorem ok_common_part (A : All K mg) : FnOk P w K mg base CX0 1 A.d_common_part.f A.d_common_part.fd ["one", "other"] sp_common_part := by
  refine A.d_common_part.fn.ok sc_common_part (fun vs H Q E h => ?_) (fun cdv Ar outer s H vs Q E hr h => ⟨_, pss_cons (ps_while PassesOwn.never (pt_cmpR op_ne (pv 1) pe_int (nomark _))
        (pss_cons (ps_set (i := 2) sc_common_part.nd rfl (.inl rfl) (pe_op op_mod (pv 0) (pv 1)))
          (pss_cons (ps_set (i := 0) sc_common_part.nd rfl (.inl rfl) (pv 1))
          (pss_one (ps_set (i := 1) sc_common_part.nd rfl (.inl rfl) (pv 2))))))
      (pss_one (ps_ret (pv 0))), ?_⟩)
  · obtain ⟨a, b, rfl, _⟩ := h
    rfl
  · obtain ⟨a, b, rfl, k⟩ := h
    refine q_while (fun m σ' H' => ∃ (x : Nat) (z : Option V), σ' = [some (.int (x : Int)), some (.int (m : Int)), z] ∧ Ex H H' ∧ Nat.gcd x m = Nat.gcd a b) b ⟨a, none, rfl, Ex.refl H, rfl⟩ ?_
    rintro m σ' H' ⟨x, z, rfl, e1, hg⟩
    refine ⟨!decide (V.int (m : Int) = V.int 0), et_test (ev_op (ev_var rfl) ev_c (rv_ne rfl)), fun hb H2 e2 => ?_, fun hb H2 e2 => ?_⟩
    · have hm : m ≠ 0 := by
        intro z
        subst z
        simp at hb
      refine ⟨_, fun σ2 H2 hN => ⟨x % m, Nat.mod_lt _ (by omega), hN⟩, ?_⟩
      refine q_asg (ev_op (ev_var rfl) (ev_var rfl) (rv_I (by show (0 : Int) < m; omega))) fun H3 e3 => ?_
      refine q_asg (ev_var rfl) fun H4 e4 => ?_
      refine s_asg (ev_var (v := .int ((x % m : Nat) : Int)) rfl) fun H5 e5 => ⟨m, _, rfl, (((e1.trans e2).trans e3).trans e4).trans e5, ?_⟩
      rw [← hg, Nat.gcd_comm m, ← Nat.gcd_rec, Nat.gcd_comm]
    · have hm : m = 0 := by
        have : V.int (m : Int) = V.int 0 := by simpa using hb
        have := V.int.inj this
        omega
      subst hm
      refine s_ret (ev_var rfl) fun H3 e3 => ?_
      have := k H3 ((e1.trans e2).trans e3)
      rw [← hg, Nat.gcd_zero_right] at this
      exact this
def rAbs : List V → Hp → VK → Prop := fun xs H Q => ∃ i, xs = [.int i] ∧ Q (.int (if i < 0 then -i else i)) H
theorem ev_abs {σ : L2.St} {H : Hp} {ta : TE} {i : Int} (ha : Ev ta σ H (.int i)) : Ev (tCB rAbs (tCons ta tNil)) σ H (.int (i.natAbs : Int)) := fun H1 e Q q =>
  ha H1 e _ fun H2 e2 => ⟨i, rfl, by
    have : (if i < 0 then -i else i) = (i.natAbs : Int) := by split <;> omega
    rw [this]
    exact q H2 e2⟩
def sp_has_no_common_part : Sp := fun vs H Q _ => ∃ (p q : Int), vs = [.int p, .int q] ∧ RetV (.bl (Krcu.coprime p q)) H Q
theorem ok_has_no_common_part (A : All K mg) : FnOk P w K mg base CX0 2 A.d_has_no_common_part.f A.d_has_no_common_part.fd ["p", "q"] sp_has_no_common_part := by
  refine A.d_has_no_common_part.fn.ok sc_has_no_common_part (fun vs H Q E h => ?_) (fun cdv Ar outer s H vs Q E hr h => ⟨_, pss_one (ps_ret (pe_cmpR op_eq (pe_call (ok_common_part A) (hr.mono (by decide)) rfl A.d_common_part.g A.d_common_part.fn.kp A.d_common_part.b .nil pass0 (pa_cons (pe_callB call_abs rfl A.r_abs (by decide +kernel) (pa_cons (pv 0) pa_nil)) (pa_cons (pe_callB call_abs rfl A.r_abs (by decide +kernel) (pa_cons (pv 1) pa_nil)) pa_nil))) pe_int (nomark _))), ?_⟩)
  · obtain ⟨p, q, rfl, _⟩ := h
    rfl
  · obtain ⟨p, q, rfl, k⟩ := h
    refine s_ret (ev_op (x := .int (Nat.gcd p.natAbs q.natAbs : Int)) (ev_call (ea_cons (ev_abs (ev_var rfl)) (ea_cons (ev_abs (ev_var rfl)) ea_nil)) fun H2 e2 Q' q' E' => ⟨p.natAbs, q.natAbs, rfl, q'⟩) ev_c (rv_eq rfl)) fun H2 e2 => ?_
    have := k H2 e2
    have e : Krcu.coprime p q = decide (V.int (Nat.gcd p.natAbs q.natAbs : Int) = V.int 1) := by
      rw [Bool.eq_iff_iff, decide_eq_true_iff]
      unfold Krcu.coprime
      rw [beq_iff_eq]
      constructor
      · intro h
        rw [h]
        rfl
      · intro h
        have := V.int.inj h
        omega
    rw [e] at this
    exact this
def sp_is_direction : Sp := fun vs H Q _ => ∃ (p q : Int), vs = [.int p, .int q] ∧ RetV (.bl (Krcu.dirOk p q)) H Q
theorem ok_is_direction (A : All K mg) : FnOk P w K mg base CX0 3 A.d_is_direction.f A.d_is_direction.fd ["p", "q"] sp_is_direction := by
  refine A.d_is_direction.fn.ok sc_is_direction (fun vs H Q E h => ?_) (fun cdv Ar outer s H vs Q E hr h => ⟨_, pss_cons (ps_if (PW.pt (pw_or (pt_cmpR op_gt (pe_callB call_abs rfl A.r_abs (by decide +kernel) (pa_cons (pv 0) pa_nil)) (pe_glob (v := .int (20)) rfl A.c_GREATEST ⟨_, rfl⟩) (nomark _)) (pw_or1 (pt_cmpR op_gt (pe_callB call_abs rfl A.r_abs (by decide +kernel) (pa_cons (pv 1) pa_nil)) (pe_glob (v := .int (20)) rfl A.c_GREATEST ⟨_, rfl⟩) (nomark _)))))
        (pss_one (ps_ret pe_bl))
        (pss_nil))
      (pss_one (ps_ret (pe_call (ok_has_no_common_part A) (hr.mono (by decide)) rfl A.d_has_no_common_part.g A.d_has_no_common_part.fn.kp A.d_has_no_common_part.b .nil pass0 (pa_cons (pv 0) (pa_cons (pv 1) pa_nil))))), ?_⟩)
  · obtain ⟨p, q, rfl, _⟩ := h
    rfl
  · obtain ⟨p, q, rfl, k⟩ := h
    refine q_when (et_or (a := decide ((20 : Int) < (p.natAbs : Int))) (b := decide ((20 : Int) < (q.natAbs : Int))) (et_test (ev_op (ev_abs (ev_var rfl)) ev_c rv_I0)) fun _ => et_test (ev_op (ev_abs (ev_var rfl)) ev_c rv_I0)) (fun hb H1 e1 => ?_) (fun hb H1 e1 => ?_)
    · refine s_ret ev_c fun H2 e2 => ?_
      have := k H2 (e1.trans e2)
      have e : Krcu.dirOk p q = false := by
        rw [Bool.or_eq_true, decide_eq_true_iff, decide_eq_true_iff] at hb
        unfold Krcu.dirOk Krcu.mostDir
        apply Bool.eq_false_iff.mpr
        intro h
        simp only [Bool.and_eq_true, decide_eq_true_iff] at h
        omega
      rw [e] at this
      exact this
    · rw [Bool.or_eq_false_iff, decide_eq_false_iff_not, decide_eq_false_iff_not] at hb
      refine s_ret (v := .bl (Krcu.coprime p q)) (ev_call (ea_cons (ev_var rfl) (ea_cons (ev_var rfl) ea_nil)) fun H2 e2 Q' q' E' => ⟨p, q, rfl, q'⟩) fun H2 e2 => ?_
      have := k H2 (e1.trans e2)
      have e : Krcu.dirOk p q = Krcu.coprime p q := by
        rw [Bool.eq_iff_iff]
        unfold Krcu.dirOk Krcu.mostDir
        simp only [Bool.and_eq_true, decide_eq_true_iff]
        constructor
        · intro h
          exact h.2
        · intro h
          exact ⟨⟨⟨⟨by omega, by omega⟩, by omega⟩, by omega⟩, h⟩
      rw [e] at this
      exact this

/-! ## laid -/
theorem fdiv_small : ∀ p q : Int, (-20 ≤ p ∧ p ≤ 20) → (-20 ≤ q ∧ q ≤ 20) → -1000 ≤ p.fdiv q ∧ p.fdiv q ≤ 1000 := by
  have key : ∀ a ∈ List.range 41, ∀ b ∈ List.range 41, (-1000 ≤ ((a : Int) - 20).fdiv ((b : Int) - 20) ∧ ((a : Int) - 20).fdiv ((b : Int) - 20) ≤ 1000) := by decide +kernel
  intro p q hp hq
  have := key (p + 20).toNat (List.mem_range.mpr (by omega)) (q + 20).toNat (List.mem_range.mpr (by omega))
  have e1 : (((p + 20).toNat : Nat) : Int) - 20 = p := by omega
  have e2 : (((q + 20).toNat : Nat) : Int) - 20 = q := by omega
  rw [e1, e2] at this
  exact this
def sp_laid (C : Addr) : Sp := fun vs H Q _ => ∃ (g : Krct.Glued) (v : V) (p q : Int), vs = [v, .int p, .int q] ∧ IsS C H v g ∧ Gs.Ok g ∧ (-20 ≤ p ∧ p ≤ 20) ∧ (-20 ≤ q ∧ q ≤ 20) ∧ Ret (fun v H => IsS C H v (Krcu.laid g p q)) H Q
theorem ok_laid (A : All K mg) : FnOk P w K mg base CX0 5 A.d_laid.f A.d_laid.fd ["surface", "p", "q"] (sp_laid A.C_Surface) := by
  refine A.d_laid.fn.ok sc_laid (fun vs H Q E h => ?_) (fun cdv Ar outer s H vs Q E hr h => ⟨_, pss_cons (ps_set (i := 3) sc_laid.nd rfl (.inl rfl) (pv 0))
      (pss_cons (ps_while PassesOwn.never (pt_cmpR op_ne (pv 2) pe_int (nomark _))
        (pss_cons (ps_set (i := 4) sc_laid.nd rfl (.inl rfl) (pe_op op_fdivN (pv 1) (pv 2)))
          (pss_cons (ps_set (i := 5) sc_laid.nd rfl (.inl rfl) (pe_op op_sub (pv 1) (pe_op op_mul (pv 4) (pv 2))))
          (pss_cons (ps_set (i := 3) sc_laid.nd rfl (.inl rfl) (pe_call (ok_turned A) (hr.mono (by decide)) rfl A.d_turned.g A.d_turned.fn.kp A.d_turned.b .nil pass0 (pa_cons (pe_call (ok_sheared_back_often A) (hr.mono (by decide)) rfl A.d_sheared_back_often.g A.d_sheared_back_often.fn.kp A.d_sheared_back_often.b .nil pass0 (pa_cons (pv 3) (pa_cons (pv 4) pa_nil))) pa_nil)))
          (pss_cons (ps_set (i := 1) sc_laid.nd rfl (.inl rfl) (pe_un un_neg (pv 2)))
          (pss_one (ps_set (i := 2) sc_laid.nd rfl (.inl rfl) (pv 5))))))))
      (pss_cons (ps_if (pt_cmpR op_lt (pv 1) pe_int (nomark _))
        (pss_one (ps_set (i := 3) sc_laid.nd rfl (.inl rfl) (pe_call (ok_turned A) (hr.mono (by decide)) rfl A.d_turned.g A.d_turned.fn.kp A.d_turned.b .nil pass0 (pa_cons (pe_call (ok_turned A) (hr.mono (by decide)) rfl A.d_turned.g A.d_turned.fn.kp A.d_turned.b .nil pass0 (pa_cons (pv 3) pa_nil)) pa_nil))))
        (pss_nil))
      (pss_one (ps_ret (pv 3))))), ?_⟩)
  · obtain ⟨g, v, p, q, rfl, _⟩ := h
    rfl
  · obtain ⟨g, v, p0, q0, rfl, hv, o, hp, hq, k⟩ := h
    refine q_asg (ev_var rfl) fun H1 e1 => ?_
    refine q_while (fun m σ' H' => ∃ (g' : Krct.Glued) (x : V) (p q : Int) (y z : Option V), σ' = [some v, some (.int p), some (.int q), some x, y, z] ∧ Ex H H' ∧ IsS A.C_Surface H' x g' ∧ Gs.Ok g' ∧ (-20 ≤ p ∧ p ≤ 20) ∧ (-20 ≤ q ∧ q ≤ 20) ∧ q.natAbs < m ∧ Krcu.lay m p q g' = Krcu.laid g p0 q0)
      40 ⟨g, v, p0, q0, none, none, rfl, e1, hv.ex e1, o, hp, hq, by omega, rfl⟩ ?_
    rintro m σ' H' ⟨g', x, p, q, y, z, rfl, e2, hx, o', hp', hq', hm, hl⟩
    obtain ⟨m, rfl⟩ : ∃ m', m = m' + 1 := ⟨m - 1, by omega⟩
    refine ⟨!decide (V.int q = V.int 0), et_test (ev_op (ev_var rfl) ev_c (rv_ne rfl)), fun hb H3 e3 => ?_, fun hb H3 e3 => ?_⟩
    · have q0 : q ≠ 0 := by
        intro z
        subst z
        simp at hb
      have fs := fdiv_small p q hp' hq'
      have rl := Gs.rest_less (p := p) q0
      refine ⟨_, fun σ2 H2 hN => ⟨m, by omega, hN⟩, ?_⟩
      refine q_asg (ev_op (ev_var rfl) (ev_var rfl) (rv_I ⟨q0, by omega⟩)) fun H4 e4 => ?_
      refine q_asg (ev_op (ev_var rfl) (ev_op (ev_var rfl) (ev_var rfl) (rv_I (Or.inl ⟨by omega, by omega⟩))) rv_I0) fun H5 e5 => ?_
      have e35 := e3.trans (e4.trans e5)
      refine q_asgP (turn_call (C := A.C_Surface) (Gs.often_ok o' _) (often_call (C := A.C_Surface) o' fs (ev_var rfl) (hx.ex e35) (ev_var rfl))) fun x' H6 e6 hx' => ?_
      refine q_asg (ev_un (ev_var rfl) ru_neg) fun H7 e7 => ?_
      refine s_asg (ev_var rfl) fun H8 e8 => ⟨_, x', -q, p - p.fdiv q * q, _, _, rfl, e2.trans (e35.trans (e6.trans (e7.trans e8))), hx'.ex (e7.trans e8), (Gs.often_ok o' _).turn, by omega, by omega, by omega, ?_⟩
      rw [← hl, Gs.lay_more q0]
    · have q0 : q = 0 := by
        have : V.int q = V.int 0 := by simpa using hb
        exact V.int.inj this
      subst q0
      rw [Gs.lay_zero] at hl
      refine q_when (et_test (ev_op (ev_var rfl) ev_c rv_I0)) (fun hb H4 e4 => ?_) (fun hb H4 e4 => ?_)
      · have hlt : p < 0 := of_decide_eq_true hb
        rw [if_pos hlt] at hl
        refine s_asgP (turn_call (C := A.C_Surface) o'.turn (turn_call (C := A.C_Surface) o' (EvP.var rfl (hx.ex (e3.trans e4))))) fun x' H5 e5 hx' => ?_
        refine s_ret (ev_var rfl) fun H6 e6 => k x' H6 (e2.trans (e3.trans (e4.trans (e5.trans e6)))) ?_
        rw [← hl]
        exact hx'.ex e6
      · have hlt : ¬ p < 0 := of_decide_eq_false hb
        rw [if_neg hlt] at hl
        refine s_ret (ev_var rfl) fun H5 e5 => k x H5 (e2.trans (e3.trans (e4.trans e5))) ?_
        rw [← hl]
        exact hx.ex (e3.trans (e4.trans e5))
end
end Gw
namespace Gw
open PySem PySem.Spec PyProof.Rows L2 Evl
section
variable {P : Program} {w : World} {K : PySem.W.Frag} {mg : Str → Option Value} {base : Heap}
/-! ## is_smooth -/
theorem ev_all {σ : L2.St} {H : Hp} {te : TE} {bs : List Bool} (h : EvL te σ H (bls bs)) : Ev (tCB (rAll K) (tCons te tNil)) σ H (.bl (bs.all id)) := fun H1 e Q q =>
  h H1 e _ fun p H2 _ e2 h2 => ⟨p, bs, rfl, sq_of h2, q H2 e2⟩
def sp_is_smooth : Sp := fun vs H Q _ => ∃ (g : Krct.Glued) (r : List Nat) (v u : V), vs = [v, u] ∧ IsV H v (nl r) ∧ IsV H u (nl (Gs.roundL g)) ∧ (∀ x ∈ r, x < g.n) ∧ r.length ≤ 6 ∧ RetV (.bl (Krcu.smooth g r)) H Q
theorem ok_is_smooth (A : All K mg) : FnOk P w K mg base CX0 1 A.d_is_smooth.f A.d_is_smooth.fd ["row", "around"] sp_is_smooth := by
  refine A.d_is_smooth.fn.ok sc_is_smooth (fun vs H Q E h => ?_) (fun cdv Ar outer s H vs Q E hr h => ⟨_, pss_one (ps_ret (pe_callB (cr_all rfl) rfl A.r_all (by decide +kernel) (pa_cons (pe_lc (own := [("square", 2)]) (g := gName 2) (tt := tYes) (te := (tOp rEq (tOp (rIxL K) (tVar 1) (tVar 2)) (tVar 2))) rfl sc_is_smooth.nd (pi_list (pv 0)) (blkOk_by (N := ["row", "around", "square"]) (sc := defScope s_is_smooth) (by decide +kernel)) (fun _ _ _ _ _ => pg_name (i := 2) sc_is_smooth.nd rfl (.inl rfl)) (fun _ _ _ _ _ => pts_nil) (fun _ _ _ _ _ => (pe_cmpR op_eq (pe_ix ix_list (pv 1) (pv 2) (fun _ _ => rfl)) (pv 2) (nomark _)))) pa_nil))), ?_⟩)
  · obtain ⟨g, r, v, u, rfl, _⟩ := h
    rfl
  · obtain ⟨g, r, v, u, rfl, ⟨p, rfl, hp⟩, ⟨q, rfl, hq⟩, hr, hl, k⟩ := h
    have e : (List.range r.length).map (fun i => V.bl (decide (V.int (g.round (Krct.to r i) : Int) = V.int (Krct.to r i : Int)))) = bls (r.map fun s => g.round s == s) := by
      show _ = (r.map _).map _
      rw [List.map_map, map_at r _ 0]
      apply List.map_congr_left
      intro i _
      show V.bl _ = V.bl (g.round (Krct.to r i) == Krct.to r i)
      congr 1
      rw [Bool.eq_iff_iff, decide_eq_true_iff, beq_iff_eq]
      constructor
      · intro h
        have := V.int.inj h
        omega
      · intro h
        rw [h]
    have L := el_lcP (K := K) (σ := L2.start ["row", "around", "square"] [.ref p, .ref q]) (H := H) (te := tOp rEq (tOp (rIxL K) (tVar 1) (tVar 2)) (tVar 2)) (j := 2) (vs := [2]) (n := r.length) (fun i => V.bl (decide (V.int (g.round (Krct.to r i) : Int) = V.int (Krct.to r i : Int)))) (EvP.of (ev_var (i := 0) (v := .ref p) rfl)) (by omega) (fun x => rfl) fun v' H1 e1 hv' => by
      subst hv'
      refine ⟨p, _, rfl, sq_of (e1 _ _ hp), nl_len r, fun i x H2 hx e2 => ?_⟩
      have hi : i < r.length := by
        have := (List.getElem?_eq_some_iff.mp hx).1
        rwa [nl_len] at this
      rw [nl_to hi] at hx
      have hx := Option.some.inj hx
      subst hx
      have lt : Krct.to r i < g.n := by
        rw [Gs.to_eq hi]
        exact hr _ (List.getElem_mem hi)
      have a := ev_sq (K := K) (σ := [some (.ref p), some (.ref q), some (.int (Krct.to r i : Int))]) (ta := tVar 1) (tb := tVar 2) (ev_var rfl) (ev_var rfl) ((e1.trans e2) _ _ hq) (by rw [Gs.roundL_len]; exact lt)
      rw [Gs.to_roundL lt] at a
      exact ev_op a (ev_var rfl) (rv_eq rfl)
    rw [e] at L
    refine s_ret (ev_all (K := K) L) fun H1 e1 => ?_
    have := k H1 e1
    have es : Krcu.smooth g r = (r.map fun s => g.round s == s).all id := by
      unfold Krcu.smooth
      rw [List.all_map]
      rfl
    rw [es] at this
    exact this

/-! ## row_places -/
def sp_row_places : Sp := fun vs H Q _ => ∃ (n : Nat) (f : Nat → Nat) (R : List (List Nat)) (v : V), vs = [v, .int (n : Int)] ∧ IsR H v R ∧ Gs.RingsOk n f n R ∧ Gs.Bij n f ∧ n ≤ 6 ∧ RetL (nl ((List.range n).map (Gs.place R))) H Q
theorem ok_row_places (A : All K mg) : FnOk P w K mg base CX0 1 A.d_row_places.f A.d_row_places.fd ["rows", "many"] sp_row_places := by
  refine A.d_row_places.fn.ok sc_row_places (fun vs H Q E h => ?_) (fun cdv Ar outer s H vs Q E hr h => ⟨_, pss_cons (ps_set (i := 2) sc_row_places.nd rfl (.inl rfl) (pe_op op_rep (pe_lst (pa_cons pe_int pa_nil)) (pv 1)))
      (pss_cons (ps_for PassesOwn.never rfl (pi_range1 rfl A.r_range (pa_cons (pe_callB call_len_seq rfl A.r_len PySem.boot_len (pa_cons (pv 0) pa_nil)) pa_nil)) (pg_name (i := 3) sc_row_places.nd rfl (.inl rfl))
        (pss_one (ps_for PassesOwn.never rfl (pi_list (pe_ix ix_list (pv 0) (pv 3) (fun _ _ => rfl))) (pg_name (i := 4) sc_row_places.nd rfl (.inl rfl))
            (pss_one (ps_asg (pv 3) (pg_sub (pv 2) (pv 4) set_list))))))
      (pss_one (ps_ret (pv 2)))), ?_⟩)
  · obtain ⟨n, f, R, v, rfl, _⟩ := h
    rfl
  · obtain ⟨n, f, R, v, rfl, hv, o, bj, h6, k⟩ := h
    have Rl := o.len_le bj
    obtain ⟨pv_, vs, rfl, hvs, hlen, hrow⟩ := hv
    refine q_asgL (el_rep (k := n) (el_lst (ea_cons ev_c ea_nil) (by decide)) (ev_var rfl) (by show 1 * n ≤ 1000; omega) (by omega)) fun q H1 hq e1 h1 => ?_
    rw [flat_one] at h1
    have ln := ev_len (K := K) (σ := [some (.ref pv_), some (.int (n : Int)), some (.ref q), none, none]) (ta := tVar 0) (ev_var rfl) (sq_of (e1 _ _ hvs))
    rw [hlen] at ln
    refine q_forR1 (n := (R.length : Int)) (ea_cons ln ea_nil) (by omega) (fun i σ' H' => ∃ x y, σ' = [some (.ref pv_), some (.int (n : Int)), some (.ref q), x, y] ∧ Ex H H' ∧ H' q = some (.lst (nl (Gs.plcI n R i)))) (fun H2 e2 => ⟨none, none, rfl, e1.trans e2, ?_⟩) ?_ ?_
    · rw [e2 q _ h1, Gs.plcI_zero, nl, List.map_replicate]
      rfl
    · rintro i σ' H' hi ⟨x, y, rfl, e2, h2⟩
      have hi' : i < R.length := by omega
      have er : R[i]? = some R[i] := List.getElem?_eq_getElem hi'
      obtain ⟨pr, a1, a2⟩ := hrow i _ er
      generalize hc : R[i] = c at a2
      refine s_forLn (K := K) (xs := nl c) (ev_at (K := K) (ev_var rfl) (ev_var rfl) (sq_of (e2 _ _ hvs)) a1) (sq_of (e2 _ _ a2)) (fun j σ' H' => ∃ y, σ' = [some (.ref pv_), some (.int (n : Int)), some (.ref q), some (.int (i : Int)), y] ∧ Ex H H' ∧ H' q = some (.lst (nl (Gs.plcJ n R i (c.take j)))))
        (fun H3 e3 => ⟨y, rfl, e2.trans e3, ?_⟩) (fun j σ' H' _ ⟨y, _, e3, _⟩ => sq_of (e3 _ _ a2)) ?_ ?_
      · rw [List.take_zero, Gs.plcJ_nil]
        exact e3 _ _ h2
      · rintro j x' σ' H' hj ⟨y, rfl, e3, h3⟩
        obtain ⟨z, hz, rfl⟩ : ∃ z, c[j]? = some z ∧ x' = V.int (z : Int) := by
          rw [List.getElem?_map] at hj
          cases hcj : c[j]? with
          | none => rw [hcj] at hj; cases hj
          | some z =>
            rw [hcj] at hj
            exact ⟨z, rfl, (Option.some.inj hj).symm⟩
        have zm : z ∈ R[i] := by
          rw [hc]
          obtain ⟨h, e⟩ := List.getElem?_eq_some_iff.mp hz
          rw [← e]
          exact List.getElem_mem h
        have zn : z < n := o.lt bj hi' zm
        refine s_setL (j := z) h3 (ev_var rfl) (ev_var rfl) (ev_var rfl) (by rw [nl_len, Gs.plcJ_len]; exact zn) fun H4 e4 => ⟨_, rfl, Ex.mut (e3.trans e4) hq, ?_⟩
        rw [nl_set]
        have st := Gs.plcJ_step o hi' (j := j) (x := z) (by rw [hc]; exact hz)
        rw [hc] at st
        rw [st]
        exact upd_same
      · rintro σ' H' ⟨y, rfl, e3, h3⟩
        refine ⟨_, _, rfl, e3, ?_⟩
        rw [nl_len, List.take_length] at h3
        have al := Gs.plcJ_all o hi'
        rw [hc] at al
        rw [al] at h3
        exact h3
    · rintro σ' H' ⟨x, y, rfl, e2, h2⟩
      refine s_ret (ev_var rfl) fun H3 e3 => k q H3 hq (e2.trans e3) ?_
      have : ((R.length : Int)).toNat = R.length := by simp
      rw [this, Gs.plcI_all o] at h2
      exact e3 q _ h2

/-! ## rows_above -/
def upI : Option Nat → Int
  | none => -1
  | some j => (j : Int)
def upL (u : Nat → Option Nat) (m : Nat) : List V := (List.range m).map fun i => V.int (upI (u i))
theorem upL_len {u : Nat → Option Nat} {m : Nat} : (upL u m).length = m := by
  unfold upL
  rw [List.length_map, List.length_range]
theorem upL_at {u : Nat → Option Nat} {m i : Nat} (hi : i < m) : (upL u m)[i]? = some (.int (upI (u i))) := by
  unfold upL
  rw [List.getElem?_map, List.getElem?_range hi]
  rfl
theorem upL_succ {u : Nat → Option Nat} {m : Nat} : upL u (m + 1) = upL u m ++ [.int (upI (u m))] := by
  unfold upL
  rw [List.range_succ, List.map_append]
  rfl
def sp_rows_above (C : Addr) : Sp := fun vs H Q _ => ∃ (g : Krct.Glued) (v u : V), vs = [v, u] ∧ IsS C H v g ∧ IsR H u (Krcu.rows g) ∧ Gs.Ok g ∧ RetL (upL (Gs.up g) (Gs.rowsN g)) H Q
theorem ok_rows_above (A : All K mg) : FnOk P w K mg base CX0 3 A.d_rows_above.f A.d_rows_above.fd ["surface", "rows"] (sp_rows_above A.C_Surface) := by
  refine A.d_rows_above.fn.ok sc_rows_above (fun vs H Q E h => ?_) (fun cdv Ar outer s H vs Q E hr h => ⟨_, pss_cons (ps_set (i := 2) sc_rows_above.nd rfl (.inl rfl) (pe_call (ok_once_round A) (hr.mono (by decide)) rfl A.d_once_round.g A.d_once_round.fn.kp A.d_once_round.b .nil pass0 (pa_cons (pv 0) pa_nil)))
      (pss_cons (ps_set (i := 3) sc_rows_above.nd rfl (.inl rfl) (pe_call (ok_row_places A) (hr.mono (by decide)) rfl A.d_row_places.g A.d_row_places.fn.kp A.d_row_places.b .nil pass0 (pa_cons (pv 1) (pa_cons (pe_callB call_len_seq rfl A.r_len PySem.boot_len (pa_cons (pe_fld (pv 0) rfl) pa_nil)) pa_nil))))
      (pss_cons (ps_set (i := 4) sc_rows_above.nd rfl (.inl rfl) (pe_lst pa_nil))
      (pss_cons (ps_for PassesOwn.never rfl (pi_list (pv 1)) (pg_name (i := 5) sc_rows_above.nd rfl (.inl rfl))
        (pss_one (ps_if (pt_val (pe_call (ok_is_smooth A) (hr.mono (by decide)) rfl A.d_is_smooth.g A.d_is_smooth.fn.kp A.d_is_smooth.b .nil pass0 (pa_cons (pv 5) (pa_cons (pv 2) pa_nil))))
            (pss_one (ps_expr (pe_bm PySem.F.plainAttrs_list PySem.F.slot_list_append PySem.F.type_list_append mt_append (pv 4) (pa_cons (pe_ix ix_list (pv 3) (pe_ix ix_list (pe_fld (pv 0) rfl) (pe_ix ix_list (pv 5) pe_int (fun _ _ => rfl)) (fun _ _ => rfl)) (fun _ _ => rfl)) pa_nil))))
            (pss_one (ps_expr (pe_bm PySem.F.plainAttrs_list PySem.F.slot_list_append PySem.F.type_list_append mt_append (pv 4) (pa_cons (pe_glob (v := .int (-1)) rfl A.c_NO_ROW ⟨_, rfl⟩) pa_nil)))))))
      (pss_one (ps_ret (pv 4)))))), ?_⟩)
  · obtain ⟨g, v, u, rfl, _⟩ := h
    rfl
  · obtain ⟨g, v, u, rfl, hv, hu, o, k⟩ := h
    have six := o.six
    have lN : g.north.length = g.n := o.no.len
    have ro := o.rows_ok
    have bj := o.ea.bij
    refine q_asgL (round_call (C := A.C_Surface) (ev_var rfl) hv o.two) fun pa H1 na e1 h1 => ?_
    obtain ⟨pe, f1, g1⟩ := (hv.ex e1).eastern (A := A) (σ := [some v, some u, some (.ref pa), none, none, none]) (te := tVar 0) (ev_var rfl)
    have l1 := ev_len (K := K) f1 (sq_of g1)
    rw [nl_len, o.ea.len] at l1
    refine q_asgL (xs := nl ((List.range g.n).map (Gs.place (Krcu.rows g)))) (el_call (ea_cons (ev_var rfl) (ea_cons l1 ea_nil)) fun H2 e2 Q' q' E' => ⟨g.n, Krct.to g.east, Krcu.rows g, u, rfl, hu.ex (e1.trans e2), ro, bj, six, q'⟩) fun pp H2 np e2 h2 => ?_
    refine q_asgL (el_lst ea_nil (by decide)) fun pb H3 nb e3 h3 => ?_
    have e13 := (e1.trans e2).trans e3
    obtain ⟨pu, vs, rfl, hpu, hlen, hat⟩ := hu.at
    refine q_forLn (K := K) (xs := vs) (ev_var rfl) (sq_of (e13 _ _ hpu)) (fun i σ' H' => ∃ y, σ' = [some v, some (.ref pu), some (.ref pa), some (.ref pp), some (.ref pb), y] ∧ Ex H2 H' ∧ H' pb = some (.lst (upL (Gs.up g) i)))
      (fun H4 e4 => ⟨none, rfl, e3.trans e4, e4 _ _ h3⟩) (fun i σ' H' _ ⟨y, _, e4, _⟩ => sq_of (((e1.trans e2).trans e4) _ _ hpu)) ?_ ?_
    · rintro i x σ' H' hi ⟨y, rfl, e4, h4⟩
      obtain ⟨q, r, rfl, hr, hq⟩ := hat i x hi
      obtain ⟨hi', er⟩ := List.getElem?_eq_some_iff.mp hr
      have e04 := (e1.trans e2).trans e4
      have e14 := e2.trans e4
      have rlt : ∀ z ∈ r, z < g.n := fun z hz => ro.lt bj hi' (by rw [er]; exact hz)
      obtain ⟨s0, hs0, ec⟩ := ro.ring hi'
      have rlen : r.length ≤ g.n := by
        rw [← er, ec]
        exact Gs.short_of (Gs.cycleOf_nodup bj hs0) (Gs.cycleOf_lt bj hs0)
      have hm := ro.head_mem bj hi'
      rw [er] at hm
      have r0 : r[0]? = some (r.headD 0) := by
        cases r with
        | nil => cases hm
        | cons a t => rfl
      have hlt := rlt _ hm
      have iR : i < Gs.rowsN g := hi'
      have ui := Gs.up_eq hi'
      rw [er] at ui
      refine s_if (b := Krcu.smooth g r) (et_B (ev_call (ea_cons (ev_var rfl) (ea_cons (ev_var rfl) ea_nil)) fun H5 e5 Q' q' E' => ⟨g, r, .ref q, .ref pa, rfl, ⟨q, rfl, (e04.trans e5) _ _ hq⟩, ⟨pa, rfl, (e14.trans e5) _ _ h1⟩, rlt, by omega, q'⟩)) (fun hb H5 e5 => ?_) (fun hb H5 e5 => ?_)
      · rw [hb, if_pos rfl] at ui
        obtain ⟨pn, f4, g4⟩ := (hv.ex (e04.trans e5)).northern (A := A) (σ := [some v, some (.ref pu), some (.ref pa), some (.ref pp), some (.ref pb), some (.ref q)]) (te := tVar 0) (ev_var rfl)
        have a1 : Ev (tOp (rIxL K) (tVar 5) (tC (.int 0))) [some v, some (.ref pu), some (.ref pa), some (.ref pp), some (.ref pb), some (.ref q)] H5 (.int (r.headD 0 : Int)) := ev_at (i := 0) (ev_var rfl) ev_c (sq_of ((e04.trans e5) _ _ hq)) (nl_at r0)
        have a2 := ev_sq (K := K) f4 a1 g4 (by rw [lN]; exact hlt)
        have a3 := ev_sq (K := K) (ta := tVar 3) (ev_var rfl) a2 ((e4.trans e5) _ _ h2) (by rw [List.length_map, List.length_range]; exact o.no.to_lt hlt)
        rw [Gs.to_map (by rw [List.length_range]; exact o.no.to_lt hlt), Gs.to_range (o.no.to_lt hlt)] at a3
        refine s_app (K := K) (e5 _ _ h4) (ev_var rfl) a3 (by rw [upL_len]; have := o.rows_le; omega) fun H6 e6 => ⟨_, rfl, Ex.mut ((e4.trans e5).trans e6) nb, ?_⟩
        rw [upd_same, upL_succ, ui]
        rfl
      · rw [hb, if_neg (by decide)] at ui
        refine s_app (K := K) (e5 _ _ h4) (ev_var rfl) ev_c (by rw [upL_len]; have := o.rows_le; omega) fun H6 e6 => ⟨_, rfl, Ex.mut ((e4.trans e5).trans e6) nb, ?_⟩
        rw [upd_same, upL_succ, ui]
        rfl
    · rintro σ' H' ⟨y, rfl, e4, h4⟩
      rw [hlen] at h4
      refine s_ret (ev_var rfl) fun H5 e5 => k pb H5 (fresh_back (e1.trans e2) nb) ((e1.trans e2).trans (e4.trans e5)) (e5 _ _ h4)

/-! ## height_from -/
def sp_height_from : Sp := fun vs H Q _ => ∃ (m n : Nat) (u : Nat → Option Nat) (i : Nat) (v : V), vs = [.int (i : Int), v] ∧ IsV H v (upL u m) ∧ (∀ i j, i < m → u i = some j → j < m) ∧ i < m ∧ Gs.ends u n i ∧ RetV (.int (Gs.ht u n i : Int)) H Q
theorem ok_height_from (A : All K mg) : FnOk P w K mg base CX0 1 A.d_height_from.f A.d_height_from.fd ["lowest", "above"] sp_height_from := by
  refine A.d_height_from.fn.ok sc_height_from (fun vs H Q E h => ?_) (fun cdv Ar outer s H vs Q E hr h => ⟨_, pss_cons (ps_set (i := 2) sc_height_from.nd rfl (.inl rfl) pe_int)
      (pss_cons (ps_set (i := 3) sc_height_from.nd rfl (.inl rfl) (pe_ix ix_list (pv 1) (pv 0) (fun _ _ => rfl)))
      (pss_cons (ps_while PassesOwn.never (pt_cmpR op_ne (pv 3) (pe_glob (v := .int (-1)) rfl A.c_NO_ROW ⟨_, rfl⟩) (nomark _))
        (pss_cons (ps_aug (i := 2) sc_height_from.nd rfl (.inl rfl) pe_int ip_add)
          (pss_one (ps_set (i := 3) sc_height_from.nd rfl (.inl rfl) (pe_ix ix_list (pv 1) (pv 3) (fun _ _ => rfl))))))
      (pss_one (ps_ret (pv 2))))), ?_⟩)
  · obtain ⟨m, n, u, i, v, rfl, _⟩ := h
    rfl
  · obtain ⟨m, n, u, i, v, rfl, ⟨p, rfl, hp⟩, hu, hi, he, k⟩ := h
    refine q_asg ev_c fun H1 e1 => ?_
    refine q_asg (ev_at (K := K) (ev_var rfl) (ev_var rfl) (sq_of (e1 _ _ hp)) (upL_at hi)) fun H2 e2 => ?_
    refine q_while (fun c σ' H' => ∃ (h : Nat) (o : Option Nat), σ' = [some (.int (i : Int)), some (.ref p), some (.int (h : Int)), some (.int (upI o))] ∧ Ex H H' ∧ (o = none → h = Gs.ht u n i) ∧ (∀ j, o = some j → j < m ∧ Gs.ends u c j ∧ h + Gs.ht u c j = Gs.ht u n i)) (n - 1) ⟨1, u i, rfl, e1.trans e2, ?_, ?_⟩ ?_
    · intro c
      cases n with
      | zero => exact he.elim
      | succ n => rw [Gs.ht_none c]
    · intro j c
      cases n with
      | zero => exact he.elim
      | succ n =>
        refine ⟨hu i j hi c, (Gs.ends_some c).mp he, ?_⟩
        rw [Gs.ht_some c]
        show 1 + Gs.ht u n j = _
        omega
    · rintro c σ' H' ⟨h, o, rfl, e3, hn, hs⟩
      refine ⟨!decide (V.int (upI o) = V.int (-1)), et_test (ev_op (ev_var rfl) ev_c (rv_ne rfl)), fun hb H4 e4 => ?_, fun hb H4 e4 => ?_⟩
      · cases o with
        | none =>
          exfalso
          simp [upI] at hb
        | some j =>
          obtain ⟨jm, je, jh⟩ := hs j rfl
          cases c with
          | zero => exact je.elim
          | succ c =>
            refine ⟨_, fun σ2 H2 hN => ⟨c, by omega, hN⟩, ?_⟩
            refine q_aug (f := fun i j => i + j) (b := 1) rfl ev_c fun H5 e5 => ?_
            refine s_asg (ev_at (K := K) (i := j) (ev_var rfl) (ev_var rfl) (sq_of ((e3.trans (e4.trans e5)) _ _ hp)) (upL_at jm)) fun H6 e6 => ⟨h + 1, u j, rfl, e3.trans (e4.trans (e5.trans e6)), fun q => ?_, fun j' q => ?_⟩
            · rw [Gs.ht_none q] at jh
              exact jh
            · rw [Gs.ht_some q] at jh
              exact ⟨hu j j' jm q, (Gs.ends_some q).mp je, by omega⟩
      · cases o with
        | none =>
          refine s_ret (ev_var rfl) fun H5 e5 => ?_
          have := k H5 (e3.trans (e4.trans e5))
          rw [← hn rfl] at this
          exact this
        | some j =>
          exfalso
          simp [upI] at hb
end
end Gw
namespace Gw
open PySem PySem.Spec PyProof.Rows L2 Evl
/-- pairs that stand as tuples in a list -/
def pairT (b : Nat × Nat) : List V := [.int (b.1 : Int), .int (b.2 : Int)]
structure TupsAt (X : List Addr) (H : Hp) (vs : List V) (B : List (Nat × Nat)) : Prop where
  len : vs.length = B.length
  at_ : ∀ (i : Nat) (b : Nat × Nat), B[i]? = some b → ∃ q, vs[i]? = some (.ref q) ∧ q ∉ X ∧ H q = some (.tup (pairT b))
theorem TupsAt.ex {X : List Addr} {H H' : Hp} {vs : List V} {B : List (Nat × Nat)} (e : Ex H H') (h : TupsAt X H vs B) : TupsAt X H' vs B :=
  ⟨h.len, fun i r hr => by
    obtain ⟨q, a, b, c⟩ := h.at_ i r hr
    exact ⟨q, a, b, e q _ c⟩⟩
theorem TupsAt.old {X : List Addr} {H : Hp} {vs : List V} {B : List (Nat × Nat)} {p : Addr} {o : HO} (h : TupsAt X H vs B) (hp : p ∈ X) : TupsAt X (upd H p o) vs B :=
  ⟨h.len, fun i r hr => by
    obtain ⟨q, a, b, c⟩ := h.at_ i r hr
    refine ⟨q, a, b, ?_⟩
    rw [upd_ne (fun z => by rw [z] at b; exact b hp)]
    exact c⟩
theorem TupsAt.push {X : List Addr} {H : Hp} {vs : List V} {B : List (Nat × Nat)} {q : Addr} {b : Nat × Nat} (h : TupsAt X H vs B) (hq : q ∉ X) (hr : H q = some (.tup (pairT b))) : TupsAt X H (vs ++ [.ref q]) (B ++ [b]) := by
  refine ⟨by rw [List.length_append, List.length_append, h.len]; rfl, fun i r' hi => ?_⟩
  rcases Nat.lt_or_ge i B.length with c | c
  · rw [List.getElem?_append_left c] at hi
    obtain ⟨q', a, b, d⟩ := h.at_ i r' hi
    exact ⟨q', by rw [List.getElem?_append_left (by rw [h.len]; exact c)]; exact a, b, d⟩
  · rw [List.getElem?_append_right c] at hi
    have e : i = B.length := by
      have := (List.getElem?_eq_some_iff.mp hi).1
      simp at this
      omega
    subst e
    simp at hi
    subst hi
    refine ⟨q, ?_, hq, hr⟩
    rw [List.getElem?_append_right (by rw [h.len]; exact Nat.le_refl _), h.len]
    simp
def IsB (H : Hp) (v : V) (B : List (Nat × Nat)) : Prop := ∃ p vs, v = .ref p ∧ H p = some (.lst vs) ∧ TupsAt [] H vs B
theorem IsB.ex {H H' : Hp} {v : V} {B : List (Nat × Nat)} (e : Ex H H') : IsB H v B → IsB H' v B
  | ⟨p, vs, a, b, c⟩ => ⟨p, vs, a, e p _ b, c.ex e⟩
/-- the pair that stands at a value -/
def pairOf (H : Hp) : V → Nat × Nat
  | .ref t => match H t with
    | some (.tup [.int a, .int b]) => (a.toNat, b.toNat)
    | _ => (0, 0)
  | _ => (0, 0)
theorem pairOf_at {H : Hp} {t : Addr} {b : Nat × Nat} (h : H t = some (.tup (pairT b))) : pairOf H (.ref t) = b := by
  show (match H t with
    | some (.tup [.int a, .int b]) => (a.toNat, b.toNat)
    | _ => (0, 0)) = b
  rw [h]
  simp [pairT]
theorem TupsAt.map {X : List Addr} {H : Hp} {vs : List V} {B : List (Nat × Nat)} (h : TupsAt X H vs B) : vs.map (pairOf H) = B := by
  apply List.ext_getElem
  · rw [List.length_map, h.len]
  · intro i h1 h2
    rw [List.getElem_map]
    obtain ⟨q, a, _, c⟩ := h.at_ i _ (List.getElem?_eq_getElem h2)
    obtain ⟨hi, e⟩ := List.getElem?_eq_some_iff.mp a
    rw [e]
    exact pairOf_at c
theorem TupsAt.mem {X : List Addr} {H : Hp} {vs : List V} {B : List (Nat × Nat)} (h : TupsAt X H vs B) : ∀ x ∈ vs, ∃ t, x = .ref t ∧ H t = some (.tup (pairT (pairOf H x))) := by
  intro x hx
  obtain ⟨i, hi, rfl⟩ := List.getElem_of_mem hx
  obtain ⟨q, a, _, c⟩ := h.at_ i _ (List.getElem?_eq_getElem (by rw [← h.len]; exact hi))
  obtain ⟨hi', e⟩ := List.getElem?_eq_some_iff.mp a
  refine ⟨q, e, ?_⟩
  rw [e, pairOf_at c]
  exact c
section
variable {P : Program} {w : World} {K : PySem.W.Frag} {mg : Str → Option Value} {base : Heap}
/-- sorted(found) -/
theorem sorted_bands {X : List Addr} {σ : L2.St} {H : Hp} {te : TE} {p : Addr} {vs : List V} {B : List (Nat × Nat)} (ha : Ev te σ H (.ref p)) (hp : H p = some (.lst vs)) (ht : TupsAt X H vs B) : EvP (tCB (rSortedPO K) (tCons te tNil)) σ H fun v H => IsB H v (B.mergeSort Gs.pairLe) := fun H1 e Q q =>
  ha H1 e _ fun H2 e2 => by
    have ht2 := ht.ex (e.trans e2)
    refine ⟨p, vs, fun x => (((pairOf H2 x).1 : Int), ((pairOf H2 x).2 : Int)), rfl, sq_of ((e.trans e2) _ _ hp), fun x hx => ?_, fun ys r hs hb hr => ?_⟩
    · obtain ⟨t, a, b⟩ := ht2.mem x hx
      exact ⟨t, a, b⟩
    · refine q _ _ (e2.trans (Ex.new hr)) ⟨r, ys, rfl, upd_same, ?_⟩
      have hperm : ys.Perm vs := hb.perm
      have hmap : (ys.map (pairOf H2)) = B.mergeSort Gs.pairLe := by
        refine Gs.sort_eq ?_ ?_
        · rw [← ht2.map]
          exact hperm.map _
        · rw [List.pairwise_map]
          refine hs.imp fun {a b} hab => ?_
          have := SrtO.lexB_no.mp hab
          rw [Gs.pairLe_iff]
          simp only at this
          omega
      refine ⟨by rw [← hmap, List.length_map], fun i b hi => ?_⟩
      rw [← hmap, List.getElem?_map] at hi
      cases c : ys[i]? with
      | none =>
        rw [c] at hi
        cases hi
      | some x =>
        rw [c] at hi
        have hi := Option.some.inj hi
        have hx : x ∈ vs := hperm.mem_iff.mp (by obtain ⟨h, e⟩ := List.getElem?_eq_some_iff.mp c; rw [← e]; exact List.getElem_mem h)
        obtain ⟨t, a, b'⟩ := ht2.mem x hx
        subst a
        refine ⟨t, rfl, by simp, ?_⟩
        rw [upd_ne (ne_of_none b' hr), b', hi]
/-! ## bands_to_east -/
theorem inV_up (u : Nat → Option Nat) (i : Nat) : ∀ m, inV (.int (i : Int)) (upL u m) = (List.range m).any fun j => u j == some i
  | 0 => rfl
  | m + 1 => by
    rw [upL_succ, List.range_succ, List.any_append]
    show ((upL u m) ++ [V.int (upI (u m))]).any _ = _
    rw [List.any_append]
    have ih := inV_up u i m
    unfold inV at ih
    rw [ih]
    congr 1
    show (eqV (V.int (upI (u m))) (.int (i : Int)) || false) = (u m == some i || false)
    congr 1
    show (upI (u m) == (i : Int)) = _
    rw [Bool.eq_iff_iff, beq_iff_eq, beq_iff_eq]
    cases c : u m with
    | none =>
      constructor
      · intro h
        have h : (-1 : Int) = (i : Int) := h
        omega
      · intro h
        cases h
    | some j =>
      constructor
      · intro h
        have h : (j : Int) = (i : Int) := h
        congr 1
        omega
      · intro h
        have h := Option.some.inj h
        show (j : Int) = (i : Int)
        omega
theorem flat_up (u : Nat → Option Nat) (m : Nat) : (upL u m).all flatV = true := by
  rw [List.all_eq_true]
  intro x hx
  unfold upL at hx
  obtain ⟨i, _, rfl⟩ := List.mem_map.mp hx
  rfl
def sp_bands_to_east (C : Addr) : Sp := fun vs H Q _ => ∃ (g : Krct.Glued) (v : V), vs = [v] ∧ IsS C H v g ∧ Gs.Ok g ∧ Ret (fun v H => IsB H v (Krcu.bandsOf g)) H Q
theorem ok_bands_to_east (A : All K mg) : FnOk P w K mg base CX0 4 A.d_bands_to_east.f A.d_bands_to_east.fd ["surface"] (sp_bands_to_east A.C_Surface) := by
  refine A.d_bands_to_east.fn.ok sc_bands_to_east (fun vs H Q E h => ?_) (fun cdv Ar outer s H vs Q E hr h => ⟨_, pss_cons (ps_set (i := 1) sc_bands_to_east.nd rfl (.inl rfl) (pe_call (ok_rings A) (hr.mono (by decide)) rfl A.d_rings.g A.d_rings.fn.kp A.d_rings.b .nil pass0 (pa_cons (pe_fld (pv 0) rfl) pa_nil)))
      (pss_cons (ps_set (i := 2) sc_bands_to_east.nd rfl (.inl rfl) (pe_call (ok_rows_above A) (hr.mono (by decide)) rfl A.d_rows_above.g A.d_rows_above.fn.kp A.d_rows_above.b .nil pass0 (pa_cons (pv 0) (pa_cons (pv 1) pa_nil))))
      (pss_cons (ps_set (i := 3) sc_bands_to_east.nd rfl (.inl rfl) (pe_lst pa_nil))
      (pss_cons (ps_for PassesOwn.never rfl (pi_range1 rfl A.r_range (pa_cons (pe_callB call_len_seq rfl A.r_len PySem.boot_len (pa_cons (pv 1) pa_nil)) pa_nil)) (pg_name (i := 4) sc_bands_to_east.nd rfl (.inl rfl))
        (pss_one (ps_if (pt_cmpR op_notIn_seq (pv 4) (pv 2) rfl)
            (pss_one (ps_expr (pe_bm PySem.F.plainAttrs_list PySem.F.slot_list_append PySem.F.type_list_append mt_append (pv 3) (pa_cons (pe_tup (pa_cons (pe_callB call_len_seq rfl A.r_len PySem.boot_len (pa_cons (pe_ix ix_list (pv 1) (pv 4) (fun _ _ => rfl)) pa_nil)) (pa_cons (pe_call (ok_height_from A) (hr.mono (by decide)) rfl A.d_height_from.g A.d_height_from.fn.kp A.d_height_from.b .nil pass0 (pa_cons (pv 4) (pa_cons (pv 2) pa_nil))) pa_nil))) pa_nil))))
            (pss_nil))))
      (pss_cons (ps_if (pt_cmpR op_eq (pe_callB call_len_seq rfl A.r_len PySem.boot_len (pa_cons (pv 3) pa_nil)) pe_int (nomark _))
        (pss_one (ps_expr (pe_bm PySem.F.plainAttrs_list PySem.F.slot_list_append PySem.F.type_list_append mt_append (pv 3) (pa_cons (pe_tup (pa_cons (pe_callB call_len_seq rfl A.r_len PySem.boot_len (pa_cons (pe_ix ix_list (pv 1) pe_int (fun _ _ => rfl)) pa_nil)) (pa_cons (pe_callB call_len_seq rfl A.r_len PySem.boot_len (pa_cons (pv 1) pa_nil)) pa_nil))) pa_nil))))
        (pss_nil))
      (pss_one (ps_ret (pe_callB cr_sortedPO rfl A.r_sorted (by decide +kernel) (pa_cons (pv 3) pa_nil)))))))), ?_⟩)
  · obtain ⟨g, v, rfl, _⟩ := h
    rfl
  · obtain ⟨g, v, rfl, hv, o, k⟩ := h
    have six := o.six
    have rle := o.rows_le
    obtain ⟨pe, f1, g1⟩ := hv.eastern (A := A) (σ := L2.start ["surface", "rows", "above", "found", "place"] [v]) (te := tVar 0) (ev_var rfl)
    refine q_asgP (rings_call (sp := sp_rings) (ea_cons f1 ea_nil) ⟨pe, rfl, g1⟩ o.ea o.six) fun u H1 e1 hu => ?_
    refine q_asgL (xs := upL (Gs.up g) (Gs.rowsN g)) (el_call (ea_cons (ev_var rfl) (ea_cons (ev_var rfl) ea_nil)) fun H2 e2 Q' q' E' => ⟨g, v, u, rfl, hv.ex (e1.trans e2), hu.ex e2, o, q'⟩) fun pa H2 na e2 h2 => ?_
    refine q_asgL (el_lst ea_nil (by decide)) fun pf H3 nf e3 h3 => ?_
    obtain ⟨pu, ws, rfl, hpu, hlen, hat⟩ := hu.ex e2
    have hlen : ws.length = Gs.rowsN g := hlen
    have l3 : ∀ {σ : L2.St} {H' : Hp}, Ex H2 H' → σ[1]? = some (some (.ref pu)) → Ev (tCB (rLenS K) (tCons (tVar 1) tNil)) σ H' (.int (Gs.rowsN g : Int)) := fun e hσ => by
      have := ev_len (K := K) (ev_var (H := _) hσ) (sq_of (e _ _ hpu))
      rw [hlen] at this
      exact this
    have lrow : ∀ {σ : L2.St} {H' : Hp} {ti : TE} {i : Nat}, Ex H2 H' → i < Gs.rowsN g → σ[1]? = some (some (.ref pu)) → Ev ti σ H' (.int (i : Int)) → Ev (tCB (rLenS K) (tCons (tOp (rIxL K) (tVar 1) ti) tNil)) σ H' (.int ((Gs.rowAt g i).length : Int)) := fun {σ H' ti i} e hi hσ hti => by
      have hi' : i < (Krcu.rows g).length := hi
      obtain ⟨q, a, b⟩ := hat i _ (List.getElem?_eq_getElem hi')
      have := ev_len (K := K) (ev_at (K := K) (ev_var (H := H') hσ) hti (sq_of (e _ _ hpu)) a) (sq_of (e _ _ b))
      have eR : Gs.rowAt g i = (Krcu.rows g)[i] := Gs.rowAt_eq hi
      rw [nl_len, ← eR] at this
      exact this
    refine q_forR1 (n := (Gs.rowsN g : Int)) (ea_cons (l3 e3 rfl) ea_nil) (by omega) (fun i σ' H' => ∃ y vs, σ' = [some v, some (.ref pu), some (.ref pa), some (.ref pf), y] ∧ Ex H2 H' ∧ H' pf = some (.lst vs) ∧ TupsAt [pf] H' vs (Gs.lowTo g i))
      (fun H4 e4 => ⟨none, [], rfl, e3.trans e4, e4 _ _ h3, ⟨rfl, fun i b hb => by simp [Gs.lowTo] at hb⟩⟩) ?_ ?_
    · rintro i σ' H' hi ⟨y, vs, rfl, e4, h4, t4⟩
      have hi' : i < Gs.rowsN g := by omega
      have tl := t4.len
      have ll := Gs.lowTo_len (g := g) i
      have ev := ev_op (r := rIn K true) (σ := [some v, some (.ref pu), some (.ref pa), some (.ref pf), some (.int (i : Int))]) (H := H') (ta := tVar 4) (tb := tVar 2) (ev_var rfl) (ev_var rfl) (rv_niL (K := K) (x := .int (i : Int)) (sq_of (e4 _ _ h2)) rfl (flat_up _ _))
      rw [inV_up] at ev
      have ib : (!(List.range (Gs.rowsN g)).any fun j => Gs.up g j == some i) = Gs.isBot g i := rfl
      rw [ib] at ev
      refine s_when (et_test ev) (fun hb H5 e5 => ?_) (fun hb H5 e5 => ?_)
      · have en := o.upw.ends hi' (Gs.isBot_iff.mp hb)
        have en2 := (Gs.ends_le en rle).1
        have e25 := e4.trans e5
        refine s_appU (K := K) (ys := pairT ((Gs.rowAt g i).length, Gs.ht (Gs.up g) g.n i)) (e5 _ _ h4) (ev_var rfl) (eu_tup (ea_cons (lrow e25 hi' rfl (ev_var rfl)) (ea_cons (ev_call (z := .int (Gs.ht (Gs.up g) g.n i : Int)) (ea_cons (ev_var rfl) (ea_cons (ev_var rfl) ea_nil)) fun H6 e6 Q' q' E' => ⟨Gs.rowsN g, g.n, Gs.up g, i, .ref pa, rfl, ⟨pa, rfl, (e25.trans e6) _ _ h2⟩, fun a b ha hb => o.up_lt ha hb, hi', en2, q'⟩) ea_nil)) (by show 2 ≤ 100000; decide)) (by omega) fun q H6 hq e6 h6 => ⟨_, _, rfl, Ex.mut (e25.trans e6) nf, upd_same, ?_⟩
        have nq : q ∉ [pf] := fun z => by
          rw [List.mem_singleton.mp z, e5 _ _ h4] at hq
          cases hq
        rw [Gs.lowTo_yes hb]
        exact ((t4.ex (e5.trans e6)).push nq h6).old (by simp)
      · refine ⟨_, vs, rfl, e4.trans e5, e5 _ _ h4, ?_⟩
        rw [Gs.lowTo_no hb]
        exact t4.ex e5
    · rintro σ' H' ⟨y, vs, rfl, e4, h4, t4⟩
      have tn : ((Gs.rowsN g : Int)).toNat = Gs.rowsN g := by simp
      rw [tn, Gs.lowTo_all] at t4
      have tl := t4.len
      have e02 := e1.trans e2
      have lf := ev_len (K := K) (σ := [some v, some (.ref pu), some (.ref pa), some (.ref pf), y]) (ta := tVar 3) (ev_var rfl) (sq_of h4)
      have fin : ∀ (vs : List V) (σ : L2.St) (H6 : Hp), σ[3]? = some (some (.ref pf)) → Ex H2 H6 → H6 pf = some (.lst vs) → TupsAt [pf] H6 vs (Gs.bandsM g) → tRet (tCB (rSortedPO K) (tCons (tVar 3) tNil)) { nx := fun x H' => Q V.non H', rt := Q } σ H6 := fun vs σ H6 hσ e6 h6 t6 => by
        refine s_retP (sorted_bands (K := K) (ev_var hσ) h6 t6) fun v' H7 e7 hB => k v' H7 (e02.trans (e6.trans e7)) ?_
        rw [o.bands_eq]
        exact hB
      refine q_when (et_test (ev_op lf ev_c (rv_eq rfl))) (fun hb H5 e5 => ?_) (fun hb H5 e5 => ?_)
      · have z : vs.length = 0 := by
          have : V.int (vs.length : Int) = V.int 0 := by simpa using hb
          have := V.int.inj this
          omega
        have em : Gs.lowBands g = [] := List.eq_nil_of_length_eq_zero (by omega)
        have eb : Gs.bandsM g = [((Gs.rowAt g 0).length, Gs.rowsN g)] := by
          unfold Gs.bandsM
          rw [em]
          rfl
        have ev0 : vs = [] := List.eq_nil_of_length_eq_zero z
        subst ev0
        have e25 := e4.trans e5
        refine s_appU (K := K) (ys := pairT ((Gs.rowAt g 0).length, Gs.rowsN g)) (e5 _ _ h4) (ev_var rfl) (eu_tup (ea_cons (lrow (i := 0) e25 o.rows_pos rfl ev_c) (ea_cons (l3 e25 rfl) ea_nil)) (by show 2 ≤ 100000; decide)) (by show 0 < 100000; decide) fun q H6 hq e6 h6 => ?_
        have nq : q ∉ [pf] := fun z => by
          rw [List.mem_singleton.mp z, e5 _ _ h4] at hq
          cases hq
        refine fin [.ref q] _ _ rfl (Ex.mut (e25.trans e6) nf) upd_same ?_
        rw [eb]
        have t0 : TupsAt [pf] H6 [] [] := ⟨rfl, fun i b hb => by simp at hb⟩
        exact (t0.push nq h6).old (by simp)
      · have z : vs.length ≠ 0 := by
          intro z
          rw [z] at hb
          simp at hb
        refine fin vs _ _ rfl (e4.trans e5) (e5 _ _ h4) ?_
        have eb : Gs.bandsM g = Gs.lowBands g := by
          unfold Gs.bandsM
          have : (Gs.lowBands g).isEmpty = false := by
            rw [List.isEmpty_eq_false_iff]
            intro q
            rw [q] at tl
            exact z tl
          rw [this]
          rfl
        rw [eb]
        exact t4.ex e5
/-! ## bands_in -/
def sp_bands_in (C : Addr) : Sp := fun vs H Q _ => ∃ (g : Krct.Glued) (v : V) (p q : Int), vs = [v, .int p, .int q] ∧ IsS C H v g ∧ Gs.Ok g ∧ (-20 ≤ p ∧ p ≤ 20) ∧ (-20 ≤ q ∧ q ≤ 20) ∧ Ret (fun v H => IsB H v (Krcu.bands g p q)) H Q
theorem laid_call {C : Addr} {σ : L2.St} {H : Hp} {te tp tq : TE} {g : Krct.Glued} {v : V} {p q : Int} (o : Gs.Ok g) (hp : -20 ≤ p ∧ p ≤ 20) (hq : -20 ≤ q ∧ q ≤ 20) (ha : Ev te σ H v) (hv : IsS C H v g) (hb : Ev tp σ H (.int p)) (hc : Ev tq σ H (.int q)) : EvP (tCall (sp_laid C) [] E0 (tCons te (tCons tp (tCons tq tNil)))) σ H fun v H => IsS C H v (Krcu.laid g p q) :=
  ep_callA (ea_cons ha (ea_cons hb (ea_cons hc ea_nil))) fun H1 e Q k => ⟨g, v, p, q, rfl, hv.ex e, o, hp, hq, k⟩
theorem ok_bands_in (A : All K mg) : FnOk P w K mg base CX0 6 A.d_bands_in.f A.d_bands_in.fd ["surface", "p", "q"] (sp_bands_in A.C_Surface) := by
  refine A.d_bands_in.fn.ok sc_bands_in (fun vs H Q E h => ?_) (fun cdv Ar outer s H vs Q E hr h => ⟨_, pss_one (ps_ret (pe_call (ok_bands_to_east A) (hr.mono (by decide)) rfl A.d_bands_to_east.g A.d_bands_to_east.fn.kp A.d_bands_to_east.b .nil pass0 (pa_cons (pe_call (ok_laid A) (hr.mono (by decide)) rfl A.d_laid.g A.d_laid.fn.kp A.d_laid.b .nil pass0 (pa_cons (pv 0) (pa_cons (pv 1) (pa_cons (pv 2) pa_nil)))) pa_nil))), ?_⟩)
  · obtain ⟨g, v, p, q, rfl, _⟩ := h
    rfl
  · obtain ⟨g, v, p, q, rfl, hv, o, hp, hq, k⟩ := h
    exact s_retP (ep_call (P := fun v H => IsB H v (Krcu.bands g p q)) (eap_one (laid_call (C := A.C_Surface) o hp hq (ev_var rfl) hv (ev_var rfl) (ev_var rfl))) fun vs H1 e1 ⟨v', hv', hs⟩ Q' q' => ⟨Krcu.laid g p q, v', hv', hs, Gs.laid_ok o p q, q'⟩) k
theorem bands_call {C : Addr} {σ : L2.St} {H : Hp} {te tp tq : TE} {g : Krct.Glued} {v : V} {p q : Int} (o : Gs.Ok g) (hp : -20 ≤ p ∧ p ≤ 20) (hq : -20 ≤ q ∧ q ≤ 20) (ha : Ev te σ H v) (hv : IsS C H v g) (hb : Ev tp σ H (.int p)) (hc : Ev tq σ H (.int q)) : EvP (tCall (sp_bands_in C) [] E0 (tCons te (tCons tp (tCons tq tNil)))) σ H fun v H => IsB H v (Krcu.bands g p q) :=
  ep_callA (ea_cons ha (ea_cons hb (ea_cons hc ea_nil))) fun H1 e Q k => ⟨g, v, p, q, rfl, hv.ex e, o, hp, hq, k⟩
end
end Gw
namespace Gw
open PySem PySem.Spec PyProof.Rows L2 Evl
/-! ## lists in a list -/
structure LsAt (X : List Addr) (H : Hp) (vs : List V) (R : List (List V)) : Prop where
  len : vs.length = R.length
  at_ : ∀ (i : Nat) (r : List V), R[i]? = some r → ∃ q, vs[i]? = some (.ref q) ∧ q ∉ X ∧ H q = some (.lst r)
theorem LsAt.ex {X : List Addr} {H H' : Hp} {vs : List V} {R : List (List V)} (e : Ex H H') (h : LsAt X H vs R) : LsAt X H' vs R :=
  ⟨h.len, fun i r hr => by
    obtain ⟨q, a, b, c⟩ := h.at_ i r hr
    exact ⟨q, a, b, e q _ c⟩⟩
theorem LsAt.old {X : List Addr} {H : Hp} {vs : List V} {R : List (List V)} {p : Addr} {o : HO} (h : LsAt X H vs R) (hp : p ∈ X) : LsAt X (upd H p o) vs R :=
  ⟨h.len, fun i r hr => by
    obtain ⟨q, a, b, c⟩ := h.at_ i r hr
    refine ⟨q, a, b, ?_⟩
    rw [upd_ne (fun z => by rw [z] at b; exact b hp)]
    exact c⟩
theorem LsAt.sub {X Y : List Addr} {H : Hp} {vs : List V} {R : List (List V)} (h : LsAt X H vs R) (s : ∀ a ∈ Y, a ∈ X) : LsAt Y H vs R :=
  ⟨h.len, fun i r hr => by
    obtain ⟨q, a, b, c⟩ := h.at_ i r hr
    exact ⟨q, a, fun z => b (s q z), c⟩⟩
theorem LsAt.push {X : List Addr} {H : Hp} {vs : List V} {R : List (List V)} {q : Addr} {r : List V} (h : LsAt X H vs R) (hq : q ∉ X) (hr : H q = some (.lst r)) : LsAt X H (vs ++ [.ref q]) (R ++ [r]) := by
  refine ⟨by rw [List.length_append, List.length_append, h.len]; rfl, fun i r' hi => ?_⟩
  rcases Nat.lt_or_ge i R.length with c | c
  · rw [List.getElem?_append_left c] at hi
    obtain ⟨q', a, b, d⟩ := h.at_ i r' hi
    exact ⟨q', by rw [List.getElem?_append_left (by rw [h.len]; exact c)]; exact a, b, d⟩
  · rw [List.getElem?_append_right c] at hi
    have e : i = R.length := by
      have := (List.getElem?_eq_some_iff.mp hi).1
      simp at this
      omega
    subst e
    simp at hi
    subst hi
    refine ⟨q, ?_, hq, hr⟩
    rw [List.getElem?_append_right (by rw [h.len]; exact Nat.le_refl _), h.len]
    simp
theorem not_new {X : List Addr} {H : Hp} {q a : Addr} {o : HO} (hq : H q = none) (ha : H a = some o) (hx : a ∉ X) : a ∉ q :: X := fun z => by
  rcases List.mem_cons.mp z with z | z
  · rw [z, hq] at ha
    cases ha
  · exact hx z
theorem LsAt.fresh {X : List Addr} {H : Hp} {vs : List V} {R : List (List V)} {q : Addr} (h : LsAt X H vs R) (hq : H q = none) : LsAt (q :: X) H vs R :=
  ⟨h.len, fun i r hr => by
    obtain ⟨p, a, b, c⟩ := h.at_ i r hr
    exact ⟨p, a, not_new hq c b, c⟩⟩
/-! ## calls in a list -/
def CallAt (X : List Addr) (H : Hp) (v : V) (c : List (List Int)) : Prop := ∃ (t pn pl : Addr) (p : Int) (nums : List Int) (rows : List (List Int)) (rs : List V), v = .ref t ∧ c = (p :: nums) :: rows ∧ t ∉ X ∧ pn ∉ X ∧ pl ∉ X ∧
  H t = some (.tup [.int p, .ref pn, .ref pl]) ∧ H pn = some (.lst (il nums)) ∧ H pl = some (.lst rs) ∧ LsAt X H rs (rows.map il)
theorem CallAt.ex {X : List Addr} {H H' : Hp} {v : V} {c : List (List Int)} (e : Ex H H') : CallAt X H v c → CallAt X H' v c
  | ⟨t, pn, pl, p, nums, rows, rs, h1, h2, h3, h4, h5, h6, h7, h8, h9⟩ => ⟨t, pn, pl, p, nums, rows, rs, h1, h2, h3, h4, h5, e _ _ h6, e _ _ h7, e _ _ h8, h9.ex e⟩
theorem CallAt.old {X : List Addr} {H : Hp} {v : V} {c : List (List Int)} {a : Addr} {o : HO} (ha : a ∈ X) : CallAt X H v c → CallAt X (upd H a o) v c
  | ⟨t, pn, pl, p, nums, rows, rs, h1, h2, h3, h4, h5, h6, h7, h8, h9⟩ => ⟨t, pn, pl, p, nums, rows, rs, h1, h2, h3, h4, h5,
    by rw [upd_ne (fun z => by rw [z] at h3; exact h3 ha)]; exact h6, by rw [upd_ne (fun z => by rw [z] at h4; exact h4 ha)]; exact h7, by rw [upd_ne (fun z => by rw [z] at h5; exact h5 ha)]; exact h8, h9.old ha⟩
theorem CallAt.fresh {X : List Addr} {H : Hp} {v : V} {c : List (List Int)} {q : Addr} (hq : H q = none) : CallAt X H v c → CallAt (q :: X) H v c
  | ⟨t, pn, pl, p, nums, rows, rs, h1, h2, h3, h4, h5, h6, h7, h8, h9⟩ => ⟨t, pn, pl, p, nums, rows, rs, h1, h2, not_new hq h6 h3, not_new hq h7 h4, not_new hq h8 h5, h6, h7, h8, h9.fresh hq⟩
theorem CallAt.sub {X Y : List Addr} {H : Hp} {v : V} {c : List (List Int)} (s : ∀ a ∈ Y, a ∈ X) : CallAt X H v c → CallAt Y H v c
  | ⟨t, pn, pl, p, nums, rows, rs, h1, h2, h3, h4, h5, h6, h7, h8, h9⟩ => ⟨t, pn, pl, p, nums, rows, rs, h1, h2, fun z => h3 (s _ z), fun z => h4 (s _ z), fun z => h5 (s _ z), h6, h7, h8, h9.sub s⟩
structure CallsAt (X : List Addr) (H : Hp) (vs : List V) (cs : List (List (List Int))) : Prop where
  len : vs.length = cs.length
  at_ : ∀ (i : Nat) (c : List (List Int)), cs[i]? = some c → ∃ v, vs[i]? = some v ∧ CallAt X H v c
theorem CallsAt.ex {X : List Addr} {H H' : Hp} {vs : List V} {cs : List (List (List Int))} (e : Ex H H') (h : CallsAt X H vs cs) : CallsAt X H' vs cs :=
  ⟨h.len, fun i r hr => by
    obtain ⟨q, a, b⟩ := h.at_ i r hr
    exact ⟨q, a, b.ex e⟩⟩
theorem CallsAt.old {X : List Addr} {H : Hp} {vs : List V} {cs : List (List (List Int))} {p : Addr} {o : HO} (h : CallsAt X H vs cs) (hp : p ∈ X) : CallsAt X (upd H p o) vs cs :=
  ⟨h.len, fun i r hr => by
    obtain ⟨q, a, b⟩ := h.at_ i r hr
    exact ⟨q, a, b.old hp⟩⟩
theorem CallsAt.fresh {X : List Addr} {H : Hp} {vs : List V} {cs : List (List (List Int))} {q : Addr} (h : CallsAt X H vs cs) (hq : H q = none) : CallsAt (q :: X) H vs cs :=
  ⟨h.len, fun i r hr => by
    obtain ⟨v, a, b⟩ := h.at_ i r hr
    exact ⟨v, a, b.fresh hq⟩⟩
theorem CallsAt.sub {X Y : List Addr} {H : Hp} {vs : List V} {cs : List (List (List Int))} (h : CallsAt X H vs cs) (s : ∀ a ∈ Y, a ∈ X) : CallsAt Y H vs cs :=
  ⟨h.len, fun i r hr => by
    obtain ⟨v, a, b⟩ := h.at_ i r hr
    exact ⟨v, a, b.sub s⟩⟩
theorem CallsAt.push {X : List Addr} {H : Hp} {vs : List V} {cs : List (List (List Int))} {v : V} {c : List (List Int)} (h : CallsAt X H vs cs) (hv : CallAt X H v c) : CallsAt X H (vs ++ [v]) (cs ++ [c]) := by
  refine ⟨by rw [List.length_append, List.length_append, h.len]; rfl, fun i r' hi => ?_⟩
  rcases Nat.lt_or_ge i cs.length with d | d
  · rw [List.getElem?_append_left d] at hi
    obtain ⟨q', a, b⟩ := h.at_ i r' hi
    exact ⟨q', by rw [List.getElem?_append_left (by rw [h.len]; exact d)]; exact a, b⟩
  · rw [List.getElem?_append_right d] at hi
    have e : i = cs.length := by
      have := (List.getElem?_eq_some_iff.mp hi).1
      simp at this
      omega
    subst e
    simp at hi
    subst hi
    refine ⟨v, ?_, hv⟩
    rw [List.getElem?_append_right (by rw [h.len]; exact Nat.le_refl _), h.len]
    simp
section
variable {P : Program} {w : World} {K : PySem.W.Frag} {mg : Str → Option Value} {base : Heap}
/-! ## how_many_numbers, how_many_lists -/
def sp_how_many_numbers : Sp := fun vs H Q _ => ∃ p : Int, vs = [.int p] ∧ RetV (.int (Gs.nOf p : Int)) H Q
theorem inV_ints (p : Int) : ∀ l : List Int, inV (.int p) (il l) = l.contains p
  | [] => rfl
  | y :: l => by
    have ih := inV_ints p l
    show (eqV (.int y) (.int p) || inV (.int p) (il l)) = _
    rw [ih, List.contains_cons]
    congr 1
    show (y == p) = (p == y)
    rw [Bool.eq_iff_iff, beq_iff_eq, beq_iff_eq]
    exact eq_comm
theorem ok_how_many_numbers (A : All K mg) : FnOk P w K mg base CX0 1 A.d_how_many_numbers.f A.d_how_many_numbers.fd ["call"] sp_how_many_numbers := by
  refine A.d_how_many_numbers.fn.ok sc_how_many_numbers (fun vs H Q E h => ?_) (fun cdv Ar outer s H vs Q E hr h => ⟨_, pss_cons (ps_if (pt_cmpR op_in_seq (pv 0) (pe_tup (pa_cons (pe_glob (v := .int (8)) rfl A.c_BANDS ⟨_, rfl⟩) (pa_cons (pe_glob (v := .int (9)) rfl A.c_LONGEST ⟨_, rfl⟩) (pa_cons (pe_glob (v := .int (16)) rfl A.c_LAY ⟨_, rfl⟩) pa_nil)))) rfl)
        (pss_one (ps_ret pe_int))
        (pss_nil))
      (pss_cons (ps_if (pt_cmpR op_in_seq (pv 0) (pe_tup (pa_cons (pe_glob (v := .int (0)) rfl A.c_BEGIN ⟨_, rfl⟩) (pa_cons (pe_glob (v := .int (11)) rfl A.c_COUNTS ⟨_, rfl⟩) pa_nil))) rfl)
        (pss_one (ps_ret pe_int))
        (pss_nil))
      (pss_one (ps_ret pe_int))), ?_⟩)
  · obtain ⟨p, rfl, _⟩ := h
    rfl
  · obtain ⟨p, rfl, k⟩ := h
    refine q_when (et_test (ev_inU (K := K) (ev_var rfl) (eu_tup (ea_cons ev_c (ea_cons ev_c (ea_cons ev_c ea_nil))) (by show 3 ≤ 100000; decide)) rfl rfl)) (fun hb H1 e1 => ?_) (fun hb H1 e1 => ?_)
    · have hb := (inV_ints p [8, 9, 16]).symm.trans hb
      have hp : p = 8 ∨ p = 9 ∨ p = 16 := by simpa using hb
      refine s_ret ev_c fun H2 e2 => ?_
      have := k H2 (e1.trans e2)
      unfold Gs.nOf at this
      rw [if_pos hp] at this
      exact this
    · have hb := (inV_ints p [8, 9, 16]).symm.trans hb
      have hp : ¬ (p = 8 ∨ p = 9 ∨ p = 16) := by simpa using hb
      refine q_when (et_test (ev_inU (K := K) (ev_var rfl) (eu_tup (ea_cons ev_c (ea_cons ev_c ea_nil)) (by show 2 ≤ 100000; decide)) rfl rfl)) (fun hb H2 e2 => ?_) (fun hb H2 e2 => ?_)
      · have hb := (inV_ints p [0, 11]).symm.trans hb
        have hp2 : p = 0 ∨ p = 11 := by simpa using hb
        refine s_ret ev_c fun H3 e3 => ?_
        have := k H3 (e1.trans (e2.trans e3))
        unfold Gs.nOf at this
        rw [if_neg hp, if_pos hp2] at this
        exact this
      · have hb := (inV_ints p [0, 11]).symm.trans hb
        have hp2 : ¬ (p = 0 ∨ p = 11) := by simpa using hb
        refine s_ret ev_c fun H3 e3 => ?_
        have := k H3 (e1.trans (e2.trans e3))
        unfold Gs.nOf at this
        rw [if_neg hp, if_neg hp2] at this
        exact this
def sp_how_many_lists : Sp := fun vs H Q _ => ∃ p : Int, vs = [.int p] ∧ RetV (.int (Gs.kOf p : Int)) H Q
theorem ok_how_many_lists (A : All K mg) : FnOk P w K mg base CX0 1 A.d_how_many_lists.f A.d_how_many_lists.fd ["call"] sp_how_many_lists := by
  refine A.d_how_many_lists.fn.ok sc_how_many_lists (fun vs H Q E h => ?_) (fun cdv Ar outer s H vs Q E hr h => ⟨_, pss_one (ps_ret (pe_ifExp (pt_cmpR op_eq (pv 0) (pe_glob (v := .int (1)) rfl A.c_GLUE ⟨_, rfl⟩) (nomark _)) pe_int pe_int)), ?_⟩)
  · obtain ⟨p, rfl, _⟩ := h
    rfl
  · obtain ⟨p, rfl, k⟩ := h
    refine s_ret (ev_if (v := .int (Gs.kOf p : Int)) (et_test (ev_op (ev_var rfl) ev_c (rv_eq rfl))) (fun hb => ?_) (fun hb => ?_)) fun H1 e1 => k H1 e1
    · have hp : p = 1 := by
        have : V.int p = V.int 1 := by simpa using hb
        exact V.int.inj this
      subst hp
      exact ev_c
    · have hp : p ≠ 1 := by
        intro z
        subst z
        simp at hb
      unfold Gs.kOf
      rw [if_neg hp]
      exact ev_c
/-! ## cut_into_calls -/
theorem cut_il {l : List Int} {a b : Nat} (ha : a ≤ b) (hb : b ≤ l.length) : cutV (il l) (some (a : Int)) (some (b : Int)) = il ((l.drop a).take (b - a)) := by
  unfold cutV
  rw [HT.sIx_nat, HT.sIx_nat, List.length_map]
  have e1 : min a l.length = a := by omega
  have e2 : min b l.length = b := by omega
  rw [e1, e2, ← List.map_drop, ← List.map_take]
theorem il_at {l : List Int} {i : Nat} {x : Int} (h : l[i]? = some x) : (il l)[i]? = some (.int x) := by
  show (l.map _)[i]? = _
  rw [List.getElem?_map, h]
  rfl
def sp_cut_into_calls (K : PySem.W.Frag) : Sp := fun vs H Q _ => ∃ (p : Addr) (l : List Int) (f : Nat) (raw : List (List (List Int))), vs = [.ref p] ∧ SqL K H p (il l) ∧ l.length ≤ 20600 ∧ PyFlat.calls PyKrcu.shape f l = some raw ∧ raw.length ≤ 40 ∧
  ∀ (q : Addr) (us : List V) (H2 : Hp), Ex H H2 → H2 q = some (.lst us) → CallsAt [q] H2 us raw → Q (.ref q) H2
theorem ok_cut_into_calls (A : All K mg) : FnOk P w K mg base CX0 2 A.d_cut_into_calls.f A.d_cut_into_calls.fd ["calls"] (sp_cut_into_calls K) := by
  refine A.d_cut_into_calls.fn.ok sc_cut_into_calls (fun vs H Q E h => ?_) (fun cdv Ar outer s H vs Q E hr h => ⟨_, pss_cons (ps_set (i := 1) sc_cut_into_calls.nd rfl (.inl rfl) (pe_lst pa_nil))
      (pss_cons (ps_set (i := 2) sc_cut_into_calls.nd rfl (.inl rfl) pe_int)
      (pss_cons (ps_while PassesOwn.never (pt_cmpR op_lt (pv 2) (pe_callB call_len_seq rfl A.r_len PySem.boot_len (pa_cons (pv 0) pa_nil)) (nomark _))
        (pss_cons (ps_set (i := 3) sc_cut_into_calls.nd rfl (.inl rfl) (pe_ix ix_list (pv 0) (pv 2) (fun _ _ => rfl)))
          (pss_cons (ps_aug (i := 2) sc_cut_into_calls.nd rfl (.inl rfl) pe_int ip_add)
          (pss_cons (ps_set (i := 4) sc_cut_into_calls.nd rfl (.inl rfl) (pe_slice sl_list (pv 0) (po_some (pv 2)) (po_some (pe_op op_add (pv 2) (pe_call (ok_how_many_numbers A) (hr.mono (by decide)) rfl A.d_how_many_numbers.g A.d_how_many_numbers.fn.kp A.d_how_many_numbers.b .nil pass0 (pa_cons (pv 3) pa_nil))))))
          (pss_cons (ps_aug (i := 2) sc_cut_into_calls.nd rfl (.inl rfl) (pe_call (ok_how_many_numbers A) (hr.mono (by decide)) rfl A.d_how_many_numbers.g A.d_how_many_numbers.fn.kp A.d_how_many_numbers.b .nil pass0 (pa_cons (pv 3) pa_nil)) ip_add)
          (pss_cons (ps_set (i := 5) sc_cut_into_calls.nd rfl (.inl rfl) (pe_lst pa_nil))
          (pss_cons (ps_for PassesOwn.never rfl (pi_range1 rfl A.r_range (pa_cons (pe_call (ok_how_many_lists A) (hr.mono (by decide)) rfl A.d_how_many_lists.g A.d_how_many_lists.fn.kp A.d_how_many_lists.b .nil pass0 (pa_cons (pv 3) pa_nil)) pa_nil)) (pg_name (i := 6) sc_cut_into_calls.nd rfl (.inl rfl))
            (pss_cons (ps_set (i := 7) sc_cut_into_calls.nd rfl (.inl rfl) (pe_op op_add (pe_op op_add (pv 2) pe_int) (pe_ix ix_list (pv 0) (pv 2) (fun _ _ => rfl))))
              (pss_cons (ps_expr (pe_bm PySem.F.plainAttrs_list PySem.F.slot_list_append PySem.F.type_list_append mt_append (pv 5) (pa_cons (pe_slice sl_list (pv 0) (po_some (pe_op op_add (pv 2) pe_int)) (po_some (pv 7))) pa_nil)))
              (pss_one (ps_set (i := 2) sc_cut_into_calls.nd rfl (.inl rfl) (pv 7))))))
          (pss_one (ps_expr (pe_bm PySem.F.plainAttrs_list PySem.F.slot_list_append PySem.F.type_list_append mt_append (pv 1) (pa_cons (pe_tup (pa_cons (pv 3) (pa_cons (pv 4) (pa_cons (pv 5) pa_nil)))) pa_nil)))))))))))
      (pss_one (ps_ret (pv 1))))), ?_⟩)
  · obtain ⟨p, l, f, raw, rfl, _⟩ := h
    rfl
  · obtain ⟨pc, l, f0, raw, rfl, hpc, hl, hraw, h40, k⟩ := h
    refine q_asgL (el_lst ea_nil (by decide)) fun pf H1 nf e1 h1 => ?_
    refine q_asg ev_c fun H2 e2 => ?_
    refine q_while (fun c σ' H' => ∃ (i f : Nat) (done cs : List (List (List Int))) (x3 x4 x5 x6 x7 : Option V) (vs : List V), c = l.length - i ∧ i ≤ l.length ∧ PyFlat.calls PyKrcu.shape f (l.drop i) = some cs ∧ raw = done ++ cs ∧ σ' = [some (.ref pc), some (.ref pf), some (.int (i : Int)), x3, x4, x5, x6, x7] ∧ Ex H H' ∧ H' pf = some (.lst vs) ∧ CallsAt [pf] H' vs done)
      l.length ⟨0, f0, [], raw, none, none, none, none, none, [], rfl, Nat.zero_le _, hraw, rfl, rfl, e1.trans e2, e2 _ _ h1, ⟨rfl, fun i c hc => by simp at hc⟩⟩ ?_
    rintro c σ' H' ⟨i, f, done, cs, x3, x4, x5, x6, x7, vs, rfl, il_, hcs, hd, rfl, e3, h3, c3⟩
    have lc : ∀ {σ : L2.St} {H1 : Hp}, Ex H H1 → σ[0]? = some (some (.ref pc)) → Ev (tCB (rLenS K) (tCons (tVar 0) tNil)) σ H1 (.int (l.length : Int)) := fun e hσ => by
      have := ev_len (K := K) (ev_var (H := _) hσ) (ex_l e hpc)
      rw [List.length_map] at this
      exact this
    refine ⟨_, et_test (ev_op (ev_var rfl) (lc e3 rfl) rv_I0), fun hb H4 e4 => ?_, fun hb H4 e4 => ?_⟩
    · have hi : i < l.length := by
        have := of_decide_eq_true hb
        omega
      obtain ⟨p, r, ed⟩ : ∃ p r, l.drop i = p :: r := ⟨_, _, List.drop_eq_getElem_cons hi⟩
      obtain ⟨d1, d2, _⟩ := Gs.drop_cons ed
      rw [ed] at hcs
      obtain ⟨f', n, kk, xs, t, cs', hsh, hn, hrows, ecs, hcs'⟩ := Gs.calls_cons hcs
      obtain ⟨p0, p16, en, ek⟩ := Gs.shape_of hsh
      have n2 : n ≤ 2 := by
        rw [en]
        unfold Gs.nOf
        split
        · omega
        · split <;> omega
      have k2 : kk ≤ 2 := by
        rw [ek]
        unfold Gs.kOf
        split <;> omega
      have rl : r.length = l.length - (i + 1) := by rw [← d2, List.length_drop]
      have xl := Gs.rows_len hrows
      refine ⟨_, fun σ2 H2 hN => hN, ?_⟩
      refine q_asg (ev_at (K := K) (ev_var rfl) (ev_var rfl) (ex_l (e3.trans e4) hpc) (il_at d1)) fun H5 e5 => ?_
      refine q_aug (f := fun i j => i + j) (b := 1) rfl ev_c fun H6 e6 => ?_
      have e06 := e3.trans (e4.trans (e5.trans e6))
      have hnum : ∀ {σ : L2.St} {H1 : Hp}, σ[3]? = some (some (.int p)) → Ev (tCall sp_how_many_numbers [] E0 (tCons (tVar 3) tNil)) σ H1 (.int (n : Int)) := fun hσ => by
        rw [en]
        exact ev_call (ea_cons (ev_var hσ) ea_nil) fun H2 e2 Q' q' E' => ⟨p, rfl, q'⟩
      have hlst : ∀ {σ : L2.St} {H1 : Hp}, σ[3]? = some (some (.int p)) → Ev (tCall sp_how_many_lists [] E0 (tCons (tVar 3) tNil)) σ H1 (.int (kk : Int)) := fun hσ => by
        rw [ek]
        exact ev_call (ea_cons (ev_var hσ) ea_nil) fun H2 e2 Q' q' E' => ⟨p, rfl, q'⟩
      have cut1 : cutV (il l) (some ((i : Int) + 1)) (some ((i : Int) + 1 + (n : Int))) = il (r.take n) := by
        have := cut_il (l := l) (a := i + 1) (b := i + 1 + n) (by omega) (by omega)
        rw [d2, Nat.add_sub_cancel_left] at this
        exact this
      have sl1 := el_sl (K := K) (σ := [some (.ref pc), some (.ref pf), some (.int ((i : Int) + 1)), some (.int p), x4, x5, x6, x7]) (te := tVar 0) (H := H6) (ev_var rfl) (eo_some (te := tVar 2) (ev_var rfl)) (eo_some (ev_op (r := rI0 fun i j => .int (i + j)) (ta := tVar 2) (ev_var rfl) (hnum rfl) rv_I0)) (ex_l e06 hpc)
      rw [cut1] at sl1
      refine q_asgL sl1 fun pn H7 nn e7 h7 => ?_
      have h6 := (e4.trans (e5.trans e6)) _ _ h3
      have npn : pn ∉ [pf] := fun z => by
        rw [List.mem_singleton.mp z, h6] at nn
        cases nn
      refine q_aug (f := fun i j => i + j) (b := (n : Int)) rfl (hnum rfl) fun H8 e8 => ?_
      refine q_asgL (el_lst ea_nil (by decide)) fun pl H9 nl_ e9 h9 => ?_
      have h8 := (e7.trans e8) _ _ h6
      have npl : pl ∉ [pf] := fun z => by
        rw [List.mem_singleton.mp z, h8] at nl_
        cases nl_
      have nplpn : pl ≠ pn := fun z => by
        rw [z, e8 _ _ h7] at nl_
        cases nl_
      have e09 := e06.trans (e7.trans (e8.trans e9))
      have e38 := e4.trans (e5.trans (e6.trans (e7.trans e8)))
      have e39 := e4.trans (e5.trans (e6.trans (e7.trans (e8.trans e9))))
      refine q_forR1 (n := (kk : Int)) (ea_cons (hlst rfl) ea_nil) (by omega) (fun j σ' H' => ∃ (a : Nat) (y6 y7 : Option V) (rs : List V), σ' = [some (.ref pc), some (.ref pf), some (.int (a : Int)), some (.int p), some (.ref pn), some (.ref pl), y6, y7] ∧ Ex H H' ∧ H' pf = some (.lst vs) ∧ CallsAt [pl, pf] H' vs done ∧ H' pn = some (.lst (il (r.take n))) ∧ H' pl = some (.lst rs) ∧ LsAt [pf, pl] H' rs ((xs.take j).map il) ∧ PyFlat.rows (kk - j) (l.drop a) = some (xs.drop j, t) ∧ i + 1 ≤ a ∧ a ≤ l.length)
        (fun H10 e10 => ⟨i + 1 + n, _, _, [], rfl, e09.trans e10, (e39.trans e10) _ _ h3, ((c3.ex e38).fresh nl_).ex (e9.trans e10), (e8.trans (e9.trans e10)) _ _ h7, e10 _ _ h9, ⟨rfl, fun i r hr => by simp at hr⟩, ?_, by omega, by omega⟩) ?_ ?_
      · have : l.drop (i + 1 + n) = r.drop n := by rw [← d2, List.drop_drop]
        rw [this]
        exact hrows
      · rintro j σ' H' hj ⟨a, y6, y7, rs, rfl, f1, f2, f3, f4, f5, f6, f7, f8, f9⟩
        have hj' : j < kk := by omega
        obtain ⟨k', ek'⟩ : ∃ k', kk - j = k' + 1 := ⟨kk - j - 1, by omega⟩
        rw [ek'] at f7
        obtain ⟨m, s, xs', g1, g2, g3, g4⟩ := Gs.rows_succ f7
        obtain ⟨d3, d4, d5⟩ := Gs.drop_cons g1
        have sl : s.length = l.length - (a + 1) := by rw [← d4, List.length_drop]
        have hxj : xs[j]? = some (s.take m) := by
          have : (xs.drop j)[0]? = some (s.take m) := by
            rw [g3]
            rfl
          rw [List.getElem?_drop] at this
          exact this
        refine q_asg (ev_op (r := rI0 fun i j => .int (i + j)) (ev_op (r := rI0 fun i j => .int (i + j)) (ev_var rfl) ev_c rv_I0) (ev_at (K := K) (ev_var rfl) (ev_var rfl) (ex_l f1 hpc) (il_at d3)) rv_I0) fun H11 e11 => ?_
        have cut2 : cutV (il l) (some ((a : Int) + 1)) (some ((a : Int) + 1 + (m : Int))) = il (s.take m) := by
          have := cut_il (l := l) (a := a + 1) (b := a + 1 + m) (by omega) (by omega)
          rw [d4, Nat.add_sub_cancel_left] at this
          exact this
        have sl2 := el_sl (K := K) (σ := [some (.ref pc), some (.ref pf), some (.int (a : Int)), some (.int p), some (.ref pn), some (.ref pl), some (.int (j : Int)), some (.int ((a : Int) + 1 + (m : Int)))]) (te := tVar 0) (H := H11) (ev_var rfl) (eo_some (ev_op (r := rI0 fun i j => .int (i + j)) (ta := tVar 2) (ev_var rfl) (ev_c (v := .int 1)) rv_I0)) (eo_some (te := tVar 7) (ev_var rfl)) (ex_l (f1.trans e11) hpc)
        rw [cut2] at sl2
        have fl := f6.len
        rw [List.length_map, List.length_take] at fl
        refine q_appL (K := K) (e11 _ _ f5) (ev_var rfl) sl2 (by omega) fun q H12 hq e12 h12 => ?_
        have nq : q ∉ [pf, pl] := fun z => by
          rcases List.mem_cons.mp z with z | z
          · rw [z, e11 _ _ f2] at hq
            cases hq
          · rw [List.mem_singleton.mp z, e11 _ _ f5] at hq
            cases hq
        have hplH : H pl = none := fresh_back (e06.trans (e7.trans e8)) nl_
        refine s_asg (ev_var rfl) fun H13 e13 => ⟨a + 1 + m, _, _, _, rfl, ?_, ?_, ?_, ?_, e13 _ _ upd_same, ?_, ?_, by omega, by omega⟩
        · exact (Ex.mut (f1.trans (e11.trans e12)) hplH).trans e13
        · refine e13 _ _ ?_
          rw [upd_ne (fun z => npl (by simp [z]))]
          exact (e11.trans e12) _ _ f2
        · exact ((f3.ex (e11.trans e12)).old (by simp)).ex e13
        · refine e13 _ _ ?_
          rw [upd_ne (fun z => nplpn z.symm)]
          exact (e11.trans e12) _ _ f4
        · rw [Gs.take_more hxj, List.map_append]
          exact ((f6.ex (e11.trans e12)).push nq h12).old (by simp) |>.ex e13
        · have e14 : kk - (j + 1) = k' := by omega
          have e15 : xs.drop (j + 1) = xs' := by
            rw [← List.drop_drop, g3]
            rfl
          have e16 : l.drop (a + 1 + m) = s.drop m := by rw [← d4, List.drop_drop]
          rw [e14, e15, e16]
          exact g4
      · rintro σ' H' ⟨a, y6, y7, rs, rfl, f1, f2, f3, f4, f5, f6, f7, f8, f9⟩
        have tn : ((kk : Int)).toNat = kk := by simp
        rw [tn, Nat.sub_self] at f7
        rw [tn] at f6
        obtain ⟨_, et⟩ := Gs.rows_zero f7
        have ex : xs.take kk = xs := by rw [← xl, List.take_length]
        rw [ex] at f6
        have dl := f3.len
        have dr : done.length ≤ 40 := by
          rw [hd, List.length_append] at h40
          omega
        refine s_appU (K := K) (ys := [.int p, .ref pn, .ref pl]) f2 (ev_var rfl) (eu_tup (ea_cons (ev_var rfl) (ea_cons (ev_var rfl) (ea_cons (ev_var rfl) ea_nil))) (by show 3 ≤ 100000; decide)) (by omega) fun q H14 hq e14 h14 => ⟨l.length - a, by omega, a, f', done ++ [(p :: r.take n) :: xs], cs', _, _, _, _, _, vs ++ [.ref q], rfl, f9, ?_, ?_, rfl, ?_, upd_same, ?_⟩
        · rw [← et]
          exact hcs'
        · rw [hd, ecs, List.append_assoc]
          rfl
        · exact Ex.mut (f1.trans e14) nf
        · have nq : q ∉ [pf] := fun z => by
            rw [List.mem_singleton.mp z, f2] at hq
            cases hq
          refine (CallsAt.push ((f3.ex e14).sub (by simp)) ?_).old (by simp)
          exact ⟨q, pn, pl, p, r.take n, xs, rs, rfl, rfl, nq, npn, npl, h14, e14 _ _ f4, e14 _ _ f5, (f6.ex e14).sub (by simp)⟩
    · have hi : i = l.length := by
        have := of_decide_eq_false hb
        omega
      subst hi
      rw [List.drop_length] at hcs
      have := Gs.calls_nil hcs
      subst this
      rw [List.append_nil] at hd
      subst hd
      exact s_ret (ev_var rfl) fun H5 e5 => k pf vs H5 (e3.trans (e4.trans e5)) ((e4.trans e5) _ _ h3) (c3.ex (e4.trans e5))
end
end Gw
namespace Gw
open PySem PySem.Spec PyProof.Rows L2 Evl
/-! ## tuples in a list -/
structure TpAt (X : List Addr) (H : Hp) (vs : List V) (R : List (List V)) : Prop where
  len : vs.length = R.length
  at_ : ∀ (i : Nat) (r : List V), R[i]? = some r → ∃ q, vs[i]? = some (.ref q) ∧ q ∉ X ∧ H q = some (.tup r)
theorem TpAt.ex {X : List Addr} {H H' : Hp} {vs : List V} {R : List (List V)} (e : Ex H H') (h : TpAt X H vs R) : TpAt X H' vs R :=
  ⟨h.len, fun i r hr => by
    obtain ⟨q, a, b, c⟩ := h.at_ i r hr
    exact ⟨q, a, b, e q _ c⟩⟩
theorem TpAt.old {X : List Addr} {H : Hp} {vs : List V} {R : List (List V)} {p : Addr} {o : HO} (h : TpAt X H vs R) (hp : p ∈ X) : TpAt X (upd H p o) vs R :=
  ⟨h.len, fun i r hr => by
    obtain ⟨q, a, b, c⟩ := h.at_ i r hr
    refine ⟨q, a, b, ?_⟩
    rw [upd_ne (fun z => by rw [z] at b; exact b hp)]
    exact c⟩
theorem TpAt.sub {X Y : List Addr} {H : Hp} {vs : List V} {R : List (List V)} (h : TpAt X H vs R) (s : ∀ a ∈ Y, a ∈ X) : TpAt Y H vs R :=
  ⟨h.len, fun i r hr => by
    obtain ⟨q, a, b, c⟩ := h.at_ i r hr
    exact ⟨q, a, fun z => b (s q z), c⟩⟩
theorem TpAt.push {X : List Addr} {H : Hp} {vs : List V} {R : List (List V)} {q : Addr} {r : List V} (h : TpAt X H vs R) (hq : q ∉ X) (hr : H q = some (.tup r)) : TpAt X H (vs ++ [.ref q]) (R ++ [r]) := by
  refine ⟨by rw [List.length_append, List.length_append, h.len]; rfl, fun i r' hi => ?_⟩
  rcases Nat.lt_or_ge i R.length with c | c
  · rw [List.getElem?_append_left c] at hi
    obtain ⟨q', a, b, d⟩ := h.at_ i r' hi
    exact ⟨q', by rw [List.getElem?_append_left (by rw [h.len]; exact c)]; exact a, b, d⟩
  · rw [List.getElem?_append_right c] at hi
    have e : i = R.length := by
      have := (List.getElem?_eq_some_iff.mp hi).1
      simp at this
      omega
    subst e
    simp at hi
    subst hi
    refine ⟨q, ?_, hq, hr⟩
    rw [List.getElem?_append_right (by rw [h.len]; exact Nat.le_refl _), h.len]
    simp
def dT (d : Int × Int) : List V := [.int d.1, .int d.2]
/-- a list of directions -/
def IsDs (H : Hp) (v : V) (L : List (Int × Int)) : Prop := ∃ p vs, v = .ref p ∧ H p = some (.lst vs) ∧ TpAt [] H vs (L.map dT)
theorem IsDs.at {H : Hp} {v : V} {L : List (Int × Int)} (h : IsDs H v L) : ∃ p vs, v = .ref p ∧ H p = some (.lst vs) ∧ vs.length = L.length ∧ ∀ (i : Nat) (x : V), vs[i]? = some x → ∃ q d, x = .ref q ∧ L[i]? = some d ∧ H q = some (.tup (dT d)) := by
  obtain ⟨p, vs, hv, hp, ht⟩ := h
  have hl := ht.len
  rw [List.length_map] at hl
  refine ⟨p, vs, hv, hp, hl, fun i x hx => ?_⟩
  have hi := (List.getElem?_eq_some_iff.mp hx).1
  have e : L[i]? = some (L[i]'(by omega)) := List.getElem?_eq_getElem (by omega)
  obtain ⟨q, a, _, b⟩ := ht.at_ i (dT (L[i]'(by omega))) (by rw [List.getElem?_map, e]; rfl)
  rw [hx] at a
  exact ⟨q, _, Option.some.inj a, e, b⟩
section
variable {K : PySem.W.Frag} {σ : L2.St} {H H' : Hp} {ta tb te tx : TE} {t u : TT} {x y z v : V} {r : R2} {D : Ends} {tu tw tz : TS} {P : V → Hp → Prop}
/-- x = [(a, ..)] -/
theorem q_asgLU {i : Nat} {ys : List V} (h : EvU te σ H ys) (k : ∀ p t H1, H p = none → Ex H H1 → H1 p = some (.lst [.ref t]) → H1 t = some (.tup ys) → tz D (σ.set i (some (.ref p))) H1) : tSeq (tAsg (tLst (tCons te tNil)) (gName i)) tz D σ H :=
  h H (Ex.refl H) _ fun t H1 _ e1 h1 => ⟨sz_of (by show 1 ≤ 100000; decide), fun p hp => k p t _ (fresh_back e1 hp) (e1.trans (Ex.new hp)) upd_same (by
    rw [upd_ne (ne_of_none h1 hp)]
    exact h1)⟩
/-- for over range(lo, n), lo of any sign -/
theorem g_range {ta : TA} {j : Nat} {lo n : Int} (h : EvA ta σ H [.int lo, .int n]) (bd : (-9000 ≤ lo ∧ lo ≤ 9000) ∧ (-9000 ≤ n ∧ n ≤ 9000)) (J : Nat → L2.St → Hp → Prop) (start : ∀ G, Ex H G → J 0 σ G)
    (turn : ∀ (m : Nat) τ G, lo + (m : Int) < n → J m τ G → tu { nx := J (m + 1), rt := D.rt, bk := D.nx, ct := J (m + 1) } (τ.set j (some (.int (lo + (m : Int))))) G) (stop : ∀ τ G, J (n - lo).toNat τ G → D.nx τ G) : tFor (iRng2 ta) (gName j) tu D σ H := by
  refine h H (Ex.refl H) _ fun G e => ?_
  have small : -(2 ^ 62) ≤ lo ∧ lo < 2 ^ 62 ∧ -(2 ^ 62) ≤ n ∧ n < 2 ^ 62 := by omega
  exact ⟨lo, n, rfl, small, for_range J (start G e) (fun m τ G' hm p => turn m τ G' (by omega) p) stop⟩
/-- over a list that a word tells of -/
theorem q_forPn {tl : TE} {j : Nat} (h : EvP tl σ H P) (k : ∀ v H1, Ex H H1 → P v H1 → ∃ a xs, v = .ref a ∧ SqL K H1 a xs ∧ ∃ Pv : Nat → L2.St → Hp → Prop, Pv 0 σ H1 ∧ (∀ i σ' H', i ≤ xs.length → Pv i σ' H' → SqL K H' a xs) ∧
      (∀ i x σ' H', xs[i]? = some x → Pv i σ' H' → tu { D with nx := Pv (i + 1), ct := Pv (i + 1), bk := tz D } (σ'.set j (some x)) H') ∧ (∀ σ' H', Pv xs.length σ' H' → tz D σ' H')) : tSeq (tFor (iList K tl) (gName j) tu) tz D σ H :=
  h H (Ex.refl H) _ fun v H1 e p => by
    obtain ⟨a, xs, hv, hs, Pv, h0, hl, hst, hd⟩ := k v H1 e p
    exact ⟨a, hv, ⟨xs, hs⟩, for_list (D := { D with nx := tz D }) Pv h0 hl hst hd⟩
/-- x[i] of a tuple -/
theorem ev_tup {p : Addr} {xs : List V} {i : Nat} (ha : Ev ta σ H (.ref p)) (hb : Ev tb σ H (.int (i : Int))) (h : H p = some (.tup xs)) (hi : xs[i]? = some v) : Ev (tOp (rIxT K) ta tb) σ H v := ev_op ha hb (rv_ixT (st_of h) (atI_nat hi))
end
/-- reading a list's item ahead of writing it anew, at a place from its beginning -/
def rGetN (K : PySem.W.Frag) : V → V → Hp → VK → Prop := fun o i H Q => ∃ (a : Addr) (ws : List V) (m : Nat) (item : V), o = .ref a ∧ i = .int (m : Int) ∧ SqL K H a ws ∧ ws[m]? = some item ∧ Q item H
theorem get_list {X : Cx} : PGet X (rGetN X.K) := fun pins s σ H o i ov iv Q I ro ri h => by
  obtain ⟨a, ws, m, item, eo, ei, sq, hm, q⟩ := h
  subst eo
  subst ei
  cases ro
  obtain ⟨tk, rfl⟩ := ri
  obtain ⟨things, vals, plain, short⟩ := I.list sq
  obtain ⟨thing, there, rel⟩ := vals.get hm
  have inside := (List.getElem?_eq_some_iff.mp hm).1
  have far := line63
  refine wpAny_getItem_list plain.isList (Int.natCast_nonneg m) (by omega) ?_ ⟨item, H, I, rel, q⟩
  simpa using there
section
variable {K : PySem.W.Frag} {σ : L2.St} {H H' : Hp} {ta tb te tx to ti : TE} {D : Ends}
/-- xs[j] += b -/
theorem s_augL {l : Addr} {xs : List V} {j : Nat} {a b : Int} (hl : H l = some (.lst xs)) (ho : Ev to σ H (.ref l)) (hi : Ev ti σ H (.int (j : Int))) (hx : xs[j]? = some (.int a)) (he : Ev te σ H (.int b)) (k : ∀ H1, Ex H H1 → D.nx σ (upd H1 l (.lst (xs.set j (.int (a + b)))))) :
    tAugS to ti te (rGetN K) (ipI fun i j => i + j) rSetL D σ H :=
  ho H (Ex.refl H) _ fun H1 e1 => hi H1 e1 _ fun H2 e2 => ⟨l, xs, j, .int a, rfl, rfl, sq_of ((e1.trans e2) _ _ hl), hx, he H2 (e1.trans e2) _ fun H3 e3 => ⟨a, b, rfl, rfl, l, xs, (j : Int), j, rfl, rfl, (e1.trans (e2.trans e3)) _ _ hl, ixN_nat (List.getElem?_eq_some_iff.mp hx).1, k H3 (e1.trans (e2.trans e3))⟩⟩
end
section
variable {P : Program} {w : World} {K : PySem.W.Frag} {mg : Str → Option Value} {base : Heap}
/-! ## directions_up_to -/
def sp_directions_up_to : Sp := fun vs H Q _ => ∃ k : Nat, vs = [.int (k : Int)] ∧ 1 ≤ k ∧ k ≤ 5 ∧ Ret (fun v H => IsDs H v (Krcu.directions k)) H Q
theorem ok_directions_up_to (A : All K mg) : FnOk P w K mg base CX0 3 A.d_directions_up_to.f A.d_directions_up_to.fd ["greatest"] sp_directions_up_to := by
  refine A.d_directions_up_to.fn.ok sc_directions_up_to (fun vs H Q E h => ?_) (fun cdv Ar outer s H vs Q E hr h => ⟨_, pss_cons (ps_set (i := 1) sc_directions_up_to.nd rfl (.inl rfl) (pe_lst (pa_cons (pe_tup (pa_cons pe_int (pa_cons pe_int pa_nil))) pa_nil)))
      (pss_cons (ps_for PassesOwn.never rfl (pi_range2 rfl A.r_range (pa_cons pe_int (pa_cons (pe_op op_add (pv 0) pe_int) pa_nil))) (pg_name (i := 2) sc_directions_up_to.nd rfl (.inl rfl))
        (pss_one (ps_for PassesOwn.never rfl (pi_range2 rfl A.r_range (pa_cons (pe_un un_neg (pv 0)) (pa_cons (pe_op op_add (pv 0) pe_int) pa_nil))) (pg_name (i := 3) sc_directions_up_to.nd rfl (.inl rfl))
            (pss_one (ps_if (pt_val (pe_call (ok_has_no_common_part A) (hr.mono (by decide)) rfl A.d_has_no_common_part.g A.d_has_no_common_part.fn.kp A.d_has_no_common_part.b .nil pass0 (pa_cons (pv 3) (pa_cons (pv 2) pa_nil))))
                (pss_one (ps_expr (pe_bm PySem.F.plainAttrs_list PySem.F.slot_list_append PySem.F.type_list_append mt_append (pv 1) (pa_cons (pe_tup (pa_cons (pv 3) (pa_cons (pv 2) pa_nil))) pa_nil))))
                (pss_nil))))))
      (pss_one (ps_ret (pv 1)))), ?_⟩)
  · obtain ⟨n, rfl, _⟩ := h
    rfl
  · obtain ⟨n, rfl, h1, h5, k⟩ := h
    refine q_asgLU (ys := dT (1, 0)) (eu_tup (ea_cons ev_c (ea_cons ev_c ea_nil)) (by show 2 ≤ 100000; decide)) fun pf t0 H1 nf e1 g1 g2 => ?_
    have nt : t0 ∉ [pf] := fun z => by
      rw [List.mem_singleton.mp z, g1] at g2
      cases g2
    refine q_forR2 (lo := 1) (n := (n : Int) + 1) (ea_cons ev_c (ea_cons (ev_op (ev_var rfl) ev_c rv_I0) ea_nil)) (by omega) (fun i σ' H' => ∃ x y vs, σ' = [some (.int (n : Int)), some (.ref pf), x, y] ∧ Ex H H' ∧ H' pf = some (.lst vs) ∧ TpAt [pf] H' vs ((Gs.dirTo n i).map dT))
      (fun H2 e2 => ⟨none, none, [.ref t0], rfl, e1.trans e2, e2 _ _ g1, ?_⟩) ?_ ?_
    · have t00 : TpAt [pf] H2 [] [] := ⟨rfl, fun i r hr => by simp at hr⟩
      exact t00.push nt (e2 _ _ g2)
    · rintro i σ' H' hi ⟨x, y, vs, rfl, e2, h2, t2⟩
      have hi' : i < n := by omega
      refine g_range (lo := -(n : Int)) (n := (n : Int) + 1) (ea_cons (ev_un (ev_var rfl) ru_neg) (ea_cons (ev_op (ev_var rfl) ev_c rv_I0) ea_nil)) (by omega) (fun j σ' H' => ∃ y vs, σ' = [some (.int (n : Int)), some (.ref pf), some (.int (1 + (i : Int))), y] ∧ Ex H H' ∧ H' pf = some (.lst vs) ∧ TpAt [pf] H' vs ((Gs.dirTo n i ++ Gs.dirR n i j).map dT))
        (fun H3 e3 => ⟨y, vs, rfl, e2.trans e3, e3 _ _ h2, ?_⟩) ?_ ?_
      · rw [Gs.dirR_zero, List.append_nil]
        exact t2.ex e3
      · rintro j σ' H' hj ⟨y, vs, rfl, e3, h3, t3⟩
        have hj' : j < 2 * n + 1 := by omega
        have tl := t3.len
        have l1 := Gs.dirTo_small (k := n) (i := i) (by omega) (by omega)
        have l2 := Gs.dirR_len n i j
        rw [List.length_map, List.length_append] at tl
        have ed : dT (Gs.dirP n i j) = [.int (-(n : Int) + (j : Int)), .int (1 + (i : Int))] := by
          show [V.int ((j : Int) - (n : Int)), V.int ((i : Int) + 1)] = _
          have a1 : (j : Int) - (n : Int) = -(n : Int) + (j : Int) := by omega
          have a2 : (i : Int) + 1 = 1 + (i : Int) := by omega
          rw [a1, a2]
        have ec : Krcu.coprime (-(n : Int) + (j : Int)) (1 + (i : Int)) = Gs.cop (Gs.dirP n i j) := by
          show _ = Krcu.coprime ((j : Int) - (n : Int)) ((i : Int) + 1)
          have a1 : (j : Int) - (n : Int) = -(n : Int) + (j : Int) := by omega
          have a2 : (i : Int) + 1 = 1 + (i : Int) := by omega
          rw [a1, a2]
        refine s_when (b := Krcu.coprime (-(n : Int) + (j : Int)) (1 + (i : Int))) (et_B (ev_call (ea_cons (ev_var rfl) (ea_cons (ev_var rfl) ea_nil)) fun H2 e2 Q' q' E' => ⟨_, _, rfl, q'⟩)) (fun hb H4 e4 => ?_) (fun hb H4 e4 => ?_)
        · rw [ec] at hb
          refine s_appU (K := K) (ys := dT (Gs.dirP n i j)) (e4 _ _ h3) (ev_var rfl) (by
            rw [ed]
            exact eu_tup (ea_cons (ev_var rfl) (ea_cons (ev_var rfl) ea_nil)) (by show 2 ≤ 100000; decide)) (by omega) fun q H5 hq e5 h5 => ⟨_, _, rfl, Ex.mut (e3.trans (e4.trans e5)) nf, upd_same, ?_⟩
          have nq : q ∉ [pf] := fun z => by
            rw [List.mem_singleton.mp z, e4 _ _ h3] at hq
            cases hq
          rw [Gs.dirR_yes hb, ← List.append_assoc, List.map_append (l₂ := [Gs.dirP n i j])]
          exact ((t3.ex (e4.trans e5)).push nq h5).old (by simp)
        · rw [ec] at hb
          refine ⟨_, vs, rfl, e3.trans e4, e4 _ _ h3, ?_⟩
          rw [Gs.dirR_no hb]
          exact t3.ex e4
      · rintro σ' H' ⟨y, vs, rfl, e3, h3, t3⟩
        refine ⟨_, _, vs, rfl, e3, h3, ?_⟩
        have tn : ((n : Int) + 1 - -(n : Int)).toNat = 2 * n + 1 := by omega
        rw [tn, ← Gs.dirTo_succ] at t3
        exact t3
    · rintro σ' H' ⟨x, y, vs, rfl, e2, h2, t2⟩
      have tn : ((n : Int) + 1 - 1).toNat = n := by omega
      rw [tn, Gs.dirTo_all] at t2
      exact s_ret (ev_var rfl) fun H3 e3 => k (.ref pf) H3 (e2.trans e3) ⟨pf, vs, rfl, e3 _ _ h2, (t2.ex e3).sub (by simp)⟩
theorem dirs_call {σ : L2.St} {H : Hp} {te : TE} {k : Nat} (ha : Ev te σ H (.int (k : Int))) (h1 : 1 ≤ k) (h5 : k ≤ 5) : EvP (tCall sp_directions_up_to [] E0 (tCons te tNil)) σ H fun v H => IsDs H v (Krcu.directions k) :=
  ep_callA (ea_cons ha ea_nil) fun H1 e Q q => ⟨k, rfl, h1, h5, q⟩
end
end Gw
namespace Gw
open PySem PySem.Spec PyProof.Rows L2 Evl
/-- all but one object stays -/
def ExB (d : Addr) (H H' : Hp) : Prop := ∀ b o, H b = some o → b ≠ d → H' b = some o
theorem Ex.b {d : Addr} {H H' : Hp} (e : Ex H H') : ExB d H H' := fun b o h _ => e b o h
theorem ExB.trans {d : Addr} {H H1 H2 : Hp} (a : ExB d H H1) (b : ExB d H1 H2) : ExB d H H2 := fun x o h n => b x o (a x o h n) n
theorem ExB.ex {d : Addr} {H H1 H2 : Hp} (a : ExB d H H1) (b : Ex H1 H2) : ExB d H H2 := a.trans (Ex.b b)
theorem ExB.mut {d : Addr} {H H1 : Hp} {o : HO} (a : ExB d H H1) : ExB d H (upd H1 d o) := fun x u h n => by
  rw [upd_ne n]
  exact a x u h n
section
variable {P : Program} {w : World} {K : PySem.W.Frag} {mg : Str → Option Value} {base : Heap}
/-! ## tops -/
def sp_tops (C : Addr) : Sp := fun vs H Q _ => ∃ (g : Krct.Glued) (v : V), vs = [v] ∧ IsS C H v g ∧ Gs.Ok g ∧ RetL (il (Gs.topsL g)) H Q
theorem ok_tops (A : All K mg) : FnOk P w K mg base CX0 3 A.d_tops.f A.d_tops.fd ["surface"] (sp_tops A.C_Surface) := by
  refine A.d_tops.fn.ok sc_tops (fun vs H Q E h => ?_) (fun cdv Ar outer s H vs Q E hr h => ⟨_, pss_cons (ps_set (i := 1) sc_tops.nd rfl (.inr rfl) (pe_call (ok_once_round A) (hr.mono (by decide)) rfl A.d_once_round.g A.d_once_round.fn.kp A.d_once_round.b .nil pass0 (pa_cons (pv 0) pa_nil)))
      (pss_one (ps_ret (pe_lc (own := [("row", 2)]) (g := gName 2) (tt := tYes) (te := (tIf (tB (tCall sp_is_smooth [] E0 (tCons (tVar 2) (tCons (tVar 1) tNil)))) (tC (.int 1)) (tC (.int 0)))) rfl sc_tops.nd (pi_list (pe_call (ok_rings A) (hr.mono (by decide)) rfl A.d_rings.g A.d_rings.fn.kp A.d_rings.b .nil pass0 (pa_cons (pe_fld (pv 0) rfl) pa_nil))) (blkOk_by (N := ["surface", "around", "row"]) (sc := defScope s_tops) (by decide +kernel)) (fun _ _ _ _ _ => pg_name (i := 2) sc_tops.nd rfl (.inl rfl)) (fun _ _ _ _ _ => pts_nil) (fun _ _ _ _ _ => (pe_ifExp (pt_val (pe_call (ok_is_smooth A) (hr.mono (by decide)) rfl A.d_is_smooth.g A.d_is_smooth.fn.kp A.d_is_smooth.b .nil pass0 (pa_cons (pv 2) (pa_cons (pv 1) pa_nil)))) pe_int pe_int))))), ?_⟩)
  · obtain ⟨g, v, rfl, _⟩ := h
    rfl
  · obtain ⟨g, v, rfl, hv, o, k⟩ := h
    have six := o.six
    have rle := o.rows_le
    refine q_asgL (round_call (C := A.C_Surface) (ev_var rfl) hv o.two) fun pa H1 na e1 h1 => ?_
    obtain ⟨pe, f1, g1⟩ := (hv.ex e1).eastern (A := A) (σ := [some v, some (.ref pa), none]) (te := tVar 0) (ev_var rfl)
    have e : il (Gs.topsL g) = (List.range (Krcu.rows g).length).map fun i => V.int (if Krcu.smooth g ((Krcu.rows g).getD i []) then 1 else 0) := by
      show ((Krcu.rows g).map _).map _ = _
      rw [List.map_map]
      exact map_at _ _ []
    rw [e] at k
    refine s_retL (el_lcP (K := K) _ (rings_call (sp := sp_rings) (ea_cons f1 ea_nil) ⟨pe, rfl, g1⟩ o.ea o.six) (by have : (Krcu.rows g).length ≤ g.n := rle; omega) (fun x => rfl) fun v' H2 e2 hr => ?_) fun p H2 hp e2 h2 => k p H2 (fresh_back e1 hp) (e1.trans e2) h2
    obtain ⟨p, vs, rfl, hp, hlen, hat⟩ := hr.at
    refine ⟨p, vs, rfl, sq_of hp, hlen, fun i x H3 hx e3 => ?_⟩
    obtain ⟨q, r, rfl, hr, hq⟩ := hat i x hx
    have hr : (Krcu.rows g)[i]? = some r := hr
    have eg : (Krcu.rows g).getD i [] = r := by
      rw [List.getD_eq_getElem?_getD, hr]
      rfl
    rw [eg]
    obtain ⟨hi', er⟩ := List.getElem?_eq_some_iff.mp hr
    have ro := o.rows_ok
    have bj := o.ea.bij
    have hin : ∀ z ∈ r, z < g.n := fun z hz => ro.lt bj hi' (by rw [er]; exact hz)
    obtain ⟨s0, hs0, ec⟩ := ro.ring hi'
    have hle : r.length ≤ 6 := by
      have : r.length ≤ g.n := by
        rw [← er, ec]
        exact Gs.short_of (Gs.cycleOf_nodup bj hs0) (Gs.cycleOf_lt bj hs0)
      omega
    refine ev_if (b := Krcu.smooth g r) (et_B (ev_call (ea_cons (ev_var rfl) (ea_cons (ev_var rfl) ea_nil)) fun H4 e4 Q' q' E' => ⟨g, r, .ref q, .ref pa, rfl, ⟨q, rfl, (e3.trans e4) _ _ hq⟩, ⟨pa, rfl, (e2.trans (e3.trans e4)) _ _ h1⟩, hin, hle, q'⟩)) (fun hb => ?_) (fun hb => ?_)
    · rw [hb]
      exact ev_c
    · rw [hb]
      exact ev_c
/-! ## longest_in -/
theorem IsB.at {H : Hp} {v : V} {B : List (Nat × Nat)} (h : IsB H v B) : ∃ p vs, v = .ref p ∧ H p = some (.lst vs) ∧ vs.length = B.length ∧ ∀ (i : Nat) (x : V), vs[i]? = some x → ∃ q b, x = .ref q ∧ B[i]? = some b ∧ H q = some (.tup (pairT b)) := by
  obtain ⟨p, vs, hv, hp, ht⟩ := h
  refine ⟨p, vs, hv, hp, ht.len, fun i x hx => ?_⟩
  have hi := (List.getElem?_eq_some_iff.mp hx).1
  have hl := ht.len
  have e : B[i]? = some (B[i]'(by omega)) := List.getElem?_eq_getElem (by omega)
  obtain ⟨q, a, _, b⟩ := ht.at_ i _ e
  rw [hx] at a
  exact ⟨q, _, Option.some.inj a, e, b⟩
theorem ev_max {σ : L2.St} {H : Hp} {te : TE} {l : List Nat} (h : EvL te σ H (nl l)) (hl : 0 < l.length) : Ev (tCB (rMax K) (tCons te tNil)) σ H (.int ((l.foldl max 0 : Nat) : Int)) := fun H1 e Q q =>
  h H1 e _ fun p H2 _ e2 h2 => ⟨p, l.map fun (x : Nat) => (x : Int), rfl, by
    rw [nl_il] at h2
    exact sq_of h2, by rw [List.length_map]; exact hl, fun m hm hle => by
    obtain ⟨x, hx, rfl⟩ := List.mem_map.mp hm
    have : l.foldl max 0 = x := Gs.fold_max hx fun y hy => by
      have := hle (y : Int) (List.mem_map.mpr ⟨y, hy, rfl⟩)
      omega
    rw [this] at q
    exact q H2 e2⟩
def sp_longest_in (C : Addr) : Sp := fun vs H Q _ => ∃ (g : Krct.Glued) (v : V) (p q : Int), vs = [v, .int p, .int q] ∧ IsS C H v g ∧ Gs.Ok g ∧ (-20 ≤ p ∧ p ≤ 20) ∧ (-20 ≤ q ∧ q ≤ 20) ∧ RetV (.int ((((Krcu.bands g p q).map Prod.fst).foldl max 0 : Nat) : Int)) H Q
theorem ok_longest_in (A : All K mg) : FnOk P w K mg base CX0 7 A.d_longest_in.f A.d_longest_in.fd ["surface", "p", "q"] (sp_longest_in A.C_Surface) := by
  refine A.d_longest_in.fn.ok sc_longest_in (fun vs H Q E h => ?_) (fun cdv Ar outer s H vs Q E hr h => ⟨_, pss_one (ps_ret (pe_callB (cr_max rfl) rfl A.r_max (by decide +kernel) (pa_cons (pe_lc (own := [("band", 3)]) (g := gName 3) (tt := tYes) (te := (tOp (rIxT K) (tVar 3) (tC (.int 0)))) rfl sc_longest_in.nd (pi_list (pe_call (ok_bands_in A) (hr.mono (by decide)) rfl A.d_bands_in.g A.d_bands_in.fn.kp A.d_bands_in.b .nil pass0 (pa_cons (pv 0) (pa_cons (pv 1) (pa_cons (pv 2) pa_nil))))) (blkOk_by (N := ["surface", "p", "q", "band"]) (sc := defScope s_longest_in) (by decide +kernel)) (fun _ _ _ _ _ => pg_name (i := 3) sc_longest_in.nd rfl (.inl rfl)) (fun _ _ _ _ _ => pts_nil) (fun _ _ _ _ _ => (pe_ix ix_tup (pv 3) pe_int (fun _ _ => rfl)))) pa_nil))), ?_⟩)
  · obtain ⟨g, v, p, q, rfl, _⟩ := h
    rfl
  · obtain ⟨g, v, p, q, rfl, hv, o, hp, hq, k⟩ := h
    have bl := o.bands_len p q
    have e : nl ((Krcu.bands g p q).map Prod.fst) = (List.range (Krcu.bands g p q).length).map fun i => V.int ((((Krcu.bands g p q).getD i (0, 0)).1 : Nat) : Int) := by
      show ((Krcu.bands g p q).map _).map _ = _
      rw [List.map_map]
      exact map_at _ _ (0, 0)
    have L := el_lcP (K := K) (σ := L2.start ["surface", "p", "q", "band"] [v, .int p, .int q]) (H := H) (te := tOp (rIxT K) (tVar 3) (tC (.int 0))) (j := 3) (vs := [3]) (n := (Krcu.bands g p q).length) (fun i => V.int ((((Krcu.bands g p q).getD i (0, 0)).1 : Nat) : Int)) (bands_call (C := A.C_Surface) (te := tVar 0) (tp := tVar 1) (tq := tVar 2) o hp hq (ev_var rfl) hv (ev_var rfl) (ev_var rfl)) (by omega) (fun x => rfl) fun v' H1 e1 hb => by
      obtain ⟨pb, vs, rfl, hpb, hlen, hat⟩ := hb.at
      refine ⟨pb, vs, rfl, sq_of hpb, hlen, fun i x H2 hx e2 => ?_⟩
      obtain ⟨t, b, rfl, hb, ht⟩ := hat i x hx
      have eg : (Krcu.bands g p q).getD i (0, 0) = b := by
        rw [List.getD_eq_getElem?_getD, hb]
        rfl
      rw [eg]
      exact ev_tup (K := K) (i := 0) (ev_var rfl) ev_c (e2 _ _ ht) rfl
    rw [← e] at L
    exact s_ret (ev_max (K := K) L (by rw [List.length_map]; omega)) k
/-! ## first_with_one_band -/
def IsO (H : Hp) (v : V) : Option (Int × Int) → Prop
  | none => v = .non
  | some d => ∃ t, v = .ref t ∧ H t = some (.tup (dT d))
def sp_first_with_one_band (C : Addr) : Sp := fun vs H Q _ => ∃ (g : Krct.Glued) (v : V), vs = [v] ∧ IsS C H v g ∧ Gs.Ok g ∧ Ret (fun v H => IsO H v (Gs.oneOf g)) H Q
theorem ok_first_with_one_band (A : All K mg) : FnOk P w K mg base CX0 7 A.d_first_with_one_band.f A.d_first_with_one_band.fd ["surface"] (sp_first_with_one_band A.C_Surface) := by
  refine A.d_first_with_one_band.fn.ok sc_first_with_one_band (fun vs H Q E h => ?_) (fun cdv Ar outer s H vs Q E hr h => ⟨_, pss_cons (ps_for PassesOwn.never rfl (pi_list (pe_call (ok_directions_up_to A) (hr.mono (by decide)) rfl A.d_directions_up_to.g A.d_directions_up_to.fn.kp A.d_directions_up_to.b .nil pass0 (pa_cons (pe_glob (v := .int (5)) rfl A.c_FAR_ENOUGH ⟨_, rfl⟩) pa_nil))) (pg_name (i := 1) sc_first_with_one_band.nd rfl (.inl rfl))
        (pss_one (ps_if (pt_cmpR op_eq (pe_callB call_len_seq rfl A.r_len PySem.boot_len (pa_cons (pe_call (ok_bands_in A) (hr.mono (by decide)) rfl A.d_bands_in.g A.d_bands_in.fn.kp A.d_bands_in.b .nil pass0 (pa_cons (pv 0) (pa_cons (pe_ix ix_tup (pv 1) pe_int (fun _ _ => rfl)) (pa_cons (pe_ix ix_tup (pv 1) pe_int (fun _ _ => rfl)) pa_nil)))) pa_nil)) pe_int (nomark _))
            (pss_one (ps_ret (pv 1)))
            (pss_nil))))
      (pss_one (ps_ret pe_non)), ?_⟩)
  · obtain ⟨g, v, rfl, _⟩ := h
    rfl
  · obtain ⟨g, v, rfl, hv, o, k⟩ := h
    refine q_forPn (K := K) (dirs_call (k := 5) ev_c (by decide) (by decide)) fun u H1 e1 hu => ?_
    obtain ⟨pd, xs, rfl, hpd, hlen, hat⟩ := hu.at
    refine ⟨pd, xs, rfl, sq_of hpd, fun i σ' H' => ∃ y, σ' = [some v, y] ∧ Ex H1 H' ∧ ((Krcu.directions 5).take i).find? (fun d => (Krcu.bands g d.1 d.2).length == 1) = none, ⟨none, rfl, Ex.refl H1, rfl⟩, ?_, ?_, ?_⟩
    · rintro i σ' H' _ ⟨y, _, e2, _⟩
      exact sq_of (e2 _ _ hpd)
    · rintro i x σ' H' hx ⟨y, rfl, e2, hn⟩
      obtain ⟨t, d, rfl, hd, ht⟩ := hat i x hx
      have hm : d ∈ Krcu.directions 5 := by
        obtain ⟨a, b⟩ := List.getElem?_eq_some_iff.mp hd
        rw [← b]
        exact List.getElem_mem a
      obtain ⟨d1, d2⟩ := Gs.dir_mem (k := 5) (by decide) hm
      have c0 : Ev (tOp (rIxT K) (tVar 1) (tC (.int 0))) [some v, some (.ref t)] H' (.int d.1) := ev_tup (K := K) (i := 0) (ev_var rfl) ev_c (e2 _ _ ht) rfl
      have c1 : Ev (tOp (rIxT K) (tVar 1) (tC (.int 1))) [some v, some (.ref t)] H' (.int d.2) := ev_tup (K := K) (i := 1) (ev_var rfl) ev_c (e2 _ _ ht) rfl
      have B := bands_call (C := A.C_Surface) (te := tVar 0) o (by omega) (by omega) (ev_var rfl) (hv.ex (e1.trans e2)) c0 c1
      have lb : Ev (tCB (rLenS K) (tCons (tCall (sp_bands_in A.C_Surface) [] E0 (tCons (tVar 0) (tCons (tOp (rIxT K) (tVar 1) (tC (.int 0))) (tCons (tOp (rIxT K) (tVar 1) (tC (.int 1))) tNil)))) tNil)) [some v, some (.ref t)] H' (.int ((Krcu.bands g d.1 d.2).length : Int)) := fun H2 e3 Q' q' => B H2 e3 _ fun v' H3 e4 hb => by
        obtain ⟨pb, vs, rfl, hpb, hl, _⟩ := hb.at
        rw [← hl] at q'
        exact ⟨pb, vs, rfl, Or.inl (sq_of hpb), q' H3 e4⟩
      refine s_when (et_test (ev_op lb ev_c (rv_eq rfl))) (fun hb H2 e3 => ?_) (fun hb H2 e3 => ?_)
      · have h1 : (Krcu.bands g d.1 d.2).length = 1 := by
          have : V.int ((Krcu.bands g d.1 d.2).length : Int) = V.int 1 := by simpa using hb
          have := V.int.inj this
          omega
        refine s_ret (ev_var rfl) fun H3 e4 => k (.ref t) H3 (e1.trans (e2.trans (e3.trans e4))) ?_
        have ef : Gs.oneOf g = some d := Gs.find_at hd hn (beq_iff_eq.mpr h1)
        rw [ef]
        exact ⟨t, rfl, (e2.trans (e3.trans e4)) _ _ ht⟩
      · have h1 : (Krcu.bands g d.1 d.2).length ≠ 1 := by
          intro z
          rw [z] at hb
          simp at hb
        refine ⟨_, rfl, e2.trans e3, Gs.find_more hd hn ?_⟩
        exact Bool.eq_false_iff.mpr fun z => h1 (beq_iff_eq.mp z)
    · rintro σ' H' ⟨y, rfl, e2, hn⟩
      rw [hlen, List.take_length] at hn
      refine s_ret ev_c fun H3 e3 => k .non H3 (e1.trans (e2.trans e3)) ?_
      have ef : Gs.oneOf g = none := hn
      rw [ef]
      rfl
/-! ## directions_by_bands -/
def sp_directions_by_bands (C : Addr) : Sp := fun vs H Q _ => ∃ (g : Krct.Glued) (v : V) (n : Nat), vs = [v, .int (n : Int)] ∧ IsS C H v g ∧ Gs.Ok g ∧ 1 ≤ n ∧ n ≤ 4 ∧ RetL (nl (Gs.tally ((Krcu.directions n).map (Gs.blen g)))) H Q
theorem ok_directions_by_bands (A : All K mg) : FnOk P w K mg base CX0 7 A.d_directions_by_bands.f A.d_directions_by_bands.fd ["surface", "greatest"] (sp_directions_by_bands A.C_Surface) := by
  refine A.d_directions_by_bands.fn.ok sc_directions_by_bands (fun vs H Q E h => ?_) (fun cdv Ar outer s H vs Q E hr h => ⟨_, pss_cons (ps_set (i := 2) sc_directions_by_bands.nd rfl (.inl rfl) (pe_op op_rep (pe_lst (pa_cons pe_int pa_nil)) (pe_glob (v := .int (6)) rfl A.c_MOST_BANDS ⟨_, rfl⟩)))
      (pss_cons (ps_for PassesOwn.never rfl (pi_list (pe_call (ok_directions_up_to A) (hr.mono (by decide)) rfl A.d_directions_up_to.g A.d_directions_up_to.fn.kp A.d_directions_up_to.b .nil pass0 (pa_cons (pv 1) pa_nil))) (pg_name (i := 3) sc_directions_by_bands.nd rfl (.inl rfl))
        (pss_cons (ps_set (i := 4) sc_directions_by_bands.nd rfl (.inl rfl) (pe_call (ok_bands_in A) (hr.mono (by decide)) rfl A.d_bands_in.g A.d_bands_in.fn.kp A.d_bands_in.b .nil pass0 (pa_cons (pv 0) (pa_cons (pe_ix ix_tup (pv 3) pe_int (fun _ _ => rfl)) (pa_cons (pe_ix ix_tup (pv 3) pe_int (fun _ _ => rfl)) pa_nil)))))
          (pss_one (ps_augS (pv 2) (pe_op op_sub (pe_callB call_len_seq rfl A.r_len PySem.boot_len (pa_cons (pv 4) pa_nil)) pe_int) get_list pe_int ip_add set_list))))
      (pss_one (ps_ret (pv 2)))), ?_⟩)
  · obtain ⟨g, v, n, rfl, _⟩ := h
    rfl
  · obtain ⟨g, v, n, rfl, hv, o, h1, h4, k⟩ := h
    refine q_asgL (el_rep (k := 6) (el_lst (ea_cons ev_c ea_nil) (by decide)) ev_c (by decide) (by decide)) fun pm H0 nm e0 h0 => ?_
    rw [flat_one] at h0
    refine q_forPn (K := K) (dirs_call (k := n) (ev_var rfl) h1 (by omega)) fun u H1 e1 hu => ?_
    obtain ⟨pd, xs, rfl, hpd, hlen, hat⟩ := hu.at
    have m1 := e1 _ _ h0
    have npd : pd ≠ pm := fun z => by
      rw [z, m1] at hpd
      have hx := HO.lst.inj (Option.some.inj hpd)
      obtain ⟨q, d, a, _⟩ := hat 0 (.int 0) (by rw [← hx]; rfl)
      cases a
    refine ⟨pd, xs, rfl, sq_of hpd, fun i σ' H' => ∃ y z, σ' = [some v, some (.int (n : Int)), some (.ref pm), y, z] ∧ Ex H H' ∧ ExB pm H1 H' ∧ H' pm = some (.lst (nl (Gs.tally (((Krcu.directions n).take i).map (Gs.blen g))))), ⟨none, none, rfl, e0.trans e1, Ex.b (Ex.refl H1), ?_⟩, ?_, ?_, ?_⟩
    · rw [m1, List.take_zero]
      rfl
    · rintro i σ' H' _ ⟨y, z, _, _, b2, _⟩
      exact sq_of (b2 _ _ hpd npd)
    · rintro i x σ' H' hx ⟨y, z, rfl, e2, b2, m2⟩
      obtain ⟨t, d, rfl, hd, ht⟩ := hat i x hx
      have ntm : t ≠ pm := fun z => by
        rw [z, m1] at ht
        cases ht
      have ht := b2 _ _ ht ntm
      have hm : d ∈ Krcu.directions n := by
        obtain ⟨a, b⟩ := List.getElem?_eq_some_iff.mp hd
        rw [← b]
        exact List.getElem_mem a
      obtain ⟨d1, d2⟩ := Gs.dir_mem h1 hm
      have bl := o.bands_len d.1 d.2
      have c0 : Ev (tOp (rIxT K) (tVar 3) (tC (.int 0))) [some v, some (.int (n : Int)), some (.ref pm), some (.ref t), z] H' (.int d.1) := ev_tup (K := K) (i := 0) (ev_var rfl) ev_c ht rfl
      have c1 : Ev (tOp (rIxT K) (tVar 3) (tC (.int 1))) [some v, some (.int (n : Int)), some (.ref pm), some (.ref t), z] H' (.int d.2) := ev_tup (K := K) (i := 1) (ev_var rfl) ev_c ht rfl
      refine q_asgP (bands_call (C := A.C_Surface) (te := tVar 0) o (by omega) (by omega) (ev_var rfl) (hv.ex e2) c0 c1) fun u H3 e3 hu => ?_
      obtain ⟨pb, vs, rfl, hpb, hl, _⟩ := hu.at
      have lb := ev_len (K := K) (σ := [some v, some (.int (n : Int)), some (.ref pm), some (.ref t), some (.ref pb)]) (ta := tVar 4) (ev_var rfl) (sq_of hpb)
      rw [hl] at lb
      have li := ev_op (r := rI0 fun i j => .int (i - j)) lb (ev_c (v := .int 1)) rv_I0
      have ei : ((Krcu.bands g d.1 d.2).length : Int) - 1 = (((Gs.blen g d) - 1 : Nat) : Int) := by
        show ((Krcu.bands g d.1 d.2).length : Int) - 1 = (((Krcu.bands g d.1 d.2).length - 1 : Nat) : Int)
        omega
      rw [ei] at li
      have bl' : 1 ≤ Gs.blen g d ∧ Gs.blen g d ≤ 6 := bl
      refine s_augL (K := K) (a := (Krct.to (Gs.tally (((Krcu.directions n).take i).map (Gs.blen g))) (Gs.blen g d - 1) : Int)) (b := 1) (e3 _ _ m2) (ev_var rfl) li (nl_to (by rw [Gs.tally_len]; omega)) ev_c fun H4 e4 => ⟨_, _, rfl, Ex.mut (e2.trans (e3.trans e4)) nm, ExB.mut (b2.ex (e3.trans e4)), ?_⟩
      rw [upd_same, Gs.take_more hd, List.map_append]
      show _ = some (HO.lst (nl (Gs.tally (_ ++ [Gs.blen g d]))))
      rw [Gs.tally_more bl', ← nl_set]
      rfl
    · rintro σ' H' ⟨y, z, rfl, e2, b2, m2⟩
      rw [hlen, List.take_length] at m2
      exact s_ret (ev_var rfl) fun H3 e3 => k pm H3 nm (e2.trans e3) (e3 _ _ m2)
end
end Gw
namespace Gw
open PySem PySem.Spec PyProof.Rows L2 Evl
section
variable {K : PySem.W.Frag} {σ : L2.St} {H H' : Hp} {ta tb te tx : TE} {D : Ends} {tz : TS} {P : V → Hp → Prop}
/-- xs.extend(e), e a new list -/
theorem s_extL {l : Addr} {xs ys : List V} (hl : H l = some (.lst xs)) (ha : Ev ta σ H (.ref l)) (h : EvL te σ H ys) (hz : xs.length + ys.length ≤ 100000) (k : ∀ H1, Ex H H1 → D.nx σ (upd H1 l (.lst (xs ++ ys)))) :
    tDrop (tBM K "list" rExtend ta (tCons te tNil)) D σ H := ha H (Ex.refl H) _ fun H1 e1 =>
  ⟨Or.inl ⟨rfl, xs, sq_of (e1 l _ hl)⟩, h H1 e1 _ fun p H2 _ e2 h2 => ⟨l, p, xs, ys, rfl, rfl, e2 l _ (e1 l _ hl), h2, sz_of hz, k H2 (e1.trans e2)⟩⟩
theorem ints_il (l : List Nat) : il (Krct.ints l) = nl l := (nl_il l).symm
theorem il_app (l k : List Int) : il (l ++ k) = il l ++ il k := List.map_append ..
end
section
variable {P : Program} {w : World} {K : PySem.W.Frag} {mg : Str → Option Value} {base : Heap}
/-! ## counted -/
def sp_counted : Sp := fun vs H Q _ => ∃ (l : List Int) (v : V), vs = [v] ∧ IsV H v (il l) ∧ l.length ≤ 1000 ∧ RetL (il (Gs.cI l)) H Q
theorem ok_counted (A : All K mg) : FnOk P w K mg base CX0 1 A.d_counted.f A.d_counted.fd ["numbers"] sp_counted := by
  refine A.d_counted.fn.ok sc_counted (fun vs H Q E h => ?_) (fun cdv Ar outer s H vs Q E hr h => ⟨_, pss_one (ps_ret (pe_op op_cat (pe_lst (pa_cons (pe_callB call_len_seq rfl A.r_len PySem.boot_len (pa_cons (pv 0) pa_nil)) pa_nil)) (pv 0))), ?_⟩)
  · obtain ⟨l, v, rfl, _⟩ := h
    rfl
  · obtain ⟨l, v, rfl, ⟨p, rfl, hp⟩, hl, k⟩ := h
    have l1 := ev_len (K := K) (σ := L2.start ["numbers"] [.ref p]) (ta := tVar 0) (ev_var rfl) (sq_of hp)
    rw [List.length_map] at l1
    exact s_retL (el_cat1 (el_lst (ea_cons l1 ea_nil) (by show 1 ≤ 100000; decide)) (ev_var rfl) hp (by rw [List.length_map]; show 1 + l.length ≤ 100000; omega)) k
theorem counted_call {σ : L2.St} {H : Hp} {te : TE} {l : List Int} (h : EvL te σ H (il l)) (hl : l.length ≤ 1000) : EvL (tCall sp_counted [] E0 (tCons te tNil)) σ H (il (Gs.cI l)) :=
  el_call1 h fun p H1 e hp Q q => ⟨l, .ref p, rfl, ⟨p, rfl, hp⟩, hl, q⟩
theorem counted_callP {σ : L2.St} {H : Hp} {te : TE} {l : List Int} (h : EvP te σ H fun v H => IsV H v (il l)) (hl : l.length ≤ 1000) : EvL (tCall sp_counted [] E0 (tCons te tNil)) σ H (il (Gs.cI l)) := fun H1 e Q q =>
  h H1 e _ fun v H2 e2 hv => ⟨l, v, rfl, hv, hl, fun p H3 hp e3 h3 => q p H3 (fresh_back e2 hp) (e2.trans e3) h3⟩
theorem counted_callN {σ : L2.St} {H : Hp} {te : TE} {l : List Nat} (h : EvL te σ H (nl l)) (hl : l.length ≤ 1000) : EvL (tCall sp_counted [] E0 (tCons te tNil)) σ H (il (Gs.cI (Krct.ints l))) :=
  counted_call (by rw [ints_il]; exact h) (by rw [Gs.ints_len]; exact hl)
/-! ## tell_bands -/
def sp_tell_bands (C : Addr) : Sp := fun vs H Q _ => ∃ (g : Krct.Glued) (v : V) (p q : Int), vs = [v, .int p, .int q] ∧ IsS C H v g ∧ Gs.Ok g ∧ (-20 ≤ p ∧ p ≤ 20) ∧ (-20 ≤ q ∧ q ≤ 20) ∧ RetL (il (Gs.toldB (Krcu.bands g p q))) H Q
theorem flat_len (B : List (Nat × Nat)) : (B.flatMap fun b => [b.1, b.2]).length = 2 * B.length := by
  induction B with
  | nil => rfl
  | cons x B ih =>
    rw [List.flatMap_cons, List.length_append, ih]
    show 2 + 2 * B.length = 2 * (B.length + 1)
    omega
theorem ok_tell_bands (A : All K mg) : FnOk P w K mg base CX0 7 A.d_tell_bands.f A.d_tell_bands.fd ["surface", "p", "q"] (sp_tell_bands A.C_Surface) := by
  refine A.d_tell_bands.fn.ok sc_tell_bands (fun vs H Q E h => ?_) (fun cdv Ar outer s H vs Q E hr h => ⟨_, pss_cons (ps_set (i := 3) sc_tell_bands.nd rfl (.inl rfl) (pe_call (ok_bands_in A) (hr.mono (by decide)) rfl A.d_bands_in.g A.d_bands_in.fn.kp A.d_bands_in.b .nil pass0 (pa_cons (pv 0) (pa_cons (pv 1) (pa_cons (pv 2) pa_nil)))))
      (pss_cons (ps_set (i := 4) sc_tell_bands.nd rfl (.inl rfl) (pe_lst (pa_cons (pe_callB call_len_seq rfl A.r_len PySem.boot_len (pa_cons (pv 3) pa_nil)) pa_nil)))
      (pss_cons (ps_for PassesOwn.never rfl (pi_list (pv 3)) (pg_name (i := 5) sc_tell_bands.nd rfl (.inl rfl))
        (pss_one (ps_expr (pe_bm PySem.F.plainAttrs_list PySem.F.slot_list_extend PySem.F.type_list_extend mt_extend (pv 4) (pa_cons (pe_lst (pa_cons (pe_ix ix_tup (pv 5) pe_int (fun _ _ => rfl)) (pa_cons (pe_ix ix_tup (pv 5) pe_int (fun _ _ => rfl)) pa_nil))) pa_nil)))))
      (pss_one (ps_ret (pv 4))))), ?_⟩)
  · obtain ⟨g, v, p, q, rfl, _⟩ := h
    rfl
  · obtain ⟨g, v, p, q, rfl, hv, o, hp, hq, k⟩ := h
    have bl := o.bands_len p q
    have call := bands_call (C := A.C_Surface) (σ := L2.start ["surface", "p", "q", "found", "told", "band"] [v, .int p, .int q]) (te := tVar 0) (tp := tVar 1) (tq := tVar 2) o hp hq (ev_var rfl) hv (ev_var rfl) (ev_var rfl)
    obtain ⟨B, eB⟩ : ∃ B, Krcu.bands g p q = B := ⟨_, rfl⟩
    rw [eB] at call k bl
    refine q_asgP call fun u H1 e1 hu => ?_
    obtain ⟨pb, vs, rfl, hpb, hlen, hat⟩ := hu.at
    have l1 := ev_len (K := K) (σ := [some v, some (.int p), some (.int q), some (.ref pb), none, none]) (ta := tVar 3) (ev_var rfl) (sq_of hpb)
    rw [hlen] at l1
    refine q_asgL (el_lst (ea_cons l1 ea_nil) (by show 1 ≤ 100000; decide)) fun pt H2 nt e2 h2 => ?_
    refine q_forLn (K := K) (xs := vs) (ev_var rfl) (sq_of (e2 _ _ hpb)) (fun i σ' H' => ∃ y, σ' = [some v, some (.int p), some (.int q), some (.ref pb), some (.ref pt), y] ∧ Ex H1 H' ∧ H' pt = some (.lst (V.int (B.length : Int) :: nl ((B.take i).flatMap fun b => [b.1, b.2]))))
      (fun H3 e3 => ⟨none, rfl, e2.trans e3, e3 _ _ h2⟩) (fun i σ' H' _ ⟨y, _, e3, _⟩ => sq_of (e3 _ _ hpb)) ?_ ?_
    · rintro i x σ' H' hx ⟨y, rfl, e3, h3⟩
      obtain ⟨t, b, rfl, hb, ht⟩ := hat i x hx
      have hi := (List.getElem?_eq_some_iff.mp hb).1
      refine s_extL (K := K) (ys := nl [b.1, b.2]) h3 (ev_var rfl) (el_lst (ea_cons (ev_tup (K := K) (i := 0) (ev_var rfl) ev_c (e3 _ _ ht) rfl) (ea_cons (ev_tup (K := K) (i := 1) (ev_var rfl) ev_c (e3 _ _ ht) rfl) ea_nil)) (by show 2 ≤ 100000; decide)) ?_ fun H4 e4 => ⟨_, rfl, Ex.mut (e3.trans e4) nt, ?_⟩
      · rw [List.length_cons, nl_len, flat_len, List.length_take]
        show 2 * min i B.length + 1 + 2 ≤ 100000
        omega
      · rw [upd_same, Gs.take_more hb, List.flatMap_append, List.flatMap_singleton, ← nl_app]
        rfl
    · rintro σ' H' ⟨y, rfl, e3, h3⟩
      rw [hlen, List.take_length] at h3
      refine s_ret (ev_var rfl) fun H4 e4 => k pt H4 (fresh_back e1 nt) (e1.trans (e3.trans e4)) ?_
      rw [e4 _ _ h3, ← ints_il]
      rfl
theorem tellb_call {C : Addr} {σ : L2.St} {H : Hp} {te tp tq : TE} {g : Krct.Glued} {v : V} {p q : Int} (o : Gs.Ok g) (hp : -20 ≤ p ∧ p ≤ 20) (hq : -20 ≤ q ∧ q ≤ 20) (ha : Ev te σ H v) (hv : IsS C H v g) (hb : Ev tp σ H (.int p)) (hc : Ev tq σ H (.int q)) : EvL (tCall (sp_tell_bands C) [] E0 (tCons te (tCons tp (tCons tq tNil)))) σ H (il (Gs.toldB (Krcu.bands g p q))) :=
  el_call (ea_cons ha (ea_cons hb (ea_cons hc ea_nil))) fun H1 e Q k E => ⟨g, v, p, q, rfl, hv.ex e, o, hp, hq, k⟩
/-! ## tell_one -/
theorem rv_isN {x : V} {H : Hp} : RV (fun x y H Q => y = .non ∧ Q (.bl (decide (x = .non))) H) x .non H (.bl (decide (x = .non))) := fun H1 _ _ q => ⟨rfl, q H1 (Ex.refl H1)⟩
def sp_tell_one (C : Addr) : Sp := fun vs H Q _ => ∃ (g : Krct.Glued) (v : V), vs = [v] ∧ IsS C H v g ∧ Gs.Ok g ∧ RetL (il (Gs.oneL g)) H Q
theorem ok_tell_one (A : All K mg) : FnOk P w K mg base CX0 8 A.d_tell_one.f A.d_tell_one.fd ["surface"] (sp_tell_one A.C_Surface) := by
  refine A.d_tell_one.fn.ok sc_tell_one (fun vs H Q E h => ?_) (fun cdv Ar outer s H vs Q E hr h => ⟨_, pss_cons (ps_set (i := 1) sc_tell_one.nd rfl (.inl rfl) (pe_call (ok_first_with_one_band A) (hr.mono (by decide)) rfl A.d_first_with_one_band.g A.d_first_with_one_band.fn.kp A.d_first_with_one_band.b .nil pass0 (pa_cons (pv 0) pa_nil)))
      (pss_cons (ps_if (pt_cmpR op_isN (pv 1) pe_non (nomark _))
        (pss_one (ps_ret (pe_lst (pa_cons (pe_glob (v := .int (-33)) rfl A.c_NONE_THERE ⟨_, rfl⟩) pa_nil))))
        (pss_nil))
      (pss_one (ps_ret (pe_lst (pa_cons pe_int (pa_cons (pe_ix ix_tup (pv 1) pe_int (fun _ _ => rfl)) (pa_cons (pe_ix ix_tup (pv 1) pe_int (fun _ _ => rfl)) pa_nil))))))), ?_⟩)
  · obtain ⟨g, v, rfl, _⟩ := h
    rfl
  · obtain ⟨g, v, rfl, hv, o, k⟩ := h
    refine q_asgP (P := fun v H => IsO H v (Gs.oneOf g)) (ep_callA (ea_cons (ev_var rfl) ea_nil) fun H1 e1 Q' q' => ⟨g, v, rfl, hv.ex e1, o, q'⟩) fun u H1 e1 hu => ?_
    unfold Gs.oneL at k
    cases ho : Gs.oneOf g with
    | none =>
      rw [ho] at hu k
      have hu : u = .non := hu
      subst hu
      refine q_when (b := true) (et_test (ev_op (z := .bl true) (ev_var rfl) ev_c rv_isN)) (fun _ H2 e2 => ?_) (fun hb => by cases hb)
      exact s_retL (el_lst (ea_cons ev_c ea_nil) (by show 1 ≤ 100000; decide)) fun p H3 hp e3 h3 => k p H3 (fresh_back (e1.trans e2) hp) (e1.trans (e2.trans e3)) h3
    | some d =>
      rw [ho] at hu k
      obtain ⟨t, rfl, ht⟩ := hu
      refine q_when (b := false) (et_test (ev_op (z := .bl false) (ev_var rfl) ev_c rv_isN)) (fun hb => by cases hb) (fun _ H2 e2 => ?_)
      exact s_retL (el_lst (ea_cons ev_c (ea_cons (ev_tup (K := K) (i := 0) (ev_var rfl) ev_c (e2 _ _ ht) rfl) (ea_cons (ev_tup (K := K) (i := 1) (ev_var rfl) ev_c (e2 _ _ ht) rfl) ea_nil))) (by show 3 ≤ 100000; decide)) fun p H3 hp e3 h3 => k p H3 (fresh_back (e1.trans e2) hp) (e1.trans (e2.trans e3)) h3
/-! ## tell_counts -/
theorem ev_sum {σ : L2.St} {H : Hp} {te : TE} {p : Addr} {l : List Nat} (h : Ev te σ H (.ref p)) (hp : H p = some (.lst (nl l))) : Ev (tCB (rSum K) (tCons te tNil)) σ H (.int ((l.sum : Nat) : Int)) := fun H1 e Q q =>
  h H1 e _ fun H2 e2 => ⟨p, l.map fun (x : Nat) => (x : Int), rfl, by
    rw [nl_il] at hp
    exact sq_of ((e.trans e2) _ _ hp), by
    rw [Gs.int_sum]
    exact q H2 e2⟩
def sp_tell_counts (C : Addr) : Sp := fun vs H Q _ => ∃ (g : Krct.Glued) (v : V) (n : Nat), vs = [v, .int (n : Int)] ∧ IsS C H v g ∧ Gs.Ok g ∧ RetL (il (Gs.countM g n)) H Q
theorem ok_tell_counts (A : All K mg) : FnOk P w K mg base CX0 8 A.d_tell_counts.f A.d_tell_counts.fd ["surface", "greatest"] (sp_tell_counts A.C_Surface) := by
  refine A.d_tell_counts.fn.ok sc_tell_counts (fun vs H Q E h => ?_) (fun cdv Ar outer s H vs Q E hr h => ⟨_, pss_cons (ps_if (PW.pt (pw_or (pt_cmpR op_lt (pv 1) pe_int (nomark _)) (pw_or1 (pt_cmpR op_gt (pv 1) (pe_glob (v := .int (4)) rfl A.c_MOST_COUNTED ⟨_, rfl⟩) (nomark _)))))
        (pss_one (ps_ret (pe_lst (pa_cons (pe_glob (v := .int (-22)) rfl A.c_NOT_RIGHT ⟨_, rfl⟩) pa_nil))))
        (pss_nil))
      (pss_cons (ps_set (i := 2) sc_tell_counts.nd rfl (.inl rfl) (pe_call (ok_directions_by_bands A) (hr.mono (by decide)) rfl A.d_directions_by_bands.g A.d_directions_by_bands.fn.kp A.d_directions_by_bands.b .nil pass0 (pa_cons (pv 0) (pa_cons (pv 1) pa_nil))))
      (pss_one (ps_ret (pe_op op_cat (pe_lst (pa_cons (pe_callB (cr_sum rfl) rfl A.r_sum (by decide +kernel) (pa_cons (pv 2) pa_nil)) pa_nil)) (pv 2))))), ?_⟩)
  · obtain ⟨g, v, n, rfl, _⟩ := h
    rfl
  · obtain ⟨g, v, n, rfl, hv, o, k⟩ := h
    unfold Gs.countM at k
    refine q_when (et_or (a := decide ((n : Int) < 1)) (b := decide ((4 : Int) < (n : Int))) (et_test (ev_op (ev_var rfl) ev_c rv_I0)) fun _ => et_test (ev_op (ev_var rfl) ev_c rv_I0)) (fun hb H1 e1 => ?_) (fun hb H1 e1 => ?_)
    · rw [Bool.or_eq_true, decide_eq_true_iff, decide_eq_true_iff] at hb
      rw [if_pos (by omega)] at k
      exact s_retL (el_lst (ea_cons ev_c ea_nil) (by show 1 ≤ 100000; decide)) fun p H3 hp e3 h3 => k p H3 (fresh_back e1 hp) (e1.trans e3) h3
    · rw [Bool.or_eq_false_iff, decide_eq_false_iff_not, decide_eq_false_iff_not] at hb
      rw [if_neg (by omega)] at k
      refine q_asgL (xs := nl (Gs.tally ((Krcu.directions n).map (Gs.blen g)))) (el_call (ea_cons (ev_var rfl) (ea_cons (ev_var rfl) ea_nil)) fun H2 e2 Q' q' E' => ⟨g, v, n, rfl, hv.ex (e1.trans e2), o, by omega, by omega, q'⟩) fun pm H2 nm e2 h2 => ?_
      have es : (Gs.tally ((Krcu.directions n).map (Gs.blen g))).sum = (Krcu.directions n).length := by
        rw [Gs.tally_sum fun b hb => by
          obtain ⟨d, _, rfl⟩ := List.mem_map.mp hb
          exact o.bands_len d.1 d.2, List.length_map]
      have s1 := ev_sum (K := K) (σ := [some v, some (.int (n : Int)), some (.ref pm)]) (te := tVar 2) (ev_var rfl) h2
      rw [es] at s1
      refine s_retL (el_cat1 (el_lst (ea_cons s1 ea_nil) (by show 1 ≤ 100000; decide)) (ev_var rfl) h2 (by rw [nl_len, Gs.tally_len]; show 1 + 6 ≤ 100000; decide)) fun p H3 hp e3 h3 => k p H3 (fresh_back (e1.trans e2) hp) (e1.trans (e2.trans e3)) ?_
      rw [h3, ← ints_il]
      rfl
/-! ## tell -/
def sp_tell (C : Addr) : Sp := fun vs H Q _ => ∃ (g : Krct.Glued) (v : V) (p : Int), vs = [v, .int p] ∧ IsS C H v g ∧ Gs.Ok g ∧ RetL (il (Gs.tellM g p)) H Q
/-- call == X -/
theorem q_call {σ : L2.St} {H : Hp} {D : Ends} {tu tz : TS} {i : Nat} {p c : Int} (hσ : σ[i]? = some (some (.int p))) (h1 : p = c → ∀ H1, Ex H H1 → tu { D with nx := tz D } σ H1) (h2 : p ≠ c → ∀ H1, Ex H H1 → tz D σ H1) : tSeq (tIfS (tTest (tOp rEq (tVar i) (tC (.int c)))) tu tNext) tz D σ H :=
  q_when (et_test (ev_op (ev_var hσ) ev_c (rv_eq rfl))) (fun hb => h1 (V.int.inj (of_decide_eq_true hb))) (fun hb => h2 fun z => of_decide_eq_false hb (by rw [z]))
theorem ok_tell (A : All K mg) : FnOk P w K mg base CX0 9 A.d_tell.f A.d_tell.fd ["surface", "call"] (sp_tell A.C_Surface) := by
  refine A.d_tell.fn.ok sc_tell (fun vs H Q E h => ?_) (fun cdv Ar outer s H vs Q E hr h => ⟨_, pss_cons (ps_if (pt_cmpR op_eq (pv 1) (pe_glob (v := .int (2)) rfl A.c_CORNERS ⟨_, rfl⟩) (nomark _))
        (pss_one (ps_ret (pe_call (ok_counted A) (hr.mono (by decide)) rfl A.d_counted.g A.d_counted.fn.kp A.d_counted.b .nil pass0 (pa_cons (pe_call (ok_corner_turns A) (hr.mono (by decide)) rfl A.d_corner_turns.g A.d_corner_turns.fn.kp A.d_corner_turns.b .nil pass0 (pa_cons (pv 0) pa_nil)) pa_nil))))
        (pss_nil))
      (pss_cons (ps_if (pt_cmpR op_eq (pv 1) (pe_glob (v := .int (3)) rfl A.c_HOLES ⟨_, rfl⟩) (nomark _))
        (pss_one (ps_ret (pe_lst (pa_cons (pe_call (ok_how_many_holes A) (hr.mono (by decide)) rfl A.d_how_many_holes.g A.d_how_many_holes.fn.kp A.d_how_many_holes.b .nil pass0 (pa_cons (pv 0) pa_nil)) pa_nil))))
        (pss_nil))
      (pss_cons (ps_if (pt_cmpR op_eq (pv 1) (pe_glob (v := .int (4)) rfl A.c_ROWS ⟨_, rfl⟩) (nomark _))
        (pss_one (ps_ret (pe_call (ok_counted A) (hr.mono (by decide)) rfl A.d_counted.g A.d_counted.fn.kp A.d_counted.b .nil pass0 (pa_cons (pe_call (ok_ring_lengths A) (hr.mono (by decide)) rfl A.d_ring_lengths.g A.d_ring_lengths.fn.kp A.d_ring_lengths.b .nil pass0 (pa_cons (pe_fld (pv 0) rfl) pa_nil)) pa_nil))))
        (pss_nil))
      (pss_cons (ps_if (pt_cmpR op_eq (pv 1) (pe_glob (v := .int (5)) rfl A.c_COLUMNS ⟨_, rfl⟩) (nomark _))
        (pss_one (ps_ret (pe_call (ok_counted A) (hr.mono (by decide)) rfl A.d_counted.g A.d_counted.fn.kp A.d_counted.b .nil pass0 (pa_cons (pe_call (ok_ring_lengths A) (hr.mono (by decide)) rfl A.d_ring_lengths.g A.d_ring_lengths.fn.kp A.d_ring_lengths.b .nil pass0 (pa_cons (pe_fld (pv 0) rfl) pa_nil)) pa_nil))))
        (pss_nil))
      (pss_cons (ps_if (pt_cmpR op_eq (pv 1) (pe_glob (v := .int (6)) rfl A.c_NAME ⟨_, rfl⟩) (nomark _))
        (pss_one (ps_ret (pe_call (ok_counted A) (hr.mono (by decide)) rfl A.d_counted.g A.d_counted.fn.kp A.d_counted.b .nil pass0 (pa_cons (pe_call (ok_name_of A) (hr.mono (by decide)) rfl A.d_name_of.g A.d_name_of.fn.kp A.d_name_of.b .nil pass0 (pa_cons (pv 0) pa_nil)) pa_nil))))
        (pss_nil))
      (pss_cons (ps_if (pt_cmpR op_eq (pv 1) (pe_glob (v := .int (10)) rfl A.c_ONE ⟨_, rfl⟩) (nomark _))
        (pss_one (ps_ret (pe_call (ok_tell_one A) (hr.mono (by decide)) rfl A.d_tell_one.g A.d_tell_one.fn.kp A.d_tell_one.b .nil pass0 (pa_cons (pv 0) pa_nil))))
        (pss_nil))
      (pss_cons (ps_if (pt_cmpR op_eq (pv 1) (pe_glob (v := .int (12)) rfl A.c_TOPS ⟨_, rfl⟩) (nomark _))
        (pss_one (ps_ret (pe_call (ok_counted A) (hr.mono (by decide)) rfl A.d_counted.g A.d_counted.fn.kp A.d_counted.b .nil pass0 (pa_cons (pe_call (ok_tops A) (hr.mono (by decide)) rfl A.d_tops.g A.d_tops.fn.kp A.d_tops.b .nil pass0 (pa_cons (pv 0) pa_nil)) pa_nil))))
        (pss_nil))
      (pss_one (ps_ret (pe_op op_cat (pe_op op_cat (pe_lst (pa_cons (pe_callB call_len_seq rfl A.r_len PySem.boot_len (pa_cons (pe_fld (pv 0) rfl) pa_nil)) pa_nil)) (pe_fld (pv 0) rfl)) (pe_fld (pv 0) rfl)))))))))), ?_⟩)
  · obtain ⟨g, v, p, rfl, _⟩ := h
    rfl
  · obtain ⟨g, v, p, rfl, hv, o, k⟩ := h
    have six := o.six
    have fin : ∀ {ys : List Int} {te : TE} {H1 : Hp} {D : Ends}, D.rt = Q → Ex H H1 → Gs.tellM g p = ys → EvL te (L2.start ["surface", "call"] [v, .int p]) H1 (il ys) → tRet te D (L2.start ["surface", "call"] [v, .int p]) H1 := fun {ys te H1 D} hD e1 ey h1 =>
      s_retL h1 fun q H2 hq e2 h2 => by
        rw [hD]
        exact k q H2 (fresh_back e1 hq) (e1.trans e2) (by rw [ey]; exact h2)
    refine q_call rfl (fun c2 H1 e1 => ?_) fun c2 H1 e1 => ?_
    · refine fin rfl e1 (by unfold Gs.tellM; rw [if_pos c2]) (counted_callN (corners_call (C := A.C_Surface) (ev_var rfl) (hv.ex e1) o.two) ?_)
      have := corners_le o.two
      rw [List.length_map]
      omega
    refine q_call rfl (fun c3 H2 e2 => ?_) fun c3 H2 e2 => ?_
    · have e12 := e1.trans e2
      refine fin (ys := [(g.holes : Int)]) rfl e12 (by unfold Gs.tellM; rw [if_neg c2, if_pos c3]) ?_
      exact (el_lst (vs := [.int (g.holes : Int)]) (ea_cons (ev_call (ea_cons (ev_var rfl) ea_nil) fun H3 e3 Q' q' E' => ⟨g, v, rfl, hv.ex (e12.trans e3), o.two, q'⟩) ea_nil) (by show 1 ≤ 100000; decide))
    refine q_call rfl (fun c4 H3 e3 => ?_) fun c4 H3 e3 => ?_
    · have e13 := e1.trans (e2.trans e3)
      obtain ⟨pe, f1, g1⟩ := (hv.ex e13).eastern (A := A) (σ := L2.start ["surface", "call"] [v, .int p]) (te := tVar 0) (ev_var rfl)
      refine fin rfl e13 (by unfold Gs.tellM; rw [if_neg c2, if_neg c3, if_pos c4]) (counted_callN (el_call (ea_cons f1 ea_nil) fun H4 e4 Q' q' E' => ⟨g.n, g.east, .ref pe, rfl, ⟨pe, rfl, e4 _ _ g1⟩, o.ea, six, q'⟩) ?_)
      have := (Gs.cycles_ok o.ea.bij).len_le o.ea.bij
      rw [List.length_map]
      omega
    refine q_call rfl (fun c5 H4 e4 => ?_) fun c5 H4 e4 => ?_
    · have e14 := e1.trans (e2.trans (e3.trans e4))
      obtain ⟨pn, f1, g1⟩ := (hv.ex e14).northern (A := A) (σ := L2.start ["surface", "call"] [v, .int p]) (te := tVar 0) (ev_var rfl)
      refine fin rfl e14 (by unfold Gs.tellM; rw [if_neg c2, if_neg c3, if_neg c4, if_pos c5]) (counted_callN (el_call (ea_cons f1 ea_nil) fun H5 e5 Q' q' E' => ⟨g.n, g.north, .ref pn, rfl, ⟨pn, rfl, e5 _ _ g1⟩, o.no, six, q'⟩) ?_)
      have := (Gs.cycles_ok o.no.bij).len_le o.no.bij
      rw [List.length_map]
      omega
    refine q_call rfl (fun c6 H5 e5 => ?_) fun c6 H5 e5 => ?_
    · have e15 := e1.trans (e2.trans (e3.trans (e4.trans e5)))
      have N : EvP (tCall (sp_name_of A.C_Surface) [] E0 (tCons (tVar 0) tNil)) (L2.start ["surface", "call"] [v, .int p]) H5 fun v H => IsV H v (il (Krct.ints ((Krct.name g).east ++ (Krct.name g).north))) := ep_callA (ea_cons (ev_var rfl) ea_nil) fun H6 e6 Q' q' => by
        rw [ints_il] at q'
        exact ⟨g, v, rfl, hv.ex (e15.trans e6), o, q'⟩
      refine fin rfl e15 (by unfold Gs.tellM; rw [if_neg c2, if_neg c3, if_neg c4, if_neg c5, if_pos c6]) (counted_callP N ?_)
      have := o.name_len
      rw [Gs.ints_len]
      omega
    refine q_call rfl (fun c7 H6 e6 => ?_) fun c7 H6 e6 => ?_
    · have e16 := e1.trans (e2.trans (e3.trans (e4.trans (e5.trans e6))))
      exact fin rfl e16 (by unfold Gs.tellM; rw [if_neg c2, if_neg c3, if_neg c4, if_neg c5, if_neg c6, if_pos c7]) (el_call (ea_cons (ev_var rfl) ea_nil) fun H7 e7 Q' q' E' => ⟨g, v, rfl, hv.ex (e16.trans e7), o, q'⟩)
    refine q_call rfl (fun c8 H7 e7 => ?_) fun c8 H7 e7 => ?_
    · have e17 := e1.trans (e2.trans (e3.trans (e4.trans (e5.trans (e6.trans e7)))))
      refine fin rfl e17 (by unfold Gs.tellM; rw [if_neg c2, if_neg c3, if_neg c4, if_neg c5, if_neg c6, if_neg c7, if_pos c8]) (counted_call (el_call (ea_cons (ev_var rfl) ea_nil) fun H8 e8 Q' q' E' => ⟨g, v, rfl, hv.ex (e17.trans e8), o, q'⟩) ?_)
      have : (Krcu.rows g).length ≤ g.n := o.rows_le
      unfold Gs.topsL
      rw [List.length_map]
      omega
    have e17 := e1.trans (e2.trans (e3.trans (e4.trans (e5.trans (e6.trans e7)))))
    obtain ⟨pe, f1, g1⟩ := (hv.ex e17).eastern (A := A) (σ := L2.start ["surface", "call"] [v, .int p]) (te := tVar 0) (ev_var rfl)
    obtain ⟨pn, f2, g2⟩ := (hv.ex e17).northern (A := A) (σ := L2.start ["surface", "call"] [v, .int p]) (te := tVar 0) (ev_var rfl)
    have l1 := ev_len (K := K) f1 (sq_of g1)
    rw [nl_len, o.ea.len] at l1
    have L := el_cat1 (el_cat1 (el_lst (ea_cons l1 ea_nil) (by show 1 ≤ 100000; decide)) f1 g1 (by rw [nl_len, o.ea.len]; show 1 + g.n ≤ 100000; omega)) f2 g2 (by rw [List.length_append, nl_len, nl_len, o.ea.len, o.no.len]; show 1 + g.n + g.n ≤ 100000; omega)
    refine fin (ys := (g.n : Int) :: Krct.ints (g.east ++ g.north)) rfl e17 (by unfold Gs.tellM; rw [if_neg c2, if_neg c3, if_neg c4, if_neg c5, if_neg c6, if_neg c7, if_neg c8]) ?_
    have ee : il ((g.n : Int) :: Krct.ints (g.east ++ g.north)) = [V.int (g.n : Int)] ++ nl g.east ++ nl g.north := by
      show V.int (g.n : Int) :: il (Krct.ints (g.east ++ g.north)) = _
      rw [ints_il, ← nl_app]
      rfl
    rw [ee]
    exact L
end
end Gw
namespace Gw
open PySem PySem.Spec PyProof.Rows L2 Evl
/-! ## the desk -/
def dF (x : V) : List (Str × V) := [("surface", x)]
theorem dF_l (x : V) : (dF x).lookup ("surface" : Str) = some x := by
  have e : (("surface" : Str) == ("surface" : Str)) = true := beq_self_eq_true _
  unfold dF
  simp only [List.lookup, e]
theorem dF_put (x y : V) : putF "surface" y (dF x) = dF y := by
  show (if ("surface" : Str) = ("surface" : Str) then _ else _) = _
  rw [if_pos rfl]
  rfl
def SurfV (C : Addr) (H : Hp) (v : V) : Option Krct.Glued → Prop
  | none => v = .non
  | some g => IsS C H v g ∧ Gs.Ok g
def IsD (D C : Addr) (H : Hp) (d : Addr) (y : Option Krct.Glued) : Prop := ∃ dx v, H d = some (.ins D dx (dF v)) ∧ SurfV C H v y
theorem SurfV.ex {C : Addr} {H H' : Hp} {v : V} (e : Ex H H') : ∀ {y : Option Krct.Glued}, SurfV C H v y → SurfV C H' v y
  | none, h => h
  | some _, h => ⟨h.1.ex e, h.2⟩
theorem IsD.ex {D C : Addr} {H H' : Hp} {d : Addr} {y : Option Krct.Glued} (e : Ex H H') : IsD D C H d y → IsD D C H' d y
  | ⟨dx, v, a, b⟩ => ⟨dx, v, e _ _ a, b.ex e⟩
theorem IsS.exB {C D d dx : Addr} {H H' : Hp} {u v : V} {g : Krct.Glued} (hd : H d = some (.ins D dx (dF u))) (e : ExB d H H') : IsS C H v g → IsS C H' v g
  | ⟨a, dy, pe, pn, h1, h2, h3, h4⟩ => by
    have na : a ≠ d := fun z => by
      rw [z, hd] at h2
      have h2 := Option.some.inj h2
      injection h2 with _ _ h2
      have := congrArg List.length h2
      exact absurd this (by show 1 ≠ 2; decide)
    have ne : pe ≠ d := fun z => by
      rw [z, hd] at h3
      cases h3
    have nn : pn ≠ d := fun z => by
      rw [z, hd] at h4
      cases h4
    exact ⟨a, dy, pe, pn, h1, e _ _ h2 na, e _ _ h3 ne, e _ _ h4 nn⟩
theorem isd_set {C D d dx : Addr} {H : Hp} {u v : V} {g : Krct.Glued} (hd : H d = some (.ins D dx (dF u))) (hs : IsS C H v g) (o : Gs.Ok g) : IsD D C (upd H d (.ins D dx (dF v))) d (some g) :=
  ⟨dx, v, upd_same, hs.exB hd (ExB.mut (Ex.b (Ex.refl H))), o⟩
def RetD (D C d : Addr) (y : Option Krct.Glued × List Int) (H : Hp) (Q : VK) : Prop := ∀ q H', ExB d H H' → IsD D C H' d y.1 → H' q = some (.lst (il y.2)) → Q (.ref q) H'
theorem RetD.ex {D C d : Addr} {y : Option Krct.Glued × List Int} {H H1 : Hp} {Q : VK} (e : Ex H H1) (k : RetD D C d y H Q) : RetD D C d y H1 Q := fun q H' b i h => k q H' ((Ex.b e).trans b) i h
section
variable {K : PySem.W.Frag} {σ : L2.St} {H H' : Hp} {ta tb te tv : TE} {D : Ends} {tz : TS} {P : V → Hp → Prop}
/-- x.f = e -/
theorem q_fldP {f : Str} {C d dx : Addr} {fs : List (Str × V)} {i : Nat} (hv : EvP tv σ H P) (ho : σ[i]? = some (some (.ref d))) (hd : H d = some (.ins C dx fs)) (cl : Cls K C) (na : NoAttr K C f) (hz : fs.length < 1000) (k : ∀ v H1, Ex H H1 → P v H1 → tz D σ (upd H1 d (.ins C dx (putF f v fs)))) : tSeq (sFld K (tVar i) tv f) tz D σ H :=
  hv H (Ex.refl H) _ fun v H1 e p => ⟨.ref d, ho, d, C, dx, fs, rfl, e _ _ hd, cl, na, hz, k v H1 e p⟩
/-- the end that changes nothing -/
theorem s_retD {C Dk d : Addr} {y : Option Krct.Glued} {ys : List Int} (h : EvL te σ H (il ys)) (i : IsD Dk C H d y) (k : RetD Dk C d (y, ys) H D.rt) : tRet te D σ H :=
  s_retL h fun q H2 _ e2 h2 => k q H2 (Ex.b e2) (i.ex e2) h2
/-- return f(..) -/
theorem s_retA {sp : Sp} {E : XK} {ta : TA} {vs : List V} (h : EvA ta σ H vs) (hs : ∀ H1, Ex H H1 → sp vs H1 D.rt E) : tRet (tCall sp [] E ta) D σ H := h H (Ex.refl H) _ fun H1 e => by
  show sp (vs ++ []) H1 D.rt E
  rw [List.append_nil]
  exact hs H1 e
theorem el_one {i : Int} (h : Ev te σ H (.int i)) : EvL (tLst (tCons te tNil)) σ H (il [i]) := el_lst (ea_cons h ea_nil) (by show 1 ≤ 100000; decide)
end
section
variable {P : Program} {w : World} {K : PySem.W.Frag} {mg : Str → Option Value} {base : Heap}
theorem surf_ev {A : All K mg} {σ : L2.St} {H : Hp} {i : Nat} {d dx : Addr} {v : V} (hσ : σ[i]? = some (some (.ref d))) (hd : H d = some (.ins A.C_Desk dx (dF v))) : Ev (tFld K (tVar i) "surface") σ H v := ev_fld (ev_var hσ) hd A.cl_Desk A.n_Desk_surface (dF_l v)
theorem surf_evP {A : All K mg} {σ : L2.St} {H : Hp} {i : Nat} {d dx : Addr} {v : V} {g : Krct.Glued} (hσ : σ[i]? = some (some (.ref d))) (hd : H d = some (.ins A.C_Desk dx (dF v))) (hs : IsS A.C_Surface H v g) : EvP (tFld K (tVar i) "surface") σ H fun v H => IsS A.C_Surface H v g :=
  (EvP.of (surf_ev (A := A) hσ hd)).imp fun v' H1 e hv => by
    rw [hv]
    exact hs.ex e
def sp_init_Desk (D : Addr) : Sp := fun vs H Q _ => ∃ (p dx : Addr), vs = [.ref p] ∧ H p = some (.ins D dx []) ∧
  ∀ H' : Hp, H' p = some (.ins D dx (dF .non)) → (∀ b o, H b = some o → b ≠ p → H' b = some o) → Q .non H'
theorem ok_init_Desk (A : All K mg) : FnOk P w K mg base CX0 1 A.f_Desk A.fd_Desk ["self"] (sp_init_Desk A.C_Desk) := by
  refine A.fn_Desk.ok sc_init_Desk (fun vs H Q E h => ?_) (fun cdv Ar outer s H vs Q E hr h => ⟨_, pss_one (ps_fld (pv 0) pe_non rfl), ?_⟩)
  · obtain ⟨p, dx, rfl, _⟩ := h
    rfl
  · obtain ⟨p, dx, rfl, hp, k⟩ := h
    refine ⟨_, rfl, p, _, dx, [], rfl, hp, A.cl_Desk, A.n_Desk_surface, (by show 0 < 1000; decide), ?_⟩
    refine k _ ?_ fun b o e hb => by
      rw [upd_ne hb]
      exact e
    rw [upd_same]
    rfl
/-! ## change -/
def sp_change (D C : Addr) : Sp := fun vs H Q _ => ∃ (d dx : Addr) (u v : V) (g : Krct.Glued), vs = [.ref d, v] ∧ H d = some (.ins D dx (dF u)) ∧ IsS C H v g ∧ Gs.Ok g ∧ RetD D C d (some g, [0]) H Q
theorem ok_change (A : All K mg) : FnOk P w K mg base CX0 1 A.d_change.f A.d_change.fd ["desk", "changed"] (sp_change A.C_Desk A.C_Surface) := by
  refine A.d_change.fn.ok sc_change (fun vs H Q E h => ?_) (fun cdv Ar outer s H vs Q E hr h => ⟨_, pss_cons (ps_fld (pv 0) (pv 1) rfl)
      (pss_one (ps_ret (pe_lst (pa_cons pe_int pa_nil)))), ?_⟩)
  · obtain ⟨d, dx, u, v, g, rfl, _⟩ := h
    rfl
  · obtain ⟨d, dx, u, v, g, rfl, hd, hv, o, k⟩ := h
    refine q_fldP (EvP.of (ev_var (v := v) rfl)) rfl hd A.cl_Desk A.n_Desk_surface (by show 1 < 1000; decide) fun v' H1 e1 hv' => ?_
    subst hv'
    rw [dF_put]
    have i1 := isd_set (e1 _ _ hd) (hv.ex e1) o
    exact s_retL (el_one ev_c) fun q H2 _ e2 h2 => k q H2 ((ExB.mut (Ex.b e1)).ex e2) (i1.ex e2) h2
theorem g_change {D C : Addr} {σ : L2.St} {H : Hp} {te : TE} {En : Ends} {i : Nat} {d dx : Addr} {u : V} {g : Krct.Glued} (hσ : σ[i]? = some (some (.ref d))) (hd : H d = some (.ins D dx (dF u))) (hP : EvP te σ H fun v H => IsS C H v g) (o : Gs.Ok g) (k : RetD D C d (some g, [0]) H En.rt) : tRet (tCall (sp_change D C) [] E0 (tCons (tVar i) (tCons te tNil))) En σ H :=
  ⟨.ref d, hσ, hP H (Ex.refl H) _ fun v H2 e p => ⟨d, dx, u, v, g, rfl, e _ _ hd, p, o, k.ex e⟩⟩
/-! ## begin -/
def sp_begin (D C : Addr) : Sp := fun vs H Q _ => ∃ (d : Addr) (y : Option Krct.Glued) (n : Nat), vs = [.ref d, .int (n : Int)] ∧ IsD D C H d y ∧ RetD D C d (Gs.beginM y n) H Q
theorem ok_begin (A : All K mg) : FnOk P w K mg base CX0 4 A.d_begin.f A.d_begin.fd ["desk", "many"] (sp_begin A.C_Desk A.C_Surface) := by
  refine A.d_begin.fn.ok sc_begin (fun vs H Q E h => ?_) (fun cdv Ar outer s H vs Q E hr h => ⟨_, pss_cons (ps_if (PW.pt (pw_or (pt_cmpR op_lt (pv 1) pe_int (nomark _)) (pw_or1 (pt_cmpR op_gt (pv 1) (pe_glob (v := .int (6)) rfl A.c_MOST_SQUARES ⟨_, rfl⟩) (nomark _)))))
        (pss_one (ps_ret (pe_lst (pa_cons (pe_glob (v := .int (-22)) rfl A.c_NOT_RIGHT ⟨_, rfl⟩) pa_nil))))
        (pss_nil))
      (pss_cons (ps_fld (pv 0) (pe_call (ok_one_row A) (hr.mono (by decide)) rfl A.d_one_row.g A.d_one_row.fn.kp A.d_one_row.b .nil pass0 (pa_cons (pv 1) pa_nil)) rfl)
      (pss_one (ps_ret (pe_lst (pa_cons pe_int pa_nil))))), ?_⟩)
  · obtain ⟨d, y, n, rfl, _⟩ := h
    rfl
  · obtain ⟨d, y, n, rfl, hd, k⟩ := h
    unfold Gs.beginM at k
    refine q_when (et_or (a := decide ((n : Int) < 1)) (b := decide ((6 : Int) < (n : Int))) (et_test (ev_op (ev_var rfl) ev_c rv_I0)) fun _ => et_test (ev_op (ev_var rfl) ev_c rv_I0)) (fun hb H1 e1 => ?_) (fun hb H1 e1 => ?_)
    · rw [Bool.or_eq_true, decide_eq_true_iff, decide_eq_true_iff] at hb
      rw [if_pos (by omega)] at k
      exact s_retD (el_one ev_c) (hd.ex e1) (k.ex e1)
    · rw [Bool.or_eq_false_iff, decide_eq_false_iff_not, decide_eq_false_iff_not] at hb
      rw [if_neg (by omega)] at k
      obtain ⟨dx, u, hd, _⟩ := hd
      refine q_fldP (P := fun v H => IsS A.C_Surface H v (Krct.row n)) (ep_callA (ea_cons (ev_var rfl) ea_nil) fun H2 e2 Q' q' => ⟨n, rfl, by omega, by omega, q'⟩) rfl (e1 _ _ hd) A.cl_Desk A.n_Desk_surface (by show 1 < 1000; decide) fun v H2 e2 hv => ?_
      rw [dF_put]
      have i1 := isd_set ((e1.trans e2) _ _ hd) hv (Gs.ok_row (by omega) (by omega))
      exact s_retL (el_one ev_c) fun q H3 _ e3 h3 => k q H3 ((ExB.mut (Ex.b (e1.trans e2))).ex e3) (i1.ex e3) h3
/-! ## glue -/
theorem nl_toNat {l : List Int} (h : ∀ x ∈ l, 0 ≤ x) : nl (l.map Int.toNat) = il l := by
  rw [nl_il, List.map_map]
  congr 1
  conv => rhs; rw [← List.map_id l]
  apply List.map_congr_left
  intro x hx
  have := h x hx
  show ((x.toNat : Nat) : Int) = x
  omega
def sp_glue (D C : Addr) : Sp := fun vs H Q _ => ∃ (d : Addr) (g : Krct.Glued) (l m : List Int) (pe pn : Addr), vs = [.ref d, .ref pe, .ref pn] ∧ IsD D C H d (some g) ∧ H pe = some (.lst (il l)) ∧ H pn = some (.lst (il m)) ∧ (∀ x ∈ l, 0 ≤ x) ∧ (∀ x ∈ m, 0 ≤ x) ∧ RetD D C d (Gs.glueM g (l.map Int.toNat) (m.map Int.toNat)) H Q
theorem ok_glue (A : All K mg) : FnOk P w K mg base CX0 5 A.d_glue.f A.d_glue.fd ["desk", "eastern", "northern"] (sp_glue A.C_Desk A.C_Surface) := by
  refine A.d_glue.fn.ok sc_glue (fun vs H Q E h => ?_) (fun cdv Ar outer s H vs Q E hr h => ⟨_, pss_cons (ps_set (i := 3) sc_glue.nd rfl (.inl rfl) (pe_callB call_len_seq rfl A.r_len PySem.boot_len (pa_cons (pe_fld (pe_fld (pv 0) rfl) rfl) pa_nil)))
      (pss_cons (ps_if (PW.pt (pw_or (pt_not (pt_val (pe_call (ok_tells_all_once A) (hr.mono (by decide)) rfl A.d_tells_all_once.g A.d_tells_all_once.fn.kp A.d_tells_all_once.b .nil pass0 (pa_cons (pv 1) (pa_cons (pv 3) pa_nil))))) (pw_or1 (pt_not (pt_val (pe_call (ok_tells_all_once A) (hr.mono (by decide)) rfl A.d_tells_all_once.g A.d_tells_all_once.fn.kp A.d_tells_all_once.b .nil pass0 (pa_cons (pv 2) (pa_cons (pv 3) pa_nil))))))))
        (pss_one (ps_ret (pe_lst (pa_cons (pe_glob (v := .int (-22)) rfl A.c_NOT_RIGHT ⟨_, rfl⟩) pa_nil))))
        (pss_nil))
      (pss_cons (ps_set (i := 4) sc_glue.nd rfl (.inl rfl) (pe_make A.m_Surface (ok_init_Surface A) (hr.mono (by decide)) rfl A.g_Surface A.b_Surface .nil pass0 (pa_cons (pv 1) (pa_cons (pv 2) pa_nil))))
      (pss_cons (ps_if (pt_not (pt_val (pe_call (ok_hangs_together A) (hr.mono (by decide)) rfl A.d_hangs_together.g A.d_hangs_together.fn.kp A.d_hangs_together.b .nil pass0 (pa_cons (pv 4) pa_nil))))
        (pss_one (ps_ret (pe_lst (pa_cons (pe_glob (v := .int (-33)) rfl A.c_NOT_TOGETHER ⟨_, rfl⟩) pa_nil))))
        (pss_nil))
      (pss_cons (ps_fld (pv 0) (pv 4) rfl)
      (pss_one (ps_ret (pe_lst (pa_cons (pe_callB call_len_seq rfl A.r_len PySem.boot_len (pa_cons (pe_call (ok_corner_turns A) (hr.mono (by decide)) rfl A.d_corner_turns.g A.d_corner_turns.fn.kp A.d_corner_turns.b .nil pass0 (pa_cons (pv 4) pa_nil)) pa_nil)) pa_nil)))))))), ?_⟩)
  · obtain ⟨d, g, l, m, pe, pn, rfl, _⟩ := h
    rfl
  · obtain ⟨d, g, l, m, pe, pn, rfl, hd, hpe, hpn, l0, m0, k⟩ := h
    unfold Gs.glueM at k
    have hd' := hd
    obtain ⟨dx, u, hd, hu, o⟩ := hd
    obtain ⟨qe, f1, g1⟩ := hu.eastern (A := A) (surf_ev (A := A) (σ := L2.start ["desk", "eastern", "northern", "many", "glued"] [.ref d, .ref pe, .ref pn]) (i := 0) rfl hd)
    have l1 := ev_len (K := K) f1 (sq_of g1)
    rw [nl_len, o.ea.len] at l1
    refine q_asg l1 fun H1 e1 => ?_
    have once : ∀ {i : Nat} {q : Addr} {z : List Int} {σ : L2.St} {H2 : Hp}, Ex H H2 → σ[i]? = some (some (.ref q)) → σ[3]? = some (some (.int (g.n : Int))) → H q = some (.lst (il z)) → (∀ x ∈ z, 0 ≤ x) → Ev (tCall sp_tells_all_once [] E0 (tCons (tVar i) (tCons (tVar 3) tNil))) σ H2 (.bl (Krct.isPerm g.n (z.map Int.toNat))) := fun {i q z σ H2} e h1 h2 hq z0 =>
      ev_call (ea_cons (ev_var h1) (ea_cons (ev_var h2) ea_nil)) fun H3 e3 Q' q' E' => ⟨g.n, z, .ref q, rfl, ⟨q, rfl, (e.trans e3) _ _ hq⟩, z0, o.six, q'⟩
    refine q_when (et_or (et_not (et_B (once (i := 1) e1 rfl rfl hpe l0))) fun _ => et_not (et_B (once (i := 2) e1 rfl rfl hpn m0))) (fun hb H2 e2 => ?_) (fun hb H2 e2 => ?_)
    · have hc : ¬ (Krct.isPerm g.n (l.map Int.toNat) = true ∧ Krct.isPerm g.n (m.map Int.toNat) = true) := by
        intro z
        rw [z.1, z.2] at hb
        cases hb
      rw [if_neg hc] at k
      exact s_retD (el_one ev_c) (hd'.ex (e1.trans e2)) (k.ex (e1.trans e2))
    · have hc : Krct.isPerm g.n (l.map Int.toNat) = true ∧ Krct.isPerm g.n (m.map Int.toNat) = true := by
        revert hb
        cases Krct.isPerm g.n (l.map Int.toNat) <;> cases Krct.isPerm g.n (m.map Int.toNat) <;> intro hb <;> first | exact ⟨rfl, rfl⟩ | cases hb
      rw [if_pos hc] at k
      have pl := Gs.isPerm_iff.mp hc.1
      have pm := Gs.isPerm_iff.mp hc.2
      have e12 := e1.trans e2
      have two : Gs.Two ⟨g.n, l.map Int.toNat, m.map Int.toNat⟩ := ⟨o.pos, o.six, pl, pm⟩
      refine q_asgP (ep_surface (C := A.C_Surface) (g := ⟨g.n, l.map Int.toNat, m.map Int.toNat⟩) (EvP.of (ev_var (v := .ref pe) rfl)) fun v H3 e3 hv => (EvP.of (ev_var (v := .ref pn) rfl)).imp fun v' H4 e4 hv' => ⟨pe, pn, hv, hv', ?_, ?_⟩) fun v H3 e3 hs => ?_
      · show H4 pe = some (.lst (nl (l.map Int.toNat)))
        rw [nl_toNat l0]
        exact (e12.trans (e3.trans e4)) _ _ hpe
      · show H4 pn = some (.lst (nl (m.map Int.toNat)))
        rw [nl_toNat m0]
        exact (e12.trans (e3.trans e4)) _ _ hpn
      · have e13 := e12.trans e3
        have hw : Ev (tCall (sp_hangs_together A.C_Surface) [] E0 (tCons (tVar 4) tNil)) [some (.ref d), some (.ref pe), some (.ref pn), some (.int (g.n : Int)), some v] H3 (.bl (Krct.Glued.mk g.n (l.map Int.toNat) (m.map Int.toNat)).whole) := ev_call (ea_cons (ev_var rfl) ea_nil) fun H4 e4 Q' q' E' => ⟨_, v, rfl, hs.ex e4, two, q'⟩
        refine q_when (et_not (et_B hw)) (fun hb H4 e4 => ?_) (fun hb H4 e4 => ?_)
        · rw [if_neg (by intro z; rw [z] at hb; cases hb)] at k
          exact s_retD (el_one ev_c) (hd'.ex (e13.trans e4)) (k.ex (e13.trans e4))
        · have w : (Krct.Glued.mk g.n (l.map Int.toNat) (m.map Int.toNat)).whole = true := by
            revert hb
            cases (Krct.Glued.mk g.n (l.map Int.toNat) (m.map Int.toNat)).whole <;> intro hb <;> first | rfl | cases hb
          rw [if_pos w] at k
          have e14 := e13.trans e4
          refine q_fldP (EvP.of (ev_var (v := v) rfl)) rfl (e14 _ _ hd) A.cl_Desk A.n_Desk_surface (by show 1 < 1000; decide) fun v' H5 e5 hv' => ?_
          subst hv'
          rw [dF_put]
          have e15 := e14.trans e5
          have i1 := isd_set (e15 _ _ hd) (hs.ex (e4.trans e5)) (Gs.ok_glue o.pos o.six pl pm w)
          have s1 := (hs.ex (e4.trans e5)).exB (e15 _ _ hd) (ExB.mut (o := .ins A.C_Desk dx (dF v')) (Ex.b (Ex.refl H5)))
          have l2 := ev_lenN (K := K) (corners_call (C := A.C_Surface) (ev_var (σ := [some (.ref d), some (.ref pe), some (.ref pn), some (.int (g.n : Int)), some v']) (i := 4) rfl) s1 two)
          rw [nl_len, List.length_map] at l2
          exact s_retL (el_one l2) fun q H6 _ e6 h6 => k q H6 ((ExB.mut (Ex.b e15)).ex e6) (i1.ex e6) h6
end
end Gw
namespace Gw
open PySem PySem.Spec PyProof.Rows L2 Evl
section
variable {P : Program} {w : World} {K : PySem.W.Frag} {mg : Str → Option Value} {base : Heap}
/-! ## answer_direction -/
theorem dirOk_small {p q : Int} (h : Krcu.dirOk p q = true) : (-20 ≤ p ∧ p ≤ 20) ∧ (-20 ≤ q ∧ q ≤ 20) := by
  unfold Krcu.dirOk Krcu.mostDir at h
  simp only [Bool.and_eq_true, decide_eq_true_iff] at h
  omega
def sp_answer_direction (D C : Addr) : Sp := fun vs H Q _ => ∃ (d : Addr) (g : Krct.Glued) (c p q : Int), vs = [.ref d, .int c, .int p, .int q] ∧ IsD D C H d (some g) ∧ RetD D C d (Gs.dirM g c p q) H Q
theorem ok_answer_direction (A : All K mg) : FnOk P w K mg base CX0 8 A.d_answer_direction.f A.d_answer_direction.fd ["desk", "call", "p", "q"] (sp_answer_direction A.C_Desk A.C_Surface) := by
  refine A.d_answer_direction.fn.ok sc_answer_direction (fun vs H Q E h => ?_) (fun cdv Ar outer s H vs Q E hr h => ⟨_, pss_cons (ps_if (pt_not (pt_val (pe_call (ok_is_direction A) (hr.mono (by decide)) rfl A.d_is_direction.g A.d_is_direction.fn.kp A.d_is_direction.b .nil pass0 (pa_cons (pv 2) (pa_cons (pv 3) pa_nil)))))
        (pss_one (ps_ret (pe_lst (pa_cons (pe_glob (v := .int (-22)) rfl A.c_NOT_RIGHT ⟨_, rfl⟩) pa_nil))))
        (pss_nil))
      (pss_cons (ps_if (pt_cmpR op_eq (pv 1) (pe_glob (v := .int (16)) rfl A.c_LAY ⟨_, rfl⟩) (nomark _))
        (pss_one (ps_ret (pe_call (ok_change A) (hr.mono (by decide)) rfl A.d_change.g A.d_change.fn.kp A.d_change.b .nil pass0 (pa_cons (pv 0) (pa_cons (pe_call (ok_laid A) (hr.mono (by decide)) rfl A.d_laid.g A.d_laid.fn.kp A.d_laid.b .nil pass0 (pa_cons (pe_fld (pv 0) rfl) (pa_cons (pv 2) (pa_cons (pv 3) pa_nil)))) pa_nil)))))
        (pss_nil))
      (pss_cons (ps_if (pt_cmpR op_eq (pv 1) (pe_glob (v := .int (9)) rfl A.c_LONGEST ⟨_, rfl⟩) (nomark _))
        (pss_one (ps_ret (pe_lst (pa_cons (pe_call (ok_longest_in A) (hr.mono (by decide)) rfl A.d_longest_in.g A.d_longest_in.fn.kp A.d_longest_in.b .nil pass0 (pa_cons (pe_fld (pv 0) rfl) (pa_cons (pv 2) (pa_cons (pv 3) pa_nil)))) pa_nil))))
        (pss_nil))
      (pss_one (ps_ret (pe_call (ok_tell_bands A) (hr.mono (by decide)) rfl A.d_tell_bands.g A.d_tell_bands.fn.kp A.d_tell_bands.b .nil pass0 (pa_cons (pe_fld (pv 0) rfl) (pa_cons (pv 2) (pa_cons (pv 3) pa_nil)))))))), ?_⟩)
  · obtain ⟨d, g, c, p, q, rfl, _⟩ := h
    rfl
  · obtain ⟨d, g, c, p, q, rfl, hd, k⟩ := h
    unfold Gs.dirM at k
    have hd' := hd
    obtain ⟨dx, u, hd, hu, o⟩ := hd
    have di : Ev (tCall sp_is_direction [] E0 (tCons (tVar 2) (tCons (tVar 3) tNil))) (L2.start ["desk", "call", "p", "q"] [.ref d, .int c, .int p, .int q]) H (.bl (Krcu.dirOk p q)) := ev_call (ea_cons (ev_var rfl) (ea_cons (ev_var rfl) ea_nil)) fun H2 e2 Q' q' E' => ⟨p, q, rfl, q'⟩
    refine q_when (et_not (et_B di)) (fun hb H1 e1 => ?_) (fun hb H1 e1 => ?_)
    · rw [if_neg (by intro z; rw [z] at hb; cases hb)] at k
      exact s_retD (el_one ev_c) (hd'.ex e1) (k.ex e1)
    · have ok : Krcu.dirOk p q = true := by
        revert hb
        cases Krcu.dirOk p q <;> intro hb <;> first | rfl | cases hb
      rw [if_pos ok] at k
      obtain ⟨hp, hq⟩ := dirOk_small ok
      refine q_call rfl (fun c1 H2 e2 => ?_) fun c1 H2 e2 => ?_
      · rw [if_pos c1] at k
        have e12 := e1.trans e2
        exact g_change rfl (e12 _ _ hd) (laid_call (C := A.C_Surface) o hp hq (surf_ev (A := A) rfl (e12 _ _ hd)) (hu.ex e12) (ev_var rfl) (ev_var rfl)) (Gs.laid_ok o p q) (k.ex e12)
      · rw [if_neg c1] at k
        refine q_call rfl (fun c2 H3 e3 => ?_) fun c2 H3 e3 => ?_
        · rw [if_pos c2] at k
          have e13 := e1.trans (e2.trans e3)
          have lo : Ev (tCall (sp_longest_in A.C_Surface) [] E0 (tCons (tFld K (tVar 0) "surface") (tCons (tVar 2) (tCons (tVar 3) tNil)))) (L2.start ["desk", "call", "p", "q"] [.ref d, .int c, .int p, .int q]) H3 (.int (Gs.longM g p q : Int)) := ev_call (ea_cons (surf_ev (A := A) rfl (e13 _ _ hd)) (ea_cons (ev_var rfl) (ea_cons (ev_var rfl) ea_nil))) fun H4 e4 Q' q' E' => ⟨g, u, p, q, rfl, hu.ex (e13.trans e4), o, hp, hq, q'⟩
          exact s_retD (el_one lo) (hd'.ex e13) (k.ex e13)
        · rw [if_neg c2] at k
          have e13 := e1.trans (e2.trans e3)
          exact s_retD (tellb_call (C := A.C_Surface) o hp hq (surf_ev (A := A) rfl (e13 _ _ hd)) (hu.ex e13) (ev_var rfl) (ev_var rfl)) (hd'.ex e13) (k.ex e13)
/-! ## answer_begun -/
def sp_answer_begun (D C : Addr) : Sp := fun vs H Q _ => ∃ (d pn pl : Addr) (g : Krct.Glued) (c : Int) (nums : List Int) (rows : List (List Int)) (rs : List V), vs = [.ref d, .int c, .ref pn, .ref pl] ∧ IsD D C H d (some g) ∧
  H pn = some (.lst (il nums)) ∧ H pl = some (.lst rs) ∧ LsAt [] H rs (rows.map il) ∧ Gs.Ask ((c :: nums) :: rows) ∧ c ≠ 0 ∧ RetD D C d (KrcuNeutral.step (some g) ((c :: nums) :: rows)) H Q
theorem ok_answer_begun (A : All K mg) : FnOk P w K mg base CX0 10 A.d_answer_begun.f A.d_answer_begun.fd ["desk", "call", "numbers", "lists"] (sp_answer_begun A.C_Desk A.C_Surface) := by
  refine A.d_answer_begun.fn.ok sc_answer_begun (fun vs H Q E h => ?_) (fun cdv Ar outer s H vs Q E hr h => ⟨_, pss_cons (ps_if (pt_cmpR op_eq (pv 1) (pe_glob (v := .int (1)) rfl A.c_GLUE ⟨_, rfl⟩) (nomark _))
        (pss_one (ps_ret (pe_call (ok_glue A) (hr.mono (by decide)) rfl A.d_glue.g A.d_glue.fn.kp A.d_glue.b .nil pass0 (pa_cons (pv 0) (pa_cons (pe_ix ix_list (pv 3) pe_int (fun _ _ => rfl)) (pa_cons (pe_ix ix_list (pv 3) pe_int (fun _ _ => rfl)) pa_nil))))))
        (pss_nil))
      (pss_cons (ps_if (pt_cmpR op_in_seq (pv 1) (pe_tup (pa_cons (pe_glob (v := .int (8)) rfl A.c_BANDS ⟨_, rfl⟩) (pa_cons (pe_glob (v := .int (9)) rfl A.c_LONGEST ⟨_, rfl⟩) (pa_cons (pe_glob (v := .int (16)) rfl A.c_LAY ⟨_, rfl⟩) pa_nil)))) rfl)
        (pss_one (ps_ret (pe_call (ok_answer_direction A) (hr.mono (by decide)) rfl A.d_answer_direction.g A.d_answer_direction.fn.kp A.d_answer_direction.b .nil pass0 (pa_cons (pv 0) (pa_cons (pv 1) (pa_cons (pe_ix ix_list (pv 2) pe_int (fun _ _ => rfl)) (pa_cons (pe_ix ix_list (pv 2) pe_int (fun _ _ => rfl)) pa_nil)))))))
        (pss_nil))
      (pss_cons (ps_if (pt_cmpR op_eq (pv 1) (pe_glob (v := .int (11)) rfl A.c_COUNTS ⟨_, rfl⟩) (nomark _))
        (pss_one (ps_ret (pe_call (ok_tell_counts A) (hr.mono (by decide)) rfl A.d_tell_counts.g A.d_tell_counts.fn.kp A.d_tell_counts.b .nil pass0 (pa_cons (pe_fld (pv 0) rfl) (pa_cons (pe_ix ix_list (pv 2) pe_int (fun _ _ => rfl)) pa_nil)))))
        (pss_nil))
      (pss_cons (ps_if (pt_cmpR op_eq (pv 1) (pe_glob (v := .int (13)) rfl A.c_SHEAR ⟨_, rfl⟩) (nomark _))
        (pss_one (ps_ret (pe_call (ok_change A) (hr.mono (by decide)) rfl A.d_change.g A.d_change.fn.kp A.d_change.b .nil pass0 (pa_cons (pv 0) (pa_cons (pe_call (ok_sheared A) (hr.mono (by decide)) rfl A.d_sheared.g A.d_sheared.fn.kp A.d_sheared.b .nil pass0 (pa_cons (pe_fld (pv 0) rfl) pa_nil)) pa_nil)))))
        (pss_nil))
      (pss_cons (ps_if (pt_cmpR op_eq (pv 1) (pe_glob (v := .int (14)) rfl A.c_UNSHEAR ⟨_, rfl⟩) (nomark _))
        (pss_one (ps_ret (pe_call (ok_change A) (hr.mono (by decide)) rfl A.d_change.g A.d_change.fn.kp A.d_change.b .nil pass0 (pa_cons (pv 0) (pa_cons (pe_call (ok_sheared_back A) (hr.mono (by decide)) rfl A.d_sheared_back.g A.d_sheared_back.fn.kp A.d_sheared_back.b .nil pass0 (pa_cons (pe_fld (pv 0) rfl) pa_nil)) pa_nil)))))
        (pss_nil))
      (pss_cons (ps_if (pt_cmpR op_eq (pv 1) (pe_glob (v := .int (15)) rfl A.c_TURN ⟨_, rfl⟩) (nomark _))
        (pss_one (ps_ret (pe_call (ok_change A) (hr.mono (by decide)) rfl A.d_change.g A.d_change.fn.kp A.d_change.b .nil pass0 (pa_cons (pv 0) (pa_cons (pe_call (ok_turned A) (hr.mono (by decide)) rfl A.d_turned.g A.d_turned.fn.kp A.d_turned.b .nil pass0 (pa_cons (pe_fld (pv 0) rfl) pa_nil)) pa_nil)))))
        (pss_nil))
      (pss_one (ps_ret (pe_call (ok_tell A) (hr.mono (by decide)) rfl A.d_tell.g A.d_tell.fn.kp A.d_tell.b .nil pass0 (pa_cons (pe_fld (pv 0) rfl) (pa_cons (pv 1) pa_nil)))))))))), ?_⟩)
  · obtain ⟨d, pn, pl, g, c, nums, rows, rs, rfl, _⟩ := h
    rfl
  · obtain ⟨d, pn, pl, g, c, nums, rows, rs, rfl, hd, hpn, hpl, hrs, ask, c0, k⟩ := h
    have hd' := hd
    obtain ⟨dx, u, hd, hu, o⟩ := hd
    refine q_call rfl (fun c1 H1 e1 => ?_) fun c1 H1 e1 => ?_
    · subst c1
      cases ask with
      | bare _ hp => exact absurd hp (by decide)
      | dir _ a b hp => exact absurd hp (by decide)
      | glue l m l0 m0 =>
        rw [Gs.step_glue] at k
        obtain ⟨q1, a1, _, b1⟩ := hrs.at_ 0 (il l) rfl
        obtain ⟨q2, a2, _, b2⟩ := hrs.at_ 1 (il m) rfl
        exact s_retA (ea_cons (ev_var rfl) (ea_cons (ev_at (K := K) (i := 0) (ev_var rfl) ev_c (sq_of (e1 _ _ hpl)) a1) (ea_cons (ev_at (K := K) (i := 1) (ev_var rfl) ev_c (sq_of (e1 _ _ hpl)) a2) ea_nil))) fun H2 e2 => ⟨d, g, l, m, q1, q2, rfl, hd'.ex (e1.trans e2), (e1.trans e2) _ _ b1, (e1.trans e2) _ _ b2, l0, m0, k.ex (e1.trans e2)⟩
    refine q_when (et_test (ev_inU (K := K) (ev_var rfl) (eu_tup (ea_cons ev_c (ea_cons ev_c (ea_cons ev_c ea_nil))) (by show 3 ≤ 100000; decide)) rfl rfl)) (fun hb H2 e2 => ?_) (fun hb H2 e2 => ?_)
    · have hb := (inV_ints c [8, 9, 16]).symm.trans hb
      have hc : c = 8 ∨ c = 9 ∨ c = 16 := by simpa using hb
      have e12 := e1.trans e2
      have key : ∃ a b, nums = [a, b] ∧ rows = [] := by
        cases ask with
        | begin_ a _ => exact absurd rfl c0
        | glue l m _ _ => exact absurd rfl c1
        | bare _ hp => omega
        | dir _ a b _ => exact ⟨a, b, rfl, rfl⟩
        | counts a _ => exact absurd hc (by decide)
      obtain ⟨a, b, rfl, rfl⟩ := key
      rw [Gs.step_dir hc] at k
      exact s_retA (ea_cons (ev_var rfl) (ea_cons (ev_var rfl) (ea_cons (ev_at (K := K) (i := 0) (ev_var rfl) ev_c (sq_of (e12 _ _ hpn)) rfl) (ea_cons (ev_at (K := K) (i := 1) (ev_var rfl) ev_c (sq_of (e12 _ _ hpn)) rfl) ea_nil)))) fun H3 e3 => ⟨d, g, c, a, b, rfl, hd'.ex (e12.trans e3), k.ex (e12.trans e3)⟩
    · have hb := (inV_ints c [8, 9, 16]).symm.trans hb
      have hc : ¬ (c = 8 ∨ c = 9 ∨ c = 16) := by simpa using hb
      refine q_call rfl (fun c2 H3 e3 => ?_) fun c2 H3 e3 => ?_
      · subst c2
        have e13 := e1.trans (e2.trans e3)
        cases ask with
        | bare _ hp => exact absurd hp (by decide)
        | dir _ a b hp => exact absurd hp (by decide)
        | counts a a0 =>
          rw [Gs.step_count] at k
          have ea : ((a.toNat : Nat) : Int) = a := by omega
          exact s_retD (el_call (ea_cons (surf_ev (A := A) rfl (e13 _ _ hd)) (ea_cons (ev_at (K := K) (v := .int ((a.toNat : Nat) : Int)) (i := 0) (ev_var rfl) ev_c (sq_of (e13 _ _ hpn)) (by rw [ea]; rfl)) ea_nil)) fun H4 e4 Q' q' E' => ⟨g, u, a.toNat, rfl, hu.ex (e13.trans e4), o, q'⟩) (hd'.ex e13) (k.ex e13)
      have key : (c = 2 ∨ c = 3 ∨ c = 4 ∨ c = 5 ∨ c = 6 ∨ c = 7 ∨ c = 10 ∨ c = 12 ∨ c = 13 ∨ c = 14 ∨ c = 15) ∧ nums = [] ∧ rows = [] := by
        cases ask with
        | begin_ a _ => exact absurd rfl c0
        | glue l m _ _ => exact absurd rfl c1
        | bare _ hp => exact ⟨hp, rfl, rfl⟩
        | dir _ a b h => exact absurd h hc
        | counts a _ => exact absurd rfl c2
      obtain ⟨hp, rfl, rfl⟩ := key
      refine q_call rfl (fun c3 H4 e4 => ?_) fun c3 H4 e4 => ?_
      · have e14 := e1.trans (e2.trans (e3.trans e4))
        rw [Gs.step_change (f := Krcu.shear) (.inl ⟨c3, rfl⟩)] at k
        exact g_change rfl (e14 _ _ hd) (shear_call (C := A.C_Surface) o (surf_evP (A := A) rfl (e14 _ _ hd) (hu.ex e14))) o.shear (k.ex e14)
      refine q_call rfl (fun c4 H5 e5 => ?_) fun c4 H5 e5 => ?_
      · have e15 := e1.trans (e2.trans (e3.trans (e4.trans e5)))
        rw [Gs.step_change (f := Krcu.unshear) (.inr (.inl ⟨c4, rfl⟩))] at k
        exact g_change rfl (e15 _ _ hd) (unshear_call (C := A.C_Surface) o (surf_evP (A := A) rfl (e15 _ _ hd) (hu.ex e15))) o.unshear (k.ex e15)
      refine q_call rfl (fun c5 H6 e6 => ?_) fun c5 H6 e6 => ?_
      · have e16 := e1.trans (e2.trans (e3.trans (e4.trans (e5.trans e6))))
        rw [Gs.step_change (f := Krcu.turn) (.inr (.inr ⟨c5, rfl⟩))] at k
        exact g_change rfl (e16 _ _ hd) (turn_call (C := A.C_Surface) o (surf_evP (A := A) rfl (e16 _ _ hd) (hu.ex e16))) o.turn (k.ex e16)
      have e16 := e1.trans (e2.trans (e3.trans (e4.trans (e5.trans e6))))
      rw [Gs.step_tell (by omega)] at k
      exact s_retD (el_call (ea_cons (surf_ev (A := A) rfl (e16 _ _ hd)) (ea_cons (ev_var rfl) ea_nil)) fun H7 e7 Q' q' E' => ⟨g, u, c, rfl, hu.ex (e16.trans e7), o, q'⟩) (hd'.ex e16) (k.ex e16)
/-! ## answer -/
def sp_answer (D C : Addr) : Sp := fun vs H Q _ => ∃ (d pn pl : Addr) (y : Option Krct.Glued) (c : Int) (nums : List Int) (rows : List (List Int)) (rs : List V), vs = [.ref d, .int c, .ref pn, .ref pl] ∧ IsD D C H d y ∧
  H pn = some (.lst (il nums)) ∧ H pl = some (.lst rs) ∧ LsAt [] H rs (rows.map il) ∧ Gs.Ask ((c :: nums) :: rows) ∧ RetD D C d (KrcuNeutral.step y ((c :: nums) :: rows)) H Q
theorem ok_answer (A : All K mg) : FnOk P w K mg base CX0 11 A.d_answer.f A.d_answer.fd ["desk", "call", "numbers", "lists"] (sp_answer A.C_Desk A.C_Surface) := by
  refine A.d_answer.fn.ok sc_answer (fun vs H Q E h => ?_) (fun cdv Ar outer s H vs Q E hr h => ⟨_, pss_cons (ps_if (pt_cmpR op_eq (pv 1) (pe_glob (v := .int (0)) rfl A.c_BEGIN ⟨_, rfl⟩) (nomark _))
        (pss_one (ps_ret (pe_call (ok_begin A) (hr.mono (by decide)) rfl A.d_begin.g A.d_begin.fn.kp A.d_begin.b .nil pass0 (pa_cons (pv 0) (pa_cons (pe_ix ix_list (pv 2) pe_int (fun _ _ => rfl)) pa_nil)))))
        (pss_nil))
      (pss_cons (ps_if (pt_cmpR op_isN (pe_fld (pv 0) rfl) pe_non (nomark _))
        (pss_one (ps_ret (pe_lst (pa_cons (pe_glob (v := .int (-11)) rfl A.c_NOT_BEGUN ⟨_, rfl⟩) pa_nil))))
        (pss_nil))
      (pss_one (ps_ret (pe_call (ok_answer_begun A) (hr.mono (by decide)) rfl A.d_answer_begun.g A.d_answer_begun.fn.kp A.d_answer_begun.b .nil pass0 (pa_cons (pv 0) (pa_cons (pv 1) (pa_cons (pv 2) (pa_cons (pv 3) pa_nil)))))))), ?_⟩)
  · obtain ⟨d, pn, pl, y, c, nums, rows, rs, rfl, _⟩ := h
    rfl
  · obtain ⟨d, pn, pl, y, c, nums, rows, rs, rfl, hd, hpn, hpl, hrs, ask, k⟩ := h
    refine q_call rfl (fun c0 H1 e1 => ?_) fun c0 H1 e1 => ?_
    · subst c0
      cases ask with
      | bare _ hp => exact absurd hp (by decide)
      | dir _ a b hp => exact absurd hp (by decide)
      | begin_ a a0 =>
        rw [Gs.step_begin] at k
        have ea : ((a.toNat : Nat) : Int) = a := by omega
        exact s_retA (ea_cons (ev_var rfl) (ea_cons (ev_at (K := K) (v := .int ((a.toNat : Nat) : Int)) (i := 0) (ev_var rfl) ev_c (sq_of (e1 _ _ hpn)) (by rw [ea]; rfl)) ea_nil)) fun H2 e2 => ⟨d, y, a.toNat, rfl, hd.ex (e1.trans e2), k.ex (e1.trans e2)⟩
    have hd' := hd
    obtain ⟨dx, u, hd, hu⟩ := hd
    cases y with
    | none =>
      have hu : u = .non := hu
      subst hu
      rw [Gs.step_none ask (fun a z => by cases z; exact c0 rfl)] at k
      refine q_when (b := true) (et_test (ev_op (z := .bl true) (surf_ev (A := A) rfl (e1 _ _ hd)) ev_c rv_isN)) (fun _ H2 e2 => ?_) (fun hb => by cases hb)
      exact s_retD (el_one ev_c) (hd'.ex (e1.trans e2)) (k.ex (e1.trans e2))
    | some g =>
      obtain ⟨hs, o⟩ := hu
      obtain ⟨a, dy, pe, pn', rfl, _⟩ := hs
      refine q_when (b := false) (et_test (ev_op (z := .bl false) (surf_ev (A := A) rfl (e1 _ _ hd)) ev_c rv_isN)) (fun hb => by cases hb) (fun _ H2 e2 => ?_)
      have e12 := e1.trans e2
      exact s_retA (ea_cons (ev_var rfl) (ea_cons (ev_var rfl) (ea_cons (ev_var rfl) (ea_cons (ev_var rfl) ea_nil)))) fun H3 e3 => ⟨d, pn, pl, g, c, nums, rows, rs, rfl, hd'.ex (e12.trans e3), (e12.trans e3) _ _ hpn, (e12.trans e3) _ _ hpl, hrs.ex (e12.trans e3), ask, c0, k.ex (e12.trans e3)⟩
end
end Gw
/-! ## a list kept out of a call's sight -/
namespace Gw
open PySem PySem.Spec PyProof.Rows L2 Evl
def rem (H : Hp) (a : Addr) : Hp := fun b => if b = a then none else H b
theorem rem_same {H : Hp} {a : Addr} : rem H a a = none := by
  unfold rem
  rw [if_pos rfl]
theorem rem_ne {H : Hp} {a b : Addr} (h : b ≠ a) : rem H a b = H b := by
  unfold rem
  rw [if_neg h]
theorem rem_none {H : Hp} {a b : Addr} (h : H b = none) : rem H a b = none := by
  unfold rem
  split
  · rfl
  · exact h
theorem rem_some {H : Hp} {a b : Addr} {o : HO} (h : rem H a b = some o) : b ≠ a ∧ H b = some o := by
  by_cases c : b = a
  · rw [c, rem_same] at h
    cases h
  · rw [rem_ne c] at h
    exact ⟨c, h⟩
theorem upd_rem {H : Hp} {a : Addr} {o : HO} : upd (rem H a) a o = upd H a o := by
  funext b
  by_cases c : b = a
  · rw [c, upd_same, upd_same]
  · rw [upd_ne c, upd_ne c, rem_ne c]
def spHid (sp : Sp) : Sp := fun vs H Q E => ∃ (a : Addr) (xs : List V), H a = some (.lst xs) ∧ sp vs (rem H a) (fun v H' => H' a = none → Q v (upd H' a (.lst xs))) E
theorem _root_.L2.FnOk.hid {P : Program} {w : World} {K : PySem.W.Frag} {mg : Str → Option Value} {base : Heap} {k : Nat} {f : Addr} {fd : FuncData} {ps : List Str} {sp : Sp} (F : FnOk P w K mg base CX0 k f fd ps sp) : FnOk P w K mg base CX0 k f fd ps (spHid sp) := by
  refine ⟨fun vs H Q E h => ?_, fun A outer s H args us vs Q E hr he hb hv h => ?_⟩
  · obtain ⟨a, xs, _, h⟩ := h
    exact F.len _ _ _ _ h
  · obtain ⟨a, xs, ha, h⟩ := h
    have hok' : HOk P w (rem H a) s.heap := fun b o hbo => by
      obtain ⟨ne, hbo⟩ := rem_some hbo
      exact (he.hok b o hbo).stay (fun _ _ _ q => q) (fun c q => by
        rw [rem_ne (fun z => by rw [z, ha] at q; cases q)]
        exact q) fun c ys q => by
        rw [rem_ne (fun z => by rw [z, ha] at q; cases q)]
        exact q
    have he' : Env0 P w K mg base A outer s (rem H a) := ⟨he.frames, he.mod, fun b o q => ⟨(he.bs b o q).1, rem_none (he.bs b o q).2⟩, he.bsz, he.funs, fun b q => rem_none (he.frf b q), hok', he.bare⟩
    refine codeAny_mono (F.run A outer s (rem H a) args us vs _ E hr he' hb hv h) fun r s' hq => ?_
    cases r with
    | error e => exact hq
    | ok fl =>
      cases fl with
      | next => exact hq
      | brk => exact hq
      | cont => exact hq
      | ret u =>
        obtain ⟨v, H', os, bare, un, hok, rv, q⟩ := hq
        obtain ⟨z, its, n, r, e⟩ := he.hok a _ ha
        have nf : a ∉ frs outer := fun m => by
          rw [he.frf a m] at ha
          cases ha
        have e' := un.keep a _ e rem_same nf (by simp)
        have fr := un.free a _ e rem_same (by simp)
        refine ⟨v, upd H' a (.lst xs), os, bare, ⟨?_, ?_, ?_, ?_, ?_, ?_, ?_⟩, ?_, rv, q fr⟩
        · exact fun b o x n hb hx => un.keep b o x (rem_none n) hb hx
        · exact fun b o x n hb hx => un.slot b o x (rem_none n) hb hx
        · intro b o x n hx
          rw [upd_ne (fun z => by rw [z, ha] at n; cases n)]
          exact un.free b o x (rem_none n) hx
        · exact fun b o x hx => un.there b o x hx
        · intro b ys x
          have ne : b ≠ a := fun z => by rw [z, ha] at x; cases x
          rw [upd_ne ne]
          exact un.tups b ys (by rw [rem_ne ne]; exact x)
        · intro b o u x
          have ne : b ≠ a := fun z => by rw [z, ha] at x; cases x
          rw [upd_ne ne]
          exact un.frzs b o u (by rw [rem_ne ne]; exact x)
        · intro b ps x
          have ne : b ≠ a := fun z => by rw [z, ha] at x; cases x
          rw [upd_ne ne]
          exact un.tbls b ps (by rw [rem_ne ne]; exact x)
        · intro b o x
          by_cases c : b = a
          · rw [c, upd_same] at x
            have x := Option.some.inj x
            subst x
            rw [c]
            exact ⟨z, its, n, r, e'⟩
          · rw [upd_ne c] at x
            exact (hok b o x).stay (fun _ _ _ q => q) (fun c q => by
              rw [upd_ne (ne_of_none q fr)]
              exact q) fun c ys q => by
              rw [upd_ne (ne_of_none q fr)]
              exact q
/-! ## what stands beside the desk -/
section
variable {D d dx : Addr} {fs : List (Str × V)} {H H' : Hp}
theorem LsAt.exB {vs : List V} {R : List (List V)} (hd : H d = some (.ins D dx fs)) (e : ExB d H H') (h : LsAt [] H vs R) : LsAt [] H' vs R :=
  ⟨h.len, fun i r hr => by
    obtain ⟨q, a, b, c⟩ := h.at_ i r hr
    exact ⟨q, a, b, e q _ c (fun z => by rw [z, hd] at c; cases c)⟩⟩
theorem CallAt.exB {v : V} {c : List (List Int)} (hd : H d = some (.ins D dx fs)) (e : ExB d H H') : CallAt [] H v c → CallAt [] H' v c
  | ⟨t, pn, pl, p, nums, rows, rs, h1, h2, h3, h4, h5, h6, h7, h8, h9⟩ => ⟨t, pn, pl, p, nums, rows, rs, h1, h2, h3, h4, h5, e _ _ h6 (fun z => by rw [z, hd] at h6; cases h6), e _ _ h7 (fun z => by rw [z, hd] at h7; cases h7), e _ _ h8 (fun z => by rw [z, hd] at h8; cases h8), h9.exB hd e⟩
theorem CallsAt.exB {vs : List V} {cs : List (List (List Int))} (hd : H d = some (.ins D dx fs)) (e : ExB d H H') (h : CallsAt [] H vs cs) : CallsAt [] H' vs cs :=
  ⟨h.len, fun i r hr => by
    obtain ⟨q, a, b⟩ := h.at_ i r hr
    exact ⟨q, a, b.exB hd e⟩⟩
end
/-! ## how long an answer is -/
theorem step_len {C : Addr} {H : Hp} {v : V} {y : Option Krct.Glued} {c : List (List Int)} (hs : SurfV C H v y) (ask : Gs.Ask c) : (KrcuNeutral.step y c).2.length ≤ 20 := by
  cases y with
  | none =>
    by_cases h : ∃ a, c = [[0, a]]
    · obtain ⟨a, rfl⟩ := h
      rw [Gs.step_begin]
      unfold Gs.beginM
      split <;> exact Nat.le_add_left 1 19
    · rw [Gs.step_none ask fun a z => h ⟨a, z⟩]
      exact Nat.le_add_left 1 19
  | some g =>
    obtain ⟨_, o⟩ := hs
    have six := o.six
    cases ask with
    | begin_ a _ =>
      rw [Gs.step_begin]
      unfold Gs.beginM
      split <;> exact Nat.le_add_left 1 19
    | glue l k _ _ =>
      rw [Gs.step_glue]
      unfold Gs.glueM
      split
      · split <;> exact Nat.le_add_left 1 19
      · exact Nat.le_add_left 1 19
    | dir p a b hp =>
      rw [Gs.step_dir hp]
      unfold Gs.dirM
      split
      · split
        · exact Nat.le_add_left 1 19
        · split
          · exact Nat.le_add_left 1 19
          · have := o.toldB_len a b
            show (Gs.toldB (Krcu.bands g a b)).length ≤ 20
            omega
      · exact Nat.le_add_left 1 19
    | counts a _ =>
      rw [Gs.step_count]
      show (Gs.countM g a.toNat).length ≤ 20
      unfold Gs.countM
      split
      · exact Nat.le_add_left 1 19
      · rw [List.length_cons, Gs.ints_len, Gs.tally_len]
        decide
    | bare p hp =>
      by_cases h : p = 13 ∨ p = 14 ∨ p = 15
      · rcases h with h | h | h
        · rw [Gs.step_change (f := Krcu.shear) (.inl ⟨h, rfl⟩)]
          exact Nat.le_add_left 1 19
        · rw [Gs.step_change (f := Krcu.unshear) (.inr (.inl ⟨h, rfl⟩))]
          exact Nat.le_add_left 1 19
        · rw [Gs.step_change (f := Krcu.turn) (.inr (.inr ⟨h, rfl⟩))]
          exact Nat.le_add_left 1 19
      · rw [Gs.step_tell (by omega)]
        show (Gs.tellM g p).length ≤ 20
        have l1 := corners_le o.two
        have l2 := (Gs.cycles_ok o.ea.bij).len_le o.ea.bij
        have l3 := (Gs.cycles_ok o.no.bij).len_le o.no.bij
        have l4 := o.name_len
        have l5 : (Krcu.rows g).length ≤ g.n := o.rows_le
        unfold Gs.tellM
        split
        · unfold Gs.cI
          rw [List.length_cons, Gs.ints_len, List.length_map]
          omega
        split
        · exact Nat.le_add_left 1 19
        split
        · unfold Gs.cI
          rw [List.length_cons, Gs.ints_len, List.length_map]
          omega
        split
        · unfold Gs.cI
          rw [List.length_cons, Gs.ints_len, List.length_map]
          omega
        split
        · unfold Gs.cI
          rw [List.length_cons, Gs.ints_len]
          omega
        split
        · unfold Gs.oneL
          split
          · exact Nat.le_add_left 1 19
          · exact Nat.le_add_left 3 17
        split
        · unfold Gs.cI Gs.topsL
          rw [List.length_cons, List.length_map]
          omega
        · rw [List.length_cons, Gs.ints_len, List.length_append, o.ea.len, o.no.len]
          omega
/-- xs.extend(c(a(..))) -/
theorem ext_go {K : PySem.W.Frag} {σ : L2.St} {H : Hp} {D : Ends} {spC spA : Sp} {ta : TA} {vs : List V} {i : Nat} {pt : Addr} {xs : List V} (hσ : σ[i]? = some (some (.ref pt))) (hp : H pt = some (.lst xs)) (h : EvA ta σ H vs)
    (k : ∀ H5, Ex H H5 → spA vs H5 (fun v H6 => spC [v] H6 (fun v2 H7 => rExtend (.ref pt) [v2] H7 fun _ H8 => D.nx σ H8) E0) E0) : tDrop (tBM K "list" rExtend (tVar i) (tCons (tCall spC [] E0 (tCons (tCall spA [] E0 ta) tNil)) tNil)) D σ H :=
  ⟨.ref pt, hσ, Or.inl ⟨rfl, xs, sq_of hp⟩, h H (Ex.refl H) _ fun H5 e5 => by
    have q := k H5 e5
    rw [← List.append_nil vs] at q
    exact q⟩
/-! ## answers -/
section
variable {P : Program} {w : World} {K : PySem.W.Frag} {mg : Str → Option Value} {base : Heap}
def sp_answers (K : PySem.W.Frag) : Sp := fun vs H Q _ => ∃ (a : Addr) (l : List Int), vs = [.ref a] ∧ SqL K H a (il l) ∧ l.length ≤ 20600 ∧ PyKrcu.answers_asked l = true ∧
  ∀ (H' : Hp) (p : Addr), H' p = some (.lst (il (PyKrcu.answers l))) → Q (.ref p) H'
theorem ok_answers (A : All K mg) : FnOk P w K mg base CX0 12 A.d_answers.f A.d_answers.fd ["calls"] (sp_answers K) := by
  refine A.d_answers.fn.ok sc_answers (fun vs H Q E h => ?_) (fun cdv Ar outer s H vs Q E hr h => ⟨_, pss_cons (ps_set (i := 1) sc_answers.nd rfl (.inl rfl) (pe_make0 A.m_Desk (ok_init_Desk A) (hr.mono (by decide)) rfl A.g_Desk A.b_Desk .nil pass0))
      (pss_cons (ps_set (i := 2) sc_answers.nd rfl (.inl rfl) (pe_lst pa_nil))
      (pss_cons (ps_for PassesOwn.never rfl (pi_list (pe_call (ok_cut_into_calls A).hid (hr.mono (by decide)) rfl A.d_cut_into_calls.g A.d_cut_into_calls.fn.kp A.d_cut_into_calls.b .nil pass0 (pa_cons (pv 0) pa_nil))) (pg_name (i := 3) sc_answers.nd rfl (.inl rfl))
        (pss_one (ps_expr (pe_bm PySem.F.plainAttrs_list PySem.F.slot_list_extend PySem.F.type_list_extend mt_extend (pv 2) (pa_cons (pe_call (ok_counted A) (hr.mono (by decide)) rfl A.d_counted.g A.d_counted.fn.kp A.d_counted.b .nil pass0 (pa_cons (pe_call (ok_answer A).hid (hr.mono (by decide)) rfl A.d_answer.g A.d_answer.fn.kp A.d_answer.b .nil pass0 (pa_cons (pv 1) (pa_cons (pe_ix ix_tup (pv 3) pe_int (fun _ _ => rfl)) (pa_cons (pe_ix ix_tup (pv 3) pe_int (fun _ _ => rfl)) (pa_cons (pe_ix ix_tup (pv 3) pe_int (fun _ _ => rfl)) pa_nil))))) pa_nil)) pa_nil)))))
      (pss_one (ps_ret (pv 2))))), ?_⟩)
  · obtain ⟨a, l, rfl, _⟩ := h
    rfl
  · obtain ⟨pc, l, rfl, hpc, hl, hask, k⟩ := h
    obtain ⟨raw, hraw, h40, hall⟩ := Gs.asked_of hask
    rw [Gs.answers_eq hraw] at k
    refine fun d dx nd ndx ne => ⟨d, dx, rfl, upd_same, fun H1 h1 hk => ⟨rfl, ?_⟩⟩
    have e1 : Ex H H1 := fun b o hb => hk b o (by rw [upd_ne (ne_of_none hb nd), upd_ne (ne_of_none hb ndx)]; exact hb) (ne_of_none hb nd)
    refine q_asgL (el_lst ea_nil (by decide)) fun pt H2 nt e2 h2 => ?_
    have hdt : d ≠ pt := ne_of_none h1 nt
    have eR : Ex H1 (rem H2 pt) := fun b o hb => by
      rw [rem_ne (ne_of_none hb nt)]
      exact e2 _ _ hb
    refine ⟨.ref pc, rfl, pt, [], h2, pc, l, l.length, raw, rfl, ex_l (e1.trans eR) hpc, hl, hraw, h40, fun q us H3 e3 hq cs np => ?_⟩
    have ul := cs.len
    have nqp : ∀ {G : Hp}, G pt = none → G q = some (.lst us) → q ≠ pt := fun h0 h1 => ne_of_none h1 h0
    refine ⟨q, rfl, ⟨us, sq_of (by rw [upd_ne (nqp np hq)]; exact hq)⟩, ?_⟩
    refine for_list (xs := us) (D := { nx := tRet (tVar 2) { nx := fun x H' => Q V.non H', rt := Q }, rt := Q }) (fun i σ' H' => ∃ (G : Hp) (x : Option V), σ' = [some (.ref pc), some (.ref d), some (.ref pt), x] ∧ H' = upd G pt (.lst (il (PyFlat.told (PyFlat.played KrcuNeutral.step none (raw.take i))))) ∧ (PyFlat.told (PyFlat.played KrcuNeutral.step none (raw.take i))).length ≤ 21 * i ∧ G pt = none ∧ IsD A.C_Desk A.C_Surface G d (Gs.stateOf none (raw.take i)) ∧ G q = some (.lst us) ∧ CallsAt [] G us raw)
      ⟨H3, none, rfl, by rw [List.take_zero]; rfl, by rw [List.take_zero]; exact Nat.le_refl _, np, ⟨dx, .non, e3 _ _ (eR _ _ h1), rfl⟩, hq, cs.sub (by simp)⟩ ?_ ?_ ?_
    · rintro i σ' H' _ ⟨G, x, rfl, rfl, _, g1, g2, g3, g4⟩
      exact sq_of (by rw [upd_ne (nqp g1 g3)]; exact g3)
    · rintro i x σ' H' hx ⟨G, y, rfl, rfl, gl, g1, g2, g3, g4⟩
      have hi : i < raw.length := by
        rw [← ul]
        exact (List.getElem?_eq_some_iff.mp hx).1
      have hc : raw[i]? = some raw[i] := List.getElem?_eq_getElem hi
      generalize raw[i] = c at hc
      have ask : Gs.Ask c := hall c (by
        obtain ⟨a, b⟩ := List.getElem?_eq_some_iff.mp hc
        rw [← b]
        exact List.getElem_mem a)
      obtain ⟨v, hv, ca⟩ := g4.at_ i c hc
      rw [hx] at hv
      have hv := Option.some.inj hv
      subst hv
      obtain ⟨t, pn, pl, p, nums, rows, rs, rfl, rfl, _, _, _, ht, hpn, hpl, hrs⟩ := ca
      rw [Gs.take_more hc]
      generalize hs : raw.take i = done at g2 gl
      rw [Gs.played_app, Gs.told_app, Gs.state_app]
      obtain ⟨dy, u, gd, gu⟩ := g2
      have g2 : IsD A.C_Desk A.C_Surface G d (Gs.stateOf none done) := ⟨dy, u, gd, gu⟩
      have al := step_len gu ask
      generalize hy : Gs.stateOf none done = yy at g2 gu al
      generalize ht0 : PyFlat.told (PyFlat.played KrcuNeutral.step none done) = told at gl
      have i40 : i < 40 := by omega
      have tH : (upd G pt (.lst (il told))) t = some (.tup [.int p, .ref pn, .ref pl]) := by
        rw [upd_ne (ne_of_none ht g1)]
        exact ht
      have arg : EvA (tCons (tVar 1) (tCons (tOp (rIxT K) (tVar 3) (tC (.int 0))) (tCons (tOp (rIxT K) (tVar 3) (tC (.int 1))) (tCons (tOp (rIxT K) (tVar 3) (tC (.int 2))) tNil)))) [some (.ref pc), some (.ref d), some (.ref pt), some (.ref t)] (upd G pt (.lst (il told))) [.ref d, .int p, .ref pn, .ref pl] := ea_cons (ev_var rfl) (ea_cons (ev_tup (K := K) (i := 0) (ev_var rfl) ev_c tH rfl) (ea_cons (ev_tup (K := K) (i := 1) (ev_var rfl) ev_c tH rfl) (ea_cons (ev_tup (K := K) (i := 2) (ev_var rfl) ev_c tH rfl) ea_nil)))
      refine ext_go (K := K) (i := 2) rfl upd_same arg fun H5 e5 => ?_
      have eG : Ex G (rem H5 pt) := fun b o hb => by
        have nb := ne_of_none hb g1
        rw [rem_ne nb]
        exact e5 _ _ (by rw [upd_ne nb]; exact hb)
      refine ⟨pt, il told, e5 _ _ upd_same, d, pn, pl, yy, p, nums, rows, rs, rfl, g2.ex eG, eG _ _ hpn, eG _ _ hpl, hrs.ex eG, ask, fun q2 H6 b6 i6 h6 n6 => ?_⟩
      generalize KrcuNeutral.step yy ((p :: nums) :: rows) = res at al i6 h6
      refine ⟨res.2, .ref q2, rfl, ⟨q2, rfl, by rw [upd_ne (ne_of_none h6 n6)]; exact h6⟩, by omega, fun p3 H7 n7 e7 h7 => ?_⟩
      have e67 : Ex H6 (rem H7 pt) := fun b o hb => by
        have nb := ne_of_none hb n6
        rw [rem_ne nb]
        exact e7 _ _ (by rw [upd_ne nb]; exact hb)
      have gd5 := eG _ _ gd
      refine ⟨pt, p3, il told, il (Gs.cI res.2), rfl, rfl, e7 _ _ upd_same, h7, ?_, rem H7 pt, _, rfl, ?_, ?_, rem_same, i6.ex e67, e67 _ _ (b6 _ _ (eG _ _ g3) (fun z => by rw [z, gd] at g3; cases g3)), ((g4.ex eG).exB gd5 b6).ex e67⟩
      · refine sz_of ?_
        rw [List.length_map, List.length_map]
        show told.length + (res.2.length + 1) ≤ 100000
        omega
      · rw [upd_rem, il_app]
        rfl
      · rw [List.length_append]
        show told.length + (res.2.length + 1) ≤ 21 * (i + 1)
        omega
    · rintro σ' H' ⟨G, x, rfl, rfl, _, g1, g2, g3, g4⟩
      rw [ul, List.take_length]
      exact s_ret (ev_var rfl) fun H8 e8 => k H8 pt (e8 _ _ upd_same)
theorem fin_mk {fa : Addr} (A : All K mg) (hmg : mg "answers" = some (.ref fa)) : ∃ fd : FuncData, (∀ (s : Shared) (us : List Value), us.length = (["calls"] : List Str).length → BindsTo s fd ⟨us, []⟩ ((["calls"] : List Str).zip us)) ∧
    ∀ base : Heap, K.In base → base.Ns mainGlobals mg → FnOk P w K mg base CX0 12 fa fd ["calls"] (sp_answers K) := by
  have e := A.d_answers.g
  rw [hmg] at e
  have e := Option.some.inj e
  injection e with e
  subst e
  exact ⟨A.d_answers.fd, A.d_answers.bt, fun base _ _ => ok_answers A⟩
end
end Gw
open PySem PySem.W PyProof.Rows
set_option maxRecDepth 100000 in
set_option maxHeartbeats 8000000 in
theorem PySem.Challenge.cw_gluedsquaresdesk_s01_answers_holds : PySem.Challenge.rw_gluedsquaresdesk_s01_answers.Holds := by
  w_on; k_headS; (case hw => exact ⟨[.list []], by decide +kernel, by decide +kernel⟩)
  k_fillS
  refine L2.walk_specK (r := PySem.Challenge.rw_gluedsquaresdesk_s01_answers) (k := 12) (CX := L2.CX0) (ps := ["calls"]) (sp := Gw.sp_answers) (by decide +kernel) rfl rfl ⟨rfl, by decide, by decide⟩ (fun w h Y => PySem.W.kIn_of Y) ?F ?S (fun _ _ _ _ z => z)
  case F =>
    intro w mg fa h Y KX G hmg
    refine' Gw.df_use (x := "common_part") (st := Gw.s_common_part) (ps := ["one", "other"]) KX G ?a ?l ?c ?k (fun _ _ _ _ _ _ us hl => match us, hl with | [_, _], _ => rfl) (fun d_common_part => ?_)
    (case a => k_is); (case l => k_is); (case c => k_is); (case k => k_is)
    refine' Gw.df_use (x := "has_no_common_part") (st := Gw.s_has_no_common_part) (ps := ["p", "q"]) KX G ?a ?l ?c ?k (fun _ _ _ _ _ _ us hl => match us, hl with | [_, _], _ => rfl) (fun d_has_no_common_part => ?_)
    (case a => k_is); (case l => k_is); (case c => k_is); (case k => k_is)
    refine' Gw.df_use (x := "is_direction") (st := Gw.s_is_direction) (ps := ["p", "q"]) KX G ?a ?l ?c ?k (fun _ _ _ _ _ _ us hl => match us, hl with | [_, _], _ => rfl) (fun d_is_direction => ?_)
    (case a => k_is); (case l => k_is); (case c => k_is); (case k => k_is)
    refine' Gw.df_use (x := "directions_up_to") (st := Gw.s_directions_up_to) (ps := ["greatest"]) KX G ?a ?l ?c ?k (fun _ _ _ _ _ _ us hl => match us, hl with | [_], _ => rfl) (fun d_directions_up_to => ?_)
    (case a => k_is); (case l => k_is); (case c => k_is); (case k => k_is)
    refine' Gw.df_use (x := "one_row") (st := Gw.s_one_row) (ps := ["many"]) KX G ?a ?l ?c ?k (fun _ _ _ _ _ _ us hl => match us, hl with | [_], _ => rfl) (fun d_one_row => ?_)
    (case a => k_is); (case l => k_is); (case c => k_is); (case k => k_is)
    refine' Gw.df_use (x := "tells_all_once") (st := Gw.s_tells_all_once) (ps := ["squares", "many"]) KX G ?a ?l ?c ?k (fun _ _ _ _ _ _ us hl => match us, hl with | [_, _], _ => rfl) (fun d_tells_all_once => ?_)
    (case a => k_is); (case l => k_is); (case c => k_is); (case k => k_is)
    refine' Gw.df_use (x := "backward") (st := Gw.s_backward) (ps := ["step"]) KX G ?a ?l ?c ?k (fun _ _ _ _ _ _ us hl => match us, hl with | [_], _ => rfl) (fun d_backward => ?_)
    (case a => k_is); (case l => k_is); (case c => k_is); (case k => k_is)
    refine' Gw.df_use (x := "ring_from") (st := Gw.s_ring_from) (ps := ["step", "square"]) KX G ?a ?l ?c ?k (fun _ _ _ _ _ _ us hl => match us, hl with | [_, _], _ => rfl) (fun d_ring_from => ?_)
    (case a => k_is); (case l => k_is); (case c => k_is); (case k => k_is)
    refine' Gw.df_use (x := "rings") (st := Gw.s_rings) (ps := ["step"]) KX G ?a ?l ?c ?k (fun _ _ _ _ _ _ us hl => match us, hl with | [_], _ => rfl) (fun d_rings => ?_)
    (case a => k_is); (case l => k_is); (case c => k_is); (case k => k_is)
    refine' Gw.df_use (x := "ring_lengths") (st := Gw.s_ring_lengths) (ps := ["step"]) KX G ?a ?l ?c ?k (fun _ _ _ _ _ _ us hl => match us, hl with | [_], _ => rfl) (fun d_ring_lengths => ?_)
    (case a => k_is); (case l => k_is); (case c => k_is); (case k => k_is)
    refine' Gw.df_use (x := "once_round") (st := Gw.s_once_round) (ps := ["surface"]) KX G ?a ?l ?c ?k (fun _ _ _ _ _ _ us hl => match us, hl with | [_], _ => rfl) (fun d_once_round => ?_)
    (case a => k_is); (case l => k_is); (case c => k_is); (case k => k_is)
    refine' Gw.df_use (x := "corner_turns") (st := Gw.s_corner_turns) (ps := ["surface"]) KX G ?a ?l ?c ?k (fun _ _ _ _ _ _ us hl => match us, hl with | [_], _ => rfl) (fun d_corner_turns => ?_)
    (case a => k_is); (case l => k_is); (case c => k_is); (case k => k_is)
    refine' Gw.df_use (x := "how_many_holes") (st := Gw.s_how_many_holes) (ps := ["surface"]) KX G ?a ?l ?c ?k (fun _ _ _ _ _ _ us hl => match us, hl with | [_], _ => rfl) (fun d_how_many_holes => ?_)
    (case a => k_is); (case l => k_is); (case c => k_is); (case k => k_is)
    refine' Gw.df_use (x := "order_from") (st := Gw.s_order_from) (ps := ["surface", "first"]) KX G ?a ?l ?c ?k (fun _ _ _ _ _ _ us hl => match us, hl with | [_, _], _ => rfl) (fun d_order_from => ?_)
    (case a => k_is); (case l => k_is); (case c => k_is); (case k => k_is)
    refine' Gw.df_use (x := "hangs_together") (st := Gw.s_hangs_together) (ps := ["surface"]) KX G ?a ?l ?c ?k (fun _ _ _ _ _ _ us hl => match us, hl with | [_], _ => rfl) (fun d_hangs_together => ?_)
    (case a => k_is); (case l => k_is); (case c => k_is); (case k => k_is)
    refine' Gw.df_use (x := "told_in_order") (st := Gw.s_told_in_order) (ps := ["surface", "order"]) KX G ?a ?l ?c ?k (fun _ _ _ _ _ _ us hl => match us, hl with | [_, _], _ => rfl) (fun d_told_in_order => ?_)
    (case a => k_is); (case l => k_is); (case c => k_is); (case k => k_is)
    refine' Gw.df_use (x := "name_of") (st := Gw.s_name_of) (ps := ["surface"]) KX G ?a ?l ?c ?k (fun _ _ _ _ _ _ us hl => match us, hl with | [_], _ => rfl) (fun d_name_of => ?_)
    (case a => k_is); (case l => k_is); (case c => k_is); (case k => k_is)
    refine' Gw.df_use (x := "sheared") (st := Gw.s_sheared) (ps := ["surface"]) KX G ?a ?l ?c ?k (fun _ _ _ _ _ _ us hl => match us, hl with | [_], _ => rfl) (fun d_sheared => ?_)
    (case a => k_is); (case l => k_is); (case c => k_is); (case k => k_is)
    refine' Gw.df_use (x := "sheared_back") (st := Gw.s_sheared_back) (ps := ["surface"]) KX G ?a ?l ?c ?k (fun _ _ _ _ _ _ us hl => match us, hl with | [_], _ => rfl) (fun d_sheared_back => ?_)
    (case a => k_is); (case l => k_is); (case c => k_is); (case k => k_is)
    refine' Gw.df_use (x := "turned") (st := Gw.s_turned) (ps := ["surface"]) KX G ?a ?l ?c ?k (fun _ _ _ _ _ _ us hl => match us, hl with | [_], _ => rfl) (fun d_turned => ?_)
    (case a => k_is); (case l => k_is); (case c => k_is); (case k => k_is)
    refine' Gw.df_use (x := "sheared_back_often") (st := Gw.s_sheared_back_often) (ps := ["surface", "many"]) KX G ?a ?l ?c ?k (fun _ _ _ _ _ _ us hl => match us, hl with | [_, _], _ => rfl) (fun d_sheared_back_often => ?_)
    (case a => k_is); (case l => k_is); (case c => k_is); (case k => k_is)
    refine' Gw.df_use (x := "laid") (st := Gw.s_laid) (ps := ["surface", "p", "q"]) KX G ?a ?l ?c ?k (fun _ _ _ _ _ _ us hl => match us, hl with | [_, _, _], _ => rfl) (fun d_laid => ?_)
    (case a => k_is); (case l => k_is); (case c => k_is); (case k => k_is)
    refine' Gw.df_use (x := "is_smooth") (st := Gw.s_is_smooth) (ps := ["row", "around"]) KX G ?a ?l ?c ?k (fun _ _ _ _ _ _ us hl => match us, hl with | [_, _], _ => rfl) (fun d_is_smooth => ?_)
    (case a => k_is); (case l => k_is); (case c => k_is); (case k => k_is)
    refine' Gw.df_use (x := "tops") (st := Gw.s_tops) (ps := ["surface"]) KX G ?a ?l ?c ?k (fun _ _ _ _ _ _ us hl => match us, hl with | [_], _ => rfl) (fun d_tops => ?_)
    (case a => k_is); (case l => k_is); (case c => k_is); (case k => k_is)
    refine' Gw.df_use (x := "row_places") (st := Gw.s_row_places) (ps := ["rows", "many"]) KX G ?a ?l ?c ?k (fun _ _ _ _ _ _ us hl => match us, hl with | [_, _], _ => rfl) (fun d_row_places => ?_)
    (case a => k_is); (case l => k_is); (case c => k_is); (case k => k_is)
    refine' Gw.df_use (x := "rows_above") (st := Gw.s_rows_above) (ps := ["surface", "rows"]) KX G ?a ?l ?c ?k (fun _ _ _ _ _ _ us hl => match us, hl with | [_, _], _ => rfl) (fun d_rows_above => ?_)
    (case a => k_is); (case l => k_is); (case c => k_is); (case k => k_is)
    refine' Gw.df_use (x := "height_from") (st := Gw.s_height_from) (ps := ["lowest", "above"]) KX G ?a ?l ?c ?k (fun _ _ _ _ _ _ us hl => match us, hl with | [_, _], _ => rfl) (fun d_height_from => ?_)
    (case a => k_is); (case l => k_is); (case c => k_is); (case k => k_is)
    refine' Gw.df_use (x := "bands_to_east") (st := Gw.s_bands_to_east) (ps := ["surface"]) KX G ?a ?l ?c ?k (fun _ _ _ _ _ _ us hl => match us, hl with | [_], _ => rfl) (fun d_bands_to_east => ?_)
    (case a => k_is); (case l => k_is); (case c => k_is); (case k => k_is)
    refine' Gw.df_use (x := "bands_in") (st := Gw.s_bands_in) (ps := ["surface", "p", "q"]) KX G ?a ?l ?c ?k (fun _ _ _ _ _ _ us hl => match us, hl with | [_, _, _], _ => rfl) (fun d_bands_in => ?_)
    (case a => k_is); (case l => k_is); (case c => k_is); (case k => k_is)
    refine' Gw.df_use (x := "longest_in") (st := Gw.s_longest_in) (ps := ["surface", "p", "q"]) KX G ?a ?l ?c ?k (fun _ _ _ _ _ _ us hl => match us, hl with | [_, _, _], _ => rfl) (fun d_longest_in => ?_)
    (case a => k_is); (case l => k_is); (case c => k_is); (case k => k_is)
    refine' Gw.df_use (x := "first_with_one_band") (st := Gw.s_first_with_one_band) (ps := ["surface"]) KX G ?a ?l ?c ?k (fun _ _ _ _ _ _ us hl => match us, hl with | [_], _ => rfl) (fun d_first_with_one_band => ?_)
    (case a => k_is); (case l => k_is); (case c => k_is); (case k => k_is)
    refine' Gw.df_use (x := "directions_by_bands") (st := Gw.s_directions_by_bands) (ps := ["surface", "greatest"]) KX G ?a ?l ?c ?k (fun _ _ _ _ _ _ us hl => match us, hl with | [_, _], _ => rfl) (fun d_directions_by_bands => ?_)
    (case a => k_is); (case l => k_is); (case c => k_is); (case k => k_is)
    refine' Gw.df_use (x := "how_many_numbers") (st := Gw.s_how_many_numbers) (ps := ["call"]) KX G ?a ?l ?c ?k (fun _ _ _ _ _ _ us hl => match us, hl with | [_], _ => rfl) (fun d_how_many_numbers => ?_)
    (case a => k_is); (case l => k_is); (case c => k_is); (case k => k_is)
    refine' Gw.df_use (x := "how_many_lists") (st := Gw.s_how_many_lists) (ps := ["call"]) KX G ?a ?l ?c ?k (fun _ _ _ _ _ _ us hl => match us, hl with | [_], _ => rfl) (fun d_how_many_lists => ?_)
    (case a => k_is); (case l => k_is); (case c => k_is); (case k => k_is)
    refine' Gw.df_use (x := "cut_into_calls") (st := Gw.s_cut_into_calls) (ps := ["calls"]) KX G ?a ?l ?c ?k (fun _ _ _ _ _ _ us hl => match us, hl with | [_], _ => rfl) (fun d_cut_into_calls => ?_)
    (case a => k_is); (case l => k_is); (case c => k_is); (case k => k_is)
    refine' Gw.df_use (x := "counted") (st := Gw.s_counted) (ps := ["numbers"]) KX G ?a ?l ?c ?k (fun _ _ _ _ _ _ us hl => match us, hl with | [_], _ => rfl) (fun d_counted => ?_)
    (case a => k_is); (case l => k_is); (case c => k_is); (case k => k_is)
    refine' Gw.df_use (x := "begin") (st := Gw.s_begin) (ps := ["desk", "many"]) KX G ?a ?l ?c ?k (fun _ _ _ _ _ _ us hl => match us, hl with | [_, _], _ => rfl) (fun d_begin => ?_)
    (case a => k_is); (case l => k_is); (case c => k_is); (case k => k_is)
    refine' Gw.df_use (x := "glue") (st := Gw.s_glue) (ps := ["desk", "eastern", "northern"]) KX G ?a ?l ?c ?k (fun _ _ _ _ _ _ us hl => match us, hl with | [_, _, _], _ => rfl) (fun d_glue => ?_)
    (case a => k_is); (case l => k_is); (case c => k_is); (case k => k_is)
    refine' Gw.df_use (x := "change") (st := Gw.s_change) (ps := ["desk", "changed"]) KX G ?a ?l ?c ?k (fun _ _ _ _ _ _ us hl => match us, hl with | [_, _], _ => rfl) (fun d_change => ?_)
    (case a => k_is); (case l => k_is); (case c => k_is); (case k => k_is)
    refine' Gw.df_use (x := "tell_bands") (st := Gw.s_tell_bands) (ps := ["surface", "p", "q"]) KX G ?a ?l ?c ?k (fun _ _ _ _ _ _ us hl => match us, hl with | [_, _, _], _ => rfl) (fun d_tell_bands => ?_)
    (case a => k_is); (case l => k_is); (case c => k_is); (case k => k_is)
    refine' Gw.df_use (x := "answer_direction") (st := Gw.s_answer_direction) (ps := ["desk", "call", "p", "q"]) KX G ?a ?l ?c ?k (fun _ _ _ _ _ _ us hl => match us, hl with | [_, _, _, _], _ => rfl) (fun d_answer_direction => ?_)
    (case a => k_is); (case l => k_is); (case c => k_is); (case k => k_is)
    refine' Gw.df_use (x := "tell_one") (st := Gw.s_tell_one) (ps := ["surface"]) KX G ?a ?l ?c ?k (fun _ _ _ _ _ _ us hl => match us, hl with | [_], _ => rfl) (fun d_tell_one => ?_)
    (case a => k_is); (case l => k_is); (case c => k_is); (case k => k_is)
    refine' Gw.df_use (x := "tell_counts") (st := Gw.s_tell_counts) (ps := ["surface", "greatest"]) KX G ?a ?l ?c ?k (fun _ _ _ _ _ _ us hl => match us, hl with | [_, _], _ => rfl) (fun d_tell_counts => ?_)
    (case a => k_is); (case l => k_is); (case c => k_is); (case k => k_is)
    refine' Gw.df_use (x := "tell") (st := Gw.s_tell) (ps := ["surface", "call"]) KX G ?a ?l ?c ?k (fun _ _ _ _ _ _ us hl => match us, hl with | [_, _], _ => rfl) (fun d_tell => ?_)
    (case a => k_is); (case l => k_is); (case c => k_is); (case k => k_is)
    refine' Gw.df_use (x := "answer_begun") (st := Gw.s_answer_begun) (ps := ["desk", "call", "numbers", "lists"]) KX G ?a ?l ?c ?k (fun _ _ _ _ _ _ us hl => match us, hl with | [_, _, _, _], _ => rfl) (fun d_answer_begun => ?_)
    (case a => k_is); (case l => k_is); (case c => k_is); (case k => k_is)
    refine' Gw.df_use (x := "answer") (st := Gw.s_answer) (ps := ["desk", "call", "numbers", "lists"]) KX G ?a ?l ?c ?k (fun _ _ _ _ _ _ us hl => match us, hl with | [_, _, _, _], _ => rfl) (fun d_answer => ?_)
    (case a => k_is); (case l => k_is); (case c => k_is); (case k => k_is)
    refine' Gw.df_use (x := "answers") (st := Gw.s_answers) (ps := ["calls"]) KX G ?a ?l ?c ?k (fun _ _ _ _ _ _ us hl => match us, hl with | [_], _ => rfl) (fun d_answers => ?_)
    (case a => k_is); (case l => k_is); (case c => k_is); (case k => k_is)
    refine' Gw.kl_Surface_use KX G ?a ?f ?i ?l ?c ?k ?pg ?hd ?po ?sa ?mk ?kc ?n0 ?n1 (fun _ _ _ _ _ _ us hl => match us, hl with | [_, _, _], _ => rfl) (fun k_Surface => ?_)
    (case a => k_is); (case f => k_is); (case i => k_is); (case l => k_is); (case c => k_is); (case k => k_is)
    (case pg => k_is); (case hd => k_is); (case po => k_is); (case sa => k_is); (case mk => k_is); (case kc => k_is)
    (case n0 => k_is); (case n1 => k_is)
    refine' Gw.kl_Desk_use KX G ?a ?f ?i ?l ?c ?k ?pg ?hd ?po ?sa ?mk ?kc ?n0 (fun _ _ _ _ _ _ us hl => match us, hl with | [_], _ => rfl) (fun k_Desk => ?_)
    (case a => k_is); (case f => k_is); (case i => k_is); (case l => k_is); (case c => k_is); (case k => k_is)
    (case pg => k_is); (case hd => k_is); (case po => k_is); (case sa => k_is); (case mk => k_is); (case kc => k_is)
    (case n0 => k_is)
    refine' Gw.con_use (x := "GREATEST") (i := 20) KX G ?a (fun t_GREATEST c_GREATEST => ?_); (case a => k_is)
    refine' Gw.con_use (x := "NO_ROW") (i := -1) KX G ?a (fun t_NO_ROW c_NO_ROW => ?_); (case a => k_is)
    refine' Gw.con_use (x := "MOST_BANDS") (i := 6) KX G ?a (fun t_MOST_BANDS c_MOST_BANDS => ?_); (case a => k_is)
    refine' Gw.con_use (x := "FAR_ENOUGH") (i := 5) KX G ?a (fun t_FAR_ENOUGH c_FAR_ENOUGH => ?_); (case a => k_is)
    refine' Gw.con_use (x := "BEGIN") (i := 0) KX G ?a (fun t_BEGIN c_BEGIN => ?_); (case a => k_is)
    refine' Gw.con_use (x := "GLUE") (i := 1) KX G ?a (fun t_GLUE c_GLUE => ?_); (case a => k_is)
    refine' Gw.con_use (x := "CORNERS") (i := 2) KX G ?a (fun t_CORNERS c_CORNERS => ?_); (case a => k_is)
    refine' Gw.con_use (x := "HOLES") (i := 3) KX G ?a (fun t_HOLES c_HOLES => ?_); (case a => k_is)
    refine' Gw.con_use (x := "ROWS") (i := 4) KX G ?a (fun t_ROWS c_ROWS => ?_); (case a => k_is)
    refine' Gw.con_use (x := "COLUMNS") (i := 5) KX G ?a (fun t_COLUMNS c_COLUMNS => ?_); (case a => k_is)
    refine' Gw.con_use (x := "NAME") (i := 6) KX G ?a (fun t_NAME c_NAME => ?_); (case a => k_is)
    refine' Gw.con_use (x := "BANDS") (i := 8) KX G ?a (fun t_BANDS c_BANDS => ?_); (case a => k_is)
    refine' Gw.con_use (x := "LONGEST") (i := 9) KX G ?a (fun t_LONGEST c_LONGEST => ?_); (case a => k_is)
    refine' Gw.con_use (x := "ONE") (i := 10) KX G ?a (fun t_ONE c_ONE => ?_); (case a => k_is)
    refine' Gw.con_use (x := "COUNTS") (i := 11) KX G ?a (fun t_COUNTS c_COUNTS => ?_); (case a => k_is)
    refine' Gw.con_use (x := "TOPS") (i := 12) KX G ?a (fun t_TOPS c_TOPS => ?_); (case a => k_is)
    refine' Gw.con_use (x := "SHEAR") (i := 13) KX G ?a (fun t_SHEAR c_SHEAR => ?_); (case a => k_is)
    refine' Gw.con_use (x := "UNSHEAR") (i := 14) KX G ?a (fun t_UNSHEAR c_UNSHEAR => ?_); (case a => k_is)
    refine' Gw.con_use (x := "TURN") (i := 15) KX G ?a (fun t_TURN c_TURN => ?_); (case a => k_is)
    refine' Gw.con_use (x := "LAY") (i := 16) KX G ?a (fun t_LAY c_LAY => ?_); (case a => k_is)
    refine' Gw.con_use (x := "NOT_BEGUN") (i := -11) KX G ?a (fun t_NOT_BEGUN c_NOT_BEGUN => ?_); (case a => k_is)
    refine' Gw.con_use (x := "NOT_RIGHT") (i := -22) KX G ?a (fun t_NOT_RIGHT c_NOT_RIGHT => ?_); (case a => k_is)
    refine' Gw.con_use (x := "NOT_TOGETHER") (i := -33) KX G ?a (fun t_NOT_TOGETHER c_NOT_TOGETHER => ?_); (case a => k_is)
    refine' Gw.con_use (x := "NONE_THERE") (i := -33) KX G ?a (fun t_NONE_THERE c_NONE_THERE => ?_); (case a => k_is)
    refine' Gw.con_use (x := "MOST_SQUARES") (i := 6) KX G ?a (fun t_MOST_SQUARES c_MOST_SQUARES => ?_); (case a => k_is)
    refine' Gw.con_use (x := "MOST_COUNTED") (i := 4) KX G ?a (fun t_MOST_COUNTED c_MOST_COUNTED => ?_); (case a => k_is)
    refine' Gw.none_use (x := "abs") KX G ?a (fun r_abs => ?_); (case a => k_is)
    refine' Gw.none_use (x := "all") KX G ?a (fun r_all => ?_); (case a => k_is)
    refine' Gw.none_use (x := "len") KX G ?a (fun r_len => ?_); (case a => k_is)
    refine' Gw.none_use (x := "list") KX G ?a (fun r_list => ?_); (case a => k_is)
    refine' Gw.none_use (x := "max") KX G ?a (fun r_max => ?_); (case a => k_is)
    refine' Gw.none_use (x := "min") KX G ?a (fun r_min => ?_); (case a => k_is)
    refine' Gw.none_use (x := "range") KX G ?a (fun r_range => ?_); (case a => k_is)
    refine' Gw.none_use (x := "sorted") KX G ?a (fun r_sorted => ?_); (case a => k_is)
    refine' Gw.none_use (x := "sum") KX G ?a (fun r_sum => ?_); (case a => k_is)
    exact Gw.fin_mk ⟨r_abs, r_all, r_len, r_list, r_max, r_min, r_range, r_sorted, r_sum, t_GREATEST, c_GREATEST, t_NO_ROW, c_NO_ROW, t_MOST_BANDS, c_MOST_BANDS, t_FAR_ENOUGH, c_FAR_ENOUGH, t_BEGIN, c_BEGIN, t_GLUE, c_GLUE, t_CORNERS, c_CORNERS, t_HOLES, c_HOLES, t_ROWS, c_ROWS, t_COLUMNS, c_COLUMNS, t_NAME, c_NAME, t_BANDS, c_BANDS, t_LONGEST, c_LONGEST, t_ONE, c_ONE, t_COUNTS, c_COUNTS, t_TOPS, c_TOPS, t_SHEAR, c_SHEAR, t_UNSHEAR, c_UNSHEAR, t_TURN, c_TURN, t_LAY, c_LAY, t_NOT_BEGUN, c_NOT_BEGUN, t_NOT_RIGHT, c_NOT_RIGHT, t_NOT_TOGETHER, c_NOT_TOGETHER, t_NONE_THERE, c_NONE_THERE, t_MOST_SQUARES, c_MOST_SQUARES, t_MOST_COUNTED, c_MOST_COUNTED, k_Surface, k_Desk, d_common_part, d_has_no_common_part, d_is_direction, d_directions_up_to, d_one_row, d_tells_all_once, d_backward, d_ring_from, d_rings, d_ring_lengths, d_once_round, d_corner_turns, d_how_many_holes, d_order_from, d_hangs_together, d_told_in_order, d_name_of, d_sheared, d_sheared_back, d_turned, d_sheared_back_often, d_laid, d_is_smooth, d_tops, d_row_places, d_rows_above, d_height_from, d_bands_to_east, d_bands_in, d_longest_in, d_first_with_one_band, d_directions_by_bands, d_how_many_numbers, d_how_many_lists, d_cut_into_calls, d_counted, d_begin, d_glue, d_change, d_tell_bands, d_answer_direction, d_tell_one, d_tell_counts, d_tell, d_answer_begun, d_answer, d_answers⟩ hmg
  case S =>
    intro K H xs a hO hwi hask hx
    cases hx with
    | cons h1 h2 =>
      cases h2
      cases h1 with
      | lst hs ha =>
        have e := L2.ints_dw a.1 _ ha
        subst e
        have q : ((Codec.inLen 0 20600 a.1 && a.1.all (Codec.inInt (-2147483648) 4294967295)) && true) = true := hwi
        rw [Bool.and_eq_true, Bool.and_eq_true] at q
        exact ⟨_, a.1, rfl, hs, (Codec.inNat_iff.mp q.1.1).2, hask, fun H' p hp => .lst (L2.SqL.of hp) (L2.dw_ints _)⟩
