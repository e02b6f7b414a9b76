import PyProof.Rows.All
import Wide.All
import OpenK.AllK
import Wide.FinOn
import HandS.ForMost
import HandS.ForSpec
import HandS.Rev
import HandS.CallLocal
import HandS.Steps
import HandS.Codes
import Open.SpecLaws
import KE.OsGo
import PySem.Challenge.RW_icebounds_s01_answers
/-! ### part M1 -/
set_option autoImplicit false
namespace Ib
open Km563

/-! ### lists -/
theorem nodup_len : ∀ (n : Nat) (l : List Nat), l.Nodup → (∀ x ∈ l, x < n) → l.length ≤ n
  | 0, l, _, h => by
    cases l with
    | nil => exact Nat.le_refl _
    | cons a r => exact absurd (h a (List.mem_cons_self ..)) (Nat.not_lt_zero _)
  | n + 1, l, nd, h => by
    by_cases m : n ∈ l
    · have e1 := List.length_erase_of_mem m
      have e2 := nodup_len n (l.erase n) (nd.erase n) fun x hx => by
        obtain ⟨h1, h2⟩ := nd.mem_erase_iff.mp hx
        have := h x h2
        omega
      have e3 : 0 < l.length := List.length_pos_of_mem m
      omega
    · have e2 := nodup_len n l nd fun x hx => by
        have := h x hx
        have : x ≠ n := fun e => m (e ▸ hx)
        omega
      omega
theorem foldl_max_le {α : Type} (g : α → Nat) : ∀ (l : List α) (a t : Nat), (l.foldl (fun b m => max b (g m)) a ≤ t ↔ a ≤ t ∧ ∀ m ∈ l, g m ≤ t)
  | [], a, t => by simp
  | m :: r, a, t => by
    rw [List.foldl_cons, foldl_max_le g r]
    simp only [List.mem_cons, forall_eq_or_imp, Nat.max_le, and_assoc]
theorem le_foldl_min {α : Type} (g : α → Nat) : ∀ (l : List α) (a t : Nat), (t ≤ l.foldl (fun b m => min b (g m)) a ↔ t ≤ a ∧ ∀ m ∈ l, t ≤ g m)
  | [], a, t => by simp
  | m :: r, a, t => by
    rw [List.foldl_cons, le_foldl_min g r]
    simp only [List.mem_cons, forall_eq_or_imp, Nat.le_min, and_assoc]
theorem take_more {α : Type} {l : List α} {i : Nat} {x : α} (h : l[i]? = some x) : l.take (i + 1) = l.take i ++ [x] := by
  rw [List.take_add_one, h]
  rfl
theorem fold_more {α β : Type} (g : β → α → β) (b : β) {l : List α} {i : Nat} {x : α} (h : l[i]? = some x) : (l.take (i + 1)).foldl g b = g ((l.take i).foldl g b) x := by
  rw [take_more h, List.foldl_append]
  rfl
theorem range_more (i : Nat) : List.range (i + 1) = List.range i ++ [i] := List.range_succ

/-! ### the field -/
structure Good (f : IceField) : Prop where
  c1 : 1 ≤ f.columns
  c5 : f.columns ≤ 5
  r1 : 1 ≤ f.rows
  r5 : f.rows ≤ 5
  st : f.maxStep ≤ 20
  cell : ∀ m ∈ f.measurements, m.1 < cellCount f
  thick : ∀ m ∈ f.measurements, m.2 ≤ 99
  nd : (f.measurements.map (·.1)).Nodup
  cons : isConsistent f = true
theorem Good.count {f : IceField} (G : Good f) : 1 ≤ cellCount f ∧ cellCount f ≤ 25 := by
  unfold cellCount
  obtain ⟨h1, h2, h3, h4, _⟩ := G
  constructor
  · exact Nat.mul_le_mul h1 h3
  · exact Nat.mul_le_mul h2 h4
theorem Good.len {f : IceField} (G : Good f) : f.measurements.length ≤ 25 := by
  have := nodup_len (cellCount f) _ G.nd fun x hx => by
    obtain ⟨m, hm, rfl⟩ := List.mem_map.mp hx
    exact G.cell m hm
  rw [List.length_map] at this
  exact Nat.le_trans this G.count.2

theorem diff_le (a b k : Nat) : difference a b ≤ k ↔ a ≤ b + k ∧ b ≤ a + k := by
  unfold difference
  omega
theorem diff_comm (a b : Nat) : difference a b = difference b a := by
  unfold difference
  omega
theorem dist_comm (f : IceField) (p q : Nat) : cellDistance f p q = cellDistance f q p := by
  unfold cellDistance
  rw [diff_comm, diff_comm (p / _)]
theorem dist_tri (f : IceField) (p q r : Nat) : cellDistance f q r ≤ cellDistance f p q + cellDistance f p r := by
  unfold cellDistance difference
  omega
theorem dist_le {f : IceField} (G : Good f) {p q : Nat} (hp : p < cellCount f) (hq : q < cellCount f) : cellDistance f p q ≤ 8 := by
  have hc : 0 < f.columns := G.c1
  have hp' : p < f.columns * f.rows := hp
  have hq' : q < f.columns * f.rows := hq
  have h1 : p % f.columns < f.columns := Nat.mod_lt _ hc
  have h2 : q % f.columns < f.columns := Nat.mod_lt _ hc
  have h3 : p / f.columns < f.rows := Nat.div_lt_of_lt_mul hp'
  have h4 : q / f.columns < f.rows := Nat.div_lt_of_lt_mul hq'
  have h5 := G.c5
  have h6 := G.r5
  have h7 : difference (p % f.columns) (q % f.columns) ≤ 4 := (diff_le _ _ _).mpr (by omega)
  have h8 : difference (p / f.columns) (q / f.columns) ≤ 4 := by
    generalize p / f.columns = a at *
    generalize q / f.columns = b at *
    exact (diff_le _ _ _).mpr (by omega)
  unfold cellDistance
  omega

def fits (f : IceField) (cell t : Nat) (ms : List (Nat × Nat)) (step : Nat) : Bool := ms.all fun m => decide (difference t m.2 ≤ step * cellDistance f cell m.1)
theorem fits_iff {f : IceField} {cell t : Nat} {ms : List (Nat × Nat)} {step : Nat} : fits f cell t ms step = true ↔ ∀ m ∈ ms, difference t m.2 ≤ step * cellDistance f cell m.1 := by
  unfold fits
  simp only [List.all_eq_true, decide_eq_true_eq]
theorem cons_iff {f : IceField} : isConsistent f = true ↔ ∀ s ∈ f.measurements, ∀ t ∈ f.measurements, difference s.2 t.2 ≤ f.maxStep * cellDistance f s.1 t.1 := by
  unfold isConsistent areConsistent
  simp only [List.all_eq_true, decide_eq_true_eq]
theorem dist_step (f : IceField) (s p q : Nat) : cellDistance { f with maxStep := s } p q = cellDistance f p q := rfl
/-- the program's test of a step is the specification's -/
theorem cons_step (f : IceField) (s : Nat) : isConsistent { f with maxStep := s } = f.measurements.all fun m => fits f m.1 m.2 f.measurements s := rfl
theorem lower_iff {f : IceField} {p t : Nat} : lowerBound f p ≤ t ↔ ∀ m ∈ f.measurements, m.2 - f.maxStep * cellDistance f p m.1 ≤ t := by
  unfold lowerBound
  rw [foldl_max_le (fun (m : Nat × Nat) => m.2 - f.maxStep * cellDistance f p m.1)]
  simp
theorem upper_iff {f : IceField} {p t : Nat} : t ≤ upperBound f p ↔ t ≤ 99 ∧ ∀ m ∈ f.measurements, t ≤ m.2 + f.maxStep * cellDistance f p m.1 := by
  unfold upperBound
  rw [le_foldl_min (fun (m : Nat × Nat) => m.2 + f.maxStep * cellDistance f p m.1)]
  rfl
theorem upper_le {f : IceField} {p : Nat} : upperBound f p ≤ 99 := (upper_iff.mp (Nat.le_refl _)).1
theorem lower_le_upper {f : IceField} (G : Good f) (p : Nat) : lowerBound f p ≤ upperBound f p := by
  rw [lower_iff]
  intro m hm
  rw [upper_iff]
  refine ⟨by have := G.thick m hm; omega, fun q hq => ?_⟩
  have h := (diff_le _ _ _).mp (cons_iff.mp G.cons m hm q hq)
  have t := Nat.mul_le_mul (Nat.le_refl f.maxStep) (dist_tri f p m.1 q.1)
  rw [Nat.mul_add] at t
  omega
theorem bounds_fit {f : IceField} {p t : Nat} (h1 : lowerBound f p ≤ t) (h2 : t ≤ upperBound f p) : fits f p t f.measurements f.maxStep = true := by
  rw [fits_iff]
  intro m hm
  rw [diff_le]
  have a := lower_iff.mp h1 m hm
  have b := (upper_iff.mp h2).2 m hm
  omega
theorem fits_sub {f : IceField} {p t : Nat} {l k : List (Nat × Nat)} {s : Nat} (h : ∀ m ∈ l, m ∈ k) (hk : fits f p t k s = true) : fits f p t l s = true :=
  fits_iff.mpr fun m hm => fits_iff.mp hk m (h m hm)
def except (f : IceField) (cell : Nat) : List (Nat × Nat) := f.measurements.filter fun m => m.1 != cell
/-- a measurement is consistent with all if it fits the others -/
theorem with_cons {f : IceField} (G : Good f) (p t : Nat) : isConsistent (withMeasurement f p t) = fits f p t (except f p) f.maxStep := by
  rw [Bool.eq_iff_iff, cons_iff, fits_iff]
  have mem : ∀ m, m ∈ (withMeasurement f p t).measurements ↔ m ∈ except f p ∨ m = (p, t) := fun m => by
    show m ∈ except f p ++ [(p, t)] ↔ _
    rw [List.mem_append, List.mem_singleton]
  constructor
  · intro h m hm
    exact h (p, t) ((mem _).mpr (.inr rfl)) m ((mem _).mpr (.inl hm))
  · intro h a ha b hb
    show difference a.2 b.2 ≤ f.maxStep * cellDistance f a.1 b.1
    have sub : ∀ m, m ∈ except f p → m ∈ f.measurements := fun m hm => (List.mem_filter.mp hm).1
    rcases (mem a).mp ha with ha | rfl
    · rcases (mem b).mp hb with hb | rfl
      · exact cons_iff.mp G.cons a (sub a ha) b (sub b hb)
      · rw [diff_comm, dist_comm]
        exact h a ha
    · rcases (mem b).mp hb with hb | rfl
      · exact h b hb
      · unfold difference
        omega
theorem except_sub {f : IceField} {p : Nat} : ∀ m ∈ except f p, m ∈ f.measurements := fun _ hm => (List.mem_filter.mp hm).1
theorem bounds_cons {f : IceField} (G : Good f) {p t : Nat} (h1 : lowerBound f p ≤ t) (h2 : t ≤ upperBound f p) : isConsistent (withMeasurement f p t) = true := by
  rw [with_cons G]
  exact fits_sub except_sub (bounds_fit h1 h2)
theorem possible_eq {f : IceField} (G : Good f) (p t : Nat) : (isConsistent (withMeasurement f p t) && decide (lowerBound f p ≤ t ∧ t ≤ upperBound f p)) = decide (lowerBound f p ≤ t ∧ t ≤ upperBound f p) := by
  by_cases h : lowerBound f p ≤ t ∧ t ≤ upperBound f p
  · rw [bounds_cons G h.1 h.2, Bool.true_and]
  · rw [decide_eq_false h, Bool.and_false]

/-! ### what stays good -/
theorem good_new {c r s : Nat} (h : ¬ (c = 0 ∨ maxSize < c ∨ r = 0 ∨ maxSize < r ∨ 20 < s)) : Good ⟨c, r, s, []⟩ := by
  unfold maxSize at h
  refine ⟨?_, ?_, ?_, ?_, ?_, ?_, ?_, ?_, rfl⟩
  · show 1 ≤ c; omega
  · show c ≤ 5; omega
  · show 1 ≤ r; omega
  · show r ≤ 5; omega
  · show s ≤ 20; omega
  · intro m hm; cases hm
  · intro m hm; cases hm
  · exact List.nodup_nil
theorem good_step {f : IceField} (G : Good f) {s : Nat} (h : s ≤ 20) (hc : isConsistent { f with maxStep := s } = true) : Good { f with maxStep := s } :=
  ⟨G.c1, G.c5, G.r1, G.r5, h, G.cell, G.thick, G.nd, hc⟩
theorem except_keys (f : IceField) (p : Nat) : (except f p).map (·.1) = (f.measurements.map (·.1)).filter (· != p) := by
  unfold except
  rw [List.filter_map]
  rfl
theorem except_nd {f : IceField} (G : Good f) (p : Nat) : ((except f p).map (·.1)).Nodup := by
  rw [except_keys]
  exact G.nd.filter _
theorem except_not {f : IceField} {p : Nat} : ¬ p ∈ (except f p).map (·.1) := by
  rw [except_keys]
  intro h
  have := (List.mem_filter.mp h).2
  simp at this
theorem good_remove {f : IceField} (G : Good f) (p : Nat) : Good { f with measurements := except f p } := by
  refine ⟨G.c1, G.c5, G.r1, G.r5, G.st, fun m hm => G.cell m (except_sub m hm), fun m hm => G.thick m (except_sub m hm), except_nd G p, ?_⟩
  rw [cons_iff]
  intro a ha b hb
  exact cons_iff.mp G.cons a (except_sub a ha) b (except_sub b hb)
theorem nodup_snoc {l : List Nat} {x : Nat} (h : l.Nodup) (hx : ¬ x ∈ l) : (l ++ [x]).Nodup := by
  rw [List.nodup_append]
  refine ⟨h, by simp, ?_⟩
  intro a ha b hb e
  rw [List.mem_singleton] at hb
  subst hb e
  exact hx ha
theorem good_with {f : IceField} (G : Good f) {p t : Nat} (hp : p < cellCount f) (ht : t ≤ 99) (hc : isConsistent (withMeasurement f p t) = true) : Good (withMeasurement f p t) := by
  have mem : ∀ m, m ∈ (withMeasurement f p t).measurements → m ∈ except f p ∨ m = (p, t) := fun m hm => by
    have hm : m ∈ except f p ++ [(p, t)] := hm
    rw [List.mem_append, List.mem_singleton] at hm
    exact hm
  refine ⟨G.c1, G.c5, G.r1, G.r5, G.st, fun m hm => ?_, fun m hm => ?_, ?_, hc⟩
  · rcases mem m hm with h | rfl
    · exact G.cell m (except_sub m h)
    · exact hp
  · rcases mem m hm with h | rfl
    · exact G.thick m (except_sub m h)
    · exact ht
  · show ((except f p ++ [(p, t)]).map (·.1)).Nodup
    rw [List.map_append]
    exact nodup_snoc (except_nd G p) except_not
theorem filter_len : ∀ {l : List (Nat × Nat)} {p : Nat}, (l.map (·.1)).Nodup → (l.any fun m => m.1 == p) = true → (l.filter fun m => m.1 != p).length + 1 = l.length
  | [], p, _, h => by simp at h
  | m :: r, p, nd, h => by
    have nd : (m.1 :: r.map (·.1)).Nodup := nd
    obtain ⟨n1, n2⟩ := List.nodup_cons.mp nd
    by_cases e : m.1 = p
    · subst e
      have e2 : (r.filter fun q => q.1 != m.1) = r := by
        rw [List.filter_eq_self]
        intro q hq
        simp only [bne_iff_ne, ne_eq]
        intro z
        exact n1 (List.mem_map.mpr ⟨q, hq, z⟩)
      simp [e2]
    · have ih := filter_len (l := r) (p := p) n2 (by simpa [e] using h)
      simp [e, ih]
theorem remove_len {f : IceField} (G : Good f) {p : Nat} (h : (f.measurements.any fun m => m.1 == p) = true) : (except f p).length = f.measurements.length - 1 := by
  have := filter_len G.nd h
  unfold except
  omega

/-! ### the most uncertain cell -/
theorem most_start (f : IceField) (n : Nat) (hn : 1 ≤ n) : (List.range n).foldl (fun (best cell : Nat) => if uncertainty f best < uncertainty f cell then cell else best) 0 =
    (List.range (n - 1)).foldl (fun (best i : Nat) => if uncertainty f best < uncertainty f (1 + i) then 1 + i else best) 0 := by
  obtain ⟨k, rfl⟩ : ∃ k, n = k + 1 := ⟨n - 1, by omega⟩
  rw [List.range_succ_eq_map, List.foldl_cons, if_neg (Nat.lt_irrefl _), List.foldl_map]
  show _ = (List.range k).foldl _ 0
  congr 1
  funext best i
  rw [show i.succ = 1 + i by omega]
end Ib

/-! ### part M2 -/
set_option autoImplicit false
namespace Ib
open Km563

/-! ### neighbours -/
def nbs (c n p : Nat) : List Nat :=
  (if c ≤ p then [p - c] else []) ++ ((if p % c = 0 then [] else [p - 1]) ++ ((if p % c + 1 = c then [] else [p + 1]) ++ (if p + c < n then [p + c] else [])))
theorem nbs_is (f : IceField) (p : Nat) : neighbours f p = nbs f.columns (cellCount f) p := rfl
theorem nbs_check : ((List.range 5).all fun c => (List.range 5).all fun r => (List.range ((c + 1) * (r + 1))).all fun p => (nbs (c + 1) ((c + 1) * (r + 1)) p).all fun q =>
    decide (q < (c + 1) * (r + 1)) && (nbs (c + 1) ((c + 1) * (r + 1)) q).contains p) = true := by decide +kernel
theorem nb_both {f : IceField} (G : Good f) {p q : Nat} (hp : p < cellCount f) (hq : q ∈ neighbours f p) : q < cellCount f ∧ p ∈ neighbours f q := by
  have h := List.all_eq_true.mp (List.all_eq_true.mp nbs_check (f.columns - 1) (List.mem_range.mpr (by have := G.c5; have := G.c1; omega))) (f.rows - 1) (List.mem_range.mpr (by have := G.r5; have := G.r1; omega))
  rw [show f.columns - 1 + 1 = f.columns by have := G.c1; omega, show f.rows - 1 + 1 = f.rows by have := G.r1; omega] at h
  have h := List.all_eq_true.mp (List.all_eq_true.mp h p (List.mem_range.mpr hp)) q hq
  rw [Bool.and_eq_true, decide_eq_true_eq, List.contains_iff_mem] at h
  exact h
theorem nb_lt {f : IceField} (G : Good f) {p q : Nat} (hp : p < cellCount f) (hq : q ∈ neighbours f p) : q < cellCount f := (nb_both G hp hq).1
theorem nb_sym {f : IceField} (G : Good f) {p q : Nat} (hp : p < cellCount f) (hq : q ∈ neighbours f p) : p ∈ neighbours f q := (nb_both G hp hq).2

/-! ### the program's search, over lists of pairs (cell, steps) -/
abbrev Dist := List (Nat × Nat)
def look (d : Dist) (p : Nat) : Option Nat := d.lookup p
theorem look_snoc : ∀ (d : Dist) (p v q : Nat), look d p = none → look (d ++ [(p, v)]) q = if q = p then some v else look d q
  | [], p, v, q, _ => by
    unfold look
    by_cases e : q = p
    · simp [List.lookup, e]
    · have : (q == p) = false := by simpa using e
      simp [List.lookup, this, e]
  | (a, b) :: r, p, v, q, h => by
    unfold look at h
    have hpa : (p == a) = false := by
      cases z : p == a with
      | false => rfl
      | true => simp [List.lookup, z] at h
    have h' : look r p = none := by
      unfold look
      simpa [List.lookup, hpa] using h
    have ih := look_snoc r p v q h'
    unfold look at ih ⊢
    by_cases e : q = a
    · subst e
      have : ¬ q = p := fun z => by subst z; simp at hpa
      simp [List.lookup, this]
    · have e' : (q == a) = false := by simpa using e
      simp only [List.cons_append, List.lookup, e']
      exact ih
theorem look_none : ∀ {d : Dist} {p : Nat}, look d p = none ↔ ¬ p ∈ d.map (·.1)
  | [], p => by simp [look]
  | (a, b) :: r, p => by
    have ih := look_none (d := r) (p := p)
    unfold look at ih ⊢
    by_cases e : p = a
    · subst e
      simp [List.lookup]
    · have e' : (p == a) = false := by simpa using e
      simp only [List.lookup, e', List.map_cons, List.mem_cons, e, false_or]
      exact ih
theorem look_key {d : Dist} {p v : Nat} (h : look d p = some v) : p ∈ d.map (·.1) := by
  refine Classical.byContradiction fun z => ?_
  rw [look_none.mpr z] at h
  cases h

/-- one neighbour of a cell is looked at -/
def visit (safe : Nat → Bool) (cell : Nat) (st : Dist × List Nat) (q : Nat) : Dist × List Nat :=
  if safe q = true ∧ look st.1 q = none then (st.1 ++ [(q, (look st.1 cell).getD 0 + 1)], st.2 ++ [q]) else st
def visitCell (f : IceField) (safe : Nat → Bool) (st : Dist × List Nat) (cell : Nat) : Dist × List Nat := (neighbours f cell).foldl (visit safe cell) st
def layer (f : IceField) (safe : Nat → Bool) (d : Dist) (outer : List Nat) : Dist × List Nat := outer.foldl (visitCell f safe) (d, [])

/-- behind the looked-at cells S of the turn of d0: those of S that are safe and new are at j + 1 -/
structure Seen (safe : Nat → Bool) (d0 : Dist) (j : Nat) (S : List Nat) (st : Dist × List Nat) : Prop where
  at_ : ∀ q, look st.1 q = match look d0 q with
    | some v => some v
    | none => if safe q = true ∧ q ∈ S then some (j + 1) else none
  rs : ∀ q, q ∈ st.2 ↔ look d0 q = none ∧ safe q = true ∧ q ∈ S
  nd : (st.1.map (·.1)).Nodup
  len : st.1.length = d0.length + st.2.length
theorem Seen.start {safe : Nat → Bool} {d0 : Dist} {j : Nat} (nd : (d0.map (·.1)).Nodup) : Seen safe d0 j [] (d0, []) := by
  refine ⟨fun q => ?_, fun q => by simp, nd, rfl⟩
  cases look d0 q with
  | some v => rfl
  | none => simp
theorem Seen.old {safe : Nat → Bool} {d0 : Dist} {j : Nat} {S : List Nat} {st : Dist × List Nat} (h : Seen safe d0 j S st) {p v : Nat} (e : look d0 p = some v) : look st.1 p = some v := by
  rw [h.at_ p, e]
theorem Seen.more {safe : Nat → Bool} {d0 : Dist} {j cell : Nat} {S : List Nat} {st : Dist × List Nat} (h : Seen safe d0 j S st) (hc : look d0 cell = some j) (q : Nat) : Seen safe d0 j (S ++ [q]) (visit safe cell st q) := by
  unfold visit
  have ec := h.old hc
  by_cases c : safe q = true ∧ look st.1 q = none
  · rw [if_pos c, ec]
    obtain ⟨c1, c2⟩ := c
    have d0q : look d0 q = none := by
      cases e : look d0 q with
      | none => rfl
      | some v => rw [h.old e] at c2; cases c2
    have nS : ¬ q ∈ S := fun m => by
      have := h.at_ q
      rw [d0q, c2] at this
      simp [c1, m] at this
    refine ⟨fun x => ?_, fun x => ?_, ?_, ?_⟩
    · show look (st.1 ++ [(q, j + 1)]) x = _
      rw [look_snoc _ _ _ _ c2]
      by_cases e : x = q
      · subst e
        rw [if_pos rfl, d0q]
        simp [c1]
      · rw [if_neg e, h.at_ x]
        cases look d0 x with
        | some v => rfl
        | none => simp [e]
    · show x ∈ st.2 ++ [q] ↔ _
      rw [List.mem_append, h.rs x, List.mem_singleton, List.mem_append, List.mem_singleton]
      constructor
      · rintro (⟨a, b, c⟩ | rfl)
        · exact ⟨a, b, .inl c⟩
        · exact ⟨d0q, c1, .inr rfl⟩
      · rintro ⟨a, b, c | c⟩
        · exact .inl ⟨a, b, c⟩
        · exact .inr c
    · show ((st.1 ++ [(q, j + 1)]).map (·.1)).Nodup
      rw [List.map_append]
      exact nodup_snoc h.nd (look_none.mp c2)
    · show (st.1 ++ [(q, j + 1)]).length = d0.length + (st.2 ++ [q]).length
      rw [List.length_append, List.length_append, h.len]
      simp
      omega
  · rw [if_neg c]
    have key : ∀ x, look d0 x = none → ((safe x = true ∧ x ∈ S ++ [q]) ↔ (safe x = true ∧ x ∈ S)) := fun x ex => by
      rw [List.mem_append, List.mem_singleton]
      constructor
      · rintro ⟨a, b | rfl⟩
        · exact ⟨a, b⟩
        · refine ⟨a, Classical.byContradiction fun nS => c ⟨a, ?_⟩⟩
          rw [h.at_ x, ex]
          simp [nS]
      · rintro ⟨a, b⟩
        exact ⟨a, .inl b⟩
    refine ⟨fun x => ?_, fun x => ?_, h.nd, h.len⟩
    · rw [h.at_ x]
      cases ex : look d0 x with
      | some v => rfl
      | none =>
        show (if _ then _ else _) = (if _ then _ else _)
        by_cases z : safe x = true ∧ x ∈ S
        · rw [if_pos z, if_pos ((key x ex).mpr z)]
        · rw [if_neg z, if_neg fun y => z ((key x ex).mp y)]
    · rw [h.rs x]
      constructor
      · rintro ⟨a, b⟩
        exact ⟨a, (key x a).mpr b⟩
      · rintro ⟨a, b⟩
        exact ⟨a, (key x a).mp b⟩
theorem Seen.list {safe : Nat → Bool} {d0 : Dist} {j cell : Nat} (hc : look d0 cell = some j) : ∀ (l S : List Nat) (st : Dist × List Nat), Seen safe d0 j S st → Seen safe d0 j (S ++ l) (l.foldl (visit safe cell) st)
  | [], S, st, h => by rw [List.append_nil]; exact h
  | q :: l, S, st, h => by
    have ih := Seen.list hc l (S ++ [q]) _ (h.more hc q)
    rw [List.append_assoc] at ih
    exact ih
theorem Seen.cells {f : IceField} {safe : Nat → Bool} {d0 : Dist} {j : Nat} : ∀ (o S : List Nat) (st : Dist × List Nat), (∀ c ∈ o, look d0 c = some j) → Seen safe d0 j S st → Seen safe d0 j (S ++ o.flatMap (neighbours f)) (o.foldl (visitCell f safe) st)
  | [], S, st, _, h => by
    show Seen safe d0 j (S ++ []) st
    rw [List.append_nil]
    exact h
  | c :: o, S, st, hc, h => by
    have ih := Seen.cells (f := f) o (S ++ neighbours f c) _ (fun x hx => hc x (List.mem_cons_of_mem _ hx)) (h.list (hc c (List.mem_cons_self ..)) (neighbours f c))
    rw [List.append_assoc] at ih
    rw [List.flatMap_cons]
    exact ih
theorem seen_layer {f : IceField} {safe : Nat → Bool} {d : Dist} {j : Nat} {outer : List Nat} (nd : (d.map (·.1)).Nodup) (ho : ∀ c ∈ outer, look d c = some j) : Seen safe d j (outer.flatMap (neighbours f)) (layer f safe d outer) := by
  have := Seen.cells (f := f) (safe := safe) outer [] (d, []) ho (Seen.start nd)
  rw [List.nil_append] at this
  exact this

/-! ### the specification's table -/
def table0 (f : IceField) (req origin : Nat) : List (Option Nat) := (List.range (cellCount f)).map fun cell => if cell = origin ∧ isSafe f req cell = true then some 0 else none
def table (f : IceField) (req origin j : Nat) : List (Option Nat) := extendRepeatedly f req j (table0 f req origin)
theorem extend_out (f : IceField) (req : Nat) : ∀ (j : Nat) (t : List (Option Nat)), extendRepeatedly f req (j + 1) t = extendDistances f req (extendRepeatedly f req j t)
  | 0, _ => rfl
  | j + 1, t => by
    show extendRepeatedly f req (j + 1) (extendDistances f req t) = _
    rw [extend_out f req j]
    rfl
theorem getD_range {α : Type} (n : Nat) (g : Nat → Option α) (p : Nat) : ((List.range n).map g).getD p none = if p < n then g p else none := by
  by_cases h : p < n
  · rw [if_pos h, List.getD_eq_getElem?_getD, List.getElem?_map, List.getElem?_range h]
    rfl
  · rw [if_neg h, List.getD_eq_getElem?_getD, List.getElem?_eq_none (by simp; omega)]
    rfl
def bst (g : Nat → Option Nat) (best : Option Nat) (q : Nat) : Option Nat := match g q with
  | none => best
  | some distance => match best with
    | none => some (distance + 1)
    | some other => some (min other (distance + 1))
/-- the least of the neighbours' values, all of which are j -/
theorem fold_j (j : Nat) (g : Nat → Option Nat) : ∀ (l : List Nat) (b : Option Nat), (∀ q ∈ l, ∀ v, g q = some v → v = j) → (b = none ∨ b = some (j + 1)) →
    l.foldl (bst g) b = if b = some (j + 1) ∨ ∃ q, q ∈ l ∧ g q = some j then some (j + 1) else none
  | [], b, _, hb => by
    rcases hb with rfl | rfl <;> simp
  | q :: l, b, h, hb => by
    rw [List.foldl_cons]
    have h' : ∀ x ∈ l, ∀ v, g x = some v → v = j := fun x hx => h x (List.mem_cons_of_mem _ hx)
    cases e : g q with
    | none =>
      have hb2 : bst g b q = b := by unfold bst; rw [e]
      rw [hb2, fold_j j g l b h' hb]
      simp [e]
    | some v =>
      obtain rfl : v = j := h q (List.mem_cons_self ..) v e
      have hb2 : bst g b q = some (v + 1) := by
        unfold bst
        rw [e]
        rcases hb with rfl | rfl
        · rfl
        · simp
      rw [hb2, fold_j v g l _ h' (.inr rfl)]
      simp [e]
theorem extend_at (f : IceField) (req : Nat) (t : List (Option Nat)) (p : Nat) (hp : p < cellCount f) : (extendDistances f req t).getD p none = match t.getD p none with
    | some d => some d
    | none => if isSafe f req p = false then none else (neighbours f p).foldl (bst fun q => t.getD q none) none := by
  unfold extendDistances
  rw [getD_range, if_pos hp]
  rfl

/-- behind j turns -/
structure Lay (f : IceField) (req origin j : Nat) (d : Dist) (outer : List Nat) : Prop where
  tab : ∀ p, p < cellCount f → (table f req origin j).getD p none = look d p
  out : ∀ p, p ∈ outer ↔ look d p = some j
  nd : (d.map (·.1)).Nodup
  lt : ∀ p v, look d p = some v → p < cellCount f ∧ isSafe f req p = true ∧ v ≤ j
  shut : ∀ p v, look d p = some v → v < j → ∀ q ∈ neighbours f p, isSafe f req q = true → ∃ w, look d q = some w
  pred : ∀ p v, look d p = some (v + 1) → ∃ q ∈ neighbours f p, look d q = some v
  zero : ∀ p, look d p = some 0 → p = origin
  orig : d ≠ [] → look d origin = some 0
  len : j ≤ d.length ∧ (outer ≠ [] → j + 1 ≤ d.length)
theorem Lay.keys {f : IceField} {req origin j : Nat} {d : Dist} {outer : List Nat} (L : Lay f req origin j d outer) : d.length ≤ cellCount f := by
  have := nodup_len (cellCount f) _ L.nd fun x hx => by
    cases e : look d x with
    | none => exact absurd hx (look_none.mp e)
    | some v => exact (L.lt x v e).1
  rwa [List.length_map] at this
theorem lay_start {f : IceField} {req origin : Nat} (ho : origin < cellCount f) (hs : isSafe f req origin = true) : Lay f req origin 0 [(origin, 0)] [origin] := by
  have lk : ∀ p, look [(origin, 0)] p = if p = origin then some 0 else none := fun p => by
    have := look_snoc [] origin 0 p rfl
    exact this
  refine ⟨fun p hp => ?_, fun p => ?_, by simp, fun p v h => ?_, fun p v h hv => by omega, fun p v h => ?_, fun p h => ?_, fun _ => ?_, by simp⟩
  · show (table0 f req origin).getD p none = _
    unfold table0
    rw [getD_range, if_pos hp, lk]
    by_cases e : p = origin
    · subst e; simp [hs]
    · simp [e]
  · rw [lk, List.mem_singleton]
    by_cases e : p = origin <;> simp [e]
  · rw [lk] at h
    by_cases e : p = origin
    · subst e
      rw [if_pos rfl] at h
      cases h
      exact ⟨ho, hs, Nat.le_refl _⟩
    · rw [if_neg e] at h; cases h
  · rw [lk] at h
    by_cases e : p = origin
    · rw [if_pos e] at h; cases h
    · rw [if_neg e] at h; cases h
  · rw [lk] at h
    by_cases e : p = origin
    · exact e
    · rw [if_neg e] at h; cases h
  · rw [lk, if_pos rfl]
theorem lay_none {f : IceField} {req origin : Nat} (hs : isSafe f req origin = false) : Lay f req origin 0 [] [] := by
  refine ⟨fun p hp => ?_, fun p => by simp [look], by simp, fun p v h => by simp [look] at h, fun p v h => by simp [look] at h, fun p v h => by simp [look] at h, fun p h => by simp [look] at h, fun h => absurd rfl h, by simp⟩
  show (table0 f req origin).getD p none = _
  unfold table0
  rw [getD_range, if_pos hp]
  have : ¬ (p = origin ∧ isSafe f req p = true) := by
    rintro ⟨rfl, h⟩
    rw [hs] at h; cases h
  rw [if_neg this]
  rfl
theorem Lay.tab_all {f : IceField} {req origin j : Nat} {d : Dist} {outer : List Nat} (L : Lay f req origin j d outer) (p : Nat) : (table f req origin j).getD p none = look d p := by
  by_cases h : p < cellCount f
  · exact L.tab p h
  · have e : look d p = none := by
      cases e : look d p with
      | none => rfl
      | some v => exact absurd (L.lt p v e).1 h
    rw [e]
    cases j with
    | zero => show (table0 f req origin).getD p none = none; unfold table0; rw [getD_range, if_neg h]
    | succ j => unfold table; rw [extend_out]; unfold extendDistances; rw [getD_range, if_neg h]
/-- what a turn of the specification makes of a table -/
theorem Lay.ext_of {f : IceField} {req origin j : Nat} {d : Dist} {outer : List Nat} (G : Good f) (L : Lay f req origin j d outer) {t : List (Option Nat)} (ht : ∀ p, p < cellCount f → t.getD p none = look d p) (p : Nat) (hp : p < cellCount f) :
    (extendDistances f req t).getD p none = match look d p with
      | some v => some v
      | none => if isSafe f req p = true ∧ p ∈ outer.flatMap (neighbours f) then some (j + 1) else none := by
  rw [extend_at f req t p hp, ht p hp]
  cases e : look d p with
  | some v => rfl
  | none =>
    show (if isSafe f req p = false then none else _) = (if _ then _ else _)
    cases hs : isSafe f req p with
    | false => simp
    | true =>
      rw [if_neg (by simp)]
      rw [fold_j j (fun q => t.getD q none) (neighbours f p) none (fun q hq v hv => ?_) (.inl rfl)]
      · have key : (∃ q, q ∈ neighbours f p ∧ t.getD q none = some j) ↔ p ∈ outer.flatMap (neighbours f) := by
          rw [List.mem_flatMap]
          constructor
          · rintro ⟨q, hq, h⟩
            rw [ht q (nb_lt G hp hq)] at h
            exact ⟨q, (L.out q).mpr h, nb_sym G hp hq⟩
          · rintro ⟨q, hq, h⟩
            have h2 := (L.out q).mp hq
            have hq' := (L.lt q j h2).1
            exact ⟨q, nb_sym G hq' h, by rw [ht q hq']; exact h2⟩
        simp only [reduceCtorEq, false_or, true_and]
        by_cases z : p ∈ outer.flatMap (neighbours f)
        · rw [if_pos (key.mpr z), if_pos z]
        · rw [if_neg fun y => z (key.mp y), if_neg z]
      · have hv : t.getD q none = some v := hv
        rw [ht q (nb_lt G hp hq)] at hv
        have h1 := L.lt q v hv
        refine Classical.byContradiction fun ne => ?_
        obtain ⟨w, hw⟩ := L.shut q v hv (by omega) p (nb_sym G hp hq) hs
        rw [e] at hw; cases hw
theorem Lay.extend {f : IceField} {req origin j : Nat} {d : Dist} {outer : List Nat} (G : Good f) (L : Lay f req origin j d outer) (p : Nat) (hp : p < cellCount f) :
    (table f req origin (j + 1)).getD p none = match look d p with
      | some v => some v
      | none => if isSafe f req p = true ∧ p ∈ outer.flatMap (neighbours f) then some (j + 1) else none := by
  unfold table
  rw [extend_out]
  exact L.ext_of G L.tab p hp
theorem lay_next {f : IceField} {req origin j : Nat} {d : Dist} {outer : List Nat} (G : Good f) (L : Lay f req origin j d outer) (ne : outer ≠ []) :
    Lay f req origin (j + 1) (layer f (isSafe f req) d outer).1 (layer f (isSafe f req) d outer).2 := by
  have S := seen_layer (f := f) (safe := isSafe f req) L.nd fun c hc => (L.out c).mp hc
  generalize layer f (isSafe f req) d outer = st at S ⊢
  have nbO : ∀ q, q ∈ outer.flatMap (neighbours f) → q < cellCount f ∧ ∃ c, look d c = some j ∧ q ∈ neighbours f c ∧ c ∈ neighbours f q := fun q hq => by
    obtain ⟨c, hc, h⟩ := List.mem_flatMap.mp hq
    have hc := (L.out c).mp hc
    have hl := (L.lt c j hc).1
    exact ⟨nb_lt G hl h, c, hc, h, nb_sym G hl h⟩
  refine ⟨fun p hp => ?_, fun p => ?_, S.nd, fun p v h => ?_, fun p v h hv q hq hs => ?_, fun p v h => ?_, fun p h => ?_, fun _ => ?_, ?_⟩
  · rw [L.extend G p hp, S.at_ p]
  · rw [S.rs p, S.at_ p]
    cases e : look d p with
    | some v =>
      have := (L.lt p v e).2.2
      simp
      omega
    | none => simp
  · rw [S.at_ p] at h
    cases e : look d p with
    | some w =>
      rw [e] at h
      obtain rfl : w = v := Option.some.inj h
      have := L.lt p w e
      exact ⟨this.1, this.2.1, by omega⟩
    | none =>
      rw [e] at h
      have h : (if isSafe f req p = true ∧ p ∈ outer.flatMap (neighbours f) then some (j + 1) else none) = some v := h
      by_cases c : isSafe f req p = true ∧ p ∈ outer.flatMap (neighbours f)
      · rw [if_pos c] at h
        cases h
        exact ⟨(nbO p c.2).1, c.1, Nat.le_refl _⟩
      · rw [if_neg c] at h; cases h
  · rw [S.at_ p] at h
    cases e : look d p with
    | some w =>
      rw [e] at h
      obtain rfl : w = v := Option.some.inj h
      by_cases c : w < j
      · obtain ⟨x, hx⟩ := L.shut p w e c q hq hs
        exact ⟨x, S.old hx⟩
      · have : w = j := by omega
        subst this
        rw [S.at_ q]
        cases eq : look d q with
        | some x => exact ⟨x, rfl⟩
        | none =>
          refine ⟨w + 1, ?_⟩
          show (if _ then _ else _) = _
          rw [if_pos ⟨hs, List.mem_flatMap.mpr ⟨p, (L.out p).mpr e, hq⟩⟩]
    | none =>
      rw [e] at h
      have h : (if isSafe f req p = true ∧ p ∈ outer.flatMap (neighbours f) then some (j + 1) else none) = some v := h
      by_cases c : isSafe f req p = true ∧ p ∈ outer.flatMap (neighbours f)
      · rw [if_pos c] at h
        cases h
        omega
      · rw [if_neg c] at h; cases h
  · rw [S.at_ p] at h
    cases e : look d p with
    | some w =>
      rw [e] at h
      obtain rfl : w = v + 1 := Option.some.inj h
      obtain ⟨q, hq, hv⟩ := L.pred p v e
      exact ⟨q, hq, S.old hv⟩
    | none =>
      rw [e] at h
      have h : (if isSafe f req p = true ∧ p ∈ outer.flatMap (neighbours f) then some (j + 1) else none) = some (v + 1) := h
      by_cases c : isSafe f req p = true ∧ p ∈ outer.flatMap (neighbours f)
      · rw [if_pos c] at h
        have : v = j := by have := Option.some.inj h; omega
        subst this
        obtain ⟨_, x, h1, _, h3⟩ := nbO p c.2
        exact ⟨x, h3, S.old h1⟩
      · rw [if_neg c] at h; cases h
  · rw [S.at_ p] at h
    cases e : look d p with
    | some w =>
      rw [e] at h
      obtain rfl : w = 0 := Option.some.inj h
      exact L.zero p e
    | none =>
      rw [e] at h
      have h : (if isSafe f req p = true ∧ p ∈ outer.flatMap (neighbours f) then some (j + 1) else none) = some 0 := h
      by_cases c : isSafe f req p = true ∧ p ∈ outer.flatMap (neighbours f)
      · rw [if_pos c] at h; cases h
      · rw [if_neg c] at h; cases h
  · have dn : d ≠ [] := fun z => by
      obtain ⟨c, hc⟩ := List.exists_mem_of_ne_nil outer ne
      have := (L.out c).mp hc
      rw [z] at this
      simp [look] at this
    exact S.old (L.orig dn)
  · have h1 := L.len.2 ne
    rw [S.len]
    refine ⟨by omega, fun h => ?_⟩
    have := List.length_pos_iff.mpr h
    omega

/-! ### the end of the search -/
/-- the table at the end, whatever the turn at which the search had nothing left -/
theorem tab_stays {f : IceField} {req origin j : Nat} {d : Dist} (G : Good f) (L : Lay f req origin j d []) : ∀ k p, p < cellCount f → (table f req origin (j + k)).getD p none = look d p
  | 0, p, hp => L.tab p hp
  | k + 1, p, hp => by
    have ih := tab_stays G L k
    have e : table f req origin (j + (k + 1)) = extendDistances f req (table f req origin (j + k)) := by
      unfold table
      exact extend_out f req (j + k) _
    rw [e, L.ext_of G ih p hp]
    cases look d p <;> simp
/-- what the search leaves -/
structure Found (f : IceField) (req origin : Nat) (d : Dist) : Prop where
  tab : ∀ p, p < cellCount f → (safeDistances f req origin).getD p none = look d p
  lt : ∀ p v, look d p = some v → p < cellCount f ∧ isSafe f req p = true ∧ v ≤ cellCount f
  shut : ∀ p v, look d p = some v → ∀ q ∈ neighbours f p, isSafe f req q = true → ∃ w, look d q = some w
  pred : ∀ p v, look d p = some (v + 1) → ∃ q ∈ neighbours f p, look d q = some v
  zero : ∀ p, look d p = some 0 → p = origin
  orig : d ≠ [] → look d origin = some 0
  keys : d.length ≤ cellCount f
theorem lay_found {f : IceField} {req origin j : Nat} {d : Dist} (G : Good f) (L : Lay f req origin j d []) : Found f req origin d := by
  have hk := L.keys
  have hj := L.len.1
  have hv : ∀ p v, look d p = some v → v < j := fun p v h => by
    have h2 := L.lt p v h
    have h3 : v ≠ j := fun e => by
      subst e
      have := (L.out p).mpr h
      cases this
    omega
  refine ⟨fun p hp => ?_, fun p v h => ?_, fun p v h => L.shut p v h (hv p v h), L.pred, L.zero, L.orig, hk⟩
  · have := tab_stays G L (cellCount f - j) p hp
    rw [show j + (cellCount f - j) = cellCount f by omega] at this
    exact this
  · have := L.lt p v h
    exact ⟨this.1, this.2.1, by omega⟩
end Ib

/-! ### part M3 -/
set_option autoImplicit false
namespace Ib
open Km563

/-! ### the route, backwards -/
/-- the first neighbour that is one step nearer -/
theorem back_step {f : IceField} {req origin : Nat} {d : Dist} (G : Good f) (D : Found f req origin d) {cell v : Nat} (h : look d cell = some (v + 1)) :
    ∃ q r, (neighbours f cell).filter (fun x => look d x == some v) = q :: r ∧ look d q = some v ∧ (neighbours f cell).find? (fun x => (safeDistances f req origin).getD x none == some v) = some q := by
  have hc := (D.lt cell _ h).1
  obtain ⟨q0, hq0, hv0⟩ := D.pred cell v h
  have mem : q0 ∈ (neighbours f cell).filter (fun x => look d x == some v) := List.mem_filter.mpr ⟨hq0, by rw [hv0]; simp⟩
  cases e : (neighbours f cell).filter (fun x => look d x == some v) with
  | nil => rw [e] at mem; cases mem
  | cons q r =>
    have hq : q ∈ (neighbours f cell).filter (fun x => look d x == some v) := by rw [e]; exact List.mem_cons_self ..
    have hv := (List.mem_filter.mp hq).2
    refine ⟨q, r, rfl, by simpa using hv, ?_⟩
    have e2 : (neighbours f cell).find? (fun x => look d x == some v) = some q := by
      rw [← List.head?_filter, e]
      rfl
    rw [← e2]
    have cong : ∀ (l : List Nat), (∀ x ∈ l, x < cellCount f) → l.find? (fun x => (safeDistances f req origin).getD x none == some v) = l.find? (fun x => look d x == some v) := by
      intro l
      induction l with
      | nil => intro _; rfl
      | cons x l ih =>
        intro hl
        rw [List.find?_cons, List.find?_cons, D.tab x (hl x (List.mem_cons_self ..)), ih fun y hy => hl y (List.mem_cons_of_mem _ hy)]
    exact cong _ fun x hx => nb_lt G hc hx
theorem trace_step {f : IceField} {req origin : Nat} {d : Dist} (G : Good f) (D : Found f req origin d) {cell v q fuel : Nat} {r route : List Nat} (h : look d cell = some (v + 1)) (hq : (neighbours f cell).filter (fun x => look d x == some v) = q :: r) :
    traceBack f (safeDistances f req origin) (fuel + 1) cell route = traceBack f (safeDistances f req origin) fuel q (cell :: route) := by
  obtain ⟨q', r', e1, _, e3⟩ := back_step G D h
  rw [hq] at e1
  obtain ⟨rfl, rfl⟩ := List.cons.inj e1
  have hc := (D.lt cell _ h).1
  conv => lhs; unfold traceBack
  rw [D.tab cell hc, h]
  dsimp only
  rw [e3]
theorem trace_end {f : IceField} {req origin : Nat} {d : Dist} (D : Found f req origin d) {cell fuel : Nat} {route : List Nat} (h : look d cell = some 0) :
    traceBack f (safeDistances f req origin) fuel cell route = cell :: route := by
  have hc := (D.lt cell _ h).1
  cases fuel with
  | zero => rfl
  | succ n =>
    unfold traceBack
    rw [D.tab cell hc, h]
theorem trace_len {f : IceField} {req origin : Nat} {d : Dist} (G : Good f) (D : Found f req origin d) : ∀ (v fuel cell : Nat) (route : List Nat), v ≤ fuel → look d cell = some v →
    (traceBack f (safeDistances f req origin) fuel cell route).length = v + 1 + route.length
  | 0, fuel, cell, route, _, h => by
    rw [trace_end D h, List.length_cons]
    omega
  | v + 1, 0, cell, route, hf, h => by omega
  | v + 1, fuel + 1, cell, route, hf, h => by
    obtain ⟨q, r, e1, e2, _⟩ := back_step G D h
    rw [trace_step G D h e1, trace_len G D v fuel q (cell :: route) (by omega) e2, List.length_cons]
    omega
/-- the route as the specification has it -/
def route (f : IceField) (req origin target : Nat) : List Nat := (safeRoute f req origin target).getD []
theorem route_none {f : IceField} {req origin target : Nat} {d : Dist} (D : Found f req origin d) (ht : target < cellCount f) (h : look d target = none) : safeRoute f req origin target = none := by
  unfold safeRoute
  rw [D.tab target ht, h]
theorem route_some {f : IceField} {req origin target v : Nat} {d : Dist} (D : Found f req origin d) (ht : target < cellCount f) (h : look d target = some v) : safeRoute f req origin target = some (traceBack f (safeDistances f req origin) (cellCount f) target []) := by
  unfold safeRoute
  rw [D.tab target ht, h]
theorem route_is {f : IceField} {req origin target : Nat} : (safeRoute f req origin target = none ↔ (safeDistances f req origin).getD target none = none) := by
  unfold safeRoute
  cases (safeDistances f req origin).getD target none <;> simp
theorem route_ne {f : IceField} {req origin target : Nat} {d : Dist} (G : Good f) (D : Found f req origin d) (ht : target < cellCount f) : route f req origin target = [] ↔ (safeDistances f req origin).getD target none = none := by
  unfold route
  cases e : look d target with
  | none =>
    rw [route_none D ht e, D.tab target ht, e]
    simp
  | some v =>
    rw [route_some D ht e, D.tab target ht, e]
    have hl := trace_len G D v (cellCount f) target [] (D.lt target v e).2.2 e
    constructor
    · intro z
      rw [Option.getD_some] at z
      rw [z] at hl
      simp at hl
    · intro z; cases z
theorem route_len {f : IceField} {req origin target v : Nat} {d : Dist} (G : Good f) (D : Found f req origin d) (ht : target < cellCount f) (h : (safeDistances f req origin).getD target none = some v) : (route f req origin target).length = v + 1 := by
  rw [D.tab target ht] at h
  unfold route
  rw [route_some D ht h, Option.getD_some, trace_len G D v (cellCount f) target [] (D.lt target v h).2.2 h]
  rfl

/-! ### every cell is reached at 0 -/
theorem safe0 (f : IceField) (p : Nat) : isSafe f 0 p = true := by
  unfold isSafe
  simp
theorem nb_up {f : IceField} {p : Nat} (h : f.columns ≤ p) : p - f.columns ∈ neighbours f p := by
  unfold neighbours
  rw [if_pos h]
  simp
theorem nb_left {f : IceField} {p : Nat} (h : ¬ p % f.columns = 0) : p - 1 ∈ neighbours f p := by
  unfold neighbours
  rw [if_neg h]
  simp
theorem all_reached {f : IceField} {origin : Nat} {d : Dist} (G : Good f) (D : Found f 0 origin d) (ho : ∃ v, look d origin = some v) : ∀ q, q < cellCount f → ∃ v, look d q = some v := by
  have shut : ∀ p, (∃ v, look d p = some v) → ∀ q ∈ neighbours f p, ∃ v, look d q = some v := fun p ⟨v, h⟩ q hq => D.shut p v h q hq (safe0 f q)
  have hc : 1 ≤ f.columns := G.c1
  have down : ∀ n p, p ≤ n → (∃ v, look d p = some v) → ∃ v, look d 0 = some v := by
    intro n
    induction n with
    | zero =>
      intro p hp h
      rwa [Nat.le_zero.mp hp] at h
    | succ n ih =>
      intro p hp h
      by_cases h0 : p = 0
      · rwa [h0] at h
      · by_cases h1 : f.columns ≤ p
        · exact ih (p - f.columns) (by omega) (shut p h _ (nb_up h1))
        · refine ih (p - 1) (by omega) (shut p h _ (nb_left ?_))
          rw [Nat.mod_eq_of_lt (by omega)]
          exact h0
  obtain ⟨v0, hv0⟩ := down origin origin (Nat.le_refl _) ho
  have up : ∀ n q, q ≤ n → q < cellCount f → ∃ v, look d q = some v := by
    intro n
    induction n with
    | zero =>
      intro q hq _
      rw [Nat.le_zero.mp hq]
      exact ⟨v0, hv0⟩
    | succ n ih =>
      intro q hq hl
      by_cases h0 : q = 0
      · rw [h0]; exact ⟨v0, hv0⟩
      · by_cases h1 : f.columns ≤ q
        · have m := nb_up h1
          exact shut (q - f.columns) (ih _ (by omega) (by omega)) q (nb_sym G hl m)
        · have m : q - 1 ∈ neighbours f q := nb_left (by rw [Nat.mod_eq_of_lt (by omega)]; exact h0)
          exact shut (q - 1) (ih _ (by omega) (by omega)) q (nb_sym G hl m)
  exact fun q hq => up q q (Nat.le_refl _) hq
/-- the search exists -/
theorem search_from {f : IceField} {req origin : Nat} (G : Good f) : ∀ (n j : Nat) (d : Dist) (outer : List Nat), cellCount f + 1 ≤ j + n → Lay f req origin j d outer → ∃ d', Found f req origin d' ∧ (d ≠ [] → d' ≠ [])
  | 0, j, d, outer, hn, L => by
    have h1 := L.keys
    have h2 := L.len.1
    omega
  | n + 1, j, d, outer, hn, L => by
    by_cases e : outer = []
    · subst e
      exact ⟨d, lay_found G L, id⟩
    · obtain ⟨d', h1, h2⟩ := search_from G n (j + 1) _ _ (by omega) (lay_next G L e)
      refine ⟨d', h1, fun z => h2 fun z2 => ?_⟩
      have h3 := (lay_next G L e).len.1
      rw [z2] at h3
      simp at h3
theorem search {f : IceField} (G : Good f) (req : Nat) {origin : Nat} (ho : origin < cellCount f) : ∃ d, Found f req origin d ∧ (isSafe f req origin = true → d ≠ []) := by
  cases hs : isSafe f req origin with
  | true =>
    obtain ⟨d, h1, h2⟩ := search_from G (cellCount f + 1) 0 _ _ (by omega) (lay_start ho hs)
    exact ⟨d, h1, fun _ => h2 (by simp)⟩
  | false =>
    obtain ⟨d, h1, h2⟩ := search_from G (cellCount f + 1) 0 _ _ (by omega) (lay_none hs)
    exact ⟨d, h1, fun z => by cases z⟩
theorem zero_route {f : IceField} (G : Good f) {origin target : Nat} (ho : origin < cellCount f) (ht : target < cellCount f) : route f 0 origin target ≠ [] := by
  obtain ⟨d, D, ne⟩ := search G 0 ho
  rw [ne_eq, route_ne G D ht, D.tab target ht]
  obtain ⟨v, hv⟩ := all_reached G D ⟨0, D.orig (ne (safe0 f origin))⟩ target ht
  rw [hv]
  simp

/-! ### the greatest that is found from above, the least from below -/
theorem find_down (p : Nat → Bool) : ∀ (n k : Nat), k < n → p k = true → (∀ j, k < j → j < n → p j = false) → (List.range n).reverse.find? p = some k
  | 0, k, h, _, _ => by omega
  | n + 1, k, h, hp, hj => by
    rw [List.range_succ, List.reverse_append, List.reverse_singleton, List.singleton_append, List.find?_cons]
    by_cases e : k = n
    · subst e
      rw [hp]
    · rw [hj n (by omega) (by omega)]
      exact find_down p n k (by omega) hp fun j h1 h2 => hj j h1 (by omega)
theorem max_safe {f : IceField} (G : Good f) {origin target k : Nat} (ho : origin < cellCount f) (ht : target < cellCount f) (hk : k ≤ 99) (h1 : route f k origin target ≠ []) (h2 : ∀ j, k < j → j ≤ 99 → route f j origin target = []) :
    maxSafeThickness f origin target = k := by
  unfold maxSafeThickness
  have key : ∀ j, ((safeDistances f j origin).getD target none).isSome = true ↔ route f j origin target ≠ [] := fun j => by
    obtain ⟨d, D, _⟩ := search G j ho
    rw [ne_eq, route_ne G D ht]
    cases (safeDistances f j origin).getD target none <;> simp
  rw [find_down _ (maxThickness + 1) k (by show k < 99 + 1; omega) ((key k).mpr h1) fun j a b => ?_]
  · rfl
  · have b : j < 99 + 1 := b
    have := h2 j a (by omega)
    cases e : ((safeDistances f j origin).getD target none).isSome with
    | false => rfl
    | true => exact absurd this ((key j).mp e)
def stepOk (f : IceField) (s : Nat) : Bool := isConsistent { f with maxStep := s }
theorem step_self {f : IceField} (G : Good f) : stepOk f f.maxStep = true := G.cons
theorem smallest_is {f : IceField} {k : Nat} (hk : k ≤ 20) (h1 : stepOk f k = true) (h2 : ∀ j, j < k → stepOk f j = false) : smallestConsistentStep f = some k := by
  unfold smallestConsistentStep
  rw [List.find?_range_eq_some]
  refine ⟨h1, List.mem_range.mpr (by omega), fun j hj => ?_⟩
  have := h2 j hj
  unfold stepOk at this
  simp [this]
/-! ### sums -/
theorem sum_is : ∀ (l : List Nat) (a : Nat), l.foldl (fun (a b : Nat) => a + b) a = a + l.sum
  | [], a => by simp
  | x :: r, a => by
    rw [List.foldl_cons, sum_is r, List.sum_cons]
    omega
theorem sum_cast : ∀ (l : List Nat), (l.map fun (n : Nat) => (n : Int)).sum = ((l.sum : Nat) : Int)
  | [] => rfl
  | x :: r => by
    rw [List.map_cons, List.sum_cons, sum_cast r, List.sum_cons]
    omega
theorem total_is (f : IceField) : (((List.range (cellCount f)).map fun cell => uncertainty f cell).map fun (n : Nat) => (n : Int)).sum = ((totalUncertainty f : Nat) : Int) := by
  rw [sum_cast]
  unfold totalUncertainty Km563.sum
  rw [sum_is]
  simp
def worst (f : IceField) (cell : Nat) : Nat := (List.range (upperBound f cell + 1 - lowerBound f cell)).foldl (fun (worst i : Nat) => max worst (totalUncertainty (withMeasurement f cell (lowerBound f cell + i)))) 0
end Ib

/-! ### part M4 -/
set_option autoImplicit false
namespace Ib
open Km563

/-! ### the calls' shapes -/
inductive Shape where
  | o0 (c : Km563.Call)
  | o1 (mk : Nat → Km563.Call)
  | o2 (mk : Nat → Nat → Km563.Call)
  | o3 (mk : Nat → Nat → Nat → Km563.Call)
def shapeOf : Nat → Option Shape
  | 1 => some (.o1 .setMaxStep)
  | 2 => some (.o2 .measure)
  | 3 => some (.o1 .removeMeasurement)
  | 4 => some (.o0 .listMeasurements)
  | 5 => some (.o1 .lowerBound)
  | 6 => some (.o1 .upperBound)
  | 7 => some (.o0 .lowerBounds)
  | 8 => some (.o0 .upperBounds)
  | 9 => some (.o2 .isPossible)
  | 10 => some (.o1 .uncertainty)
  | 11 => some (.o0 .mostUncertainCell)
  | 12 => some (.o2 .checkCell)
  | 13 => some (.o1 .safeCells)
  | 14 => some (.o1 .uncertainCells)
  | 15 => some (.o3 .safeRoute)
  | 16 => some (.o3 .safeRouteLength)
  | 17 => some (.o2 .maxSafeThickness)
  | 18 => some (.o2 .totalUncertaintyWith)
  | 19 => some (.o1 .worstTotalUncertainty)
  | 20 => some (.o0 .smallestConsistentStep)
  | 21 => some (.o0 .totalUncertainty)
  | 22 => some (.o0 .summary)
  | _ => none
def Shape.call : Shape → List Nat → Option Km563.Call
  | .o0 c, [] => some c
  | .o1 mk, [x] => some (mk x)
  | .o2 mk, [x, y] => some (mk x y)
  | .o3 mk, [x, y, z] => some (mk x y z)
  | _, _ => none
def cst (n : Nat) : Int := n
def cnts : List Int := [3, 1, 2, 1, 0, 1, 1, 0, 0, 2, 1, 0, 2, 1, 1, 3, 3, 2, 2, 1, 0, 0, 0]
/-- one call at the head of the rest -/
theorem parse_step {fuel : Nat} {p : Int} {r : List Int} {cs : List (List (List Int))} (h : PyFlat.calls PyKm563.shape fuel (p :: r) = some cs) :
    ∃ n k f t cs', PyKm563.shape p = some (n, k) ∧ n ≤ r.length ∧ PyFlat.rows k (r.drop n) = some t ∧ PyFlat.calls PyKm563.shape f t.2 = some cs' ∧ cs = ((p :: r.take n) :: t.1) :: cs' := by
  cases fuel with
  | zero => cases h
  | succ f =>
    unfold PyFlat.calls PyFlat.call at h
    cases e1 : PyKm563.shape p with
    | none => simp [e1] at h
    | some nk =>
      obtain ⟨n, k⟩ := nk
      simp only [e1] at h
      by_cases hl : r.length < n
      · simp [hl] at h
      · rw [if_neg hl] at h
        cases e2 : PyFlat.rows k (r.drop n) with
        | none => simp [e2] at h
        | some t =>
          simp only [e2] at h
          cases e3 : PyFlat.calls PyKm563.shape f t.2 with
          | none => simp [e3] at h
          | some cs' =>
            simp only [e3] at h
            exact ⟨n, k, f, t, cs', rfl, by omega, e2, e3, (Option.some.inj h).symm⟩
/-- what a place takes -/
theorem shape_is {j n k : Nat} (h : PyKm563.shape (j : Int) = some (n, k)) : k = 0 ∧ cnts[j]? = some (n : Int) ∧ j ≤ 22 := by
  have hj : j ≤ 22 := by
    refine Classical.byContradiction fun z => ?_
    have e : PyKm563.shape (j : Int) = none := by
      unfold PyKm563.shape
      repeat rw [if_neg (by omega)]
    rw [e] at h
    cases h
  have key : ∀ j : Nat, j ≤ 22 → ∀ q, PyKm563.shape (j : Int) = some q → q.2 = 0 ∧ cnts[j]? = some (q.1 : Int) := by
    intro j hj
    have : ∀ j : Nat, j ∈ List.range 23 → (match PyKm563.shape (j : Int) with
      | none => true
      | some q => decide (q.2 = 0) && decide (cnts[j]? = some (q.1 : Int))) = true := by decide +kernel
    intro q hq
    have := this j (List.mem_range.mpr (by omega))
    rw [hq] at this
    simpa using this
  have := key j hj (n, k) h
  exact ⟨this.1, this.2, hj⟩
/-- a call that makes an instance -/
theorem call_create (s : Km563.State) (a b c : Nat) : Km563Neutral.step s (PyKm563.whole [((0 : Nat) : Int) :: [a, b, c].map cst]) =
    ((Km563.step s (.create a b c)).1, (Km563.step s (.create a b c)).2.num :: (Km563.step s (.create a b c)).2.nums) := rfl
theorem len2 : ∀ {l : List Nat}, l.length = 2 → ∃ x y, l = [x, y]
  | [x, y], _ => ⟨x, y, rfl⟩
  | [], h => by simp at h
  | [_], h => by simp at h
  | _ :: _ :: _ :: _, h => by simp at h
theorem len3 : ∀ {l : List Nat}, l.length = 3 → ∃ x y z, l = [x, y, z]
  | [x, y, z], _ => ⟨x, y, z, rfl⟩
  | [], h => by simp at h
  | [_], h => by simp at h
  | [_, _], h => by simp at h
  | _ :: _ :: _ :: _ :: _, h => by simp at h
/-- any other call -/
theorem call_other {j n : Nat} (hj : cnts[j]? = some (n : Int)) (h0 : j ≠ 0) {ys : List Nat} (hy : ys.length = n) : ∃ sh c, shapeOf j = some sh ∧ sh.call ys = some c ∧
    (∀ s : Km563.State, Km563Neutral.step s (PyKm563.whole [(j : Int) :: ys.map cst]) = ((Km563.step s c).1, (Km563.step s c).2.num :: (Km563.step s c).2.nums)) ∧ Km563.step none c = (none, Km563.error (-11)) := by
  have hlt : j < 23 := (List.getElem?_eq_some_iff.mp hj).1
  have num : ∀ k : Nat, cnts[j]? = some (k : Int) → n = k := fun k e => by
    rw [hj] at e
    have := Option.some.inj e
    omega
  have l0 : n = 0 → ys = [] := fun e => List.eq_nil_of_length_eq_zero (hy.trans e)
  have l1 : n = 1 → ∃ x, ys = [x] := fun e => List.length_eq_one_iff.mp (hy.trans e)
  have l2 : n = 2 → ∃ x y, ys = [x, y] := fun e => len2 (hy.trans e)
  have l3 : n = 3 → ∃ x y z, ys = [x, y, z] := fun e => len3 (hy.trans e)
  match j, hlt, h0, num with
  | 1, _, _, num => obtain ⟨x, rfl⟩ := l1 (num 1 rfl); exact ⟨_, _, rfl, rfl, fun _ => rfl, rfl⟩
  | 2, _, _, num => obtain ⟨x, y, rfl⟩ := l2 (num 2 rfl); exact ⟨_, _, rfl, rfl, fun _ => rfl, rfl⟩
  | 3, _, _, num => obtain ⟨x, rfl⟩ := l1 (num 1 rfl); exact ⟨_, _, rfl, rfl, fun _ => rfl, rfl⟩
  | 4, _, _, num => obtain rfl := l0 (num 0 rfl); exact ⟨_, _, rfl, rfl, fun _ => rfl, rfl⟩
  | 5, _, _, num => obtain ⟨x, rfl⟩ := l1 (num 1 rfl); exact ⟨_, _, rfl, rfl, fun _ => rfl, rfl⟩
  | 6, _, _, num => obtain ⟨x, rfl⟩ := l1 (num 1 rfl); exact ⟨_, _, rfl, rfl, fun _ => rfl, rfl⟩
  | 7, _, _, num => obtain rfl := l0 (num 0 rfl); exact ⟨_, _, rfl, rfl, fun _ => rfl, rfl⟩
  | 8, _, _, num => obtain rfl := l0 (num 0 rfl); exact ⟨_, _, rfl, rfl, fun _ => rfl, rfl⟩
  | 9, _, _, num => obtain ⟨x, y, rfl⟩ := l2 (num 2 rfl); exact ⟨_, _, rfl, rfl, fun _ => rfl, rfl⟩
  | 10, _, _, num => obtain ⟨x, rfl⟩ := l1 (num 1 rfl); exact ⟨_, _, rfl, rfl, fun _ => rfl, rfl⟩
  | 11, _, _, num => obtain rfl := l0 (num 0 rfl); exact ⟨_, _, rfl, rfl, fun _ => rfl, rfl⟩
  | 12, _, _, num => obtain ⟨x, y, rfl⟩ := l2 (num 2 rfl); exact ⟨_, _, rfl, rfl, fun _ => rfl, rfl⟩
  | 13, _, _, num => obtain ⟨x, rfl⟩ := l1 (num 1 rfl); exact ⟨_, _, rfl, rfl, fun _ => rfl, rfl⟩
  | 14, _, _, num => obtain ⟨x, rfl⟩ := l1 (num 1 rfl); exact ⟨_, _, rfl, rfl, fun _ => rfl, rfl⟩
  | 15, _, _, num => obtain ⟨x, y, z, rfl⟩ := l3 (num 3 rfl); exact ⟨_, _, rfl, rfl, fun _ => rfl, rfl⟩
  | 16, _, _, num => obtain ⟨x, y, z, rfl⟩ := l3 (num 3 rfl); exact ⟨_, _, rfl, rfl, fun _ => rfl, rfl⟩
  | 17, _, _, num => obtain ⟨x, y, rfl⟩ := l2 (num 2 rfl); exact ⟨_, _, rfl, rfl, fun _ => rfl, rfl⟩
  | 18, _, _, num => obtain ⟨x, y, rfl⟩ := l2 (num 2 rfl); exact ⟨_, _, rfl, rfl, fun _ => rfl, rfl⟩
  | 19, _, _, num => obtain ⟨x, rfl⟩ := l1 (num 1 rfl); exact ⟨_, _, rfl, rfl, fun _ => rfl, rfl⟩
  | 20, _, _, num => obtain rfl := l0 (num 0 rfl); exact ⟨_, _, rfl, rfl, fun _ => rfl, rfl⟩
  | 21, _, _, num => obtain rfl := l0 (num 0 rfl); exact ⟨_, _, rfl, rfl, fun _ => rfl, rfl⟩
  | 22, _, _, num => obtain rfl := l0 (num 0 rfl); exact ⟨_, _, rfl, rfl, fun _ => rfl, rfl⟩
theorem step_some (f : IceField) (c : Km563.Call) : ∃ g, (Km563.step (some f) c).1 = some g := by
  cases c <;> unfold Km563.step <;> dsimp only <;> repeat' split
  all_goals exact ⟨_, rfl⟩
/-- one turn of what is due -/
theorem due_step {fuel : Nat} {j : Nat} {r : List Nat} {cs : List (List (List Int))} (h : PyFlat.calls PyKm563.shape fuel ((j : Int) :: r.map cst) = some cs) :
    ∃ (n f : Nat) (cs' : List (List (List Int))), cnts[j]? = some (n : Int) ∧ n ≤ r.length ∧ PyFlat.calls PyKm563.shape f ((r.drop n).map cst) = some cs' ∧ cs = [(j : Int) :: (r.take n).map cst] :: cs' := by
  obtain ⟨n, k, f, t, cs', h1, h2, h3, h4, h5⟩ := parse_step h
  obtain ⟨rfl, h6, _⟩ := shape_is h1
  have e : t = ([], (r.map cst).drop n) := (Option.some.inj h3).symm
  subst e
  rw [List.length_map] at h2
  refine ⟨n, f, cs', h6, h2, ?_, ?_⟩
  · rw [List.map_drop]
    exact h4
  · rw [h5, List.map_take]
theorem told_cons (a : List Int) (l : List (List Int)) : PyFlat.told (a :: l) = ((a.length : Nat) : Int) :: (a ++ PyFlat.told l) := rfl
end Ib

/-! ### part Rv -/
set_option Elab.async false
set_option linter.all false
set_option maxRecDepth 100000
set_option maxHeartbeats 2000000
/-! ### list(reversed(xs)), xs a list: the new list S is filled from the iterator r over the list l -/
namespace Ib
open PySem PySem.Spec PyProof.Rows RT
/-- what the filling of a list is to reach -/
abbrev Fills (prog : Program) (w : World) (A : Around) (R : Result → Shared → Prop) (t : Sem Fin) (s : Shared) : Prop :=
  wpAny (model prog w) A.in1 t (fun x z => match x with | .done g => R (.ok g) z | .again g => g.quiet = true ∧ codeAny (model prog w) A g R z) (fun e z => R (.error e) z) s
/-- the heap g behind the filling, from h: S holds what the iterator r gave of vs, all but S and r stands as it was -/
structure Filled (h g : Heap) (S r : Addr) (vs : Array Value) (out : Array Value) (cap : Nat) : Prop where
  rest : ∀ b o, b ≠ S → b ≠ r → h.get? b = some o → g.get? b = some o
  here : g.get? S = some { cls := .type "list", dict := none, data := .seq out cap, slots := #[] }
  gave : ItemsOf (fun i v => vs[vs.size - 1 - i]? = some v) out vs.size
section
variable {prog : Program} {w : World} {A : Around} {s : Shared} {R : Result → Shared → Prop} {r l S : Addr} {vs : Array Value} {cap : Nat}
theorem hint_rev {E : Value → Shared → Prop} {Q : Bool → Shared → Prop} (ty : s.TypeIs (.ref r) "list_reverseiterator") (q : Q false s) : wpAny (model prog w) A (Builtin.List.listLengthHint (.ref r)) Q E s := by
  unfold Builtin.List.listLengthHint
  apply wpAny_bind
  apply wpAny_specialOf ty nolen_lri
  apply wpAny_bind
  apply wpAny_specialOf ty hint_lri
  generalize name : ("list_reverseiterator.__length_hint__" : String) = nm
  wp_delta
  have two : splitId nm = some ("list_reverseiterator", "__length_hint__") := by
    subst name
    decide +kernel
  rw [two]
  subst name
  apply wpAny_bind
  exact wpAny_isInstance (b := true) ty (by rw [isSubtype_type]; kernel_rfl) (wpAny_pure q)
theorem extend_rev (hh : A.handled = none) (it : s.heap.IsRevIter r l ((vs.size : Int) - 1)) (li : s.heap.IsList l vs) (small : vs.size ≤ sizeLine) (nlr : l ≠ r) (nSr : S ≠ r) (nSl : S ≠ l) (res : Value)
    (hS : s.heap.get? S = some { cls := .type "list", data := .seq #[] cap }) (k : ∀ g tk out c, Filled s.heap g S r vs out c → R (.ok (.ret res)) { s with heap := g, toks := tk }) :
    Fills prog w A R (Builtin.List.listExtendWith (.ref S) (.ref r) res) s := by
  have ty := Heap.IsRevIter.typeIs it
  have other : (Builtin.List.listSameRef (.ref S) (.ref r) || (Value.type "list_reverseiterator" == Value.type "list") || (Value.type "list_reverseiterator" == Value.type "tuple")) = false := by
    have z : Builtin.List.listSameRef (.ref S) (.ref r) = false := by simp [Builtin.List.listSameRef, nSr]
    rw [z]
    decide
  have first : ((vs.size : Nat) : Int) - 1 - ((0 : Nat) : Int) = (vs.size : Int) - 1 := by omega
  unfold Fills Builtin.List.listExtendWith
  apply wpAny_bind
  apply wpAny_typeOf ty
  rw [if_neg (by rw [other]; exact Bool.false_ne_true)]
  apply wpAny_bind
  apply wpAny_pyIter_revIter it
  apply wpAny_bind
  apply wpAny_holding
  apply hint_rev ty
  rw [if_neg (by decide)]
  apply wpAny_pure
  refine ⟨plainId_quiet PySem.F.plain_extend_loop _, codeAny_extend_loopS (Walks.listRev (A := A.in1) hh r l nlr vs).toS small S (by simp [nSr, nSl]) res vs.size 0 s #[] cap rfl (Nat.zero_le _) ⟨Nat.zero_le _, by rw [first]; exact it, li⟩ hS (ItemsOf.nil _) ?_⟩
  intro z out c moved here gave
  rw [Moved.eq_with moved]
  refine k z.heap z.toks out c ⟨fun b o n1 n2 e => moved.heap b o (fun m => ?_) e, here, gave⟩
  simp only [List.mem_cons, List.not_mem_nil, or_false] at m
  exact m.elim n1 n2
theorem init_rev (hh : A.handled = none) (it : s.heap.IsRevIter r l ((vs.size : Int) - 1)) (li : s.heap.IsList l vs) (small : vs.size ≤ sizeLine) (nlr : l ≠ r) (nSr : S ≠ r) (nSl : S ≠ l)
    (hS : s.heap.get? S = some { cls := .type "list", data := .seq #[] }) (k : ∀ g tk out c, Filled s.heap g S r vs out c → R (.ok (.ret .none)) { s with heap := g, toks := tk }) :
    Fills prog w A R (Builtin.«list.__init__» ⟨[.ref S, .ref r], []⟩) s := by
  show Fills prog w A R (Builtin.List.listItems (.ref S) >>= fun old => updateSeq S (fun _ => #[]) >>= fun _ => letGo old.toList.reverse >>= fun _ => Builtin.List.listExtendWith (.ref S) (.ref r) .none) s
  unfold Fills
  apply wpAny_bind
  unfold Builtin.List.listItems
  apply wpAny_bind
  apply wpAny_seqItems hS rfl
  apply wpAny_pure
  apply wpAny_bind
  apply wpAny_updateSeq hS rfl
  apply wpAny_bind
  apply wpAny_letGo
  have keep : ∀ b o, b ≠ S → s.heap.get? b = some o → (s.heap.update S (Obj.mapSeq fun _ => #[])).get? b = some o := fun b o n e => by
    rw [Heap.get?_update_other _ _ (Ne.symm n)]
    exact e
  obtain ⟨ol, el, cl⟩ := li
  exact extend_rev (s := { s with heap := s.heap.update S (Obj.mapSeq fun _ => #[]) }) hh (it.at fun o e => keep r o nSr.symm e) ⟨ol, keep l ol nSl.symm el, cl⟩ small nlr nSr nSl .none (Heap.get?_update_self _ hS rfl)
    fun g tk out c F => k g tk out c ⟨fun b o n1 n2 e => F.rest b o n1 n2 (keep b o n1 e), F.here, F.gave⟩
theorem list_rev {E : Value → Shared → Prop} {Q : Value → Shared → Prop} (hh : A.handled = none) (it : s.heap.IsRevIter r l ((vs.size : Int) - 1)) (li : s.heap.IsList l vs) (nlr : l ≠ r) (small : vs.size ≤ sizeLine)
    (k : ∀ g tk out c, (∀ b o, b ≠ r → s.heap.get? b = some o → g.get? b = some o) → g.get? s.heap.objs.size = some { cls := .type "list", dict := none, data := .seq out c, slots := #[] } →
      ItemsOf (fun i v => vs[vs.size - 1 - i]? = some v) out vs.size → Q (.ref s.heap.objs.size) { s with heap := g, toks := tk }) : wpAny (model prog w) A (call (.type "list") [.ref r]) Q E s := by
  obtain ⟨orr, er, cr⟩ := id it
  obtain ⟨ol, el, cl⟩ := id li
  have grow : ∀ b o, s.heap.get? b = some o → (s.heap.push { cls := .type "list", data := .seq #[] }).get? b = some o := fun b o e => Heap.get?_push_of_some _ e
  refine callType_codes (Q₁ := fun x z => x = .ref s.heap.objs.size ∧ z = { s with heap := s.heap.push { cls := .type "list", data := .seq #[] } }) PySem.F.called_list (PySem.F.typeCall_list_1 _) PySem.F.entry_list_init (code_list_new _ ⟨rfl, rfl⟩) ?_
  rintro _ _ ⟨rfl, rfl⟩
  have new := Heap.get?_push_size s.heap (o := { cls := .type "list", data := .seq #[] }) rfl
  refine ⟨⟨_, new, rfl⟩, PySem.F.args_list_init_2 _ _, ?_⟩
  refine init_rev (A := A.in1) (R := wants (fun v z => v = .none ∧ Q (.ref s.heap.objs.size) z) E) hh (it.at fun o e => grow r o e) ⟨ol, grow l ol el, cl⟩ small nlr (Nat.ne_of_gt (Heap.lt_size er)) (Nat.ne_of_gt (Heap.lt_size el)) new ?_
  intro g tk out c F
  exact ⟨rfl, k g tk out c (fun b o n e => F.rest b o (Nat.ne_of_lt (Heap.lt_size e)) n (grow b o e)) F.here F.gave⟩
end
end Ib
namespace Ib
open PySem PySem.Spec PyProof.Rows L2 RT
/-- its reading: a new list, the items from the last to the first -/
def tLstRev (K : PySem.W.Frag) (te : TE) : TE := fun sl H Q => te sl H fun v H1 => ∃ (a : Addr) (xs : List V), v = .ref a ∧ SqL K H1 a xs ∧ ∀ q, H1 q = none → Q (.ref q) (upd H1 q (.lst xs.reverse))
theorem pe_lstRev {X : Cx} {e : Expr} {te : TE} {p p2 pos pos2 : Pos} (hc : X.calm = true) (hg : Gl X "list") (hm : X.mg "list" = none) (hg2 : Gl X "reversed") (hm2 : X.mg "reversed" = none) (he : PE X e te)
    (one : starEach [e] X.env = (false, eval e X.env) :: starEach [] X.env := by rfl)
    (two : starEach [.Call (.Name "reversed" p2) [e] [] pos2] X.env = (false, eval (.Call (.Name "reversed" p2) [e] [] pos2) X.env) :: starEach [] X.env := by rfl) :
    PE X (.Call (.Name "list" p) [.Call (.Name "reversed" p2) [e] [] pos2] [] pos) (tLstRev X.K te) := by
  constructor
  intro pins s sl H Q I h
  refine Call_ (ld_blt I hg hm PyProof.Rows.boot_list (PyProof.Rows.callWith_type1 (args_cons ?_ two) two rfl))
  refine Call_ (ld_blt I hg2 hm2 PyProof.Rows.boot_reversed (PyProof.Rows.callWith_type1 (args_cons (thn (he.run pins s sl H _ I h) ?_) one) one rfl))
  rintro u z ⟨x, H1, I1, rx, a, xs, rfl, hq, q⟩
  apply args_nil
  cases (show u = Value.ref a from rx)
  obtain ⟨its, rel, plain, small⟩ := I1.list hq
  have cnt : its.toArray.size ≤ sizeLine := by
    rw [List.size_toArray, ← rel.length]
    exact small
  apply call_reversed_list plain.isList
  apply args_nil
  obtain ⟨ol, el, _⟩ := id plain.isList
  have I2 : Inv X pins sl H1 { z with heap := z.heap.push (revObj a ((its.toArray.size : Int) - 1)) } := I1.kept (t' := z.toks) fun b o e => Heap.get?_push_of_some _ e
  refine list_rev (s := { z with heap := z.heap.push (revObj a ((its.toArray.size : Int) - 1)) }) (I1.ok.hd hc) ⟨_, Heap.get?_push_size _ rfl, rfl, rfl⟩ (plain.isList.push _) (Nat.ne_of_lt (Heap.lt_size el)) cnt ?_
  intro g tk out c rest here gave
  have turns : ∀ b ∈ [z.heap.objs.size], FpOk X pins H1 b := by
    intro b m
    rw [List.mem_singleton.mp m]
    exact I1.fpOk (Nat.le_refl _) (I1.hok.fresh (Nat.le_refl _))
  have held : ObjOk X.prog X.w (upd H1 (z.heap.push (revObj a ((its.toArray.size : Int) - 1))).objs.size (.lst xs.reverse)) g (z.heap.push (revObj a ((its.toArray.size : Int) - 1))).objs.size (.lst xs.reverse) := by
    refine ⟨?_, out.toList, c, vals_rev rel gave, ?_⟩
    · rw [List.length_reverse]
      exact small
    · rw [Array.toArray_toList]
      exact here
  have I3 := I2.turnedNew (t' := tk) (h' := g) (ch := [z.heap.objs.size]) (fun b o n e => rest b o (fun m => n (by rw [m]; exact List.mem_singleton.mpr rfl)) e) turns (Nat.le_refl _) held
  exact ⟨.ref _, _, I3, rfl, q _ (I2.hok.fresh (Nat.le_refl _))⟩
end Ib

/-! ### part K0 -/
set_option Elab.async false
set_option linter.all false
set_option maxRecDepth 100000
set_option maxHeartbeats 2000000
namespace Ib
open PySem PySem.Spec PyProof.Rows L2
open Km563 (IceField)
/-! ### a dict of the module, int keys -/
/-- at a stands a dict of the written part whose keys are whole numbers; it holds z at the key m -/
def KDctI (K : PySem.W.Frag) (a : Addr) (m : Int) (z : V) : Prop :=
  ∃ (es : Array DictEntry) (cap : Nat) (held : Value), K.lookup a = some ⟨.type "dict", none, .dict es cap, #[]⟩ ∧ (∀ e ∈ es.toList, ∃ i t, e.key = .int i t ∧ e.hash = hashInt i) ∧ findBy Value.isInt es m = some held ∧ RelV z held
theorem KDctI.map {X : Cx} {pins : List (Addr × Obj)} {sl : L2.St} {H : Hp} {s : Shared} {a : Addr} {es : Array DictEntry} {cap : Nat} (I : Inv X pins sl H s) (at_ : X.K.lookup a = some ⟨.type "dict", none, .dict es cap, #[]⟩)
    (keys : ∀ e ∈ es.toList, ∃ i t, e.key = .int i t ∧ e.hash = hashInt i) : s.heap.MapOf (intKind X.prog X.w) a fun m => findBy Value.isInt es m := by
  refine ⟨_, es, cap, I.kIn _ _ at_, ⟨rfl, rfl, rfl⟩, rfl, fun e he => ?_, fun _ => rfl⟩
  obtain ⟨i, t, ek, eh⟩ := keys e (Array.mem_toList_iff.mpr he)
  refine ⟨i, ?_, eh⟩
  rw [ek]
  exact intKind_is X.prog X.w i t
def rIxDI (K : PySem.W.Frag) : R2 := fun o i H Q => ∃ (a : Addr) (m : Int) (z : V), o = .ref a ∧ i = .int m ∧ KDctI K a m z ∧ Q z H
theorem ix_kdictI {X : Cx} : IxR X (rIxDI X.K) := by
  rintro _ _ pins s sl H _ _ vo vi Q I ro ri ⟨a, m, z, rfl, rfl, ⟨es, cap, held, at_, keys, found, rz⟩, q⟩ plain
  have mp := KDctI.map I at_ keys
  cases (show vo = Value.ref a from ro)
  obtain ⟨tk, rfl⟩ := ri
  exact tail_any mp.typeIs slot_dict_getitem.lookup (wpAny_getItem_of (intKind_is X.prog X.w m tk) mp found ⟨z, H, I.tok _, rz, q⟩) plain
def keyI (e : DictEntry) : Bool := match e.key with
  | .int i _ => e.hash == hashInt i
  | _ => false
theorem keysI {es : Array DictEntry} (h : es.toList.all keyI = true) : ∀ e ∈ es.toList, ∃ i t, e.key = .int i t ∧ e.hash = hashInt i := fun e he => by
  have q := List.all_eq_true.mp h e he
  unfold keyI at q
  split at q
  · rename_i i t e1
    exact ⟨i, t, e1, by simpa using q⟩
  · cases q
def refAt (es : Array DictEntry) (x : Int) : Option Addr := match findBy Value.isInt es x with
  | some (.ref a) => some a
  | _ => none
theorem refAt_is {es : Array DictEntry} {x : Int} {a : Addr} (h : refAt es x = some a) : findBy Value.isInt es x = some (.ref a) := by
  unfold refAt at h
  split at h
  · rename_i b e
    cases h
    exact e
  · cases h
/-! ### a tuple of ints of the module -/
def intOf (v : Value) : Option Int := match v with
  | .int i _ => some i
  | _ => none
theorem vals_ints : ∀ {l : List Value} {ns : List Int}, l.map intOf = ns.map some → Vals (ns.map V.int) l
  | [], [], _ => .nil
  | [], n :: ns, h => by cases h
  | v :: l, [], h => by cases h
  | v :: l, n :: ns, h => by
    have h1 : intOf v = some n := (List.cons.inj h).1
    have h2 : l.map intOf = ns.map some := (List.cons.inj h).2
    refine .cons ?_ (vals_ints h2)
    cases v <;> first | (cases h1; exact ⟨_, rfl⟩) | cases h1
/-! ### the text -/
def top (i : Nat) : Stmt := PySem.Challenge.pw_icebounds_s01_answers.main.body.getD i (.Pass ⟨0, 0, 0, 0⟩)
/-! ### an Ice in the heap -/
def iF (f : IceField) (l : Addr) : List (Str × V) := [("columns", .int f.columns), ("rows", .int f.rows), ("max_step", .int f.maxStep), ("measurements", .ref l)]
theorem lk_here {k : Str} {v : V} {r : List (Str × V)} : List.lookup k ((k, v) :: r) = some v := by
  have e : (k == k) = true := beq_self_eq_true k
  simp only [List.lookup, e]
theorem lk_past {k g : Str} {v : V} {r : List (Str × V)} (h : (k == g) = false) : List.lookup k ((g, v) :: r) = List.lookup k r := by
  simp only [List.lookup, h]
theorem put_here {f : Str} {v x : V} {r : List (Str × V)} : putF f v ((f, x) :: r) = (f, v) :: r := if_pos rfl
theorem put_past {f g : Str} {v x : V} {r : List (Str × V)} (h : ¬ g = f) : putF f v ((g, x) :: r) = (g, x) :: putF f v r := if_neg h
theorem lkc (f : IceField) (l : Addr) : (iF f l).lookup ("columns" : Str) = some (.int f.columns) := lk_here
theorem lkr (f : IceField) (l : Addr) : (iF f l).lookup ("rows" : Str) = some (.int f.rows) := (lk_past (by decide +kernel)).trans lk_here
theorem lks (f : IceField) (l : Addr) : (iF f l).lookup ("max_step" : Str) = some (.int f.maxStep) := (lk_past (by decide +kernel)).trans ((lk_past (by decide +kernel)).trans lk_here)
theorem lkm (f : IceField) (l : Addr) : (iF f l).lookup ("measurements" : Str) = some (.ref l) := (lk_past (by decide +kernel)).trans ((lk_past (by decide +kernel)).trans ((lk_past (by decide +kernel)).trans lk_here))
def notAttr (m : Str) : Bool := !(m == ("columns" : Str)) && !(m == ("rows" : Str)) && !(m == ("max_step" : Str)) && !(m == ("measurements" : Str))
theorem lkn {m : Str} (h : notAttr m = true) (f : IceField) (l : Addr) : (iF f l).lookup m = none := by
  unfold notAttr at h
  simp only [Bool.and_eq_true, Bool.not_eq_true'] at h
  obtain ⟨⟨⟨h1, h2⟩, h3⟩, h4⟩ := h
  exact (lk_past h1).trans ((lk_past h2).trans ((lk_past h3).trans ((lk_past h4).trans rfl)))
theorem put_s (f : IceField) (l : Addr) (s : Nat) : putF "max_step" (.int s) (iF f l) = iF { f with maxStep := s } l :=
  (put_past (by decide +kernel)).trans (congrArg _ ((put_past (by decide +kernel)).trans (congrArg _ put_here)))
theorem put_m (f : IceField) (l l' : Addr) (ms : List (Nat × Nat)) : putF "measurements" (.ref l') (iF f l) = iF { f with measurements := ms } l' :=
  (put_past (by decide +kernel)).trans (congrArg _ ((put_past (by decide +kernel)).trans (congrArg _ ((put_past (by decide +kernel)).trans (congrArg _ put_here)))))
theorem put_new (c r s : Nat) (l : Addr) : putF "measurements" (.ref l) (putF "max_step" (.int s) (putF "rows" (.int r) (putF "columns" (.int c) []))) = iF ⟨c, r, s, []⟩ l := by
  have e1 : putF "rows" (.int r) (putF "columns" (.int c) []) = ([("columns", .int c), ("rows", .int r)] : List (Str × V)) := (put_past (by decide +kernel)).trans rfl
  have e2 : putF "max_step" (.int s) ([("columns", .int c), ("rows", .int r)] : List (Str × V)) = ([("columns", .int c), ("rows", .int r), ("max_step", .int s)] : List (Str × V)) := (put_past (by decide +kernel)).trans (congrArg _ ((put_past (by decide +kernel)).trans rfl))
  have e3 : putF "measurements" (.ref l) ([("columns", .int c), ("rows", .int r), ("max_step", .int s)] : List (Str × V)) = iF ⟨c, r, s, []⟩ l := (put_past (by decide +kernel)).trans (congrArg _ ((put_past (by decide +kernel)).trans (congrArg _ ((put_past (by decide +kernel)).trans rfl))))
  rw [e1, e2, e3]
/-- the tuples of the measurements -/
def TupAt (H : Hp) (t : Addr) (m : Nat × Nat) : Prop := H t = some (.tup [.int m.1, .int m.2])
def MsAt (H : Hp) (l : Addr) (ms : List (Nat × Nat)) : Prop := ∃ ts : List Addr, H l = some (.lst (ts.map V.ref)) ∧ Paired (TupAt H) ts ms
def IceAt (C : Addr) (H : Hp) (a : Addr) (f : IceField) : Prop := ∃ dx l, H a = some (.ins C dx (iF f l)) ∧ MsAt H l f.measurements
/-- all but what stands at a -/
def But (a : Addr) (H H' : Hp) : Prop := ∀ b o, H b = some o → b ≠ a → H' b = some o
theorem But.of {a : Addr} {H H' : Hp} (s : Same H H') : But a H H' := fun b o e _ => s b o e
theorem But.trans {a : Addr} {H H1 H2 : Hp} (s : But a H H1) (t : But a H1 H2) : But a H H2 := fun b o e n => t b o (s b o e n) n
theorem But.upd {a : Addr} {H H' : Hp} {o : HO} (s : But a H H') : But a H (upd H' a o) := fun b u e n => by rw [upd_ne n]; exact s b u e n
theorem _root_.L2.Same.new {H : Hp} {p : Addr} {o : HO} (h : H p = none) : Same H (upd H p o) := fun b u e => by
  rw [upd_ne (ne_of_none e h)]
  exact e
/-- a thing that H does not know may change -/
theorem _root_.L2.Same.mut {H H' : Hp} {p : Addr} {o : HO} (s : Same H H') (h : H p = none) : Same H (upd H' p o) := fun b u e => by
  rw [upd_ne (ne_of_none e h)]
  exact s b u e
theorem paired_mono {α β : Type} {F G : α → β → Prop} : ∀ {l : List α} {k : List β}, Paired F l k → (∀ a b, F a b → G a b) → Paired G l k
  | _, _, .nil, _ => .nil
  | _, _, .cons r t, f => .cons (f _ _ r) (paired_mono t f)
theorem MsAt.same {H H' : Hp} {l : Addr} {ms : List (Nat × Nat)} (s : Same H H') (h : MsAt H l ms) : MsAt H' l ms := by
  obtain ⟨ts, h1, h2⟩ := h
  exact ⟨ts, s _ _ h1, paired_mono h2 fun t m e => s _ _ e⟩
theorem IceAt.same {C : Addr} {H H' : Hp} {a : Addr} {f : IceField} (s : Same H H') (h : IceAt C H a f) : IceAt C H' a f := by
  obtain ⟨dx, l, h1, h2⟩ := h
  exact ⟨dx, l, s _ _ h1, h2.same s⟩
/-- where an instance stands at a, a list and its tuples stay apart from it -/
theorem MsAt.but {H H' : Hp} {a l C dx : Addr} {fs : List (Str × V)} {ms : List (Nat × Nat)} (s : But a H H') (ha : H a = some (.ins C dx fs)) (h : MsAt H l ms) : MsAt H' l ms := by
  obtain ⟨ts, h1, h2⟩ := h
  exact ⟨ts, s _ _ h1 (ne_of h1 ha (by intro z; cases z)), paired_mono h2 fun t m e => s _ _ e (ne_of e ha (by intro z; cases z))⟩
theorem paired_get {α β : Type} {F : α → β → Prop} : ∀ {l : List α} {k : List β} {i : Nat} {x : α}, Paired F l k → l[i]? = some x → ∃ y, k[i]? = some y ∧ F x y
  | _, _, _, _, .nil, e => by simp at e
  | _, _, 0, x, .cons r _, e => by
    have e : _ = x := Option.some.inj e
    subst e
    exact ⟨_, rfl, r⟩
  | _, _, i + 1, x, .cons _ t, e => by
    obtain ⟨y, h1, h2⟩ := paired_get (i := i) (x := x) t (by simpa using e)
    exact ⟨y, by simpa using h1, h2⟩
theorem paired_len {α β : Type} {F : α → β → Prop} : ∀ {l : List α} {k : List β}, Paired F l k → l.length = k.length
  | _, _, .nil => rfl
  | _, _, .cons _ t => by rw [List.length_cons, List.length_cons, paired_len t]
theorem paired_snoc {α β : Type} {F : α → β → Prop} : ∀ {l : List α} {k : List β} {x : α} {y : β}, Paired F l k → F x y → Paired F (l ++ [x]) (k ++ [y])
  | _, _, _, _, .nil, h => .cons h .nil
  | _, _, _, _, .cons r t, h => .cons r (paired_snoc t h)
/-- the i-th item of a list of references -/
theorem ref_get {ts : List Addr} {i : Nat} {v : V} (h : (ts.map V.ref)[i]? = some v) : ∃ t, ts[i]? = some t ∧ v = V.ref t := by
  rw [List.getElem?_map] at h
  cases e : ts[i]? with
  | none => rw [e] at h; cases h
  | some t => rw [e] at h; exact ⟨t, rfl, (Option.some.inj h).symm⟩
def iv (n : Nat) : V := V.int n
theorem int_get {ns : List Nat} {i : Nat} {v : V} (h : (ns.map iv)[i]? = some v) : ∃ n, ns[i]? = some n ∧ v = V.int n := by
  rw [List.getElem?_map] at h
  cases e : ns[i]? with
  | none => rw [e] at h; cases h
  | some t => rw [e] at h; exact ⟨t, rfl, (Option.some.inj h).symm⟩
/-- what the text asks of the top -/
structure Txt (K : PySem.W.Frag) (mg : Str → Option Value) (C : Addr) : Prop where
  cl : Cls K C
  nc : NoAttr K C "columns"
  nr : NoAttr K C "rows"
  ns : NoAttr K C "max_step"
  nm : NoAttr K C "measurements"
  len : mg "len" = none
  abs : mg "abs" = none
  max : mg "max" = none
  min : mg "min" = none
  sum : mg "sum" = none
  any : mg "any" = none
  range : mg "range" = none
  list : mg "list" = none
  reversed : mg "reversed" = none
  gMAX_THICKNESS : ∃ t, mg "MAX_THICKNESS" = some (.int 99 t)
  gCREATE : ∃ t, mg "CREATE" = some (.int 0 t)
  gMAX_SIDE : ∃ t, mg "MAX_SIDE" = some (.int 5 t)
  gGREATEST_MAX_STEP : ∃ t, mg "GREATEST_MAX_STEP" = some (.int 20 t)
  gNO_SUCH_CELL : ∃ t, mg "NO_SUCH_CELL" = some (.int (-2) t)
  gNO_INSTANCE : ∃ t, mg "NO_INSTANCE" = some (.int (-11) t)
  gOUT_OF_RANGE : ∃ t, mg "OUT_OF_RANGE" = some (.int (-22) t)
  gALREADY_MEASURED : ∃ t, mg "ALREADY_MEASURED" = some (.int (-17) t)
  gINCONSISTENT : ∃ t, mg "INCONSISTENT" = some (.int (-33) t)
  gNO_SAFE_ROUTE : ∃ t, mg "NO_SAFE_ROUTE" = some (.int (-33) t)
  gNOT_SAFE : ∃ t, mg "NOT_SAFE" = some (.int 0 t)
  gSAFE : ∃ t, mg "SAFE" = some (.int 1 t)
  gUNCERTAIN : ∃ t, mg "UNCERTAIN" = some (.int 2 t)
/-- a constant of the module -/
theorem pe_gi {X : Cx} {x : Str} {i : Int} {pos : Pos} (h : ∃ t, X.mg x = some (.int i t)) (hg : Gl X x := by rfl) (hd : (x == ("__debug__" : Str)) = false := by decide) : PE X (.Name x pos) (tC (.int i)) := by
  obtain ⟨t, hm⟩ := h
  exact pe_glob hg hm ⟨t, rfl⟩ hd
theorem pe_gr {X : Cx} {x : Str} {a : Addr} {pos : Pos} (h : X.mg x = some (.ref a)) (hg : Gl X x := by rfl) (hd : (x == ("__debug__" : Str)) = false := by decide) : PE X (.Name x pos) (tC (.ref a)) := pe_glob hg h rfl hd
end Ib

/-! ### part P0 -/
set_option Elab.async false
set_option linter.all false
set_option maxRecDepth 100000
set_option maxHeartbeats 2000000
namespace Ib
open PySem PySem.Spec PyProof.Rows L2
open Km563 (IceField)
/-! ### the shapes of the promises: a value, the heap otherwise as it was -/
def spV0 (C : Addr) (g : IceField → V) : Sp := fun vs H Q _ => ∃ (a : Addr) (f : IceField), vs = [.ref a] ∧ IceAt C H a f ∧ Good f ∧ ∀ H' : Hp, Same H H' → Q (g f) H'
def spV1 (C : Addr) (ok : IceField → Nat → Prop) (g : IceField → Nat → V) : Sp := fun vs H Q _ => ∃ (a : Addr) (f : IceField) (n : Nat), vs = [.ref a, .int n] ∧ IceAt C H a f ∧ Good f ∧ ok f n ∧ ∀ H' : Hp, Same H H' → Q (g f n) H'
def spV2 (C : Addr) (ok : IceField → Nat → Nat → Prop) (g : IceField → Nat → Nat → V) : Sp := fun vs H Q _ => ∃ (a : Addr) (f : IceField) (n m : Nat), vs = [.ref a, .int n, .int m] ∧ IceAt C H a f ∧ Good f ∧ ok f n m ∧ ∀ H' : Hp, Same H H' → Q (g f n m) H'
/-- a new list -/
def spL1 (C : Addr) (g : IceField → Nat → List Nat) : Sp := fun vs H Q _ => ∃ (a : Addr) (f : IceField) (n : Nat), vs = [.ref a, .int n] ∧ IceAt C H a f ∧ Good f ∧ ∀ (H' : Hp) (p : Addr), Same H H' → H p = none → H' p = some (.lst ((g f n).map iv)) → Q (.ref p) H'
theorem spV0.len {C : Addr} {g : IceField → V} {vs : List V} {H : Hp} {Q : VK} {E : XK} (h : spV0 C g vs H Q E) : vs.length = 1 := by
  obtain ⟨_, _, rfl, _⟩ := h
  rfl
theorem spV1.len {C : Addr} {ok : IceField → Nat → Prop} {g : IceField → Nat → V} {vs : List V} {H : Hp} {Q : VK} {E : XK} (h : spV1 C ok g vs H Q E) : vs.length = 2 := by
  obtain ⟨_, _, _, rfl, _⟩ := h
  rfl
theorem spV2.len {C : Addr} {ok : IceField → Nat → Nat → Prop} {g : IceField → Nat → Nat → V} {vs : List V} {H : Hp} {Q : VK} {E : XK} (h : spV2 C ok g vs H Q E) : vs.length = 3 := by
  obtain ⟨_, _, _, _, rfl, _⟩ := h
  rfl
theorem spL1.len {C : Addr} {g : IceField → Nat → List Nat} {vs : List V} {H : Hp} {Q : VK} {E : XK} (h : spL1 C g vs H Q E) : vs.length = 2 := by
  obtain ⟨_, _, _, rfl, _⟩ := h
  rfl
/-! ### the methods -/
def sp_m___init__ (K : PySem.W.Frag) (C : Addr) : Sp := fun vs H Q _ => ∃ (p dx : Addr) (c r s : Nat), vs = [.ref p, .int c, .int r, .int s] ∧ H p = some (.ins C dx []) ∧ ∀ H' : Hp, IceAt C H' p ⟨c, r, s, []⟩ → But p H H' → Q .non H'
def sp_m_cell_count (K : PySem.W.Frag) (C : Addr) : Sp := spV0 C fun f => .int (Km563.cellCount f : Nat)
def sp_m_has_cell (K : PySem.W.Frag) (C : Addr) : Sp := spV1 C (fun _ _ => True) fun f n => .bl (decide (n < Km563.cellCount f))
def sp_m_distance (K : PySem.W.Frag) (C : Addr) : Sp := spV2 C (fun _ _ _ => True) fun f p q => .int (Km563.cellDistance f p q : Nat)
def sp_m_neighbours (K : PySem.W.Frag) (C : Addr) : Sp := spL1 C Km563.neighbours
def sp_m_is_measured (K : PySem.W.Frag) (C : Addr) : Sp := spV1 C (fun _ _ => True) fun f n => .bl (f.measurements.any fun m => m.1 == n)
def sp_m_measurements_except (K : PySem.W.Frag) (C : Addr) : Sp := fun vs H Q _ => ∃ (a : Addr) (f : IceField) (n : Nat), vs = [.ref a, .int n] ∧ IceAt C H a f ∧ Good f ∧ ∀ (H' : Hp) (p : Addr), Same H H' → H p = none → MsAt H' p (except f n) → Q (.ref p) H'
def sp_m_record (K : PySem.W.Frag) (C : Addr) : Sp := fun vs H Q _ => ∃ (a : Addr) (f : IceField) (n t : Nat), vs = [.ref a, .int n, .int t] ∧ IceAt C H a f ∧ Good f ∧ ∀ H' : Hp, IceAt C H' a (Km563.withMeasurement f n t) → But a H H' → Q .non H'
def sp_m_with_measurement (K : PySem.W.Frag) (C : Addr) : Sp := fun vs H Q _ => ∃ (a : Addr) (f : IceField) (n t : Nat), vs = [.ref a, .int n, .int t] ∧ IceAt C H a f ∧ Good f ∧ ∀ (H' : Hp) (p : Addr), Same H H' → IceAt C H' p (Km563.withMeasurement f n t) → Q (.ref p) H'
def sp_m_fits (K : PySem.W.Frag) (C : Addr) : Sp := fun vs H Q _ => ∃ (a : Addr) (f : IceField) (n t : Nat) (l : Addr) (ms : List (Nat × Nat)) (s : Nat), vs = [.ref a, .int n, .int t, .ref l, .int s] ∧ IceAt C H a f ∧ Good f ∧ MsAt H l ms ∧ s ≤ 20 ∧ ∀ H' : Hp, Same H H' → Q (.bl (fits f n t ms s)) H'
def sp_m_is_consistent_with_step (K : PySem.W.Frag) (C : Addr) : Sp := spV1 C (fun _ s => s ≤ 20) fun f s => .bl (stepOk f s)
def sp_m_smallest_consistent_step (K : PySem.W.Frag) (C : Addr) : Sp := spV0 C fun f => .int ((Km563.smallestConsistentStep f).getD 0 : Nat)
def sp_m_lower_bound (K : PySem.W.Frag) (C : Addr) : Sp := spV1 C (fun _ _ => True) fun f n => .int (Km563.lowerBound f n : Nat)
def sp_m_upper_bound (K : PySem.W.Frag) (C : Addr) : Sp := spV1 C (fun _ _ => True) fun f n => .int (Km563.upperBound f n : Nat)
def sp_m_uncertainty (K : PySem.W.Frag) (C : Addr) : Sp := spV1 C (fun _ _ => True) fun f n => .int (Km563.uncertainty f n : Nat)
def sp_m_total_uncertainty (K : PySem.W.Frag) (C : Addr) : Sp := spV0 C fun f => .int (Km563.totalUncertainty f : Nat)
def sp_m_worst_total_uncertainty (K : PySem.W.Frag) (C : Addr) : Sp := spV1 C (fun f n => n < Km563.cellCount f) fun f n => .int (worst f n : Nat)
def sp_m_is_safe (K : PySem.W.Frag) (C : Addr) : Sp := spV2 C (fun _ _ _ => True) fun f n r => .bl (Km563.isSafe f r n)
def isUnc (f : IceField) (r n : Nat) : Bool := !(Km563.isSafe f r n) && decide (r ≤ Km563.upperBound f n)
def sp_m_is_uncertain (K : PySem.W.Frag) (C : Addr) : Sp := spV2 C (fun _ _ _ => True) fun f n r => .bl (isUnc f r n)
def sp_m_safe_cells (K : PySem.W.Frag) (C : Addr) : Sp := spL1 C fun f r => (List.range (Km563.cellCount f)).filter fun n => Km563.isSafe f r n
def sp_m_uncertain_cells (K : PySem.W.Frag) (C : Addr) : Sp := spL1 C fun f r => (List.range (Km563.cellCount f)).filter fun n => isUnc f r n
/-- the program's dict of the steps -/
def dV (d : Dist) : List (Key × V) := d.map fun e => (Sum.inl (e.1 : Int), V.int e.2)
def sp_m_steps_over_safe_cells (K : PySem.W.Frag) (C : Addr) : Sp := fun vs H Q _ => ∃ (a : Addr) (f : IceField) (r o : Nat), vs = [.ref a, .int r, .int o] ∧ IceAt C H a f ∧ Good f ∧ o < Km563.cellCount f ∧
  ∀ (H' : Hp) (p : Addr) (d : Dist), Same H H' → H p = none → H' p = some (.dK (dV d)) → Found f r o d → Q (.ref p) H'
def sp_m_safe_route (K : PySem.W.Frag) (C : Addr) : Sp := fun vs H Q _ => ∃ (a : Addr) (f : IceField) (r o t : Nat), vs = [.ref a, .int r, .int o, .int t] ∧ IceAt C H a f ∧ Good f ∧ o < Km563.cellCount f ∧ t < Km563.cellCount f ∧
  ∀ (H' : Hp) (p : Addr), Same H H' → H p = none → H' p = some (.lst ((route f r o t).map iv)) → Q (.ref p) H'
def sp_m_max_safe_thickness (K : PySem.W.Frag) (C : Addr) : Sp := spV2 C (fun f o t => o < Km563.cellCount f ∧ t < Km563.cellCount f) fun f o t => .int (Km563.maxSafeThickness f o t : Nat)
/-! ### the functions -/
def sp_f_is_creatable (K : PySem.W.Frag) (C : Addr) : Sp := fun vs H Q _ => ∃ (c r s : Nat), vs = [.int c, .int r, .int s] ∧ ∀ H' : Hp, Same H H' → Q (.bl (!decide (c = 0 ∨ Km563.maxSize < c ∨ r = 0 ∨ Km563.maxSize < r ∨ 20 < s))) H'
def refuse (f : IceField) (cs : List Nat) (t : Nat) : List Int := if (cs.any fun c => decide (Km563.cellCount f ≤ c)) = true then [-2] else if 99 < t then [-22] else []
def sp_f_refusal (K : PySem.W.Frag) (C : Addr) : Sp := fun vs H Q _ => ∃ (a : Addr) (f : IceField) (b : Addr) (cs : List Nat) (t : Nat), vs = [.ref a, .ref b, .int t] ∧ IceAt C H a f ∧ Good f ∧ SqL K H b (cs.map iv) ∧
  ∀ (H' : Hp) (p : Addr), Same H H' → H' p = some (.lst ((refuse f cs t).map V.int)) → Q (.ref p) H'
def mrefuse (f : IceField) (c t : Nat) : List Int := if Km563.cellCount f ≤ c then [-2] else if 99 < t then [-22] else if Km563.isConsistent (Km563.withMeasurement f c t) = false then [-33] else []
def sp_f_measure_refusal (K : PySem.W.Frag) (C : Addr) : Sp := fun vs H Q _ => ∃ (a : Addr) (f : IceField) (c t : Nat), vs = [.ref a, .int c, .int t] ∧ IceAt C H a f ∧ Good f ∧
  ∀ (H' : Hp) (p : Addr), Same H H' → H' p = some (.lst ((mrefuse f c t).map V.int)) → Q (.ref p) H'
/-- what a call answers on an instance; the instance behind it -/
def ans (f : IceField) (c : Km563.Call) : List Int := (Km563.step (some f) c).2.num :: (Km563.step (some f) c).2.nums
def nxt (f : IceField) (c : Km563.Call) : IceField := ((Km563.step (some f) c).1).getD f
def Done (C : Addr) (a : Addr) (f : IceField) (c : Km563.Call) (H : Hp) (Q : VK) : Prop := ∀ (H' : Hp) (p : Addr), IceAt C H' a (nxt f c) → Good (nxt f c) → But a H H' → H' p = some (.lst ((ans f c).map V.int)) → Q (.ref p) H'
def spO0 (C : Addr) (mk : Km563.Call) : Sp := fun vs H Q _ => ∃ (a : Addr) (f : IceField), vs = [.ref a] ∧ IceAt C H a f ∧ Good f ∧ Done C a f mk H Q
def spO1 (C : Addr) (mk : Nat → Km563.Call) : Sp := fun vs H Q _ => ∃ (a : Addr) (f : IceField) (n : Nat), vs = [.ref a, .int n] ∧ IceAt C H a f ∧ Good f ∧ Done C a f (mk n) H Q
def spO2 (C : Addr) (mk : Nat → Nat → Km563.Call) : Sp := fun vs H Q _ => ∃ (a : Addr) (f : IceField) (n m : Nat), vs = [.ref a, .int n, .int m] ∧ IceAt C H a f ∧ Good f ∧ Done C a f (mk n m) H Q
def spO3 (C : Addr) (mk : Nat → Nat → Nat → Km563.Call) : Sp := fun vs H Q _ => ∃ (a : Addr) (f : IceField) (n m l : Nat), vs = [.ref a, .int n, .int m, .int l] ∧ IceAt C H a f ∧ Good f ∧ Done C a f (mk n m l) H Q
theorem spO0.len {C : Addr} {mk : Km563.Call} {vs : List V} {H : Hp} {Q : VK} {E : XK} (h : spO0 C mk vs H Q E) : vs.length = 1 := by
  obtain ⟨_, _, rfl, _⟩ := h
  rfl
theorem spO1.len {C : Addr} {mk : Nat → Km563.Call} {vs : List V} {H : Hp} {Q : VK} {E : XK} (h : spO1 C mk vs H Q E) : vs.length = 2 := by
  obtain ⟨_, _, _, rfl, _⟩ := h
  rfl
theorem spO2.len {C : Addr} {mk : Nat → Nat → Km563.Call} {vs : List V} {H : Hp} {Q : VK} {E : XK} (h : spO2 C mk vs H Q E) : vs.length = 3 := by
  obtain ⟨_, _, _, _, rfl, _⟩ := h
  rfl
theorem spO3.len {C : Addr} {mk : Nat → Nat → Nat → Km563.Call} {vs : List V} {H : Hp} {Q : VK} {E : XK} (h : spO3 C mk vs H Q E) : vs.length = 4 := by
  obtain ⟨_, _, _, _, _, rfl, _⟩ := h
  rfl
theorem Done.same {C a : Addr} {f : IceField} {c : Km563.Call} {H : Hp} {Q : VK} (k : Done C a f c H Q) (I : IceAt C H a f) (G : Good f) (e : nxt f c = f) : ∀ (H' : Hp) (p : Addr), Same H H' → H' p = some (.lst ((ans f c).map V.int)) → Q (.ref p) H' := fun H' p s hp =>
  k H' p (by rw [e]; exact I.same s) (by rw [e]; exact G) (But.of s) hp
def sp_f_set_max_step (K : PySem.W.Frag) (C : Addr) : Sp := spO1 C .setMaxStep
def sp_f_measure (K : PySem.W.Frag) (C : Addr) : Sp := spO2 C .measure
def sp_f_remove_measurement (K : PySem.W.Frag) (C : Addr) : Sp := spO1 C .removeMeasurement
def sp_f_list_measurements (K : PySem.W.Frag) (C : Addr) : Sp := spO0 C .listMeasurements
def sp_f_lower_bound (K : PySem.W.Frag) (C : Addr) : Sp := spO1 C .lowerBound
def sp_f_upper_bound (K : PySem.W.Frag) (C : Addr) : Sp := spO1 C .upperBound
def sp_f_lower_bounds (K : PySem.W.Frag) (C : Addr) : Sp := spO0 C .lowerBounds
def sp_f_upper_bounds (K : PySem.W.Frag) (C : Addr) : Sp := spO0 C .upperBounds
def sp_f_is_possible (K : PySem.W.Frag) (C : Addr) : Sp := spO2 C .isPossible
def sp_f_uncertainty (K : PySem.W.Frag) (C : Addr) : Sp := spO1 C .uncertainty
def sp_f_most_uncertain_cell (K : PySem.W.Frag) (C : Addr) : Sp := spO0 C .mostUncertainCell
def sp_f_check_cell (K : PySem.W.Frag) (C : Addr) : Sp := spO2 C .checkCell
def sp_f_safe_cells (K : PySem.W.Frag) (C : Addr) : Sp := spO1 C .safeCells
def sp_f_uncertain_cells (K : PySem.W.Frag) (C : Addr) : Sp := spO1 C .uncertainCells
def sp_f_safe_route (K : PySem.W.Frag) (C : Addr) : Sp := spO3 C .safeRoute
def sp_f_safe_route_length (K : PySem.W.Frag) (C : Addr) : Sp := spO3 C .safeRouteLength
def sp_f_max_safe_thickness (K : PySem.W.Frag) (C : Addr) : Sp := spO2 C .maxSafeThickness
def sp_f_total_uncertainty_with (K : PySem.W.Frag) (C : Addr) : Sp := spO2 C .totalUncertaintyWith
def sp_f_worst_total_uncertainty (K : PySem.W.Frag) (C : Addr) : Sp := spO1 C .worstTotalUncertainty
def sp_f_smallest_consistent_step (K : PySem.W.Frag) (C : Addr) : Sp := spO0 C .smallestConsistentStep
def sp_f_total_uncertainty (K : PySem.W.Frag) (C : Addr) : Sp := spO0 C .totalUncertainty
def sp_f_summary (K : PySem.W.Frag) (C : Addr) : Sp := spO0 C .summary
/-! ### small words of the readings -/
theorem qb {Q : VK} {H : Hp} {b c : Bool} (e : b = c) (h : Q (.bl c) H) : Q (.bl b) H := by
  rw [e]
  exact h
theorem qi {Q : VK} {H : Hp} {i j : Int} (e : i = j) (h : Q (.int j) H) : Q (.int i) H := by
  rw [e]
  exact h
theorem iteTo {c : Bool} {A B : Prop} (hc : c = true) (h : A) : if c = true then A else B := by
  rw [if_pos hc]
  exact h
theorem iteFo {c : Bool} {A B : Prop} (hc : c = false) (h : B) : if c = true then A else B := by
  rw [hc, if_neg Bool.false_ne_true]
  exact h
theorem iteB {c : Bool} {A B : Prop} (h1 : c = true → A) (h2 : c = false → B) : if c = true then A else B := by
  cases c with
  | true => exact h1 rfl
  | false => exact iteF (h2 rfl)
theorem toInts_iv (l : List Nat) : (Km563.toInts l).map V.int = l.map iv := by
  unfold Km563.toInts
  rw [List.map_map]
  rfl
theorem one_le : (1 : Nat) ≤ 100000 := by decide
theorem few4 (f : IceField) (l : Addr) : (iF f l).length < 1000 := by
  show 4 < 1000
  decide
theorem sz {n : Nat} (h : n ≤ 100000) : n ≤ sizeLine := Nat.le_trans h (by decide)
theorem szl {n : Nat} (h : n < 100000) : n < sizeLine := Nat.lt_of_lt_of_le h (by decide)
theorem abs_diff (a b : Nat) : (if (a : Int) - (b : Int) < 0 then -((a : Int) - (b : Int)) else (a : Int) - (b : Int)) = (Km563.difference a b : Nat) := by
  have h := diff_le a b (Km563.difference a b)
  unfold Km563.difference
  omega
theorem dint {i j : Nat} : decide (V.int (i : Int) = V.int (j : Int)) = (i == j) := by
  rw [Bool.eq_iff_iff, decide_eq_true_eq, beq_iff_eq]
  constructor
  · intro h
    have := V.int.inj h
    omega
  · intro h
    rw [h]
theorem not_t {b : Bool} (h : (!b) = true) : b = false := by
  cases b with
  | true => cases h
  | false => rfl
theorem not_f {b : Bool} (h : (!b) = false) : b = true := by
  cases b with
  | true => rfl
  | false => cases h
theorem all_false {α : Type} {p : α → Bool} {l : List α} {i : Nat} {x : α} (h : l[i]? = some x) (hp : p x = false) : l.all p = false := by
  rw [List.all_eq_false]
  exact ⟨x, List.mem_of_getElem? h, by rw [hp]; decide⟩
theorem all_more {α : Type} {p : α → Bool} {l : List α} {i : Nat} {x : α} (h : l[i]? = some x) (ha : (l.take i).all p = true) (hp : p x = true) : (l.take (i + 1)).all p = true := by
  rw [take_more h, List.all_append, ha, List.all_cons, hp]
  rfl
end Ib

/-! ### part D1 -/
set_option Elab.async false
set_option linter.all false
set_option maxRecDepth 100000
set_option maxHeartbeats 2000000
namespace Ib
open PySem PySem.Spec PyProof.Rows L2
open Km563 (IceField)
abbrev s_m___init__ : Stmt := inClass (top 2) 0
theorem sc_m___init__ : FnScope ["self", "columns", "rows", "max_step"] ["self", "columns", "rows", "max_step"] (defScope s_m___init__) := ⟨rfl, rfl, rfl, by decide +kernel, rfl, by decide +kernel, by decide +kernel⟩
theorem ok_m___init__ {P : Program} {w : World} {K : PySem.W.Frag} {mg : Str → Option Value} {base : Heap} {C f : Addr} {fd : FuncData} (F : Fun K "__init__" "Ice.__init__" s_m___init__ f fd) (T : Txt K mg C)  :
    FnOk P w K mg base CX0 1 f fd ["self", "columns", "rows", "max_step"] (sp_m___init__ K C) := by
  refine F.ok sc_m___init__ (fun vs H Q E h => ?_) (fun cdv A outer s H vs Q E hr h => ?_)
  · obtain ⟨_, _, _, _, _, rfl, _⟩ := h
    rfl
  · obtain ⟨p, dx, c, r, z, rfl, hp, k⟩ := h
    refine ⟨_, (pss_cons (ps_fld (pv 0) (pv 1) rfl)
    (pss_cons (ps_fld (pv 0) (pv 2) rfl)
    (pss_cons (ps_fld (pv 0) (pv 3) rfl)
    (pss_one (ps_fld (pv 0) (pe_lst (pa_nil)) rfl))))), ?_⟩
    refine ⟨_, rfl, _, rfl, p, C, dx, _, rfl, hp, T.cl, T.nc, (by show 0 < 1000; decide), ?_⟩
    refine ⟨_, rfl, _, rfl, p, C, dx, _, rfl, upd_same, T.cl, T.nr, (by show 1 < 1000; decide), ?_⟩
    refine ⟨_, rfl, _, rfl, p, C, dx, _, rfl, upd_same, T.cl, T.ns, (by show 2 < 1000; decide), ?_⟩
    refine ⟨Nat.zero_le _, fun l hl => ?_⟩
    have npl : p ≠ l := ne_of_none upd_same hl
    refine ⟨_, rfl, p, C, dx, _, rfl, Eq.trans (upd_ne npl) upd_same, T.cl, T.nm, (by show 3 < 1000; decide), ?_⟩
    refine k _ ⟨dx, l, Eq.trans upd_same (congrArg (fun q => some (HO.ins C dx q)) (put_new c r z l)), [], Eq.trans (upd_ne npl.symm) upd_same, .nil⟩ fun b o e hb => ?_
    have hl' : H l = none := by
      rw [upd_ne npl.symm, upd_ne npl.symm, upd_ne npl.symm] at hl
      exact hl
    rw [upd_ne hb, upd_ne (ne_of_none e hl'), upd_ne hb, upd_ne hb, upd_ne hb]
    exact e
abbrev s_m_cell_count : Stmt := inClass (top 2) 1
theorem sc_m_cell_count : FnScope ["self"] ["self"] (defScope s_m_cell_count) := ⟨rfl, rfl, rfl, by decide +kernel, rfl, by decide +kernel, by decide +kernel⟩
theorem ok_m_cell_count {P : Program} {w : World} {K : PySem.W.Frag} {mg : Str → Option Value} {base : Heap} {C f : Addr} {fd : FuncData} (F : Fun K "cell_count" "Ice.cell_count" s_m_cell_count f fd) (T : Txt K mg C)  :
    FnOk P w K mg base CX0 1 f fd ["self"] (sp_m_cell_count K C) := by
  refine F.ok sc_m_cell_count (fun vs H Q E h => spV0.len h) (fun cdv A outer s H vs Q E hr h => ?_)
  obtain ⟨a, f, rfl, ⟨dx, l, h1, hl⟩, G, k⟩ := h
  refine ⟨_, (pss_one (ps_ret (pe_op op_mul (pe_fld (pv 0) rfl) (pe_fld (pv 0) rfl)))), ?_⟩
  refine ⟨_, rfl, a, C, dx, _, _, rfl, h1, T.cl, T.nc, lkc _ _, _, rfl, a, C, dx, _, _, rfl, h1, T.cl, T.nr, lkr _ _, _, _, rfl, rfl, .inl ⟨by have := G.c5; omega, by have := G.c5; omega⟩, ?_⟩
  refine qi ?_ (k H (Same.refl H))
  unfold Km563.cellCount
  push_cast
  rfl
abbrev s_m_has_cell : Stmt := inClass (top 2) 2
theorem sc_m_has_cell : FnScope ["self", "cell"] ["self", "cell"] (defScope s_m_has_cell) := ⟨rfl, rfl, rfl, by decide +kernel, rfl, by decide +kernel, by decide +kernel⟩
theorem ok_m_has_cell {P : Program} {w : World} {K : PySem.W.Frag} {mg : Str → Option Value} {base : Heap} {C f : Addr} {fd : FuncData} (F : Fun K "has_cell" "Ice.has_cell" s_m_has_cell f fd) (T : Txt K mg C) (m_cell_count : C8.Met P w K mg base 1 C "cell_count" (sp_m_cell_count K C) []) :
    FnOk P w K mg base CX0 2 f fd ["self", "cell"] (sp_m_has_cell K C) := by
  refine F.ok sc_m_has_cell (fun vs H Q E h => spV1.len h) (fun cdv A outer s H vs Q E hr h => ?_)
  obtain ⟨a, f, n, rfl, I, G, _, k⟩ := h
  obtain ⟨dx, l, h1, hl⟩ := id I
  refine ⟨_, (pss_one (ps_ret (pe_cmpR op_lt (pv 1) (C8.pe_mt0 m_cell_count hr (by decide) (pv 0)) (nomark _)))), ?_⟩
  refine ⟨_, rfl, _, rfl, a, _, _, rfl, h1, lkn (by decide +kernel) _ _, a, f, rfl, I, G, fun H1 s1 => ?_⟩
  refine ⟨_, _, rfl, rfl, ?_⟩
  exact qb (decide_eq_decide.mpr Int.ofNat_lt) (k H1 s1)
abbrev s_m_distance : Stmt := inClass (top 2) 3
theorem sc_m_distance : FnScope ["self", "p", "q", "across", "down"] ["self", "p", "q"] (defScope s_m_distance) := ⟨rfl, rfl, rfl, by decide +kernel, rfl, by decide +kernel, by decide +kernel⟩
theorem ok_m_distance {P : Program} {w : World} {K : PySem.W.Frag} {mg : Str → Option Value} {base : Heap} {C f : Addr} {fd : FuncData} (F : Fun K "distance" "Ice.distance" s_m_distance f fd) (T : Txt K mg C)  :
    FnOk P w K mg base CX0 1 f fd ["self", "p", "q"] (sp_m_distance K C) := by
  refine F.ok sc_m_distance (fun vs H Q E h => spV2.len h) (fun cdv A outer s H vs Q E hr h => ?_)
  obtain ⟨a, f, p, q, rfl, I, G, _, k⟩ := h
  obtain ⟨dx, l, h1, hl⟩ := id I
  have hc1 := G.c1
  have hc5 := G.c5
  have hz : (f.columns : Int) ≠ 0 := by omega
  have hd : (f.columns : Int) ≠ 0 ∧ (f.columns : Int).natAbs < 1073741824 := ⟨hz, by omega⟩
  refine ⟨_, (pss_cons (ps_set (i := 3) sc_m_distance.nd rfl (Or.inl rfl) (pe_callB call_abs (by rfl) T.abs (by decide +kernel) (pa_cons (pe_op op_sub (pe_op op_modN (pv 1) (pe_fld (pv 0) rfl)) (pe_op op_modN (pv 2) (pe_fld (pv 0) rfl))) pa_nil)))
    (pss_cons (ps_set (i := 4) sc_m_distance.nd rfl (Or.inl rfl) (pe_callB call_abs (by rfl) T.abs (by decide +kernel) (pa_cons (pe_op op_sub (pe_op op_fdivN (pv 1) (pe_fld (pv 0) rfl)) (pe_op op_fdivN (pv 2) (pe_fld (pv 0) rfl))) pa_nil)))
    (pss_one (ps_ret (pe_op op_add (pv 3) (pv 4)))))), ?_⟩
  refine ⟨_, rfl, _, rfl, a, C, dx, _, _, rfl, h1, T.cl, T.nc, lkc _ _, _, _, rfl, rfl, hz, _, rfl, _, rfl, a, C, dx, _, _, rfl, h1, T.cl, T.nc, lkc _ _, _, _, rfl, rfl, hz, _, _, rfl, rfl, _, rfl, ?_⟩
  refine ⟨_, rfl, _, rfl, a, C, dx, _, _, rfl, h1, T.cl, T.nc, lkc _ _, _, _, rfl, rfl, hd, _, rfl, _, rfl, a, C, dx, _, _, rfl, h1, T.cl, T.nc, lkc _ _, _, _, rfl, rfl, hd, _, _, rfl, rfl, _, rfl, ?_⟩
  refine ⟨_, rfl, _, rfl, _, _, rfl, rfl, ?_⟩
  refine qi ?_ (k H (Same.refl H))
  rw [Int.fmod_eq_emod_of_nonneg _ (by omega), Int.fmod_eq_emod_of_nonneg _ (by omega), Int.fdiv_eq_ediv_of_nonneg _ (by omega), Int.fdiv_eq_ediv_of_nonneg _ (by omega)]
  show (if ((p : Int) % (f.columns : Int) - (q : Int) % (f.columns : Int)) < 0 then _ else _) + (if ((p : Int) / (f.columns : Int) - (q : Int) / (f.columns : Int)) < 0 then _ else _) = _
  rw [← Int.natCast_emod, ← Int.natCast_emod, ← Int.natCast_ediv, ← Int.natCast_ediv, abs_diff, abs_diff]
  rfl
end Ib

/-! ### part D2 -/
set_option Elab.async false
set_option linter.all false
set_option maxRecDepth 100000
set_option maxHeartbeats 2000000
namespace Ib
open PySem PySem.Spec PyProof.Rows L2
open Km563 (IceField)
abbrev s_m_neighbours : Stmt := inClass (top 2) 4
theorem sc_m_neighbours : FnScope ["self", "cell", "around"] ["self", "cell"] (defScope s_m_neighbours) := ⟨rfl, rfl, rfl, by decide +kernel, rfl, by decide +kernel, by decide +kernel⟩
def nb1 (f : IceField) (n : Nat) : List Nat := if f.columns ≤ n then [n - f.columns] else []
def nb2 (f : IceField) (n : Nat) : List Nat := if n % f.columns = 0 then [] else [n - 1]
def nb3 (f : IceField) (n : Nat) : List Nat := if n % f.columns + 1 = f.columns then [] else [n + 1]
def nb4 (f : IceField) (n : Nat) : List Nat := if n + f.columns < Km563.cellCount f then [n + f.columns] else []
theorem nb_parts (f : IceField) (n : Nat) : Km563.neighbours f n = ((nb1 f n ++ nb2 f n) ++ nb3 f n) ++ nb4 f n := by
  rw [List.append_assoc, List.append_assoc]
  rfl
theorem le1 (f : IceField) (n : Nat) : (nb1 f n).length ≤ 1 := by
  unfold nb1
  split <;> simp
theorem le2 (f : IceField) (n : Nat) : (nb2 f n).length ≤ 1 := by
  unfold nb2
  split <;> simp
theorem le3 (f : IceField) (n : Nat) : (nb3 f n).length ≤ 1 := by
  unfold nb3
  split <;> simp
theorem map_snoc {xs : List Nat} {x : Nat} {v : V} (e : v = V.int x) : xs.map iv ++ [v] = (xs ++ [x]).map iv := by
  rw [List.map_append, e]
  rfl
theorem ok_m_neighbours {P : Program} {w : World} {K : PySem.W.Frag} {mg : Str → Option Value} {base : Heap} {C f : Addr} {fd : FuncData} (F : Fun K "neighbours" "Ice.neighbours" s_m_neighbours f fd) (T : Txt K mg C) (m_cell_count : C8.Met P w K mg base 1 C "cell_count" (sp_m_cell_count K C) []) :
    FnOk P w K mg base CX0 2 f fd ["self", "cell"] (sp_m_neighbours K C) := by
  refine F.ok sc_m_neighbours (fun vs H Q E h => spL1.len h) (fun cdv A outer s H vs Q E hr h => ?_)
  obtain ⟨a, f, n, rfl, I, G, k⟩ := h
  obtain ⟨dx, l, h1, hl⟩ := id I
  have hc1 := G.c1
  have hz : (f.columns : Int) ≠ 0 := by omega
  have L1 := le1 f n
  have L2 := le2 f n
  have L3 := le3 f n
  refine ⟨_, (pss_cons (ps_set (i := 2) sc_m_neighbours.nd rfl (Or.inl rfl) (pe_lst (pa_nil)))
    (C8.pss_cut (ps_if (pt_cmpR op_ge (pv 1) (pe_fld (pv 0) rfl) (nomark _)) (pss_one (ps_expr (pe_bm PySem.F.plainAttrs_list PySem.F.slot_list_append PySem.F.type_list_append mt_append (pv 2) (pa_cons (pe_op op_sub (pv 1) (pe_fld (pv 0) rfl)) pa_nil)))) pss_nil)
    (C8.pss_cut (ps_if (pt_cmpR op_gt (pe_op op_modN (pv 1) (pe_fld (pv 0) rfl)) pe_int (nomark _)) (pss_one (ps_expr (pe_bm PySem.F.plainAttrs_list PySem.F.slot_list_append PySem.F.type_list_append mt_append (pv 2) (pa_cons (pe_op op_sub (pv 1) pe_int) pa_nil)))) pss_nil)
    (C8.pss_cut (ps_if (pt_cmpR op_lt (pe_op op_modN (pv 1) (pe_fld (pv 0) rfl)) (pe_op op_sub (pe_fld (pv 0) rfl) pe_int) (nomark _)) (pss_one (ps_expr (pe_bm PySem.F.plainAttrs_list PySem.F.slot_list_append PySem.F.type_list_append mt_append (pv 2) (pa_cons (pe_op op_add (pv 1) pe_int) pa_nil)))) pss_nil)
    (C8.pss_cut (ps_if (pt_cmpR op_lt (pe_op op_add (pv 1) (pe_fld (pv 0) rfl)) (C8.pe_mt0 m_cell_count hr (by decide) (pv 0)) (nomark _)) (pss_one (ps_expr (pe_bm PySem.F.plainAttrs_list PySem.F.slot_list_append PySem.F.type_list_append mt_append (pv 2) (pa_cons (pe_op op_add (pv 1) (pe_fld (pv 0) rfl)) pa_nil)))) pss_nil)
    (pss_one (ps_ret (pv 2)))))))), ?_⟩
  refine ⟨Nat.zero_le _, fun p hp => ?_⟩
  -- if cell >= self.columns
  refine ⟨fun σ' H' => σ' = [some (.ref a), some (.int n), some (.ref p)] ∧ Same H H' ∧ H' p = some (.lst ((nb1 f n).map iv)), ?_, ?_⟩
  · have s0 : Same H (upd H p (.lst [])) := Same.new hp
    have g1 := s0 _ _ h1
    refine ⟨_, rfl, _, rfl, a, C, dx, _, _, rfl, g1, T.cl, T.nc, lkc _ _, _, _, rfl, rfl, _, rfl, iteB (fun c => ?_) (fun c => ?_)⟩
    · have c := of_decide_eq_true c
      refine ⟨_, rfl, .inl ⟨rfl, _, SqL.of upd_same⟩, _, rfl, _, rfl, a, C, dx, _, _, rfl, g1, T.cl, T.nc, lkc _ _, _, _, rfl, rfl, p, _, _, rfl, rfl, upd_same, szl (by simp), rfl, s0.mut hp, upd_same.trans ?_⟩
      unfold nb1
      rw [if_pos (by omega)]
      exact congrArg (fun q => some (HO.lst q)) (map_snoc (xs := []) (congrArg V.int (by omega)))
    · have c := of_decide_eq_false c
      refine ⟨rfl, s0, upd_same.trans ?_⟩
      unfold nb1
      rw [if_neg (by omega)]
      rfl
  rintro σ' H1 ⟨rfl, s1, e1⟩
  -- if cell % self.columns > 0
  refine ⟨fun σ' H' => σ' = [some (.ref a), some (.int n), some (.ref p)] ∧ Same H H' ∧ H' p = some (.lst ((nb1 f n ++ nb2 f n).map iv)), ?_, ?_⟩
  · have g1 := s1 _ _ h1
    refine ⟨_, rfl, _, rfl, a, C, dx, _, _, rfl, g1, T.cl, T.nc, lkc _ _, _, _, rfl, rfl, hz, _, _, rfl, rfl, _, rfl, iteB (fun c => ?_) (fun c => ?_)⟩
    · have c := of_decide_eq_true c
      rw [Int.fmod_eq_emod_of_nonneg _ (by omega), ← Int.natCast_emod] at c
      refine ⟨_, rfl, .inl ⟨rfl, _, SqL.of e1⟩, _, rfl, _, _, rfl, rfl, p, _, _, rfl, rfl, e1, szl (by rw [List.length_map]; omega), rfl, s1.mut hp, upd_same.trans ?_⟩
      have hn : n ≠ 0 := fun z => by
        rw [z, Nat.zero_mod] at c
        omega
      unfold nb2
      rw [if_neg (by omega)]
      exact congrArg (fun q => some (HO.lst q)) (map_snoc (congrArg V.int (by omega)))
    · have c := of_decide_eq_false c
      rw [Int.fmod_eq_emod_of_nonneg _ (by omega), ← Int.natCast_emod] at c
      refine ⟨rfl, s1, e1.trans ?_⟩
      unfold nb2
      rw [if_pos (by omega), List.append_nil]
  rintro σ' H2 ⟨rfl, s2, e2⟩
  -- if cell % self.columns < self.columns - 1
  refine ⟨fun σ' H' => σ' = [some (.ref a), some (.int n), some (.ref p)] ∧ Same H H' ∧ H' p = some (.lst (((nb1 f n ++ nb2 f n) ++ nb3 f n).map iv)), ?_, ?_⟩
  · have g1 := s2 _ _ h1
    have hm : n % f.columns < f.columns := Nat.mod_lt _ (by omega)
    refine ⟨_, rfl, _, rfl, a, C, dx, _, _, rfl, g1, T.cl, T.nc, lkc _ _, _, _, rfl, rfl, hz, _, rfl, a, C, dx, _, _, rfl, g1, T.cl, T.nc, lkc _ _, _, _, rfl, rfl, _, _, rfl, rfl, _, rfl, iteB (fun c => ?_) (fun c => ?_)⟩
    · have c := of_decide_eq_true c
      rw [Int.fmod_eq_emod_of_nonneg _ (by omega), ← Int.natCast_emod] at c
      refine ⟨_, rfl, .inl ⟨rfl, _, SqL.of e2⟩, _, rfl, _, _, rfl, rfl, p, _, _, rfl, rfl, e2, szl (by rw [List.length_map, List.length_append]; omega), rfl, s2.mut hp, upd_same.trans ?_⟩
      unfold nb3
      rw [if_neg (by omega)]
      exact congrArg (fun q => some (HO.lst q)) (map_snoc (congrArg V.int (by omega)))
    · have c := of_decide_eq_false c
      rw [Int.fmod_eq_emod_of_nonneg _ (by omega), ← Int.natCast_emod] at c
      refine ⟨rfl, s2, e2.trans ?_⟩
      unfold nb3
      rw [if_pos (by omega), List.append_nil]
  rintro σ' H3 ⟨rfl, s3, e3⟩
  -- if cell + self.columns < self.cell_count()
  refine ⟨fun σ' H' => σ' = [some (.ref a), some (.int n), some (.ref p)] ∧ Same H H' ∧ H' p = some (.lst ((Km563.neighbours f n).map iv)), ?_, ?_⟩
  · have g1 := s3 _ _ h1
    refine ⟨_, rfl, _, rfl, a, C, dx, _, _, rfl, g1, T.cl, T.nc, lkc _ _, _, _, rfl, rfl, _, rfl, a, _, _, rfl, g1, lkn (by decide +kernel) _ _, a, f, rfl, I.same s3, G, fun H4 s4 => ?_⟩
    have s4' : Same H H4 := s3.trans s4
    have g4 := s4' _ _ h1
    refine ⟨_, _, rfl, rfl, _, rfl, iteB (fun c => ?_) (fun c => ?_)⟩
    · have c := of_decide_eq_true c
      refine ⟨_, rfl, .inl ⟨rfl, _, SqL.of (s4 _ _ e3)⟩, _, rfl, _, rfl, a, C, dx, _, _, rfl, g4, T.cl, T.nc, lkc _ _, _, _, rfl, rfl, p, _, _, rfl, rfl, s4 _ _ e3, szl (by rw [List.length_map, List.length_append, List.length_append]; omega), rfl, s4'.mut hp, upd_same.trans ?_⟩
      rw [nb_parts]
      unfold nb4
      rw [if_pos (by omega)]
      exact congrArg (fun q => some (HO.lst q)) (map_snoc (congrArg V.int (by omega)))
    · have c := of_decide_eq_false c
      refine ⟨rfl, s4', (s4 _ _ e3).trans ?_⟩
      rw [nb_parts]
      unfold nb4
      rw [if_neg (by omega), List.append_nil]
  rintro σ' H4 ⟨rfl, s4, e4⟩
  exact ⟨_, rfl, k H4 p s4 hp e4⟩
end Ib

/-! ### part D3 -/
set_option Elab.async false
set_option linter.all false
set_option maxRecDepth 100000
set_option maxHeartbeats 2000000
namespace Ib
open PySem PySem.Spec PyProof.Rows L2
open Km563 (IceField)
abbrev s_m_is_measured : Stmt := inClass (top 2) 5
theorem sc_m_is_measured : FnScope ["self", "cell", "measured", "thickness"] ["self", "cell"] (defScope s_m_is_measured) := ⟨rfl, rfl, rfl, by decide +kernel, rfl, by decide +kernel, by decide +kernel⟩
theorem ok_m_is_measured {P : Program} {w : World} {K : PySem.W.Frag} {mg : Str → Option Value} {base : Heap} {C f : Addr} {fd : FuncData} (F : Fun K "is_measured" "Ice.is_measured" s_m_is_measured f fd) (T : Txt K mg C)  :
    FnOk P w K mg base CX0 1 f fd ["self", "cell"] (sp_m_is_measured K C) := by
  refine F.ok sc_m_is_measured (fun vs H Q E h => spV1.len h) (fun cdv A outer s H vs Q E hr h => ?_)
  obtain ⟨a, f, n, rfl, I, G, _, k⟩ := h
  obtain ⟨dx, l, h1, ts, hl, hp⟩ := id I
  have el := paired_len hp
  have gl := G.len
  refine ⟨_, (pss_one (ps_ret (pe_callB (cr_any (by rfl)) (by rfl) T.any (by decide +kernel) (pa_cons (pe_lc (own := [("measured", 2), ("thickness", 3)]) (g := (gTup K 2 (gCons (gName 2) (gCons (gName 3) gNil)))) (tt := tYes) (by rfl) sc_m_is_measured.nd (pi_list (pe_fld (pv 0) rfl)) (blkOk_by (own := [("measured", 2), ("thickness", 3)]) (N := ["self", "cell", "measured", "thickness"]) (sc := defScope s_m_is_measured) (by decide +kernel)) (fun _ _ _ _ _ => (pg_tup (by rfl) (pgs_cons (pg_name (i := 2) sc_m_is_measured.nd rfl (Or.inl rfl)) (pgs_cons (pg_name (i := 3) sc_m_is_measured.nd rfl (Or.inl rfl)) pgs_nil)))) (fun _ _ _ _ _ => pts_nil) (fun _ _ _ _ _ => (pe_cmpR op_eq (pv 2) (pv 1) (nomark _)))) pa_nil)))), ?_⟩
  refine ⟨_, rfl, a, C, dx, _, _, rfl, h1, T.cl, T.nm, lkm _ _, l, rfl, ⟨_, SqL.of hl⟩, fun D hD => ?_⟩
  refine lc_list (K := K) (a := l) (xs := ts.map V.ref) (fun i H' => Same H H' ∧ H' D = some (.lst (((f.measurements.take i).map fun m => m.1 == n).map V.bl))) ⟨Same.new hD, upd_same⟩ (fun i H' _ ⟨s1, _⟩ => s1.seq (SqL.of hl)) ?_ ?_
  · rintro i x H' hx ⟨s1, d1⟩
    obtain ⟨t, ht, rfl⟩ := ref_get hx
    obtain ⟨m, hm, hT⟩ := paired_get hp ht
    have hi : i < f.measurements.length := (List.getElem?_eq_some_iff.mp hm).1
    refine ⟨t, _, rfl, SqT.of (s1 _ _ hT), rfl, _, _, rfl, _, _, rfl, rfl, rfl, ?_⟩
    refine ⟨_, rfl, _, rfl, rfl, _, d1, szl (by simp only [List.length_map, List.length_take]; omega), Same.mut s1 hD, upd_same.trans ?_⟩
    rw [take_more hm, List.map_append, List.map_append]
    show some (HO.lst (_ ++ [V.bl (decide (V.int (m.1 : Int) = V.int (n : Int)))])) = _
    rw [dint]
    rfl
  · rintro H' ⟨s1, d1⟩
    rw [List.length_map, el, List.take_length] at d1
    refine ⟨D, _, rfl, SqL.of d1, qb ?_ (k H' s1)⟩
    rw [List.any_map]
    rfl
abbrev s_m_measurements_except : Stmt := inClass (top 2) 6
theorem sc_m_measurements_except : FnScope ["self", "cell", "measurement"] ["self", "cell"] (defScope s_m_measurements_except) := ⟨rfl, rfl, rfl, by decide +kernel, rfl, by decide +kernel, by decide +kernel⟩
theorem ok_m_measurements_except {P : Program} {w : World} {K : PySem.W.Frag} {mg : Str → Option Value} {base : Heap} {C f : Addr} {fd : FuncData} (F : Fun K "measurements_except" "Ice.measurements_except" s_m_measurements_except f fd) (T : Txt K mg C)  :
    FnOk P w K mg base CX0 1 f fd ["self", "cell"] (sp_m_measurements_except K C) := by
  refine F.ok sc_m_measurements_except (fun vs H Q E h => ?_) (fun cdv A outer s H vs Q E hr h => ?_)
  · obtain ⟨_, _, _, rfl, _⟩ := h
    rfl
  obtain ⟨a, f, n, rfl, I, G, k⟩ := h
  obtain ⟨dx, l, h1, ts, hl, hp⟩ := id I
  have el := paired_len hp
  have gl := G.len
  refine ⟨_, (pss_one (ps_ret (pe_lc (own := [("measurement", 2)]) (g := (gName 2)) (by rfl) sc_m_measurements_except.nd (pi_list (pe_fld (pv 0) rfl)) (blkOk_by (own := [("measurement", 2)]) (N := ["self", "cell", "measurement"]) (sc := defScope s_m_measurements_except) (by decide +kernel)) (fun _ _ _ _ _ => (pg_name (i := 2) sc_m_measurements_except.nd rfl (Or.inl rfl))) (fun _ _ _ _ _ => (pts_one (pt_cmpR op_ne (pe_ix (r := rIxT K) ix_tup (pv 2) pe_int (fun _ _ => rfl)) (pv 1) (nomark _)))) (fun _ _ _ _ _ => (pv 2))))), ?_⟩
  refine ⟨_, rfl, a, C, dx, _, _, rfl, h1, T.cl, T.nm, lkm _ _, l, rfl, ⟨_, SqL.of hl⟩, fun D hD => ?_⟩
  refine lc_list (K := K) (a := l) (xs := ts.map V.ref) (fun i H' => Same H H' ∧ ∃ us : List Addr, us.length ≤ i ∧ H' D = some (.lst (us.map V.ref)) ∧ Paired (TupAt H) us ((f.measurements.take i).filter fun m => m.1 != n)) ⟨Same.new hD, [], Nat.le_refl _, upd_same, .nil⟩ (fun i H' _ ⟨s1, _⟩ => s1.seq (SqL.of hl)) ?_ ?_
  · rintro i x H' hx ⟨s1, us, lu, d1, pu⟩
    obtain ⟨t, ht, rfl⟩ := ref_get hx
    obtain ⟨m, hm, hT⟩ := paired_get hp ht
    have hi : i < f.measurements.length := (List.getElem?_eq_some_iff.mp hm).1
    refine ⟨rfl, ?_⟩
    refine ⟨_, rfl, t, _, _, _, rfl, rfl, SqT.of (s1 _ _ hT), rfl, _, rfl, rfl, _, rfl, iteB (fun c => ?_) (fun c => ?_)⟩
    · have c : (!decide (V.int (m.1 : Int) = V.int (n : Int))) = true := c
      rw [dint] at c
      refine ⟨_, rfl, _, d1, szl (by rw [List.length_map]; omega), Same.mut s1 hD, us ++ [t], by rw [List.length_append]; simp; omega, upd_same.trans ?_, ?_⟩
      · rw [List.map_append]
        rfl
      · have e : (f.measurements.take (i + 1)).filter (fun m => m.1 != n) = (f.measurements.take i).filter (fun m => m.1 != n) ++ [m] := by
          rw [take_more hm, List.filter_append, List.filter_cons, if_pos (by simpa using c)]
          rfl
        rw [e]
        exact paired_snoc pu hT
    · have c : (!decide (V.int (m.1 : Int) = V.int (n : Int))) = false := c
      rw [dint] at c
      refine ⟨s1, us, by omega, d1, ?_⟩
      have e : (f.measurements.take (i + 1)).filter (fun m => m.1 != n) = (f.measurements.take i).filter (fun m => m.1 != n) := by
        rw [take_more hm, List.filter_append, List.filter_cons, if_neg (by simpa using c), List.filter_nil, List.append_nil]
      rw [e]
      exact pu
  · rintro H' ⟨s1, us, lu, d1, pu⟩
    rw [List.length_map, el, List.take_length] at pu
    exact k H' D s1 hD ⟨us, d1, paired_mono pu fun t m e => s1 _ _ e⟩
abbrev s_m_record : Stmt := inClass (top 2) 7
theorem sc_m_record : FnScope ["self", "cell", "thickness"] ["self", "cell", "thickness"] (defScope s_m_record) := ⟨rfl, rfl, rfl, by decide +kernel, rfl, by decide +kernel, by decide +kernel⟩
theorem ok_m_record {P : Program} {w : World} {K : PySem.W.Frag} {mg : Str → Option Value} {base : Heap} {C f : Addr} {fd : FuncData} (F : Fun K "record" "Ice.record" s_m_record f fd) (T : Txt K mg C) (m_measurements_except : C8.Met P w K mg base 1 C "measurements_except" (sp_m_measurements_except K C) []) :
    FnOk P w K mg base CX0 2 f fd ["self", "cell", "thickness"] (sp_m_record K C) := by
  refine F.ok sc_m_record (fun vs H Q E h => ?_) (fun cdv A outer s H vs Q E hr h => ?_)
  · obtain ⟨_, _, _, _, rfl, _⟩ := h
    rfl
  obtain ⟨a, f, n, t, rfl, I, G, k⟩ := h
  obtain ⟨dx, l, h1, hl⟩ := id I
  have gl := G.len
  refine ⟨_, (pss_one (ps_fld (pv 0) (pe_op op_cat (C8.pe_mt m_measurements_except hr (by decide) (pv 0) (pa_cons (pv 1) pa_nil)) (pe_lst (pa_cons (pe_tup (pa_cons (pv 1) (pa_cons (pv 2) pa_nil))) pa_nil))) rfl)), ?_⟩
  refine ⟨_, rfl, a, _, _, rfl, h1, lkn (by decide +kernel) _ _, _, rfl, a, f, n, rfl, I, G, fun H1 p s1 hp1 M1 => ?_⟩
  obtain ⟨us, d1, pu⟩ := M1
  have lu := paired_len pu
  have le : (except f n).length ≤ f.measurements.length := List.length_filter_le ..
  refine ⟨_, rfl, _, rfl, sz (by show 2 ≤ 100000; decide), fun b hb => ?_⟩
  refine ⟨sz (by show 1 ≤ 100000; decide), fun q hq => ?_⟩
  have s2 : Same H1 (upd (upd H1 b (.tup [.int n, .int t])) q (.lst [.ref b])) := Same.mut (Same.new hb) (by rw [upd_ne] at hq; exact hq; intro z; rw [z, upd_same] at hq; cases hq)
  have nqb : b ≠ q := fun z => by
    rw [← z, upd_same] at hq
    cases hq
  refine ⟨p, q, us.map V.ref, _, rfl, rfl, s2 _ _ d1, upd_same, sz (by rw [List.length_map]; simp; omega), fun r hr0 => ?_⟩
  have s3 := s2.trans (Same.new (o := .lst (us.map V.ref ++ [.ref b])) hr0)
  have s4 := s1.trans s3
  refine ⟨_, rfl, a, C, dx, _, rfl, s4 _ _ h1, T.cl, T.nm, few4 _ _, ?_⟩
  have nra : r ≠ a := fun z => by
    have e := (s1.trans s2) _ _ h1
    rw [z, e] at hr0
    cases hr0
  have hb2 : (upd (upd (upd H1 b (.tup [.int n, .int t])) q (.lst [.ref b])) r (.lst (us.map V.ref ++ [.ref b]))) b = some (.tup [.int n, .int t]) := by
    have e : (upd (upd H1 b (.tup [.int n, .int t])) q (.lst [.ref b])) b = some (.tup [.int n, .int t]) := (upd_ne nqb).trans upd_same
    rw [upd_ne (ne_of_none e hr0)]
    exact e
  refine k _ ⟨dx, r, upd_same.trans (congrArg (fun q => some (HO.ins C dx q)) (put_m f l r (except f n ++ [(n, t)]))), us ++ [b], ?_, ?_⟩ (But.of s4).upd
  · rw [upd_ne nra, upd_same, List.map_append]
    rfl
  · have ga := s4 _ _ h1
    refine paired_snoc (paired_mono pu fun t m e => ?_) ?_
    · have e := s3 _ _ e
      show _ = _
      rw [upd_ne (ne_of e ga (by intro z; cases z))]
      exact e
    · show _ = _
      rw [upd_ne (ne_of hb2 ga (by intro z; cases z))]
      exact hb2
abbrev s_m_with_measurement : Stmt := inClass (top 2) 8
theorem sc_m_with_measurement : FnScope ["self", "cell", "thickness", "other"] ["self", "cell", "thickness"] (defScope s_m_with_measurement) := ⟨rfl, rfl, rfl, by decide +kernel, rfl, by decide +kernel, by decide +kernel⟩
theorem ok_m_with_measurement {P : Program} {w : World} {K : PySem.W.Frag} {mg : Str → Option Value} {base : Heap} {C f : Addr} {fd : FuncData} (F : Fun K "with_measurement" "Ice.with_measurement" s_m_with_measurement f fd) (T : Txt K mg C) (m_record : C8.Met P w K mg base 2 C "record" (sp_m_record K C) []) (mkIce : C8.Mak P w K mg base 1 "Ice" C (sp_m___init__ K C) []) :
    FnOk P w K mg base CX0 3 f fd ["self", "cell", "thickness"] (sp_m_with_measurement K C) := by
  refine F.ok sc_m_with_measurement (fun vs H Q E h => ?_) (fun cdv A outer s H vs Q E hr h => ?_)
  · obtain ⟨_, _, _, _, rfl, _⟩ := h
    rfl
  obtain ⟨a, f, n, t, rfl, I, G, k⟩ := h
  obtain ⟨dx, l, h1, ts, hl, hp⟩ := id I
  refine ⟨_, (pss_cons (ps_set (i := 3) sc_m_with_measurement.nd rfl (Or.inl rfl) (C8.pe_mk mkIce hr (by decide) rfl (pa_cons (pe_fld (pv 0) rfl) (pa_cons (pe_fld (pv 0) rfl) (pa_cons (pe_fld (pv 0) rfl) pa_nil)))))
    (pss_cons (ps_fld (pv 3) (pe_callTy call_list_of (by rfl) T.list (by decide +kernel) (pa_cons (pe_fld (pv 0) rfl) pa_nil)) rfl)
    (pss_cons (ps_expr (C8.pe_mt m_record hr (by decide) (pv 3) (pa_cons (pv 1) (pa_cons (pv 2) pa_nil))))
    (pss_one (ps_ret (pv 3)))))), ?_⟩
  refine ⟨_, rfl, a, C, dx, _, _, rfl, h1, T.cl, T.nc, lkc _ _, _, rfl, a, C, dx, _, _, rfl, h1, T.cl, T.nr, lkr _ _, _, rfl, a, C, dx, _, _, rfl, h1, T.cl, T.ns, lks _ _, fun x dy nx ndy ne => ?_⟩
  refine ⟨x, dy, f.columns, f.rows, f.maxStep, rfl, upd_same, fun H1 I1 b1 => ⟨rfl, ?_⟩⟩
  have s1 : Same H H1 := fun b o e => b1 b o (by rw [upd_ne (ne_of_none e nx), upd_ne (ne_of_none e ndy)]; exact e) (ne_of_none e nx)
  obtain ⟨dz, l1, g1, _⟩ := I1
  have ha := s1 _ _ h1
  have hl1 := s1 _ _ hl
  -- other.measurements = list(self.measurements)
  refine ⟨_, rfl, a, C, dx, _, _, rfl, ha, T.cl, T.nm, lkm _ _, l, _, rfl, .inl (SqL.of hl1), fun q hq => ?_⟩
  have s2 : Same H1 (upd H1 q (.lst (ts.map V.ref))) := Same.new hq
  have g2 := s2 _ _ g1
  refine ⟨_, rfl, x, C, dz, _, rfl, g2, T.cl, T.nm, few4 _ _, ?_⟩
  have nqx : q ≠ x := (ne_of_none g1 hq).symm
  have b3 : But x H1 (upd (upd H1 q (.lst (ts.map V.ref))) x (.ins C dz (putF "measurements" (.ref q) (iF ⟨f.columns, f.rows, f.maxStep, []⟩ l1)))) := (But.of s2).upd
  have I3 : IceAt C (upd (upd H1 q (.lst (ts.map V.ref))) x (.ins C dz (putF "measurements" (.ref q) (iF ⟨f.columns, f.rows, f.maxStep, []⟩ l1)))) x f := by
    refine ⟨dz, q, upd_same.trans (congrArg (fun q => some (HO.ins C dz q)) (put_m ⟨f.columns, f.rows, f.maxStep, []⟩ l1 q f.measurements)), ts, (upd_ne nqx).trans upd_same, paired_mono hp fun t m e => b3 _ _ (s1 _ _ e) (ne_of_none e nx)⟩
  obtain ⟨dw, lw, g3, _⟩ := id I3
  -- other.record(cell, thickness)
  refine ⟨_, rfl, x, _, _, rfl, g3, lkn (by decide +kernel) _ _, _, rfl, _, rfl, x, f, n, t, rfl, I3, G, fun H4 I4 b4 => ?_⟩
  refine ⟨_, rfl, k H4 x (fun b o e => b4 b o (b3 b o (s1 b o e) (ne_of_none e nx)) (ne_of_none e nx)) I4⟩
end Ib

/-! ### part D4 -/
set_option Elab.async false
set_option linter.all false
set_option maxRecDepth 100000
set_option maxHeartbeats 2000000
namespace Ib
open PySem PySem.Spec PyProof.Rows L2
open Km563 (IceField)
abbrev s_m_fits : Stmt := inClass (top 2) 9
theorem sc_m_fits : FnScope ["self", "cell", "thickness", "measurements", "max_step", "measured", "known"] ["self", "cell", "thickness", "measurements", "max_step"] (defScope s_m_fits) := ⟨rfl, rfl, rfl, by decide +kernel, rfl, by decide +kernel, by decide +kernel⟩
theorem ok_m_fits {P : Program} {w : World} {K : PySem.W.Frag} {mg : Str → Option Value} {base : Heap} {C f : Addr} {fd : FuncData} (F : Fun K "fits" "Ice.fits" s_m_fits f fd) (T : Txt K mg C) (m_distance : C8.Met P w K mg base 1 C "distance" (sp_m_distance K C) []) :
    FnOk P w K mg base CX0 2 f fd ["self", "cell", "thickness", "measurements", "max_step"] (sp_m_fits K C) := by
  refine F.ok sc_m_fits (fun vs H Q E h => ?_) (fun cdv A outer s H vs Q E hr h => ?_)
  · obtain ⟨_, _, _, _, _, _, _, rfl, _⟩ := h
    rfl
  obtain ⟨a, f, n, t, l, ms, z, rfl, I, G, ⟨ts, hl, hp⟩, hz, k⟩ := h
  obtain ⟨dx, l0, h1, _⟩ := id I
  have el := paired_len hp
  refine ⟨_, (pss_cons (ps_for PassesOwn.never rfl (pi_list (pv 3)) (pg_tup (by rfl) (pgs_cons (pg_name (i := 5) sc_m_fits.nd rfl (Or.inl rfl)) (pgs_cons (pg_name (i := 6) sc_m_fits.nd rfl (Or.inl rfl)) pgs_nil))) (pss_one (ps_if (pt_cmpR op_gt (pe_callB call_abs (by rfl) T.abs (by decide +kernel) (pa_cons (pe_op op_sub (pv 2) (pv 6)) pa_nil)) (pe_op op_mul (pv 4) (C8.pe_mt m_distance hr (by decide) (pv 0) (pa_cons (pv 1) (pa_cons (pv 5) pa_nil)))) (nomark _)) (pss_one (ps_ret pe_bl)) pss_nil)))
    (pss_one (ps_ret pe_bl))), ?_⟩
  refine ⟨_, rfl, l, rfl, ⟨_, SqL.of hl⟩, for_list (K := K) (a := l) (xs := ts.map V.ref) (fun i σ H' => (∃ v u, σ = [some (.ref a), some (.int n), some (.int t), some (.ref l), some (.int z), v, u]) ∧ Same H H' ∧ ((ms.take i).all fun m => decide (Km563.difference t m.2 ≤ z * Km563.cellDistance f n m.1)) = true)
    ⟨⟨_, _, rfl⟩, Same.refl H, rfl⟩ (fun i σ H' _ ⟨_, s1, _⟩ => s1.seq (SqL.of hl)) ?_ ?_⟩
  · rintro i x σ H' hx ⟨⟨v, u, rfl⟩, s1, ha⟩
    obtain ⟨b, hb, rfl⟩ := ref_get hx
    obtain ⟨m, hm, hT⟩ := paired_get hp hb
    have g1 := s1 _ _ h1
    refine ⟨b, _, rfl, SqT.of (s1 _ _ hT), rfl, _, _, rfl, _, _, rfl, rfl, ?_⟩
    refine ⟨_, rfl, _, rfl, _, _, rfl, rfl, _, rfl, _, rfl, _, rfl, a, _, _, rfl, g1, lkn (by decide +kernel) _ _, _, rfl, _, rfl, a, f, n, m.1, rfl, I.same s1, G, True.intro, fun H2 s2 => ?_⟩
    refine ⟨_, _, rfl, rfl, .inl ⟨by omega, by omega⟩, _, _, rfl, rfl, _, rfl, ?_⟩
    rw [abs_diff]
    refine iteB (fun c => ?_) (fun c => ?_)
    · have c := of_decide_eq_true c
      refine qb ?_ (k H2 (s1.trans s2))
      refine (all_false hm ?_).symm
      refine decide_eq_false fun q => ?_
      have q2 : ((Km563.difference t m.2 : Nat) : Int) ≤ ((z * Km563.cellDistance f n m.1 : Nat) : Int) := Int.ofNat_le.mpr q
      rw [Int.natCast_mul] at q2
      omega
    · have c := of_decide_eq_false c
      refine ⟨⟨_, _, rfl⟩, s1.trans s2, all_more hm ha (decide_eq_true ?_)⟩
      have q2 : ((Km563.difference t m.2 : Nat) : Int) ≤ ((z * Km563.cellDistance f n m.1 : Nat) : Int) := by
        rw [Int.natCast_mul]
        omega
      exact Int.ofNat_le.mp q2
  · rintro σ H' ⟨⟨v, u, rfl⟩, s1, ha⟩
    rw [List.length_map, el, List.take_length] at ha
    exact qb ha.symm (k H' s1)
abbrev s_m_is_consistent_with_step : Stmt := inClass (top 2) 10
theorem sc_m_is_consistent_with_step : FnScope ["self", "max_step", "cell", "thickness"] ["self", "max_step"] (defScope s_m_is_consistent_with_step) := ⟨rfl, rfl, rfl, by decide +kernel, rfl, by decide +kernel, by decide +kernel⟩
theorem ok_m_is_consistent_with_step {P : Program} {w : World} {K : PySem.W.Frag} {mg : Str → Option Value} {base : Heap} {C f : Addr} {fd : FuncData} (F : Fun K "is_consistent_with_step" "Ice.is_consistent_with_step" s_m_is_consistent_with_step f fd) (T : Txt K mg C) (m_fits : C8.Met P w K mg base 2 C "fits" (sp_m_fits K C) []) :
    FnOk P w K mg base CX0 3 f fd ["self", "max_step"] (sp_m_is_consistent_with_step K C) := by
  refine F.ok sc_m_is_consistent_with_step (fun vs H Q E h => spV1.len h) (fun cdv A outer s H vs Q E hr h => ?_)
  obtain ⟨a, f, z, rfl, I, G, hz, k⟩ := h
  obtain ⟨dx, l, h1, ts, hl, hp⟩ := id I
  have el := paired_len hp
  refine ⟨_, (pss_cons (ps_for PassesOwn.never rfl (pi_list (pe_fld (pv 0) rfl)) (pg_tup (by rfl) (pgs_cons (pg_name (i := 2) sc_m_is_consistent_with_step.nd rfl (Or.inl rfl)) (pgs_cons (pg_name (i := 3) sc_m_is_consistent_with_step.nd rfl (Or.inl rfl)) pgs_nil))) (pss_one (ps_if (pt_not (pt_val (C8.pe_mt m_fits hr (by decide) (pv 0) (pa_cons (pv 2) (pa_cons (pv 3) (pa_cons (pe_fld (pv 0) rfl) (pa_cons (pv 1) pa_nil))))))) (pss_one (ps_ret pe_bl)) pss_nil)))
    (pss_one (ps_ret pe_bl))), ?_⟩
  refine ⟨_, rfl, a, C, dx, _, _, rfl, h1, T.cl, T.nm, lkm _ _, l, rfl, ⟨_, SqL.of hl⟩, for_list (K := K) (a := l) (xs := ts.map V.ref) (fun i σ H' => (∃ v u, σ = [some (.ref a), some (.int z), v, u]) ∧ Same H H' ∧ ((f.measurements.take i).all fun m => fits f m.1 m.2 f.measurements z) = true)
    ⟨⟨_, _, rfl⟩, Same.refl H, rfl⟩ (fun i σ H' _ ⟨_, s1, _⟩ => s1.seq (SqL.of hl)) ?_ ?_⟩
  · rintro i x σ H' hx ⟨⟨v, u, rfl⟩, s1, ha⟩
    obtain ⟨b, hb, rfl⟩ := ref_get hx
    obtain ⟨m, hm, hT⟩ := paired_get hp hb
    have g1 := s1 _ _ h1
    refine ⟨b, _, rfl, SqT.of (s1 _ _ hT), rfl, _, _, rfl, _, _, rfl, rfl, ?_⟩
    refine ⟨_, rfl, a, _, _, rfl, g1, lkn (by decide +kernel) _ _, _, rfl, _, rfl, _, rfl, a, C, dx, _, _, rfl, g1, T.cl, T.nm, lkm _ _, _, rfl, a, f, m.1, m.2, l, f.measurements, z, rfl, I.same s1, G, MsAt.same s1 ⟨ts, hl, hp⟩, hz, fun H2 s2 => ?_⟩
    refine ⟨_, rfl, ?_⟩
    refine iteB (fun c => ?_) (fun c => ?_)
    · refine qb ?_ (k H2 (s1.trans s2))
      exact (all_false hm (not_t c)).symm
    · refine ⟨⟨_, _, rfl⟩, s1.trans s2, all_more hm ha (not_f c)⟩
  · rintro σ H' ⟨⟨v, u, rfl⟩, s1, ha⟩
    rw [List.length_map, el, List.take_length] at ha
    exact qb ha.symm (k H' s1)
abbrev s_m_smallest_consistent_step : Stmt := inClass (top 2) 11
theorem sc_m_smallest_consistent_step : FnScope ["self", "step"] ["self"] (defScope s_m_smallest_consistent_step) := ⟨rfl, rfl, rfl, by decide +kernel, rfl, by decide +kernel, by decide +kernel⟩
theorem ok_m_smallest_consistent_step {P : Program} {w : World} {K : PySem.W.Frag} {mg : Str → Option Value} {base : Heap} {C f : Addr} {fd : FuncData} (F : Fun K "smallest_consistent_step" "Ice.smallest_consistent_step" s_m_smallest_consistent_step f fd) (T : Txt K mg C) (m_is_consistent_with_step : C8.Met P w K mg base 3 C "is_consistent_with_step" (sp_m_is_consistent_with_step K C) []) :
    FnOk P w K mg base CX0 4 f fd ["self"] (sp_m_smallest_consistent_step K C) := by
  refine F.ok sc_m_smallest_consistent_step (fun vs H Q E h => spV0.len h) (fun cdv A outer s H vs Q E hr h => ?_)
  obtain ⟨a, f, rfl, I, G, k⟩ := h
  obtain ⟨dx, l, h1, _⟩ := id I
  have hst := G.st
  refine ⟨_, (pss_cons (ps_set (i := 1) sc_m_smallest_consistent_step.nd rfl (Or.inl rfl) pe_int)
    (pss_cons (ps_while PassesOwn.never (pt_not (pt_val (C8.pe_mt m_is_consistent_with_step hr (by decide) (pv 0) (pa_cons (pv 1) pa_nil)))) (pss_one (ps_aug (i := 1) sc_m_smallest_consistent_step.nd rfl (Or.inl rfl) pe_int ip_add)))
    (pss_one (ps_ret (pv 1))))), ?_⟩
  refine ⟨fun m σ H' => ∃ z : Nat, σ = [some (.ref a), some (.int z)] ∧ Same H H' ∧ z + m = f.maxStep ∧ ∀ j, j < z → stepOk f j = false, ⟨f.maxStep, 0, rfl, Same.refl H, by omega, fun j hj => by omega⟩, ?_⟩
  rintro m σ H' ⟨z, rfl, s1, hm, hj⟩
  have g1 := s1 _ _ h1
  refine ⟨_, rfl, a, _, _, rfl, g1, lkn (by decide +kernel) _ _, _, rfl, a, f, z, rfl, I.same s1, G, by omega, fun H2 s2 => ⟨_, rfl, ?_⟩⟩
  refine iteB (fun c => ?_) (fun c => ?_)
  · have c : stepOk f z = false := not_t c
    have hz : z ≠ f.maxStep := fun e => by
      rw [e, step_self G] at c
      cases c
    refine ⟨fun σ' H3 => σ' = [some (.ref a), some (.int ((z + 1 : Nat) : Int))] ∧ Same H H3, ?_, ?_⟩
    · rintro σ' H3 ⟨rfl, s3⟩
      refine ⟨m - 1, by omega, z + 1, rfl, s3, by omega, fun j hj' => ?_⟩
      by_cases e : j = z
      · rw [e]; exact c
      · exact hj j (by omega)
    · exact ⟨_, rfl, _, _, rfl, rfl, rfl, s1.trans s2⟩
  · have c : stepOk f z = true := not_f c
    refine ⟨_, rfl, qi ?_ (k H2 (s1.trans s2))⟩
    rw [smallest_is (by omega) c hj]
    rfl
abbrev s_m_lower_bound : Stmt := inClass (top 2) 12
theorem sc_m_lower_bound : FnScope ["self", "cell", "bound", "measured", "thickness"] ["self", "cell"] (defScope s_m_lower_bound) := ⟨rfl, rfl, rfl, by decide +kernel, rfl, by decide +kernel, by decide +kernel⟩
theorem max_cast (b t p : Nat) : (if (t : Int) - (p : Int) > (b : Int) then (t : Int) - (p : Int) else (b : Int)) = ((max b (t - p) : Nat) : Int) := by
  omega
theorem min_cast (b t p : Nat) : (if (t : Int) + (p : Int) < (b : Int) then (t : Int) + (p : Int) else (b : Int)) = ((min b (t + p) : Nat) : Int) := by
  omega
theorem ok_m_lower_bound {P : Program} {w : World} {K : PySem.W.Frag} {mg : Str → Option Value} {base : Heap} {C f : Addr} {fd : FuncData} (F : Fun K "lower_bound" "Ice.lower_bound" s_m_lower_bound f fd) (T : Txt K mg C) (m_distance : C8.Met P w K mg base 1 C "distance" (sp_m_distance K C) []) :
    FnOk P w K mg base CX0 2 f fd ["self", "cell"] (sp_m_lower_bound K C) := by
  refine F.ok sc_m_lower_bound (fun vs H Q E h => spV1.len h) (fun cdv A outer s H vs Q E hr h => ?_)
  obtain ⟨a, f, n, rfl, I, G, _, k⟩ := h
  obtain ⟨dx, l, h1, ts, hl, hp⟩ := id I
  have el := paired_len hp
  have hst := G.st
  refine ⟨_, (pss_cons (ps_set (i := 2) sc_m_lower_bound.nd rfl (Or.inl rfl) pe_int)
    (pss_cons (ps_for PassesOwn.never rfl (pi_list (pe_fld (pv 0) rfl)) (pg_tup (by rfl) (pgs_cons (pg_name (i := 3) sc_m_lower_bound.nd rfl (Or.inl rfl)) (pgs_cons (pg_name (i := 4) sc_m_lower_bound.nd rfl (Or.inl rfl)) pgs_nil))) (pss_one (ps_set (i := 2) sc_m_lower_bound.nd rfl (Or.inl rfl) (pe_callB (call_max2 (by rfl)) (by rfl) T.max (by decide +kernel) (pa_cons (pv 2) (pa_cons (pe_op op_sub (pv 4) (pe_op op_mul (pe_fld (pv 0) rfl) (C8.pe_mt m_distance hr (by decide) (pv 0) (pa_cons (pv 1) (pa_cons (pv 3) pa_nil))))) pa_nil))))))
    (pss_one (ps_ret (pv 2))))), ?_⟩
  refine ⟨_, rfl, a, C, dx, _, _, rfl, h1, T.cl, T.nm, lkm _ _, l, rfl, ⟨_, SqL.of hl⟩, for_list (K := K) (a := l) (xs := ts.map V.ref) (fun i σ H' => (∃ v u, σ = [some (.ref a), some (.int n), some (.int (((f.measurements.take i).foldl (fun (bound : Nat) (m : Nat × Nat) => max bound (m.2 - f.maxStep * Km563.cellDistance f n m.1)) 0 : Nat) : Int)), v, u]) ∧ Same H H')
    ⟨⟨_, _, rfl⟩, Same.refl H⟩ (fun i σ H' _ ⟨_, s1⟩ => s1.seq (SqL.of hl)) ?_ ?_⟩
  · rintro i x σ H' hx ⟨⟨v, u, rfl⟩, s1⟩
    obtain ⟨b, hb, rfl⟩ := ref_get hx
    obtain ⟨m, hm, hT⟩ := paired_get hp hb
    have g1 := s1 _ _ h1
    refine ⟨b, _, rfl, SqT.of (s1 _ _ hT), rfl, _, _, rfl, _, _, rfl, rfl, ?_⟩
    refine ⟨_, rfl, _, rfl, _, rfl, a, C, dx, _, _, rfl, g1, T.cl, T.ns, lks _ _, _, rfl, a, _, _, rfl, g1, lkn (by decide +kernel) _ _, _, rfl, _, rfl, a, f, n, m.1, rfl, I.same s1, G, True.intro, fun H2 s2 => ?_⟩
    refine ⟨_, _, rfl, rfl, .inl ⟨by omega, by omega⟩, _, _, rfl, rfl, _, _, rfl, ?_⟩
    refine ⟨⟨some (.int m.1), some (.int m.2), ?_⟩, s1.trans s2⟩
    rw [fold_more _ _ hm, ← Int.natCast_mul, max_cast]
    rfl
  · rintro σ H' ⟨⟨v, u, rfl⟩, s1⟩
    rw [List.length_map, el, List.take_length]
    exact ⟨_, rfl, k H' s1⟩
abbrev s_m_upper_bound : Stmt := inClass (top 2) 13
theorem sc_m_upper_bound : FnScope ["self", "cell", "bound", "measured", "thickness"] ["self", "cell"] (defScope s_m_upper_bound) := ⟨rfl, rfl, rfl, by decide +kernel, rfl, by decide +kernel, by decide +kernel⟩
theorem ok_m_upper_bound {P : Program} {w : World} {K : PySem.W.Frag} {mg : Str → Option Value} {base : Heap} {C f : Addr} {fd : FuncData} (F : Fun K "upper_bound" "Ice.upper_bound" s_m_upper_bound f fd) (T : Txt K mg C) (m_distance : C8.Met P w K mg base 1 C "distance" (sp_m_distance K C) []) :
    FnOk P w K mg base CX0 2 f fd ["self", "cell"] (sp_m_upper_bound K C) := by
  refine F.ok sc_m_upper_bound (fun vs H Q E h => spV1.len h) (fun cdv A outer s H vs Q E hr h => ?_)
  obtain ⟨a, f, n, rfl, I, G, _, k⟩ := h
  obtain ⟨dx, l, h1, ts, hl, hp⟩ := id I
  have el := paired_len hp
  have hst := G.st
  refine ⟨_, (pss_cons (ps_set (i := 2) sc_m_upper_bound.nd rfl (Or.inl rfl) (pe_gi T.gMAX_THICKNESS))
    (pss_cons (ps_for PassesOwn.never rfl (pi_list (pe_fld (pv 0) rfl)) (pg_tup (by rfl) (pgs_cons (pg_name (i := 3) sc_m_upper_bound.nd rfl (Or.inl rfl)) (pgs_cons (pg_name (i := 4) sc_m_upper_bound.nd rfl (Or.inl rfl)) pgs_nil))) (pss_one (ps_set (i := 2) sc_m_upper_bound.nd rfl (Or.inl rfl) (pe_callB (call_min2 (by rfl)) (by rfl) T.min (by decide +kernel) (pa_cons (pv 2) (pa_cons (pe_op op_add (pv 4) (pe_op op_mul (pe_fld (pv 0) rfl) (C8.pe_mt m_distance hr (by decide) (pv 0) (pa_cons (pv 1) (pa_cons (pv 3) pa_nil))))) pa_nil))))))
    (pss_one (ps_ret (pv 2))))), ?_⟩
  refine ⟨_, rfl, a, C, dx, _, _, rfl, h1, T.cl, T.nm, lkm _ _, l, rfl, ⟨_, SqL.of hl⟩, for_list (K := K) (a := l) (xs := ts.map V.ref) (fun i σ H' => (∃ v u, σ = [some (.ref a), some (.int n), some (.int (((f.measurements.take i).foldl (fun (bound : Nat) (m : Nat × Nat) => min bound (m.2 + f.maxStep * Km563.cellDistance f n m.1)) 99 : Nat) : Int)), v, u]) ∧ Same H H')
    ⟨⟨_, _, rfl⟩, Same.refl H⟩ (fun i σ H' _ ⟨_, s1⟩ => s1.seq (SqL.of hl)) ?_ ?_⟩
  · rintro i x σ H' hx ⟨⟨v, u, rfl⟩, s1⟩
    obtain ⟨b, hb, rfl⟩ := ref_get hx
    obtain ⟨m, hm, hT⟩ := paired_get hp hb
    have g1 := s1 _ _ h1
    refine ⟨b, _, rfl, SqT.of (s1 _ _ hT), rfl, _, _, rfl, _, _, rfl, rfl, ?_⟩
    refine ⟨_, rfl, _, rfl, _, rfl, a, C, dx, _, _, rfl, g1, T.cl, T.ns, lks _ _, _, rfl, a, _, _, rfl, g1, lkn (by decide +kernel) _ _, _, rfl, _, rfl, a, f, n, m.1, rfl, I.same s1, G, True.intro, fun H2 s2 => ?_⟩
    refine ⟨_, _, rfl, rfl, .inl ⟨by omega, by omega⟩, _, _, rfl, rfl, _, _, rfl, ?_⟩
    refine ⟨⟨some (.int m.1), some (.int m.2), ?_⟩, s1.trans s2⟩
    rw [fold_more _ _ hm, ← Int.natCast_mul, min_cast]
    rfl
  · rintro σ H' ⟨⟨v, u, rfl⟩, s1⟩
    rw [List.length_map, el, List.take_length]
    exact ⟨_, rfl, k H' s1⟩
abbrev s_m_uncertainty : Stmt := inClass (top 2) 14
theorem sc_m_uncertainty : FnScope ["self", "cell"] ["self", "cell"] (defScope s_m_uncertainty) := ⟨rfl, rfl, rfl, by decide +kernel, rfl, by decide +kernel, by decide +kernel⟩
theorem ok_m_uncertainty {P : Program} {w : World} {K : PySem.W.Frag} {mg : Str → Option Value} {base : Heap} {C f : Addr} {fd : FuncData} (F : Fun K "uncertainty" "Ice.uncertainty" s_m_uncertainty f fd) (T : Txt K mg C) (m_upper_bound : C8.Met P w K mg base 2 C "upper_bound" (sp_m_upper_bound K C) []) (m_lower_bound : C8.Met P w K mg base 2 C "lower_bound" (sp_m_lower_bound K C) []) :
    FnOk P w K mg base CX0 3 f fd ["self", "cell"] (sp_m_uncertainty K C) := by
  refine F.ok sc_m_uncertainty (fun vs H Q E h => spV1.len h) (fun cdv A outer s H vs Q E hr h => ?_)
  obtain ⟨a, f, n, rfl, I, G, _, k⟩ := h
  obtain ⟨dx, l, h1, _⟩ := id I
  refine ⟨_, (pss_one (ps_ret (pe_op op_sub (C8.pe_mt m_upper_bound hr (by decide) (pv 0) (pa_cons (pv 1) pa_nil)) (C8.pe_mt m_lower_bound hr (by decide) (pv 0) (pa_cons (pv 1) pa_nil))))), ?_⟩
  refine ⟨_, rfl, a, _, _, rfl, h1, lkn (by decide +kernel) _ _, _, rfl, a, f, n, rfl, I, G, True.intro, fun H1 s1 => ?_⟩
  have g1 := s1 _ _ h1
  refine ⟨_, rfl, a, _, _, rfl, g1, lkn (by decide +kernel) _ _, _, rfl, a, f, n, rfl, I.same s1, G, True.intro, fun H2 s2 => ⟨_, _, rfl, rfl, qi ?_ (k H2 (s1.trans s2))⟩⟩
  have h := lower_le_upper G n
  unfold Km563.uncertainty
  omega
end Ib

/-! ### part D5 -/
set_option Elab.async false
set_option linter.all false
set_option maxRecDepth 100000
set_option maxHeartbeats 2000000
namespace Ib
open PySem PySem.Spec PyProof.Rows L2
open Km563 (IceField)
theorem zi (i : Nat) : V.int (0 + (i : Int)) = V.int i := by rw [Int.zero_add]
theorem max2_cast (b t : Nat) : (if (t : Int) > (b : Int) then (t : Int) else (b : Int)) = ((max b t : Nat) : Int) := by
  omega
abbrev s_m_total_uncertainty : Stmt := inClass (top 2) 15
theorem sc_m_total_uncertainty : FnScope ["self", "cell"] ["self"] (defScope s_m_total_uncertainty) := ⟨rfl, rfl, rfl, by decide +kernel, rfl, by decide +kernel, by decide +kernel⟩
theorem ok_m_total_uncertainty {P : Program} {w : World} {K : PySem.W.Frag} {mg : Str → Option Value} {base : Heap} {C f : Addr} {fd : FuncData} (F : Fun K "total_uncertainty" "Ice.total_uncertainty" s_m_total_uncertainty f fd) (T : Txt K mg C) (m_cell_count : C8.Met P w K mg base 1 C "cell_count" (sp_m_cell_count K C) []) (m_uncertainty : C8.Met P w K mg base 3 C "uncertainty" (sp_m_uncertainty K C) []) :
    FnOk P w K mg base CX0 4 f fd ["self"] (sp_m_total_uncertainty K C) := by
  refine F.ok sc_m_total_uncertainty (fun vs H Q E h => spV0.len h) (fun cdv A outer s H vs Q E hr h => ?_)
  obtain ⟨a, f, rfl, I, G, k⟩ := h
  obtain ⟨dx, l, h1, _⟩ := id I
  have hn := G.count
  refine ⟨_, (pss_one (ps_ret (pe_callB (cr_sum (by rfl)) (by rfl) T.sum (by decide +kernel) (pa_cons (pe_lc (own := [("cell", 1)]) (g := (gName 1)) (tt := tYes) (by rfl) sc_m_total_uncertainty.nd (pi_range1 rfl T.range (pa_cons (C8.pe_mt0 m_cell_count hr (by decide) (pv 0)) pa_nil)) (blkOk_by (own := [("cell", 1)]) (N := ["self", "cell"]) (sc := defScope s_m_total_uncertainty) (by decide +kernel)) (fun _ _ _ _ _ => (pg_name (i := 1) sc_m_total_uncertainty.nd rfl (Or.inl rfl))) (fun _ _ _ _ _ => pts_nil) (fun _ _ _ _ _ => (C8.pe_mt m_uncertainty hr (by decide) (pv 0) (pa_cons (pv 1) pa_nil)))) pa_nil)))), ?_⟩
  refine ⟨_, rfl, a, _, _, rfl, h1, lkn (by decide +kernel) _ _, a, f, rfl, I, G, fun H1 s1 => ⟨_, rfl, by omega, by omega, fun D hD => ?_⟩⟩
  refine lc_range (lo := 0) (n := ((Km563.cellCount f : Nat) : Int).toNat) (fun i H' => Same H1 H' ∧ H' D = some (.lst ((((List.range i).map fun c => Km563.uncertainty f c).map fun (n : Nat) => (n : Int)).map V.int))) ⟨Same.new hD, upd_same⟩ ?_ ?_
  · rintro i H' hi ⟨s2, d2⟩
    rw [Int.toNat_natCast] at hi
    have g1 := s2 _ _ (s1 _ _ h1)
    refine ⟨rfl, ?_⟩
    refine ⟨_, rfl, a, _, _, rfl, g1, lkn (by decide +kernel) _ _, _, rfl, a, f, i, congrArg (fun v => [V.ref a, v]) (zi i), I.same (s1.trans s2), G, True.intro, fun H3 s3 => ?_⟩
    refine ⟨_, s3 _ _ d2, szl (by simp only [List.length_map, List.length_range]; omega), Same.mut (s2.trans s3) hD, upd_same.trans ?_⟩
    rw [range_more, List.map_append, List.map_append, List.map_append]
    rfl
  · rintro H' ⟨s2, d2⟩
    rw [Int.toNat_natCast] at d2
    exact ⟨D, _, rfl, SqL.of d2, qi (total_is f) (k H' (s1.trans s2))⟩
abbrev s_m_worst_total_uncertainty : Stmt := inClass (top 2) 16
theorem sc_m_worst_total_uncertainty : FnScope ["self", "cell", "worst", "thickness"] ["self", "cell"] (defScope s_m_worst_total_uncertainty) := ⟨rfl, rfl, rfl, by decide +kernel, rfl, by decide +kernel, by decide +kernel⟩
theorem ok_m_worst_total_uncertainty {P : Program} {w : World} {K : PySem.W.Frag} {mg : Str → Option Value} {base : Heap} {C f : Addr} {fd : FuncData} (F : Fun K "worst_total_uncertainty" "Ice.worst_total_uncertainty" s_m_worst_total_uncertainty f fd) (T : Txt K mg C) (m_upper_bound : C8.Met P w K mg base 2 C "upper_bound" (sp_m_upper_bound K C) []) (m_lower_bound : C8.Met P w K mg base 2 C "lower_bound" (sp_m_lower_bound K C) []) (m_total_uncertainty : C8.Met P w K mg base 4 C "total_uncertainty" (sp_m_total_uncertainty K C) []) (m_with_measurement : C8.Met P w K mg base 3 C "with_measurement" (sp_m_with_measurement K C) []) :
    FnOk P w K mg base CX0 5 f fd ["self", "cell"] (sp_m_worst_total_uncertainty K C) := by
  refine F.ok sc_m_worst_total_uncertainty (fun vs H Q E h => spV1.len h) (fun cdv A outer s H vs Q E hr h => ?_)
  obtain ⟨a, f, n, rfl, I, G, hn, k⟩ := h
  obtain ⟨dx, l, h1, _⟩ := id I
  have hlu := lower_le_upper G n
  have hu99 := upper_le (f := f) (p := n)
  refine ⟨_, (pss_cons (ps_set (i := 2) sc_m_worst_total_uncertainty.nd rfl (Or.inl rfl) pe_int)
    (pss_cons (ps_for PassesOwn.never rfl (pi_range2 rfl T.range (pa_cons (C8.pe_mt m_lower_bound hr (by decide) (pv 0) (pa_cons (pv 1) pa_nil)) (pa_cons (pe_op op_add (C8.pe_mt m_upper_bound hr (by decide) (pv 0) (pa_cons (pv 1) pa_nil)) pe_int) pa_nil))) (pg_name (i := 3) sc_m_worst_total_uncertainty.nd rfl (Or.inl rfl)) (pss_one (ps_set (i := 2) sc_m_worst_total_uncertainty.nd rfl (Or.inl rfl) (pe_callB (call_max2 (by rfl)) (by rfl) T.max (by decide +kernel) (pa_cons (pv 2) (pa_cons (C8.pe_mt0 m_total_uncertainty hr (by decide) (C8.pe_mt m_with_measurement hr (by decide) (pv 0) (pa_cons (pv 1) (pa_cons (pv 3) pa_nil)))) pa_nil))))))
    (pss_one (ps_ret (pv 2))))), ?_⟩
  refine ⟨_, rfl, a, _, _, rfl, h1, lkn (by decide +kernel) _ _, _, rfl, a, f, n, rfl, I, G, True.intro, fun H1 s1 => ?_⟩
  have g1 := s1 _ _ h1
  refine ⟨_, rfl, a, _, _, rfl, g1, lkn (by decide +kernel) _ _, _, rfl, a, f, n, rfl, I.same s1, G, True.intro, fun H2 s2 => ⟨_, _, rfl, rfl, ?_⟩⟩
  have s12 := s1.trans s2
  have en : ((Km563.upperBound f n : Int) + 1 - (Km563.lowerBound f n : Int)).toNat = Km563.upperBound f n + 1 - Km563.lowerBound f n := by omega
  refine ⟨_, _, rfl, ⟨by omega, by omega, by omega, by omega⟩, for_range (lo := (Km563.lowerBound f n : Int)) (n := ((Km563.upperBound f n : Int) + 1 - (Km563.lowerBound f n : Int)).toNat)
    (fun i σ H' => (∃ v, σ = [some (.ref a), some (.int n), some (.int (((List.range i).foldl (fun (worst i : Nat) => max worst (Km563.totalUncertainty (Km563.withMeasurement f n (Km563.lowerBound f n + i)))) 0 : Nat) : Int)), v]) ∧ Same H H') ⟨⟨_, rfl⟩, s12⟩ ?_ ?_⟩
  · rintro i σ H' hi ⟨⟨v, rfl⟩, s3⟩
    rw [en] at hi
    have g3 := s3 _ _ h1
    have hc := bounds_cons G (p := n) (t := Km563.lowerBound f n + i) (by omega) (by omega)
    have G2 := good_with G hn (by omega) hc
    refine ⟨_, rfl, _, rfl, a, _, _, rfl, g3, lkn (by decide +kernel) _ _, _, rfl, _, rfl, a, f, n, Km563.lowerBound f n + i, rfl, I.same s3, G, fun H4 p s4 I4 => ?_⟩
    obtain ⟨dy, ly, g4, _⟩ := id I4
    refine ⟨p, _, _, rfl, g4, lkn (by decide +kernel) _ _, p, _, rfl, I4, G2, fun H5 s5 => ?_⟩
    refine ⟨_, _, rfl, ⟨some (.int ((Km563.lowerBound f n : Int) + (i : Int))), ?_⟩, s3.trans (s4.trans s5)⟩
    rw [range_more, List.foldl_append, max2_cast]
    rfl
  · rintro σ H' ⟨⟨v, rfl⟩, s3⟩
    rw [en]
    exact ⟨_, rfl, k H' s3⟩
abbrev s_m_is_safe : Stmt := inClass (top 2) 17
theorem sc_m_is_safe : FnScope ["self", "cell", "required"] ["self", "cell", "required"] (defScope s_m_is_safe) := ⟨rfl, rfl, rfl, by decide +kernel, rfl, by decide +kernel, by decide +kernel⟩
theorem ok_m_is_safe {P : Program} {w : World} {K : PySem.W.Frag} {mg : Str → Option Value} {base : Heap} {C f : Addr} {fd : FuncData} (F : Fun K "is_safe" "Ice.is_safe" s_m_is_safe f fd) (T : Txt K mg C) (m_lower_bound : C8.Met P w K mg base 2 C "lower_bound" (sp_m_lower_bound K C) []) :
    FnOk P w K mg base CX0 3 f fd ["self", "cell", "required"] (sp_m_is_safe K C) := by
  refine F.ok sc_m_is_safe (fun vs H Q E h => spV2.len h) (fun cdv A outer s H vs Q E hr h => ?_)
  obtain ⟨a, f, n, r, rfl, I, G, _, k⟩ := h
  obtain ⟨dx, l, h1, _⟩ := id I
  refine ⟨_, (pss_one (ps_ret (pe_cmpR op_ge (C8.pe_mt m_lower_bound hr (by decide) (pv 0) (pa_cons (pv 1) pa_nil)) (pv 2) (nomark _)))), ?_⟩
  refine ⟨_, rfl, a, _, _, rfl, h1, lkn (by decide +kernel) _ _, _, rfl, a, f, n, rfl, I, G, True.intro, fun H1 s1 => ⟨_, rfl, _, _, rfl, rfl, ?_⟩⟩
  exact qb (decide_eq_decide.mpr Int.ofNat_le) (k H1 s1)
abbrev s_m_is_uncertain : Stmt := inClass (top 2) 18
theorem sc_m_is_uncertain : FnScope ["self", "cell", "required"] ["self", "cell", "required"] (defScope s_m_is_uncertain) := ⟨rfl, rfl, rfl, by decide +kernel, rfl, by decide +kernel, by decide +kernel⟩
theorem ok_m_is_uncertain {P : Program} {w : World} {K : PySem.W.Frag} {mg : Str → Option Value} {base : Heap} {C f : Addr} {fd : FuncData} (F : Fun K "is_uncertain" "Ice.is_uncertain" s_m_is_uncertain f fd) (T : Txt K mg C) (m_lower_bound : C8.Met P w K mg base 2 C "lower_bound" (sp_m_lower_bound K C) []) (m_upper_bound : C8.Met P w K mg base 2 C "upper_bound" (sp_m_upper_bound K C) []) :
    FnOk P w K mg base CX0 3 f fd ["self", "cell", "required"] (sp_m_is_uncertain K C) := by
  refine F.ok sc_m_is_uncertain (fun vs H Q E h => spV2.len h) (fun cdv A outer s H vs Q E hr h => ?_)
  obtain ⟨a, f, n, r, rfl, I, G, _, k⟩ := h
  obtain ⟨dx, l, h1, _⟩ := id I
  refine ⟨_, (pss_one (ps_ret (pe_chain op_lt op_le (C8.pe_mt m_lower_bound hr (by decide) (pv 0) (pa_cons (pv 1) pa_nil)) (pv 2) (C8.pe_mt m_upper_bound hr (by decide) (pv 0) (pa_cons (pv 1) pa_nil))))), ?_⟩
  refine ⟨_, rfl, a, _, _, rfl, h1, lkn (by decide +kernel) _ _, _, rfl, a, f, n, rfl, I, G, True.intro, fun H1 s1 => ⟨_, rfl, _, _, rfl, rfl, _, rfl, ?_⟩⟩
  have g1 := s1 _ _ h1
  refine iteB (fun c => ?_) (fun c => ?_)
  · have c := of_decide_eq_true c
    refine ⟨_, rfl, a, _, _, rfl, g1, lkn (by decide +kernel) _ _, _, rfl, a, f, n, rfl, I.same s1, G, True.intro, fun H2 s2 => ⟨_, _, rfl, rfl, ?_⟩⟩
    refine qb ?_ (k H2 (s1.trans s2))
    unfold isUnc Km563.isSafe
    rw [decide_eq_false (by omega : ¬ r ≤ Km563.lowerBound f n)]
    exact decide_eq_decide.mpr Int.ofNat_le
  · have c := of_decide_eq_false c
    refine qb ?_ (k H1 s1)
    unfold isUnc Km563.isSafe
    rw [decide_eq_true (by omega : r ≤ Km563.lowerBound f n)]
    rfl
theorem filter_more (p : Nat → Bool) (i : Nat) : (List.range (i + 1)).filter p = (List.range i).filter p ++ (if p i = true then [i] else []) := by
  rw [range_more, List.filter_append, List.filter_cons]
  rfl
theorem filter_le (p : Nat → Bool) (i : Nat) : ((List.range i).filter p).length ≤ i := by
  have := List.length_filter_le p (List.range i)
  rwa [List.length_range] at this
abbrev s_m_safe_cells : Stmt := inClass (top 2) 19
theorem sc_m_safe_cells : FnScope ["self", "required", "cell"] ["self", "required"] (defScope s_m_safe_cells) := ⟨rfl, rfl, rfl, by decide +kernel, rfl, by decide +kernel, by decide +kernel⟩
theorem ok_m_safe_cells {P : Program} {w : World} {K : PySem.W.Frag} {mg : Str → Option Value} {base : Heap} {C f : Addr} {fd : FuncData} (F : Fun K "safe_cells" "Ice.safe_cells" s_m_safe_cells f fd) (T : Txt K mg C) (m_cell_count : C8.Met P w K mg base 1 C "cell_count" (sp_m_cell_count K C) []) (m_is_safe : C8.Met P w K mg base 3 C "is_safe" (sp_m_is_safe K C) []) :
    FnOk P w K mg base CX0 4 f fd ["self", "required"] (sp_m_safe_cells K C) := by
  refine F.ok sc_m_safe_cells (fun vs H Q E h => spL1.len h) (fun cdv A outer s H vs Q E hr h => ?_)
  obtain ⟨a, f, r, rfl, I, G, k⟩ := h
  obtain ⟨dx, l, h1, _⟩ := id I
  have hn := G.count
  refine ⟨_, (pss_one (ps_ret (pe_lc (own := [("cell", 2)]) (g := (gName 2)) (by rfl) sc_m_safe_cells.nd (pi_range1 rfl T.range (pa_cons (C8.pe_mt0 m_cell_count hr (by decide) (pv 0)) pa_nil)) (blkOk_by (own := [("cell", 2)]) (N := ["self", "required", "cell"]) (sc := defScope s_m_safe_cells) (by decide +kernel)) (fun _ _ _ _ _ => (pg_name (i := 2) sc_m_safe_cells.nd rfl (Or.inl rfl))) (fun _ _ _ _ _ => (pts_one (pt_val (C8.pe_mt m_is_safe hr (by decide) (pv 0) (pa_cons (pv 2) (pa_cons (pv 1) pa_nil)))))) (fun _ _ _ _ _ => (pv 2))))), ?_⟩
  refine ⟨_, rfl, a, _, _, rfl, h1, lkn (by decide +kernel) _ _, a, f, rfl, I, G, fun H1 s1 => ⟨_, rfl, by omega, by omega, fun D hD => ?_⟩⟩
  refine lc_range (lo := 0) (n := ((Km563.cellCount f : Nat) : Int).toNat) (fun i H' => Same H1 H' ∧ H' D = some (.lst (((List.range i).filter fun n => Km563.isSafe f r n).map iv))) ⟨Same.new hD, upd_same⟩ ?_ ?_
  · rintro i H' hi ⟨s2, d2⟩
    rw [Int.toNat_natCast] at hi
    have g1 := s2 _ _ (s1 _ _ h1)
    have hle := filter_le (fun n => Km563.isSafe f r n) i
    refine ⟨rfl, ?_⟩
    refine ⟨_, rfl, a, _, _, rfl, g1, lkn (by decide +kernel) _ _, _, rfl, _, rfl, a, f, i, r, congrArg (fun v => [V.ref a, v, V.int r]) (zi i), I.same (s1.trans s2), G, True.intro, fun H3 s3 => ⟨_, rfl, ?_⟩⟩
    refine iteB (fun c => ?_) (fun c => ?_)
    · have c : Km563.isSafe f r i = true := c
      refine ⟨_, rfl, _, s3 _ _ d2, szl (by rw [List.length_map]; omega), Same.mut (s2.trans s3) hD, upd_same.trans ?_⟩
      rw [filter_more, if_pos c, List.map_append]
      show some (HO.lst (_ ++ [V.int (0 + (i : Int))])) = _
      rw [zi]
      rfl
    · have c : Km563.isSafe f r i = false := c
      refine ⟨s2.trans s3, (s3 _ _ d2).trans ?_⟩
      rw [filter_more, if_neg (by rw [c]; decide), List.append_nil]
  · rintro H' ⟨s2, d2⟩
    rw [Int.toNat_natCast] at d2
    exact k H' D (s1.trans s2) (s1.free hD) d2
abbrev s_m_uncertain_cells : Stmt := inClass (top 2) 20
theorem sc_m_uncertain_cells : FnScope ["self", "required", "cell"] ["self", "required"] (defScope s_m_uncertain_cells) := ⟨rfl, rfl, rfl, by decide +kernel, rfl, by decide +kernel, by decide +kernel⟩
theorem ok_m_uncertain_cells {P : Program} {w : World} {K : PySem.W.Frag} {mg : Str → Option Value} {base : Heap} {C f : Addr} {fd : FuncData} (F : Fun K "uncertain_cells" "Ice.uncertain_cells" s_m_uncertain_cells f fd) (T : Txt K mg C) (m_cell_count : C8.Met P w K mg base 1 C "cell_count" (sp_m_cell_count K C) []) (m_is_uncertain : C8.Met P w K mg base 3 C "is_uncertain" (sp_m_is_uncertain K C) []) :
    FnOk P w K mg base CX0 4 f fd ["self", "required"] (sp_m_uncertain_cells K C) := by
  refine F.ok sc_m_uncertain_cells (fun vs H Q E h => spL1.len h) (fun cdv A outer s H vs Q E hr h => ?_)
  obtain ⟨a, f, r, rfl, I, G, k⟩ := h
  obtain ⟨dx, l, h1, _⟩ := id I
  have hn := G.count
  refine ⟨_, (pss_one (ps_ret (pe_lc (own := [("cell", 2)]) (g := (gName 2)) (by rfl) sc_m_uncertain_cells.nd (pi_range1 rfl T.range (pa_cons (C8.pe_mt0 m_cell_count hr (by decide) (pv 0)) pa_nil)) (blkOk_by (own := [("cell", 2)]) (N := ["self", "required", "cell"]) (sc := defScope s_m_uncertain_cells) (by decide +kernel)) (fun _ _ _ _ _ => (pg_name (i := 2) sc_m_uncertain_cells.nd rfl (Or.inl rfl))) (fun _ _ _ _ _ => (pts_one (pt_val (C8.pe_mt m_is_uncertain hr (by decide) (pv 0) (pa_cons (pv 2) (pa_cons (pv 1) pa_nil)))))) (fun _ _ _ _ _ => (pv 2))))), ?_⟩
  refine ⟨_, rfl, a, _, _, rfl, h1, lkn (by decide +kernel) _ _, a, f, rfl, I, G, fun H1 s1 => ⟨_, rfl, by omega, by omega, fun D hD => ?_⟩⟩
  refine lc_range (lo := 0) (n := ((Km563.cellCount f : Nat) : Int).toNat) (fun i H' => Same H1 H' ∧ H' D = some (.lst (((List.range i).filter fun n => isUnc f r n).map iv))) ⟨Same.new hD, upd_same⟩ ?_ ?_
  · rintro i H' hi ⟨s2, d2⟩
    rw [Int.toNat_natCast] at hi
    have g1 := s2 _ _ (s1 _ _ h1)
    have hle := filter_le (fun n => isUnc f r n) i
    refine ⟨rfl, ?_⟩
    refine ⟨_, rfl, a, _, _, rfl, g1, lkn (by decide +kernel) _ _, _, rfl, _, rfl, a, f, i, r, congrArg (fun v => [V.ref a, v, V.int r]) (zi i), I.same (s1.trans s2), G, True.intro, fun H3 s3 => ⟨_, rfl, ?_⟩⟩
    refine iteB (fun c => ?_) (fun c => ?_)
    · have c : isUnc f r i = true := c
      refine ⟨_, rfl, _, s3 _ _ d2, szl (by rw [List.length_map]; omega), Same.mut (s2.trans s3) hD, upd_same.trans ?_⟩
      rw [filter_more, if_pos c, List.map_append]
      show some (HO.lst (_ ++ [V.int (0 + (i : Int))])) = _
      rw [zi]
      rfl
    · have c : isUnc f r i = false := c
      refine ⟨s2.trans s3, (s3 _ _ d2).trans ?_⟩
      rw [filter_more, if_neg (by rw [c]; decide), List.append_nil]
  · rintro H' ⟨s2, d2⟩
    rw [Int.toNat_natCast] at d2
    exact k H' D (s1.trans s2) (s1.free hD) d2
end Ib

/-! ### part D6 -/
set_option Elab.async false
set_option linter.all false
set_option maxRecDepth 100000
set_option maxHeartbeats 2000000
namespace Ib
open PySem PySem.Spec PyProof.Rows L2
open Km563 (IceField)
theorem inV_nat {q : Nat} {xs : List Nat} : inV (V.int q) (xs.map iv) = decide (q ∈ xs) := by
  unfold inV
  rw [List.any_map, Bool.eq_iff_iff, List.any_eq_true, decide_eq_true_eq]
  constructor
  · rintro ⟨x, hx, e⟩
    have e : ((x : Int) == (q : Int)) = true := e
    have e2 : x = q := by
      rw [beq_iff_eq] at e
      omega
    rw [← e2]
    exact hx
  · intro h
    exact ⟨q, h, beq_self_eq_true (q : Int)⟩
theorem flat_nat (xs : List Nat) : (xs.map iv).all flatV = true := by
  rw [List.all_eq_true]
  intro x hx
  obtain ⟨n, _, rfl⟩ := List.mem_map.mp hx
  rfl
theorem valV_look : ∀ (d : Dist) (q : Nat), valV (dV d) (Sum.inl (q : Int) : Key) = (look d q).map iv
  | [], q => rfl
  | (p, v) :: r, q => by
    have ih := valV_look r q
    unfold look at ih ⊢
    by_cases e : q = p
    · subst e
      have e1 : valV (dV ((q, v) :: r)) (Sum.inl (q : Int) : Key) = some (V.int v) := valV_pos rfl
      rw [e1]
      simp [List.lookup, iv]
    · have e' : (q == p) = false := by simpa using e
      have e2 : valV (dV ((p, v) :: r)) (Sum.inl (q : Int) : Key) = valV (dV r) (Sum.inl (q : Int) : Key) := by
        unfold valV dV
        rw [List.map_cons, List.find?_cons]
        have : decide ((Sum.inl (p : Int) : Key) = Sum.inl (q : Int)) = false := decide_eq_false fun z => e (by have := Sum.inl.inj z; omega)
        rw [this]
      rw [e2, ih]
      simp only [List.lookup, e']
theorem putV_look {d : Dist} {q v : Nat} (h : look d q = none) : putK (dV d) (Sum.inl (q : Int) : Key) (V.int v) = dV (d ++ [(q, v)]) := by
  rw [putK_new _ (by rw [valV_look, h]; rfl)]
  unfold dV
  rw [List.map_append]
  rfl
/-- the dict and the list stay small -/
theorem Seen.small {f : IceField} {safe : Nat → Bool} {d0 : Dist} {j : Nat} {S : List Nat} {st : Dist × List Nat} (h : Seen safe d0 j S st) (hd : ∀ p v, look d0 p = some v → p < Km563.cellCount f) (hS : ∀ q ∈ S, q < Km563.cellCount f) :
    st.1.length ≤ Km563.cellCount f ∧ st.2.length ≤ Km563.cellCount f := by
  have h1 := nodup_len (Km563.cellCount f) _ h.nd fun x hx => by
    cases e : look d0 x with
    | some v => exact hd x v e
    | none =>
      have e2 := h.at_ x
      rw [e] at e2
      have e2 : look st.1 x = (if safe x = true ∧ x ∈ S then some (j + 1) else none) := e2
      by_cases c : safe x = true ∧ x ∈ S
      · exact hS x c.2
      · rw [if_neg c] at e2
        exact absurd hx (look_none.mp e2)
  rw [List.length_map] at h1
  have h2 := h.len
  exact ⟨h1, by omega⟩
/-- what the search holds in the heap -/
structure Bf (H0 H : Hp) (ps pd pr : Addr) (sf : List Nat) (st : Dist × List Nat) : Prop where
  same : Same H0 H
  d : H pd = some (.dK (dV st.1))
  r : H pr = some (.lst (st.2.map iv))
abbrev s_m_steps_over_safe_cells : Stmt := inClass (top 2) 21
theorem sc_m_steps_over_safe_cells : FnScope ["self", "required", "origin", "safe", "steps", "outermost", "reached", "cell", "neighbour"] ["self", "required", "origin"] (defScope s_m_steps_over_safe_cells) := ⟨rfl, rfl, rfl, by decide +kernel, rfl, by decide +kernel, by decide +kernel⟩
theorem ok_m_steps_over_safe_cells {P : Program} {w : World} {K : PySem.W.Frag} {mg : Str → Option Value} {base : Heap} {C f : Addr} {fd : FuncData} (F : Fun K "steps_over_safe_cells" "Ice.steps_over_safe_cells" s_m_steps_over_safe_cells f fd) (T : Txt K mg C) (m_neighbours : C8.Met P w K mg base 2 C "neighbours" (sp_m_neighbours K C) []) (m_safe_cells : C8.Met P w K mg base 4 C "safe_cells" (sp_m_safe_cells K C) []) :
    FnOk P w K mg base CX0 5 f fd ["self", "required", "origin"] (sp_m_steps_over_safe_cells K C) := by
  refine F.ok sc_m_steps_over_safe_cells (fun vs H Q E h => ?_) (fun cdv A outer s H vs Q E hr h => ?_)
  · obtain ⟨_, _, _, _, rfl, _⟩ := h
    rfl
  obtain ⟨a, f, r, o, rfl, I, G, ho, k⟩ := h
  obtain ⟨dx, l, h1, _⟩ := id I
  have hu := hu_of hr
  have hn := G.count
  refine ⟨_, (pss_cons (ps_set (i := 3) sc_m_steps_over_safe_cells.nd rfl (Or.inl rfl) (C8.pe_mt m_safe_cells hr (by decide) (pv 0) (pa_cons (pv 1) pa_nil)))
    (pss_cons (ps_if (pt_cmpR op_notIn_seq (pv 2) (pv 3) (by rfl)) (pss_one (ps_ret pe_dnewK)) pss_nil)
    (pss_cons (ps_set (i := 4) sc_m_steps_over_safe_cells.nd rfl (Or.inl rfl) (pe_disp (pps_cons (pv 2) pe_int pps_nil) (by rfl) (by rfl) (fun z => by cases z) (by decide)))
    (pss_cons (ps_set (i := 5) sc_m_steps_over_safe_cells.nd rfl (Or.inl rfl) (pe_lst (pa_cons (pv 2) pa_nil)))
    (pss_cons (ps_while PassesOwn.never (pt_truth (pv 5) (by intro _; rfl)) (pss_cons (ps_set (i := 6) sc_m_steps_over_safe_cells.nd rfl (Or.inl rfl) (pe_lst (pa_nil)))
      (pss_cons (ps_for PassesOwn.never rfl (pi_list (pv 5)) (pg_name (i := 7) sc_m_steps_over_safe_cells.nd rfl (Or.inl rfl)) (pss_one (ps_for PassesOwn.never rfl (pi_list (C8.pe_mt m_neighbours hr (by decide) (pv 0) (pa_cons (pv 7) pa_nil))) (pg_name (i := 8) sc_m_steps_over_safe_cells.nd rfl (Or.inl rfl)) (pss_one (ps_if (PW.pt (pw_and (pt_cmpR op_in_seq (pv 8) (pv 3) (by rfl)) (pw_and1 (pt_cmp (pc_dnotin hu (pv 8) (pv 4)))))) (pss_cons (ps_dput hu (pv 4) (pv 8) (pe_op op_add (pe_dget hu (pv 4) (pv 7) (fun _ _ => rfl)) pe_int) rfl)
            (pss_one (ps_expr (pe_bm PySem.F.plainAttrs_list PySem.F.slot_list_append PySem.F.type_list_append mt_append (pv 6) (pa_cons (pv 8) pa_nil))))) pss_nil)))))
      (pss_one (ps_set (i := 5) sc_m_steps_over_safe_cells.nd rfl (Or.inl rfl) (pv 6))))))
    (pss_one (ps_ret (pv 4)))))))), ?_⟩
  refine ⟨_, rfl, a, _, _, rfl, h1, lkn (by decide +kernel) _ _, _, rfl, a, f, r, rfl, I, G, fun H1 ps s1 hps e1 => ?_⟩
  have hsafe : ∀ q, q < Km563.cellCount f → decide (q ∈ (List.range (Km563.cellCount f)).filter fun n => Km563.isSafe f r n) = Km563.isSafe f r q := fun q hq => by
    rw [Bool.eq_iff_iff, decide_eq_true_eq, List.mem_filter, List.mem_range]
    exact ⟨fun z => z.2, fun z => ⟨hq, z⟩⟩
  refine ⟨_, rfl, _, rfl, ps, _, rfl, .inl (SqL.of e1), rfl, flat_nat _, _, rfl, ?_⟩
  show if (!inV (V.int (o : Int)) _) = true then _ else _
  rw [inV_nat, hsafe o ho]
  refine iteB (fun c => ?_) (fun c => ?_)
  · -- the origin is not safe
    exact fun d hd => k _ d [] (s1.trans (Same.new hd)) (s1.free hd) upd_same (lay_found G (lay_none (not_t c)))
  have hs : Km563.isSafe f r o = true := not_f c
  -- steps = {origin: 0}
  refine fun pd hpd => ⟨_, rfl, upd_same, [(Sum.inl (o : Int), V.int 0)], rfl, (by show 1 ≤ 15; decide), ?_⟩
  -- outermost = [origin]
  refine ⟨_, rfl, sz (by show 1 ≤ 100000; decide), fun po hpo => ?_⟩
  have hpd' : H1 pd = none := hpd
  have npo : po ≠ pd := fun z => by
    rw [z, upd_same] at hpo
    cases hpo
  have hpo1 : H1 po = none := by
    rw [upd_ne npo, upd_ne npo] at hpo
    exact hpo
  -- while outermost
  refine ⟨fun m σ H' => ∃ (j : Nat) (d : Dist) (out : List Nat) (p1 : Addr) (v6 v7 v8 : Option V), σ = [some (.ref a), some (.int r), some (.int o), some (.ref ps), some (.ref pd), some (.ref p1), v6, v7, v8] ∧
    Same H1 H' ∧ H' pd = some (.dK (dV d)) ∧ H' p1 = some (.lst (out.map iv)) ∧ Lay f r o j d out ∧ m = Km563.cellCount f + 1 - j,
    ⟨_, 0, [(o, 0)], [o], po, none, none, none, rfl, ?_, ?_, upd_same, lay_start ho hs, rfl⟩, ?_⟩
  · exact Same.mut (Same.mut (Same.new hpd) hpd) hpo1
  · rw [upd_ne npo.symm, upd_same]
    rfl
  rintro m σ H' ⟨j, d, out, p1, v6, v7, v8, rfl, s2, ed, eo, L, rfl⟩
  refine ⟨_, rfl, _, .inl ⟨_, SqL.of eo, rfl⟩, ?_⟩
  refine iteB (fun c => ?_) (fun c => ?_)
  · have ne : out ≠ [] := fun z => by
      rw [z] at c
      cases c
    have hlen := L.len.2 ne
    have hk := L.keys
    refine ⟨fun σ' H3 => ∃ (p2 : Addr) (v6 v7 v8 : Option V), σ' = [some (.ref a), some (.int r), some (.int o), some (.ref ps), some (.ref pd), some (.ref p2), v6, v7, v8] ∧
      Same H1 H3 ∧ H3 pd = some (.dK (dV (layer f (Km563.isSafe f r) d out).1)) ∧ H3 p2 = some (.lst ((layer f (Km563.isSafe f r) d out).2.map iv)), ?_, ?_⟩
    · rintro σ' H3 ⟨p2, v6, v7, v8, rfl, s3, ed3, eo3⟩
      exact ⟨_, (by omega), j + 1, _, _, p2, v6, v7, v8, rfl, s3, ed3, eo3, lay_next G L ne, rfl⟩
    -- reached = []
    refine ⟨Nat.zero_le _, fun pr hpr => ?_⟩
    have npr : p1 ≠ pr := ne_of_none eo hpr
    have ndr : pd ≠ pr := ne_of_none ed hpr
    have hpr1 : H1 pr = none := s2.free hpr
    -- for cell in outermost
    refine ⟨_, rfl, p1, rfl, ⟨_, SqL.of ((upd_ne npr).trans eo)⟩, for_list (K := K) (a := p1) (xs := out.map iv)
      (fun i σ H3 => (∃ v7 v8, σ = [some (.ref a), some (.int r), some (.int o), some (.ref ps), some (.ref pd), some (.ref p1), some (.ref pr), v7, v8]) ∧ H3 p1 = some (.lst (out.map iv)) ∧
        Bf H1 H3 ps pd pr [] ((out.take i).foldl (visitCell f (Km563.isSafe f r)) (d, [])))
      ⟨⟨_, _, rfl⟩, (upd_ne npr).trans eo, ⟨Same.mut s2 hpr1, (upd_ne ndr).trans ed, upd_same⟩⟩ (fun i σ H3 _ ⟨_, q, _⟩ => SqL.of q) ?_ ?_⟩
    · rintro i x σ H3 hx ⟨⟨w7, w8, rfl⟩, eo3, B⟩
      obtain ⟨cc, hc, rfl⟩ := int_get hx
      have hcm : cc ∈ out := List.mem_of_getElem? hc
      have hcj : look d cc = some j := (L.out cc).mp hcm
      have hcl : cc < Km563.cellCount f := (L.lt cc j hcj).1
      have S0 := Seen.cells (f := f) (safe := Km563.isSafe f r) (out.take i) [] (d, []) (fun c hc => (L.out c).mp (List.mem_of_mem_take hc)) (Seen.start L.nd)
      rw [List.nil_append] at S0
      generalize hst : (out.take i).foldl (visitCell f (Km563.isSafe f r)) (d, []) = st at B S0
      have hSl : ∀ q ∈ (out.take i).flatMap (Km563.neighbours f), q < Km563.cellCount f := fun q hq => by
        obtain ⟨c, hc, h⟩ := List.mem_flatMap.mp hq
        exact nb_lt G (L.lt c j ((L.out c).mp (List.mem_of_mem_take hc))).1 h
      have g3 := B.same _ _ (s1 _ _ h1)
      -- for neighbour in self.neighbours(cell)
      refine ⟨_, rfl, a, _, _, rfl, g3, lkn (by decide +kernel) _ _, _, rfl, a, f, cc, rfl, I.same (s1.trans B.same), G, fun H4 pn s4 hpn e4 => ?_⟩
      have nnr : pn ≠ pr := fun z => by
        rw [z, B.r] at hpn
        cases hpn
      have nnd : pn ≠ pd := fun z => by
        rw [z, B.d] at hpn
        cases hpn
      refine ⟨pn, rfl, ⟨_, SqL.of e4⟩, for_list (K := K) (a := pn) (xs := (Km563.neighbours f cc).map iv)
        (fun i σ H5 => (∃ v8, σ = [some (.ref a), some (.int r), some (.int o), some (.ref ps), some (.ref pd), some (.ref p1), some (.ref pr), some (.int cc), v8]) ∧ H5 p1 = some (.lst (out.map iv)) ∧ H5 pn = some (.lst ((Km563.neighbours f cc).map iv)) ∧
          Bf H1 H5 ps pd pr [] (((Km563.neighbours f cc).take i).foldl (visit (Km563.isSafe f r) cc) st))
        ⟨⟨_, rfl⟩, s4 _ _ eo3, e4, ⟨B.same.trans s4, s4 _ _ B.d, s4 _ _ B.r⟩⟩ (fun i σ H5 _ ⟨_, _, q, _⟩ => SqL.of q) ?_ ?_⟩
      · rintro y x σ H5 hx ⟨⟨w8, rfl⟩, eo5, en5, B5⟩
        obtain ⟨q, hq, rfl⟩ := int_get hx
        have hql : q < Km563.cellCount f := nb_lt G hcl (List.mem_of_getElem? hq)
        have S1 := S0.list hcj ((Km563.neighbours f cc).take y)
        have sm := S1.small (f := f) (fun p v e => (L.lt p v e).1) fun q hq => by
          rcases List.mem_append.mp hq with z | z
          · exact hSl q z
          · exact nb_lt G hcl (List.mem_of_mem_take z)
        have step : ((Km563.neighbours f cc).take (y + 1)).foldl (visit (Km563.isSafe f r) cc) st = visit (Km563.isSafe f r) cc (((Km563.neighbours f cc).take y).foldl (visit (Km563.isSafe f r) cc) st) q := fold_more _ _ hq
        rw [step]
        generalize ((Km563.neighbours f cc).take y).foldl (visit (Km563.isSafe f r) cc) st = st1 at B5 S1 sm
        have old : look st1.1 cc = some j := S1.old hcj
        refine ⟨_, rfl, _, rfl, ps, _, rfl, .inl (SqL.of (B5.same _ _ e1)), rfl, flat_nat _, _, rfl, ?_⟩
        show if (inV (V.int (q : Int)) _) = true then _ else _
        rw [inV_nat, hsafe q hql]
        refine iteB (fun c1 => ?_) (fun c1 => ?_)
        · refine ⟨_, rfl, _, rfl, pd, _, rfl, DGet.k (k := Sum.inl (q : Int)) B5.d, _, rfl, ?_⟩
          rw [valV_look]
          cases e : look st1.1 q with
          | some v =>
            refine iteF ?_
            have ev : visit (Km563.isSafe f r) cc st1 q = st1 := by
              unfold visit
              rw [e]
              simp
            rw [ev]
            exact ⟨⟨_, rfl⟩, eo5, en5, B5⟩
          | none =>
            refine iteT ?_
            have ev : visit (Km563.isSafe f r) cc st1 q = (st1.1 ++ [(q, j + 1)], st1.2 ++ [q]) := by
              unfold visit
              rw [if_pos ⟨c1, e⟩, old]
              rfl
            rw [ev]
            have gd : DGet H5 pd (kV (Sum.inl (cc : Int))) (some (V.int j)) := by
              have z := DGet.k (k := Sum.inl (cc : Int)) B5.d
              rw [valV_look, old] at z
              exact z
            refine ⟨_, rfl, _, rfl, pd, _, rfl, gd, _, _, rfl, rfl, _, rfl, _, rfl, pd, _, rfl, DPut.k (k := Sum.inl (q : Int)) B5.d (szl (by unfold dV; rw [List.length_map]; omega)), ?_⟩
            have er : (upd H5 pd (.dK (putK (dV st1.1) (Sum.inl (q : Int) : Key) (V.int ((j : Int) + 1))))) pr = some (.lst (st1.2.map iv)) := (upd_ne ndr.symm).trans B5.r
            refine ⟨_, rfl, .inl ⟨rfl, _, SqL.of er⟩, _, rfl, pr, _, _, rfl, rfl, er, szl (by rw [List.length_map]; omega), ?_⟩
            refine ⟨⟨_, rfl⟩, ?_, ?_, ⟨Same.mut (Same.mut B5.same hpd') hpr1, ?_, ?_⟩⟩
            · rw [upd_ne npr, upd_ne (ne_of eo5 B5.d (by intro z; cases z))]
              exact eo5
            · rw [upd_ne nnr, upd_ne nnd]
              exact en5
            · rw [upd_ne ndr, upd_same]
              exact congrArg (fun q => some (HO.dK q)) (putV_look (v := j + 1) e)
            · rw [upd_same, List.map_append]
              rfl
        · have ev : visit (Km563.isSafe f r) cc st1 q = st1 := by
            unfold visit
            rw [c1]
            simp
          rw [ev]
          refine iteF ?_
          exact ⟨⟨_, rfl⟩, eo5, en5, B5⟩
      · rintro σ H5 ⟨⟨w8, rfl⟩, eo5, en5, B5⟩
        rw [List.length_map, List.take_length] at B5
        have step : (out.take (i + 1)).foldl (visitCell f (Km563.isSafe f r)) (d, []) = visitCell f (Km563.isSafe f r) ((out.take i).foldl (visitCell f (Km563.isSafe f r)) (d, [])) cc := fold_more _ _ hc
        refine ⟨⟨_, _, rfl⟩, eo5, ?_⟩
        rw [step, hst]
        exact B5
    · rintro σ H3 ⟨⟨w7, w8, rfl⟩, eo3, B⟩
      rw [List.length_map, List.take_length] at B
      exact ⟨_, rfl, pr, _, _, _, rfl, B.same, B.d, B.r⟩
  · have e : out = [] := by
      cases out with
      | nil => rfl
      | cons x xs => cases c
    subst e
    exact ⟨_, rfl, k H' pd d (s1.trans s2) (s1.free hpd') ed (lay_found G L)⟩
end Ib

/-! ### part D7 -/
set_option Elab.async false
set_option linter.all false
set_option maxRecDepth 100000
set_option maxHeartbeats 2000000
namespace Ib
open PySem PySem.Spec PyProof.Rows L2
open Km563 (IceField)
theorem nb_len (f : IceField) (c : Nat) : (Km563.neighbours f c).length ≤ 4 := by
  unfold Km563.neighbours
  have e1 : (if f.columns ≤ c then [c - f.columns] else []).length ≤ 1 := by split <;> simp
  have e2 : (if c % f.columns = 0 then [] else [c - 1]).length ≤ 1 := by split <;> simp
  have e3 : (if c % f.columns + 1 = f.columns then [] else [c + 1]).length ≤ 1 := by split <;> simp
  have e4 : (if c + f.columns < Km563.cellCount f then [c + f.columns] else []).length ≤ 1 := by split <;> simp
  rw [List.length_append, List.length_append, List.length_append]
  omega
abbrev s_m_safe_route : Stmt := inClass (top 2) 22
theorem sc_m_safe_route : FnScope ["self", "required", "origin", "target", "steps", "backwards", "cell", "nearer", "near"] ["self", "required", "origin", "target"] (defScope s_m_safe_route) := ⟨rfl, rfl, rfl, by decide +kernel, rfl, by decide +kernel, by decide +kernel⟩
theorem ok_m_safe_route {P : Program} {w : World} {K : PySem.W.Frag} {mg : Str → Option Value} {base : Heap} {C f : Addr} {fd : FuncData} (F : Fun K "safe_route" "Ice.safe_route" s_m_safe_route f fd) (T : Txt K mg C) (m_neighbours : C8.Met P w K mg base 2 C "neighbours" (sp_m_neighbours K C) []) (m_steps_over_safe_cells : C8.Met P w K mg base 5 C "steps_over_safe_cells" (sp_m_steps_over_safe_cells K C) []) :
    FnOk P w K mg base CX0 6 f fd ["self", "required", "origin", "target"] (sp_m_safe_route K C) := by
  refine F.ok sc_m_safe_route (fun vs H Q E h => ?_) (fun cdv A outer s H vs Q E hr h => ?_)
  · obtain ⟨_, _, _, _, _, rfl, _⟩ := h
    rfl
  obtain ⟨a, f, r, o, t, rfl, I, G, ho, ht, k⟩ := h
  obtain ⟨dx, l, h1, _⟩ := id I
  have hu := hu_of hr
  have hn := G.count
  refine ⟨_, (pss_cons (ps_set (i := 4) sc_m_safe_route.nd rfl (Or.inr rfl) (C8.pe_mt m_steps_over_safe_cells hr (by decide) (pv 0) (pa_cons (pv 1) (pa_cons (pv 2) pa_nil))))
    (pss_cons (ps_if (pt_cmp (pc_dnotin hu (pv 3) (pv 4))) (pss_one (ps_ret (pe_lst (pa_nil)))) pss_nil)
    (pss_cons (ps_set (i := 5) sc_m_safe_route.nd rfl (Or.inl rfl) (pe_lst (pa_cons (pv 3) pa_nil)))
    (pss_cons (ps_set (i := 6) sc_m_safe_route.nd rfl (Or.inr rfl) (pv 3))
    (pss_cons (ps_while PassesOwn.never (pt_cmpR op_ne (pv 6) (pv 2) (nomark _)) (pss_cons (ps_setLc (i := 7) (own := [("near", 8)]) (g := (gName 8)) (by rfl) sc_m_safe_route.nd rfl rfl (sw_true rfl rfl rfl (by decide +kernel)) (pi_list (C8.pe_mt m_neighbours hr (by decide) (pv 0) (pa_cons (pv 6) pa_nil))) (blkOk_by (own := [("near", 8)]) (N := ["self", "required", "origin", "target", "steps", "backwards", "cell", "nearer", "near"]) (sc := defScope s_m_safe_route) (by decide +kernel)) (fun _ _ _ _ _ => (pg_name (i := 8) sc_m_safe_route.nd rfl (Or.inl rfl))) (fun _ _ _ _ _ => (pts_one (pt_cmpR op_eq (pe_dget1 hu (pv 4) (pv 8) ⟨rfl, by rfl, by rfl, by rfl⟩) (pe_op op_sub (pe_dget hu (pv 4) (pv 6) (fun _ _ => rfl)) pe_int) (nomark _)))) (fun _ _ _ _ _ => (pv 8)))
      (pss_cons (ps_set (i := 6) sc_m_safe_route.nd rfl (Or.inr rfl) (pe_ix ix_list (pv 7) pe_int (fun _ _ => rfl)))
      (pss_one (ps_expr (pe_bm PySem.F.plainAttrs_list PySem.F.slot_list_append PySem.F.type_list_append mt_append (pv 5) (pa_cons (pv 6) pa_nil)))))))
    (pss_one (ps_ret (pe_lstRev (by rfl) (by rfl) T.list (by rfl) T.reversed (pv 5))))))))), ?_⟩
  refine ⟨_, rfl, a, _, _, rfl, h1, lkn (by decide +kernel) _ _, _, rfl, _, rfl, a, f, r, o, rfl, I, G, ho, fun H1 pd d s1 hpd ed D => ?_⟩
  refine ⟨_, rfl, _, rfl, pd, _, rfl, DGet.k (k := Sum.inl (t : Int)) ed, _, rfl, ?_⟩
  rw [valV_look]
  cases et : look d t with
  | none =>
    refine iteT ?_
    refine ⟨Nat.zero_le _, fun p hp => k _ p (s1.trans (Same.new hp)) (s1.free hp) (upd_same.trans ?_)⟩
    unfold route
    rw [route_none D ht et]
    rfl
  | some v0 =>
  refine iteF ?_
  refine ⟨_, rfl, sz (by show 1 ≤ 100000; decide), fun pb hpb => ?_⟩
  have ndb : pd ≠ pb := ne_of_none ed hpb
  have hv0 := (D.lt t v0 et).2.2
  refine ⟨_, rfl, ?_⟩
  refine ⟨fun m σ H' => ∃ (c : Nat) (rt : List Nat) (fuel : Nat) (v7 v8 : Option V), σ = [some (.ref a), some (.int r), some (.int o), some (.int t), some (.ref pd), some (.ref pb), some (.int c), v7, v8] ∧ Same H1 H' ∧
    H' pb = some (.lst (((c :: rt).reverse).map iv)) ∧ look d c = some m ∧ m ≤ fuel ∧ rt.length + m ≤ Km563.cellCount f ∧ Km563.traceBack f (Km563.safeDistances f r o) fuel c rt = Km563.traceBack f (Km563.safeDistances f r o) (Km563.cellCount f) t [],
    ⟨v0, t, [], Km563.cellCount f, none, none, rfl, Same.new hpb, upd_same, et, hv0, (by simpa using hv0), rfl⟩, ?_⟩
  rintro m σ H' ⟨c, rt, fuel, v7, v8, rfl, s2, eb, ec, hf, hrl, tr⟩
  have ed2 := s2 _ _ ed
  refine ⟨_, rfl, _, rfl, rfl, _, rfl, ?_⟩
  rw [dint]
  refine iteB (fun q => ?_) (fun q => ?_)
  · have q : c ≠ o := by simpa using q
    obtain ⟨v, rfl⟩ : ∃ v, m = v + 1 := by
      cases m with
      | zero => exact absurd (D.zero c ec) q
      | succ v => exact ⟨v, rfl⟩
    obtain ⟨fu, rfl⟩ : ∃ fu, fuel = fu + 1 := ⟨fuel - 1, by omega⟩
    obtain ⟨x0, xr, ef, ex, _⟩ := back_step G D ec
    have g2 := s2 _ _ (s1 _ _ h1)
    refine ⟨fun σ' H3 => ∃ (v7 v8 : Option V), σ' = [some (.ref a), some (.int r), some (.int o), some (.int t), some (.ref pd), some (.ref pb), some (.int x0), v7, v8] ∧ Same H1 H3 ∧ H3 pb = some (.lst (((x0 :: c :: rt).reverse).map iv)), ?_, ?_⟩
    · rintro σ' H3 ⟨v7, v8, rfl, s3, eb3⟩
      refine ⟨v, by omega, x0, c :: rt, fu, v7, v8, rfl, s3, eb3, ex, by omega, by rw [List.length_cons]; omega, ?_⟩
      rw [← tr, trace_step G D ec ef]
    -- nearer = [..]
    refine ⟨_, rfl, a, _, _, rfl, g2, lkn (by decide +kernel) _ _, _, rfl, a, f, c, rfl, I.same (s1.trans s2), G, fun H3 pn s3 hpn en => ⟨pn, rfl, ⟨_, SqL.of en⟩, fun DD hD => ?_⟩⟩
    have s23 := s2.trans s3
    have hDb : DD ≠ pb := fun z => by
      rw [z, s3 _ _ eb] at hD
      cases hD
    refine lc_list (K := K) (a := pn) (xs := (Km563.neighbours f c).map iv) (fun i H4 => Same H3 H4 ∧ H4 DD = some (.lst ((((Km563.neighbours f c).take i).filter fun x => look d x == some v).map iv))) ⟨Same.new hD, upd_same⟩ (fun i H4 _ ⟨q, _⟩ => SqL.of (q _ _ en)) ?_ ?_
    · rintro i x H4 hx ⟨s4, e4⟩
      obtain ⟨y, hy, rfl⟩ := int_get hx
      have hi : i < (Km563.neighbours f c).length := (List.getElem?_eq_some_iff.mp hy).1
      have hl4 := nb_len f c
      have hfl : (((Km563.neighbours f c).take i).filter fun x => look d x == some v).length ≤ i := Nat.le_trans (List.length_filter_le ..) (by rw [List.length_take]; omega)
      have ed4 := s4 _ _ (s3 _ _ ed2)
      have gd : DGet H4 pd (kV (Sum.inl (c : Int))) (some (V.int ((v + 1 : Nat) : Int))) := by
        have z := DGet.k (k := Sum.inl (c : Int)) ed4
        rw [valV_look, ec] at z
        exact z
      have gy : DGet H4 pd (kV (Sum.inl (y : Int))) ((look d y).map iv) := by
        have z := DGet.k (k := Sum.inl (y : Int)) ed4
        rw [valV_look] at z
        exact z
      have ey : scal (((look d y).map iv).getD .non) (.int (((v + 1 : Nat) : Int) - 1)) = true ∧ decide ((((look d y).map iv).getD .non) = V.int (((v + 1 : Nat) : Int) - 1)) = (look d y == some v) := by
        have e : ((v + 1 : Nat) : Int) - 1 = (v : Int) := by omega
        rw [e]
        cases look d y with
        | none => exact ⟨rfl, rfl⟩
        | some w =>
          refine ⟨rfl, ?_⟩
          show decide (V.int (w : Int) = V.int (v : Int)) = _
          rw [dint]
          rfl
      refine ⟨rfl, ?_⟩
      refine ⟨_, rfl, pd, rfl, .inl ⟨_, .inl ed4⟩, _, rfl, _, gy, _, rfl, _, rfl, pd, _, rfl, gd, _, _, rfl, rfl, ey.1, _, rfl, ?_⟩
      rw [ey.2]
      refine iteB (fun q => ?_) (fun q => ?_)
      · refine ⟨_, rfl, _, e4, szl (by rw [List.length_map]; omega), Same.mut s4 hD, upd_same.trans ?_⟩
        rw [take_more hy, List.filter_append, List.filter_cons, if_pos q, List.map_append]
        rfl
      · refine ⟨s4, e4.trans ?_⟩
        rw [take_more hy, List.filter_append, List.filter_cons, if_neg (by rw [q]; decide), List.filter_nil, List.append_nil]
    · rintro H4 ⟨s4, e4⟩
      rw [List.length_map, List.take_length, ef] at e4
      -- cell = nearer[0]
      refine ⟨_, rfl, DD, _, _, _, rfl, rfl, SqL.of e4, at_of (z := 0) (j := 0) rfl rfl, ?_⟩
      have eb4 := s4 _ _ (s3 _ _ eb)
      refine ⟨_, rfl, .inl ⟨rfl, _, SqL.of eb4⟩, _, rfl, pb, _, _, rfl, rfl, eb4, szl (by simp only [List.length_map, List.length_reverse, List.length_cons]; omega), ?_⟩
      refine ⟨_, _, rfl, Same.mut (s23.trans s4) ?_, upd_same.trans ?_⟩
      · exact (show H1 pb = none from hpb)
      · rw [List.reverse_cons (a := x0), List.map_append]
        rfl
  · have q : c = o := by simpa using q
    subst q
    have dn : d ≠ [] := fun z => by
      rw [z] at ec
      cases ec
    have e0 := D.orig dn
    refine ⟨_, rfl, pb, _, rfl, SqL.of eb, fun p hp => k _ p ((s1.trans s2).trans (Same.new hp)) ((s1.trans s2).free hp) (upd_same.trans ?_)⟩
    rw [← List.map_reverse, List.reverse_reverse]
    unfold route
    rw [route_some D ht et, Option.getD_some, ← tr, trace_end D e0]
abbrev s_m_max_safe_thickness : Stmt := inClass (top 2) 23
theorem sc_m_max_safe_thickness : FnScope ["self", "origin", "target", "required"] ["self", "origin", "target"] (defScope s_m_max_safe_thickness) := ⟨rfl, rfl, rfl, by decide +kernel, rfl, by decide +kernel, by decide +kernel⟩
theorem ok_m_max_safe_thickness {P : Program} {w : World} {K : PySem.W.Frag} {mg : Str → Option Value} {base : Heap} {C f : Addr} {fd : FuncData} (F : Fun K "max_safe_thickness" "Ice.max_safe_thickness" s_m_max_safe_thickness f fd) (T : Txt K mg C) (m_safe_route : C8.Met P w K mg base 6 C "safe_route" (sp_m_safe_route K C) []) :
    FnOk P w K mg base CX0 7 f fd ["self", "origin", "target"] (sp_m_max_safe_thickness K C) := by
  refine F.ok sc_m_max_safe_thickness (fun vs H Q E h => spV2.len h) (fun cdv A outer s H vs Q E hr h => ?_)
  obtain ⟨a, f, o, t, rfl, I, G, ⟨ho, ht⟩, k⟩ := h
  obtain ⟨dx, l, h1, _⟩ := id I
  refine ⟨_, (pss_cons (ps_set (i := 3) sc_m_max_safe_thickness.nd rfl (Or.inl rfl) (pe_gi T.gMAX_THICKNESS))
    (pss_cons (ps_while PassesOwn.never (pt_not (pt_truth (C8.pe_mt m_safe_route hr (by decide) (pv 0) (pa_cons (pv 3) (pa_cons (pv 1) (pa_cons (pv 2) pa_nil)))) (by intro _; rfl))) (pss_one (ps_aug (i := 3) sc_m_max_safe_thickness.nd rfl (Or.inl rfl) pe_int ip_sub)))
    (pss_one (ps_ret (pv 3))))), ?_⟩
  refine ⟨fun m σ H' => σ = [some (.ref a), some (.int o), some (.int t), some (.int m)] ∧ Same H H' ∧ m ≤ 99 ∧ ∀ j, m < j → j ≤ 99 → route f j o t = [], ⟨99, rfl, Same.refl H, Nat.le_refl _, fun j a b => by omega⟩, ?_⟩
  rintro m σ H' ⟨rfl, s1, hm, hj⟩
  have g1 := s1 _ _ h1
  refine ⟨_, rfl, a, _, _, rfl, g1, lkn (by decide +kernel) _ _, _, rfl, _, rfl, _, rfl, a, f, m, o, t, rfl, I.same s1, G, ho, ht, fun H2 p s2 hp e2 => ⟨_, .inl ⟨_, SqL.of e2, rfl⟩, ?_⟩⟩
  have em : (!(!((route f m o t).map iv).isEmpty)) = decide (route f m o t = []) := by
    cases route f m o t <;> rfl
  show if (!(!((route f m o t).map iv).isEmpty)) = true then _ else _
  rw [em]
  refine iteB (fun c => ?_) (fun c => ?_)
  · have c := of_decide_eq_true c
    have m0 : m ≠ 0 := fun z => by
      rw [z] at c
      exact zero_route G ho ht c
    refine ⟨fun σ' H3 => σ' = [some (.ref a), some (.int o), some (.int t), some (.int ((m - 1 : Nat) : Int))] ∧ Same H H3, ?_, ?_⟩
    · rintro σ' H3 ⟨rfl, s3⟩
      refine ⟨m - 1, by omega, rfl, s3, by omega, fun j h1 h2 => ?_⟩
      by_cases e : j = m
      · rw [e]; exact c
      · exact hj j (by omega) h2
    · refine ⟨_, rfl, _, _, rfl, rfl, ?_, s1.trans s2⟩
      have e : (m : Int) - 1 = ((m - 1 : Nat) : Int) := by omega
      rw [← e]
      rfl
  · have c := of_decide_eq_false c
    refine ⟨_, rfl, qi ?_ (k H2 (s1.trans s2))⟩
    rw [max_safe G ho ht hm c hj]
end Ib

/-! ### part D8 -/
set_option Elab.async false
set_option linter.all false
set_option maxRecDepth 100000
set_option maxHeartbeats 2000000
namespace Ib
open PySem PySem.Spec PyProof.Rows L2
open Km563 (IceField)
theorem ndT {p : Prop} [Decidable p] (h : p) : false = !decide p := by
  rw [decide_eq_true h]
  rfl
theorem ndF {p : Prop} [Decidable p] (h : ¬ p) : true = !decide p := by
  rw [decide_eq_false h]
  rfl
abbrev s_f_is_creatable : Stmt := top 17
theorem sc_f_is_creatable : FnScope ["columns", "rows", "max_step"] ["columns", "rows", "max_step"] (defScope s_f_is_creatable) := ⟨rfl, rfl, rfl, by decide +kernel, rfl, by decide +kernel, by decide +kernel⟩
theorem ok_f_is_creatable {P : Program} {w : World} {K : PySem.W.Frag} {mg : Str → Option Value} {base : Heap} {C f : Addr} {fd : FuncData} (F : Fun K "is_creatable" "is_creatable" s_f_is_creatable f fd) (T : Txt K mg C)  :
    FnOk P w K mg base CX0 1 f fd ["columns", "rows", "max_step"] (sp_f_is_creatable K C) := by
  refine F.ok sc_f_is_creatable (fun vs H Q E h => ?_) (fun cdv A outer s H vs Q E hr h => ?_)
  · obtain ⟨_, _, _, rfl, _⟩ := h
    rfl
  obtain ⟨c, r, z, rfl, k⟩ := h
  have ms : Km563.maxSize = 5 := rfl
  refine ⟨_, (pss_cons (ps_if (pt_not (PW.pt (pw_and (pt_chain op_le op_le pe_int (pv 0) (pe_gi T.gMAX_SIDE)) (pw_and1 (pt_chain op_le op_le pe_int (pv 1) (pe_gi T.gMAX_SIDE)))))) (pss_one (ps_ret pe_bl)) pss_nil)
    (pss_one (ps_ret (pe_cmpR op_le (pv 2) (pe_gi T.gGREATEST_MAX_STEP) (nomark _))))), ?_⟩
  refine ⟨_, rfl, _, _, rfl, rfl, _, rfl, ?_⟩
  refine iteB (fun c1 => ?_) (fun c1 => ?_)
  · have c1 := of_decide_eq_true c1
    refine ⟨_, _, rfl, rfl, _, rfl, ?_⟩
    refine iteB (fun c2 => ?_) (fun c2 => ?_)
    · have c2 := of_decide_eq_true c2
      refine ⟨_, rfl, _, _, rfl, rfl, _, rfl, ?_⟩
      refine iteB (fun c3 => ?_) (fun c3 => ?_)
      · have c3 := of_decide_eq_true c3
        refine ⟨_, _, rfl, rfl, _, rfl, ?_⟩
        show if (!decide _) = true then _ else _
        refine iteB (fun c4 => ?_) (fun c4 => ?_)
        · have c4 := of_decide_eq_false (not_t c4)
          exact qb (ndT (by omega)) (k H (Same.refl H))
        · have c4 := of_decide_eq_true (not_f c4)
          refine ⟨_, rfl, _, _, rfl, rfl, ?_⟩
          refine qb ?_ (k H (Same.refl H))
          by_cases hz : z ≤ 20
          · rw [decide_eq_true (by omega : (z : Int) ≤ 20)]
            exact ndF (by omega)
          · rw [decide_eq_false (by omega : ¬ (z : Int) ≤ 20)]
            exact ndT (by omega)
      · have c3 := of_decide_eq_false c3
        refine ⟨_, rfl, ?_⟩
        exact qb (ndT (by omega)) (k H (Same.refl H))
    · have c2 := of_decide_eq_false c2
      exact qb (ndT (by omega)) (k H (Same.refl H))
  · have c1 := of_decide_eq_false c1
    refine ⟨_, rfl, ?_⟩
    exact qb (ndT (by omega)) (k H (Same.refl H))
abbrev s_f_refusal : Stmt := top 18
theorem sc_f_refusal : FnScope ["ice", "cells", "thickness", "cell"] ["ice", "cells", "thickness"] (defScope s_f_refusal) := ⟨rfl, rfl, rfl, by decide +kernel, rfl, by decide +kernel, by decide +kernel⟩
theorem ok_f_refusal {P : Program} {w : World} {K : PySem.W.Frag} {mg : Str → Option Value} {base : Heap} {C f : Addr} {fd : FuncData} (F : Fun K "refusal" "refusal" s_f_refusal f fd) (T : Txt K mg C) (m_has_cell : C8.Met P w K mg base 2 C "has_cell" (sp_m_has_cell K C) []) :
    FnOk P w K mg base CX0 3 f fd ["ice", "cells", "thickness"] (sp_f_refusal K C) := by
  refine F.ok sc_f_refusal (fun vs H Q E h => ?_) (fun cdv A outer s H vs Q E hr h => ?_)
  · obtain ⟨_, _, _, _, _, rfl, _⟩ := h
    rfl
  obtain ⟨a, f, b, cs, t, rfl, I, G, hS, k⟩ := h
  obtain ⟨dx, l, h1, _⟩ := id I
  refine ⟨_, (pss_cons (ps_for PassesOwn.never rfl (pi_list (pv 1)) (pg_name (i := 3) sc_f_refusal.nd rfl (Or.inl rfl)) (pss_one (ps_if (pt_not (pt_val (C8.pe_mt m_has_cell hr (by decide) (pv 0) (pa_cons (pv 3) pa_nil)))) (pss_one (ps_ret (pe_lst (pa_cons (pe_gi T.gNO_SUCH_CELL) pa_nil)))) pss_nil)))
    (pss_cons (ps_if (pt_cmpR op_gt (pv 2) (pe_gi T.gMAX_THICKNESS) (nomark _)) (pss_one (ps_ret (pe_lst (pa_cons (pe_gi T.gOUT_OF_RANGE) pa_nil)))) pss_nil)
    (pss_one (ps_ret (pe_lst (pa_nil)))))), ?_⟩
  refine ⟨_, rfl, b, rfl, ⟨_, hS⟩, for_list (K := K) (a := b) (xs := cs.map iv) (fun i σ H' => (∃ v, σ = [some (.ref a), some (.ref b), some (.int t), v]) ∧ Same H H' ∧ ((cs.take i).all fun c => !decide (Km563.cellCount f ≤ c)) = true)
    ⟨⟨_, rfl⟩, Same.refl H, rfl⟩ (fun i σ H' _ ⟨_, s1, _⟩ => s1.seq hS) ?_ ?_⟩
  · rintro i x σ H' hx ⟨⟨v, rfl⟩, s1, ha⟩
    obtain ⟨c, hc, rfl⟩ := int_get hx
    have g1 := s1 _ _ h1
    refine ⟨_, rfl, a, _, _, rfl, g1, lkn (by decide +kernel) _ _, _, rfl, a, f, c, rfl, I.same s1, G, True.intro, fun H2 s2 => ⟨_, rfl, ?_⟩⟩
    refine iteB (fun q => ?_) (fun q => ?_)
    · have q := of_decide_eq_false (not_t q)
      refine ⟨sz (by show 1 ≤ 100000; decide), fun p hp => k _ p ((s1.trans s2).trans (Same.new hp)) (upd_same.trans ?_)⟩
      unfold refuse
      rw [if_pos]
      · rfl
      · rw [List.any_eq_true]
        exact ⟨c, List.mem_of_getElem? hc, decide_eq_true (by omega)⟩
    · have q := of_decide_eq_true (not_f q)
      refine ⟨⟨_, rfl⟩, s1.trans s2, all_more hc ha ?_⟩
      rw [decide_eq_false (by omega)]
      rfl
  · rintro σ H' ⟨⟨v, rfl⟩, s1, ha⟩
    rw [List.length_map, List.take_length] at ha
    have na : ¬ (cs.any fun c => decide (Km563.cellCount f ≤ c)) = true := by
      rw [List.any_eq_true]
      rintro ⟨c, hc, q⟩
      have := List.all_eq_true.mp ha c hc
      rw [q] at this
      cases this
    refine ⟨_, rfl, _, _, rfl, rfl, _, rfl, ?_⟩
    refine iteB (fun q => ?_) (fun q => ?_)
    · have q := of_decide_eq_true q
      refine ⟨sz (by show 1 ≤ 100000; decide), fun p hp => k _ p (s1.trans (Same.new hp)) (upd_same.trans ?_)⟩
      unfold refuse
      rw [if_neg na, if_pos (by omega)]
      rfl
    · have q := of_decide_eq_false q
      refine ⟨Nat.zero_le _, fun p hp => k _ p (s1.trans (Same.new hp)) (upd_same.trans ?_)⟩
      unfold refuse
      rw [if_neg na, if_neg (by omega)]
      rfl
/-- a refusal of one cell and a thickness -/
theorem refuse_one (f : IceField) (c t : Nat) : (Km563.cellCount f ≤ c ∧ refuse f [c] t = [-2]) ∨ (¬ Km563.cellCount f ≤ c ∧ 99 < t ∧ refuse f [c] t = [-22]) ∨ (¬ Km563.cellCount f ≤ c ∧ ¬ 99 < t ∧ refuse f [c] t = []) := by
  unfold refuse
  by_cases h1 : Km563.cellCount f ≤ c
  · exact .inl ⟨h1, by simp [h1]⟩
  · by_cases h2 : 99 < t
    · exact .inr (.inl ⟨h1, h2, by simp [h1, h2]⟩)
    · exact .inr (.inr ⟨h1, h2, by simp [h1, h2]⟩)
theorem refuse_nil (f : IceField) (t : Nat) : (99 < t ∧ refuse f [] t = [-22]) ∨ (¬ 99 < t ∧ refuse f [] t = []) := by
  unfold refuse
  by_cases h2 : 99 < t
  · exact .inl ⟨h2, by simp [h2]⟩
  · exact .inr ⟨h2, by simp [h2]⟩
theorem refuse_two (f : IceField) (c d t : Nat) : ((Km563.cellCount f ≤ c ∨ Km563.cellCount f ≤ d) ∧ refuse f [c, d] t = [-2]) ∨ (¬ (Km563.cellCount f ≤ c ∨ Km563.cellCount f ≤ d) ∧ 99 < t ∧ refuse f [c, d] t = [-22]) ∨
    (¬ (Km563.cellCount f ≤ c ∨ Km563.cellCount f ≤ d) ∧ ¬ 99 < t ∧ refuse f [c, d] t = []) := by
  unfold refuse
  have e : (([c, d] : List Nat).any fun c => decide (Km563.cellCount f ≤ c)) = true ↔ (Km563.cellCount f ≤ c ∨ Km563.cellCount f ≤ d) := by simp
  by_cases h1 : Km563.cellCount f ≤ c ∨ Km563.cellCount f ≤ d
  · exact .inl ⟨h1, if_pos (e.mpr h1)⟩
  · by_cases h2 : 99 < t
    · exact .inr (.inl ⟨h1, h2, by rw [if_neg fun z => h1 (e.mp z), if_pos h2]⟩)
    · exact .inr (.inr ⟨h1, h2, by rw [if_neg fun z => h1 (e.mp z), if_neg h2]⟩)
abbrev s_f_measure_refusal : Stmt := top 19
theorem sc_f_measure_refusal : FnScope ["ice", "cell", "thickness", "refused"] ["ice", "cell", "thickness"] (defScope s_f_measure_refusal) := ⟨rfl, rfl, rfl, by decide +kernel, rfl, by decide +kernel, by decide +kernel⟩
theorem ok_f_measure_refusal {P : Program} {w : World} {K : PySem.W.Frag} {mg : Str → Option Value} {base : Heap} {C f : Addr} {fd : FuncData} (F : Fun K "measure_refusal" "measure_refusal" s_f_measure_refusal f fd) (T : Txt K mg C) (m_fits : C8.Met P w K mg base 2 C "fits" (sp_m_fits K C) []) (m_measurements_except : C8.Met P w K mg base 1 C "measurements_except" (sp_m_measurements_except K C) []) (f_refusal : C8.Cal P w K mg base 3 "refusal" (sp_f_refusal K C) []) :
    FnOk P w K mg base CX0 4 f fd ["ice", "cell", "thickness"] (sp_f_measure_refusal K C) := by
  refine F.ok sc_f_measure_refusal (fun vs H Q E h => ?_) (fun cdv A outer s H vs Q E hr h => ?_)
  · obtain ⟨_, _, _, _, rfl, _⟩ := h
    rfl
  obtain ⟨a, f, c, t, rfl, I, G, k⟩ := h
  obtain ⟨dx, l, h1, _⟩ := id I
  refine ⟨_, (pss_cons (ps_set (i := 3) sc_f_measure_refusal.nd rfl (Or.inl rfl) (C8.pe_c f_refusal hr (by decide) rfl (pa_cons (pv 0) (pa_cons (pe_lst (pa_cons (pv 1) pa_nil)) (pa_cons (pv 2) pa_nil)))))
    (pss_cons (ps_if (pt_truth (pv 3) (by intro _; rfl)) (pss_one (ps_ret (pv 3))) pss_nil)
    (pss_cons (ps_if (pt_not (pt_val (C8.pe_mt m_fits hr (by decide) (pv 0) (pa_cons (pv 1) (pa_cons (pv 2) (pa_cons (C8.pe_mt m_measurements_except hr (by decide) (pv 0) (pa_cons (pv 1) pa_nil)) (pa_cons (pe_fld (pv 0) rfl) pa_nil))))))) (pss_one (ps_ret (pe_lst (pa_cons (pe_gi T.gINCONSISTENT) pa_nil)))) pss_nil)
    (pss_one (ps_ret (pe_lst (pa_nil))))))), ?_⟩
  refine ⟨_, rfl, _, rfl, sz (by show 1 ≤ 100000; decide), fun b hb => ?_⟩
  have s0 : Same H (upd H b (.lst [.int c])) := Same.new hb
  refine ⟨_, rfl, a, f, b, [c], t, rfl, I.same s0, G, SqL.of upd_same, fun H1 p s1 e1 => ?_⟩
  have s01 := s0.trans s1
  refine ⟨_, rfl, _, .inl ⟨_, SqL.of e1, rfl⟩, ?_⟩
  rcases refuse_one f c t with ⟨q1, e⟩ | ⟨q1, q2, e⟩ | ⟨q1, q2, e⟩
  · rw [e] at e1 ⊢
    refine iteT ?_
    refine ⟨_, rfl, k _ p s01 (e1.trans ?_)⟩
    unfold mrefuse
    rw [if_pos q1]
  · rw [e] at e1 ⊢
    refine iteT ?_
    refine ⟨_, rfl, k _ p s01 (e1.trans ?_)⟩
    unfold mrefuse
    rw [if_neg q1, if_pos q2]
  · rw [e] at e1 ⊢
    refine iteF ?_
    have g1 := s01 _ _ h1
    refine ⟨_, rfl, a, _, _, rfl, g1, lkn (by decide +kernel) _ _, _, rfl, _, rfl, _, rfl, a, _, _, rfl, g1, lkn (by decide +kernel) _ _, _, rfl, a, f, c, rfl, I.same s01, G, fun H2 pm s2 hpm M2 => ?_⟩
    have s02 := s01.trans s2
    have g2 := s02 _ _ h1
    refine ⟨_, rfl, a, C, dx, _, _, rfl, g2, T.cl, T.ns, lks _ _, a, f, c, t, pm, except f c, f.maxStep, rfl, I.same s02, G, M2, G.st, fun H3 s3 => ⟨_, rfl, ?_⟩⟩
    refine iteB (fun q => ?_) (fun q => ?_)
    · have q := not_t q
      refine ⟨sz (by show 1 ≤ 100000; decide), fun r hr => k _ r ((s02.trans s3).trans (Same.new hr)) (upd_same.trans ?_)⟩
      unfold mrefuse
      rw [if_neg q1, if_neg q2, with_cons G, if_pos q]
      rfl
    · have q := not_f q
      refine ⟨Nat.zero_le _, fun r hr => k _ r ((s02.trans s3).trans (Same.new hr)) (upd_same.trans ?_)⟩
      unfold mrefuse
      rw [if_neg q1, if_neg q2, with_cons G, if_neg (by rw [q]; decide)]
      rfl
theorem mrefuse_cases (f : IceField) (c t : Nat) : (mrefuse f c t ≠ []) ∨ (¬ Km563.cellCount f ≤ c ∧ ¬ 99 < t ∧ Km563.isConsistent (Km563.withMeasurement f c t) = true ∧ mrefuse f c t = []) := by
  unfold mrefuse
  by_cases h1 : Km563.cellCount f ≤ c
  · exact .inl (by rw [if_pos h1]; simp)
  · by_cases h2 : 99 < t
    · exact .inl (by rw [if_neg h1, if_pos h2]; simp)
    · cases h3 : Km563.isConsistent (Km563.withMeasurement f c t) with
      | false => exact .inl (by rw [if_neg h1, if_neg h2, if_pos rfl]; simp)
      | true => exact .inr ⟨h1, h2, rfl, by rw [if_neg h1, if_neg h2, if_neg (by decide)]⟩
end Ib

/-! ### part D9 -/
set_option Elab.async false
set_option linter.all false
set_option maxRecDepth 100000
set_option maxHeartbeats 2000000
namespace Ib
open PySem PySem.Spec PyProof.Rows L2
open Km563 (IceField)
abbrev s_f_set_max_step : Stmt := top 20
theorem sc_f_set_max_step : FnScope ["ice", "max_step", "previous"] ["ice", "max_step"] (defScope s_f_set_max_step) := ⟨rfl, rfl, rfl, by decide +kernel, rfl, by decide +kernel, by decide +kernel⟩
theorem ok_f_set_max_step {P : Program} {w : World} {K : PySem.W.Frag} {mg : Str → Option Value} {base : Heap} {C f : Addr} {fd : FuncData} (F : Fun K "set_max_step" "set_max_step" s_f_set_max_step f fd) (T : Txt K mg C) (m_is_consistent_with_step : C8.Met P w K mg base 3 C "is_consistent_with_step" (sp_m_is_consistent_with_step K C) []) :
    FnOk P w K mg base CX0 4 f fd ["ice", "max_step"] (sp_f_set_max_step K C) := by
  refine F.ok sc_f_set_max_step (fun vs H Q E h => spO1.len h) (fun cdv A outer s H vs Q E hr h => ?_)
  obtain ⟨a, f, z, rfl, I, G, k⟩ := h
  obtain ⟨dx, l, h1, hM⟩ := id I
  refine ⟨_, (pss_cons (ps_if (pt_cmpR op_gt (pv 1) (pe_gi T.gGREATEST_MAX_STEP) (nomark _)) (pss_one (ps_ret (pe_lst (pa_cons (pe_gi T.gOUT_OF_RANGE) pa_nil)))) pss_nil)
    (pss_cons (ps_if (pt_not (pt_val (C8.pe_mt m_is_consistent_with_step hr (by decide) (pv 0) (pa_cons (pv 1) pa_nil)))) (pss_one (ps_ret (pe_lst (pa_cons (pe_gi T.gINCONSISTENT) pa_nil)))) pss_nil)
    (pss_cons (ps_set (i := 2) sc_f_set_max_step.nd rfl (Or.inl rfl) (pe_fld (pv 0) rfl))
    (pss_cons (ps_fld (pv 0) (pv 1) rfl)
    (pss_one (ps_ret (pe_lst (pa_cons (pv 2) pa_nil)))))))), ?_⟩
  refine ⟨_, rfl, _, _, rfl, rfl, _, rfl, ?_⟩
  refine iteB (fun q => ?_) (fun q => ?_)
  · have q := of_decide_eq_true q
    have hz : 20 < z := by omega
    have e : Km563.step (some f) (.setMaxStep z) = (some f, Km563.error (-22)) := by
      show (if 20 < z then _ else _) = _
      rw [if_pos hz]
    refine ⟨sz one_le, fun p hp => k.same I G (by unfold nxt; rw [e]; rfl) _ p (Same.new hp) (upd_same.trans ?_)⟩
    unfold ans
    rw [e]
    rfl
  have q := of_decide_eq_false q
  have hz : ¬ 20 < z := by omega
  refine ⟨_, rfl, a, _, _, rfl, h1, lkn (by decide +kernel) _ _, _, rfl, a, f, z, rfl, I, G, by omega, fun H1 s1 => ⟨_, rfl, ?_⟩⟩
  have g1 := s1 _ _ h1
  refine iteB (fun c => ?_) (fun c => ?_)
  · have c : Km563.isConsistent { f with maxStep := z } = false := not_t c
    have e : Km563.step (some f) (.setMaxStep z) = (some f, Km563.error (-33)) := by
      show (if 20 < z then _ else if Km563.isConsistent { f with maxStep := z } = false then _ else _) = _
      rw [if_neg hz, if_pos c]
    refine ⟨sz one_le, fun p hp => k.same I G (by unfold nxt; rw [e]; rfl) _ p (s1.trans (Same.new hp)) (upd_same.trans ?_)⟩
    unfold ans
    rw [e]
    rfl
  · have c : Km563.isConsistent { f with maxStep := z } = true := not_f c
    have e : Km563.step (some f) (.setMaxStep z) = (some { f with maxStep := z }, Km563.number (f.maxStep : Nat)) := by
      show (if 20 < z then _ else if Km563.isConsistent { f with maxStep := z } = false then _ else _) = _
      rw [if_neg hz, if_neg (by rw [c]; decide)]
    refine ⟨_, rfl, a, C, dx, _, _, rfl, g1, T.cl, T.ns, lks _ _, ?_⟩
    refine ⟨_, rfl, _, rfl, a, C, dx, _, rfl, g1, T.cl, T.ns, few4 _ _, ?_⟩
    refine ⟨_, rfl, sz one_le, fun p hp => ?_⟩
    have ga : (upd H1 a (.ins C dx (putF "max_step" (.int z) (iF f l)))) a = some (.ins C dx (iF { f with maxStep := z } l)) := upd_same.trans (congrArg (fun q => some (HO.ins C dx q)) (put_s f l z))
    have b1 : But a H (upd H1 a (.ins C dx (putF "max_step" (.int z) (iF f l)))) := (But.of s1).upd
    have s2 := Same.new (o := .lst [.int f.maxStep]) hp
    have I2 : IceAt C (upd H1 a (.ins C dx (putF "max_step" (.int z) (iF f l)))) a { f with maxStep := z } := ⟨dx, l, ga, MsAt.but b1 h1 hM⟩
    have en : nxt f (.setMaxStep z) = { f with maxStep := z } := by
      unfold nxt
      rw [e]
      rfl
    refine k _ p (by rw [en]; exact I2.same s2) (by rw [en]; exact good_step G (by omega) c) (b1.trans (But.of s2)) (upd_same.trans ?_)
    unfold ans
    rw [e]
    rfl
abbrev s_f_measure : Stmt := top 21
theorem sc_f_measure : FnScope ["ice", "cell", "thickness", "refused"] ["ice", "cell", "thickness"] (defScope s_f_measure) := ⟨rfl, rfl, rfl, by decide +kernel, rfl, by decide +kernel, by decide +kernel⟩
theorem measure_no {f : IceField} {c t : Nat} (h : mrefuse f c t ≠ []) : ans f (.measure c t) = mrefuse f c t ∧ nxt f (.measure c t) = f := by
  unfold mrefuse at h ⊢
  unfold ans nxt
  show (if Km563.cellCount f ≤ c then _ else if Km563.maxThickness < t then _ else if Km563.isConsistent (Km563.withMeasurement f c t) = false then _ else _ : Km563.State × Km563.Result).2.num :: (if Km563.cellCount f ≤ c then _ else if Km563.maxThickness < t then _ else if Km563.isConsistent (Km563.withMeasurement f c t) = false then _ else _ : Km563.State × Km563.Result).2.nums = _ ∧ (if Km563.cellCount f ≤ c then _ else if Km563.maxThickness < t then _ else if Km563.isConsistent (Km563.withMeasurement f c t) = false then _ else _ : Km563.State × Km563.Result).1.getD f = f
  have em : Km563.maxThickness = 99 := rfl
  rw [em]
  by_cases h1 : Km563.cellCount f ≤ c
  · rw [if_pos h1, if_pos h1]
    exact ⟨rfl, rfl⟩
  · by_cases h2 : 99 < t
    · rw [if_neg h1, if_neg h1, if_pos h2, if_pos h2]
      exact ⟨rfl, rfl⟩
    · cases h3 : Km563.isConsistent (Km563.withMeasurement f c t) with
      | false =>
        rw [if_neg h1, if_neg h1, if_neg h2, if_neg h2, if_pos rfl, if_pos rfl]
        exact ⟨rfl, rfl⟩
      | true =>
        rw [if_neg h1, if_neg h2, h3, if_neg (by decide)] at h
        exact absurd rfl h
theorem measure_yes {f : IceField} {c t : Nat} (h1 : ¬ Km563.cellCount f ≤ c) (h2 : ¬ 99 < t) (h3 : Km563.isConsistent (Km563.withMeasurement f c t) = true) :
    Km563.step (some f) (.measure c t) = (some (Km563.withMeasurement f c t), Km563.number ((Km563.withMeasurement f c t).measurements.length : Nat)) := by
  show (if Km563.cellCount f ≤ c then _ else if Km563.maxThickness < t then _ else if Km563.isConsistent (Km563.withMeasurement f c t) = false then _ else _) = _
  have h2 : ¬ Km563.maxThickness < t := h2
  rw [if_neg h1, if_neg h2, if_neg (by rw [h3]; decide)]
theorem map_ne {l : List Int} (h : l ≠ []) : (!(l.map V.int).isEmpty) = true := by
  cases l with
  | nil => exact absurd rfl h
  | cons x r => rfl
theorem ok_f_measure {P : Program} {w : World} {K : PySem.W.Frag} {mg : Str → Option Value} {base : Heap} {C f : Addr} {fd : FuncData} (F : Fun K "measure" "measure" s_f_measure f fd) (T : Txt K mg C) (m_record : C8.Met P w K mg base 2 C "record" (sp_m_record K C) []) (f_measure_refusal : C8.Cal P w K mg base 4 "measure_refusal" (sp_f_measure_refusal K C) []) :
    FnOk P w K mg base CX0 5 f fd ["ice", "cell", "thickness"] (sp_f_measure K C) := by
  refine F.ok sc_f_measure (fun vs H Q E h => spO2.len h) (fun cdv A outer s H vs Q E hr h => ?_)
  obtain ⟨a, f, c, t, rfl, I, G, k⟩ := h
  obtain ⟨dx, l, h1, hM⟩ := id I
  refine ⟨_, (pss_cons (ps_set (i := 3) sc_f_measure.nd rfl (Or.inl rfl) (C8.pe_c f_measure_refusal hr (by decide) rfl (pa_cons (pv 0) (pa_cons (pv 1) (pa_cons (pv 2) pa_nil)))))
    (pss_cons (ps_if (pt_truth (pv 3) (by intro _; rfl)) (pss_one (ps_ret (pv 3))) pss_nil)
    (pss_cons (ps_expr (C8.pe_mt m_record hr (by decide) (pv 0) (pa_cons (pv 1) (pa_cons (pv 2) pa_nil))))
    (pss_one (ps_ret (pe_lst (pa_cons (pe_callB call_len_seq (by rfl) T.len (by decide +kernel) (pa_cons (pe_fld (pv 0) rfl) pa_nil)) pa_nil))))))), ?_⟩
  refine ⟨_, rfl, _, rfl, _, rfl, a, f, c, t, rfl, I, G, fun H1 p s1 e1 => ?_⟩
  refine ⟨_, rfl, _, .inl ⟨_, SqL.of e1, rfl⟩, ?_⟩
  rcases mrefuse_cases f c t with ne | ⟨q1, q2, q3, e⟩
  · refine iteTo (map_ne ne) ?_
    obtain ⟨ea, en⟩ := measure_no ne
    exact ⟨_, rfl, k.same I G en _ p s1 (by rw [ea]; exact e1)⟩
  · rw [e] at e1 ⊢
    refine iteF ?_
    have g1 := s1 _ _ h1
    refine ⟨_, rfl, a, _, _, rfl, g1, lkn (by decide +kernel) _ _, _, rfl, _, rfl, a, f, c, t, rfl, I.same s1, G, fun H2 I2 b2 => ?_⟩
    obtain ⟨dy, ly, g2, ts, hl, hp⟩ := id I2
    have es := measure_yes q1 q2 q3
    have en : nxt f (.measure c t) = Km563.withMeasurement f c t := by
      unfold nxt
      rw [es]
      rfl
    refine ⟨_, rfl, a, C, dy, _, _, rfl, g2, T.cl, T.nm, lkm _ _, ly, _, rfl, .inl (SqL.of hl), sz one_le, fun p hp2 => ?_⟩
    have s3 := Same.new (o := .lst [.int ((ts.map V.ref).length : Nat)]) hp2
    refine k _ p (by rw [en]; exact I2.same s3) (by rw [en]; exact good_with G (by omega) (by omega) q3) (((But.of s1).trans b2).trans (But.of s3)) (upd_same.trans ?_)
    unfold ans
    rw [es, List.length_map, paired_len hp]
    rfl
abbrev s_f_remove_measurement : Stmt := top 22
theorem sc_f_remove_measurement : FnScope ["ice", "cell"] ["ice", "cell"] (defScope s_f_remove_measurement) := ⟨rfl, rfl, rfl, by decide +kernel, rfl, by decide +kernel, by decide +kernel⟩
theorem ok_f_remove_measurement {P : Program} {w : World} {K : PySem.W.Frag} {mg : Str → Option Value} {base : Heap} {C f : Addr} {fd : FuncData} (F : Fun K "remove_measurement" "remove_measurement" s_f_remove_measurement f fd) (T : Txt K mg C) (m_measurements_except : C8.Met P w K mg base 1 C "measurements_except" (sp_m_measurements_except K C) []) (m_is_measured : C8.Met P w K mg base 1 C "is_measured" (sp_m_is_measured K C) []) :
    FnOk P w K mg base CX0 2 f fd ["ice", "cell"] (sp_f_remove_measurement K C) := by
  refine F.ok sc_f_remove_measurement (fun vs H Q E h => spO1.len h) (fun cdv A outer s H vs Q E hr h => ?_)
  obtain ⟨a, f, c, rfl, I, G, k⟩ := h
  obtain ⟨dx, l, h1, hM⟩ := id I
  refine ⟨_, (pss_cons (ps_if (pt_not (pt_val (C8.pe_mt m_is_measured hr (by decide) (pv 0) (pa_cons (pv 1) pa_nil)))) (pss_one (ps_ret (pe_lst (pa_cons (pe_gi T.gNO_SUCH_CELL) pa_nil)))) pss_nil)
    (pss_cons (ps_fld (pv 0) (C8.pe_mt m_measurements_except hr (by decide) (pv 0) (pa_cons (pv 1) pa_nil)) rfl)
    (pss_one (ps_ret (pe_lst (pa_cons (pe_callB call_len_seq (by rfl) T.len (by decide +kernel) (pa_cons (pe_fld (pv 0) rfl) pa_nil)) pa_nil)))))), ?_⟩
  refine ⟨_, rfl, a, _, _, rfl, h1, lkn (by decide +kernel) _ _, _, rfl, a, f, c, rfl, I, G, True.intro, fun H1 s1 => ⟨_, rfl, ?_⟩⟩
  have g1 := s1 _ _ h1
  refine iteB (fun q => ?_) (fun q => ?_)
  · have q : (f.measurements.any fun m => m.1 == c) = false := not_t q
    have e : Km563.step (some f) (.removeMeasurement c) = (some f, Km563.error (-2)) := by
      show (if (f.measurements.any fun m => m.1 == c) = false then _ else _) = _
      rw [if_pos q]
    refine ⟨sz one_le, fun p hp => k.same I G (by unfold nxt; rw [e]; rfl) _ p (s1.trans (Same.new hp)) (upd_same.trans ?_)⟩
    unfold ans
    rw [e]
    rfl
  · have q : (f.measurements.any fun m => m.1 == c) = true := not_f q
    have e : Km563.step (some f) (.removeMeasurement c) = (some { f with measurements := except f c }, Km563.number (f.measurements.length - 1 : Nat)) := by
      show (if (f.measurements.any fun m => m.1 == c) = false then _ else _) = _
      rw [if_neg (by rw [q]; decide)]
      rfl
    have en : nxt f (.removeMeasurement c) = { f with measurements := except f c } := by
      unfold nxt
      rw [e]
      rfl
    refine ⟨_, rfl, a, _, _, rfl, g1, lkn (by decide +kernel) _ _, _, rfl, a, f, c, rfl, I.same s1, G, fun H2 pm s2 hpm M2 => ?_⟩
    have s12 := s1.trans s2
    have g2 := s12 _ _ h1
    have b3 : But a H (upd H2 a (.ins C dx (putF "measurements" (.ref pm) (iF f l)))) := (But.of s12).upd
    have b3' : But a H2 (upd H2 a (.ins C dx (putF "measurements" (.ref pm) (iF f l)))) := (But.of (Same.refl H2)).upd
    have g3 : (upd H2 a (.ins C dx (putF "measurements" (.ref pm) (iF f l)))) a = some (.ins C dx (iF { f with measurements := except f c } pm)) := upd_same.trans (congrArg (fun q => some (HO.ins C dx q)) (put_m f l pm (except f c)))
    have M3 := MsAt.but b3' g2 M2
    obtain ⟨ts, hl, hp⟩ := id M3
    refine ⟨_, rfl, a, C, dx, _, rfl, g2, T.cl, T.nm, few4 _ _, ?_⟩
    refine ⟨_, rfl, a, C, dx, _, _, rfl, g3, T.cl, T.nm, lkm _ _, pm, _, rfl, .inl (SqL.of hl), sz one_le, fun p hp2 => ?_⟩
    have s4 := Same.new (o := .lst [.int ((ts.map V.ref).length : Nat)]) hp2
    refine k _ p (by rw [en]; exact IceAt.same s4 ⟨dx, pm, g3, M3⟩) (by rw [en]; exact good_remove G c) (b3.trans (But.of s4)) (upd_same.trans ?_)
    unfold ans
    rw [e, List.length_map, paired_len hp, remove_len G q]
    rfl
abbrev s_f_list_measurements : Stmt := top 23
theorem sc_f_list_measurements : FnScope ["ice", "answer", "cell", "thickness"] ["ice"] (defScope s_f_list_measurements) := ⟨rfl, rfl, rfl, by decide +kernel, rfl, by decide +kernel, by decide +kernel⟩
theorem ok_f_list_measurements {P : Program} {w : World} {K : PySem.W.Frag} {mg : Str → Option Value} {base : Heap} {C f : Addr} {fd : FuncData} (F : Fun K "list_measurements" "list_measurements" s_f_list_measurements f fd) (T : Txt K mg C)  :
    FnOk P w K mg base CX0 1 f fd ["ice"] (sp_f_list_measurements K C) := by
  refine F.ok sc_f_list_measurements (fun vs H Q E h => spO0.len h) (fun cdv A outer s H vs Q E hr h => ?_)
  obtain ⟨a, f, rfl, I, G, k⟩ := h
  obtain ⟨dx, l, h1, ts, hl, hp⟩ := id I
  have el := paired_len hp
  have gl := G.len
  refine ⟨_, (pss_cons (ps_set (i := 1) sc_f_list_measurements.nd rfl (Or.inl rfl) (pe_lst (pa_cons (pe_callB call_len_seq (by rfl) T.len (by decide +kernel) (pa_cons (pe_fld (pv 0) rfl) pa_nil)) pa_nil)))
    (pss_cons (ps_for PassesOwn.never rfl (pi_list (pe_fld (pv 0) rfl)) (pg_tup (by rfl) (pgs_cons (pg_name (i := 2) sc_f_list_measurements.nd rfl (Or.inl rfl)) (pgs_cons (pg_name (i := 3) sc_f_list_measurements.nd rfl (Or.inl rfl)) pgs_nil))) (pss_cons (ps_expr (pe_bm PySem.F.plainAttrs_list PySem.F.slot_list_append PySem.F.type_list_append mt_append (pv 1) (pa_cons (pv 2) pa_nil)))
      (pss_one (ps_expr (pe_bm PySem.F.plainAttrs_list PySem.F.slot_list_append PySem.F.type_list_append mt_append (pv 1) (pa_cons (pv 3) pa_nil))))))
    (pss_one (ps_ret (pv 1))))), ?_⟩
  refine ⟨_, rfl, a, C, dx, _, _, rfl, h1, T.cl, T.nm, lkm _ _, l, _, rfl, .inl (SqL.of hl), sz one_le, fun p hp0 => ?_⟩
  have s0 : Same H (upd H p (.lst [.int ((ts.map V.ref).length : Nat)])) := Same.new hp0
  have npl : l ≠ p := ne_of_none hl hp0
  refine ⟨_, rfl, a, C, dx, _, _, rfl, (s0 _ _ h1), T.cl, T.nm, lkm _ _, l, rfl, ⟨_, SqL.of (s0 _ _ hl)⟩, for_list (K := K) (a := l) (xs := ts.map V.ref)
    (fun i σ H' => (∃ v u, σ = [some (.ref a), some (.ref p), v, u]) ∧ Same H H' ∧ H' p = some (.lst ((((f.measurements.length : Nat) : Int) :: (f.measurements.take i).flatMap fun m => [(m.1 : Int), (m.2 : Int)]).map V.int)))
    ⟨⟨_, _, rfl⟩, s0, upd_same.trans (by rw [List.length_map, el]; rfl)⟩ (fun i σ H' _ ⟨_, s1, _⟩ => s1.seq (SqL.of hl)) ?_ ?_⟩
  · rintro i x σ H' hx ⟨⟨v, u, rfl⟩, s1, e1⟩
    obtain ⟨b, hb, rfl⟩ := ref_get hx
    obtain ⟨m, hm, hT⟩ := paired_get hp hb
    have hi : i < f.measurements.length := (List.getElem?_eq_some_iff.mp hm).1
    have len2 : ((f.measurements.take i).flatMap fun m => [(m.1 : Int), (m.2 : Int)]).length ≤ 50 := by
      rw [List.length_flatMap]
      have : ∀ l : List (Nat × Nat), (l.map fun m => ([(m.1 : Int), (m.2 : Int)] : List Int).length).sum = 2 * l.length := fun l => by
        induction l with
        | nil => rfl
        | cons x r ih => rw [List.map_cons, List.sum_cons, ih, List.length_cons]; simp; omega
      rw [this, List.length_take]
      omega
    refine ⟨b, _, rfl, SqT.of (s1 _ _ hT), rfl, _, _, rfl, _, _, rfl, rfl, ?_⟩
    refine ⟨_, rfl, .inl ⟨rfl, _, SqL.of e1⟩, _, rfl, p, _, _, rfl, rfl, e1, szl (by rw [List.length_map, List.length_cons]; omega), ?_⟩
    refine ⟨_, rfl, .inl ⟨rfl, _, SqL.of upd_same⟩, _, rfl, p, _, _, rfl, rfl, upd_same, szl (by rw [List.length_append, List.length_map, List.length_cons, List.length_singleton]; omega), ?_⟩
    refine ⟨⟨some (.int m.1), some (.int m.2), rfl⟩, Same.mut (Same.mut s1 hp0) hp0, upd_same.trans ?_⟩
    rw [take_more hm, List.flatMap_append, List.append_assoc, ← List.cons_append, List.map_append]
    rfl
  · rintro σ H' ⟨⟨v, u, rfl⟩, s1, e1⟩
    rw [List.length_map, el, List.take_length] at e1
    exact ⟨_, rfl, k.same I G rfl H' p s1 e1⟩
end Ib

/-! ### part D10 -/
set_option Elab.async false
set_option linter.all false
set_option maxRecDepth 100000
set_option maxHeartbeats 2000000
namespace Ib
open PySem PySem.Spec PyProof.Rows L2
open Km563 (IceField)
abbrev s_f_lower_bound : Stmt := top 24
theorem sc_f_lower_bound : FnScope ["ice", "cell"] ["ice", "cell"] (defScope s_f_lower_bound) := ⟨rfl, rfl, rfl, by decide +kernel, rfl, by decide +kernel, by decide +kernel⟩
theorem ans_lower_bound (f : IceField) (n : Nat) : ans f (.lowerBound n) = if Km563.cellCount f ≤ n then [-2] else [((Km563.lowerBound f n : Nat) : Int)] := by
  unfold ans
  show (if Km563.cellCount f ≤ n then Km563.error (-2) else Km563.number _).num :: (if Km563.cellCount f ≤ n then Km563.error (-2) else Km563.number _).nums = _
  by_cases h : Km563.cellCount f ≤ n
  · rw [if_pos h, if_pos h]
    rfl
  · rw [if_neg h, if_neg h]
    rfl
theorem ok_f_lower_bound {P : Program} {w : World} {K : PySem.W.Frag} {mg : Str → Option Value} {base : Heap} {C f : Addr} {fd : FuncData} (F : Fun K "lower_bound" "lower_bound" s_f_lower_bound f fd) (T : Txt K mg C) (m_lower_bound : C8.Met P w K mg base 2 C "lower_bound" (sp_m_lower_bound K C) []) (m_has_cell : C8.Met P w K mg base 2 C "has_cell" (sp_m_has_cell K C) []) :
    FnOk P w K mg base CX0 3 f fd ["ice", "cell"] (sp_f_lower_bound K C) := by
  refine F.ok sc_f_lower_bound (fun vs H Q E h => spO1.len h) (fun cdv A outer s H vs Q E hr h => ?_)
  obtain ⟨a, f, n, rfl, I, G, k⟩ := h
  obtain ⟨dx, l, h1, _⟩ := id I
  have k' := k.same I G rfl
  rw [ans_lower_bound] at k'
  refine ⟨_, (pss_cons (ps_if (pt_not (pt_val (C8.pe_mt m_has_cell hr (by decide) (pv 0) (pa_cons (pv 1) pa_nil)))) (pss_one (ps_ret (pe_lst (pa_cons (pe_gi T.gNO_SUCH_CELL) pa_nil)))) pss_nil)
    (pss_one (ps_ret (pe_lst (pa_cons (C8.pe_mt m_lower_bound hr (by decide) (pv 0) (pa_cons (pv 1) pa_nil)) pa_nil))))), ?_⟩
  refine ⟨_, rfl, a, _, _, rfl, h1, lkn (by decide +kernel) _ _, _, rfl, a, f, n, rfl, I, G, True.intro, fun H1 s1 => ⟨_, rfl, ?_⟩⟩
  have g1 := s1 _ _ h1
  refine iteB (fun q => ?_) (fun q => ?_)
  · have q := of_decide_eq_false (not_t q)
    refine ⟨sz one_le, fun p hp => k' _ p (s1.trans (Same.new hp)) (upd_same.trans ?_)⟩
    rw [if_pos (by omega)]
    rfl
  · have q := of_decide_eq_true (not_f q)
    refine ⟨_, rfl, a, _, _, rfl, g1, lkn (by decide +kernel) _ _, _, rfl, a, f, n, rfl, I.same s1, G, True.intro, fun H2 s2 => ⟨sz one_le, fun p hp => k' _ p ((s1.trans s2).trans (Same.new hp)) (upd_same.trans ?_)⟩⟩
    rw [if_neg (by omega)]
    rfl
abbrev s_f_upper_bound : Stmt := top 25
theorem sc_f_upper_bound : FnScope ["ice", "cell"] ["ice", "cell"] (defScope s_f_upper_bound) := ⟨rfl, rfl, rfl, by decide +kernel, rfl, by decide +kernel, by decide +kernel⟩
theorem ans_upper_bound (f : IceField) (n : Nat) : ans f (.upperBound n) = if Km563.cellCount f ≤ n then [-2] else [((Km563.upperBound f n : Nat) : Int)] := by
  unfold ans
  show (if Km563.cellCount f ≤ n then Km563.error (-2) else Km563.number _).num :: (if Km563.cellCount f ≤ n then Km563.error (-2) else Km563.number _).nums = _
  by_cases h : Km563.cellCount f ≤ n
  · rw [if_pos h, if_pos h]
    rfl
  · rw [if_neg h, if_neg h]
    rfl
theorem ok_f_upper_bound {P : Program} {w : World} {K : PySem.W.Frag} {mg : Str → Option Value} {base : Heap} {C f : Addr} {fd : FuncData} (F : Fun K "upper_bound" "upper_bound" s_f_upper_bound f fd) (T : Txt K mg C) (m_upper_bound : C8.Met P w K mg base 2 C "upper_bound" (sp_m_upper_bound K C) []) (m_has_cell : C8.Met P w K mg base 2 C "has_cell" (sp_m_has_cell K C) []) :
    FnOk P w K mg base CX0 3 f fd ["ice", "cell"] (sp_f_upper_bound K C) := by
  refine F.ok sc_f_upper_bound (fun vs H Q E h => spO1.len h) (fun cdv A outer s H vs Q E hr h => ?_)
  obtain ⟨a, f, n, rfl, I, G, k⟩ := h
  obtain ⟨dx, l, h1, _⟩ := id I
  have k' := k.same I G rfl
  rw [ans_upper_bound] at k'
  refine ⟨_, (pss_cons (ps_if (pt_not (pt_val (C8.pe_mt m_has_cell hr (by decide) (pv 0) (pa_cons (pv 1) pa_nil)))) (pss_one (ps_ret (pe_lst (pa_cons (pe_gi T.gNO_SUCH_CELL) pa_nil)))) pss_nil)
    (pss_one (ps_ret (pe_lst (pa_cons (C8.pe_mt m_upper_bound hr (by decide) (pv 0) (pa_cons (pv 1) pa_nil)) pa_nil))))), ?_⟩
  refine ⟨_, rfl, a, _, _, rfl, h1, lkn (by decide +kernel) _ _, _, rfl, a, f, n, rfl, I, G, True.intro, fun H1 s1 => ⟨_, rfl, ?_⟩⟩
  have g1 := s1 _ _ h1
  refine iteB (fun q => ?_) (fun q => ?_)
  · have q := of_decide_eq_false (not_t q)
    refine ⟨sz one_le, fun p hp => k' _ p (s1.trans (Same.new hp)) (upd_same.trans ?_)⟩
    rw [if_pos (by omega)]
    rfl
  · have q := of_decide_eq_true (not_f q)
    refine ⟨_, rfl, a, _, _, rfl, g1, lkn (by decide +kernel) _ _, _, rfl, a, f, n, rfl, I.same s1, G, True.intro, fun H2 s2 => ⟨sz one_le, fun p hp => k' _ p ((s1.trans s2).trans (Same.new hp)) (upd_same.trans ?_)⟩⟩
    rw [if_neg (by omega)]
    rfl
abbrev s_f_uncertainty : Stmt := top 29
theorem sc_f_uncertainty : FnScope ["ice", "cell"] ["ice", "cell"] (defScope s_f_uncertainty) := ⟨rfl, rfl, rfl, by decide +kernel, rfl, by decide +kernel, by decide +kernel⟩
theorem ans_uncertainty (f : IceField) (n : Nat) : ans f (.uncertainty n) = if Km563.cellCount f ≤ n then [-2] else [((Km563.uncertainty f n : Nat) : Int)] := by
  unfold ans
  show (if Km563.cellCount f ≤ n then Km563.error (-2) else Km563.number _).num :: (if Km563.cellCount f ≤ n then Km563.error (-2) else Km563.number _).nums = _
  by_cases h : Km563.cellCount f ≤ n
  · rw [if_pos h, if_pos h]
    rfl
  · rw [if_neg h, if_neg h]
    rfl
theorem ok_f_uncertainty {P : Program} {w : World} {K : PySem.W.Frag} {mg : Str → Option Value} {base : Heap} {C f : Addr} {fd : FuncData} (F : Fun K "uncertainty" "uncertainty" s_f_uncertainty f fd) (T : Txt K mg C) (m_uncertainty : C8.Met P w K mg base 3 C "uncertainty" (sp_m_uncertainty K C) []) (m_has_cell : C8.Met P w K mg base 2 C "has_cell" (sp_m_has_cell K C) []) :
    FnOk P w K mg base CX0 4 f fd ["ice", "cell"] (sp_f_uncertainty K C) := by
  refine F.ok sc_f_uncertainty (fun vs H Q E h => spO1.len h) (fun cdv A outer s H vs Q E hr h => ?_)
  obtain ⟨a, f, n, rfl, I, G, k⟩ := h
  obtain ⟨dx, l, h1, _⟩ := id I
  have k' := k.same I G rfl
  rw [ans_uncertainty] at k'
  refine ⟨_, (pss_cons (ps_if (pt_not (pt_val (C8.pe_mt m_has_cell hr (by decide) (pv 0) (pa_cons (pv 1) pa_nil)))) (pss_one (ps_ret (pe_lst (pa_cons (pe_gi T.gNO_SUCH_CELL) pa_nil)))) pss_nil)
    (pss_one (ps_ret (pe_lst (pa_cons (C8.pe_mt m_uncertainty hr (by decide) (pv 0) (pa_cons (pv 1) pa_nil)) pa_nil))))), ?_⟩
  refine ⟨_, rfl, a, _, _, rfl, h1, lkn (by decide +kernel) _ _, _, rfl, a, f, n, rfl, I, G, True.intro, fun H1 s1 => ⟨_, rfl, ?_⟩⟩
  have g1 := s1 _ _ h1
  refine iteB (fun q => ?_) (fun q => ?_)
  · have q := of_decide_eq_false (not_t q)
    refine ⟨sz one_le, fun p hp => k' _ p (s1.trans (Same.new hp)) (upd_same.trans ?_)⟩
    rw [if_pos (by omega)]
    rfl
  · have q := of_decide_eq_true (not_f q)
    refine ⟨_, rfl, a, _, _, rfl, g1, lkn (by decide +kernel) _ _, _, rfl, a, f, n, rfl, I.same s1, G, True.intro, fun H2 s2 => ⟨sz one_le, fun p hp => k' _ p ((s1.trans s2).trans (Same.new hp)) (upd_same.trans ?_)⟩⟩
    rw [if_neg (by omega)]
    rfl
abbrev s_f_lower_bounds : Stmt := top 26
theorem sc_f_lower_bounds : FnScope ["ice", "cell"] ["ice"] (defScope s_f_lower_bounds) := ⟨rfl, rfl, rfl, by decide +kernel, rfl, by decide +kernel, by decide +kernel⟩
theorem ok_f_lower_bounds {P : Program} {w : World} {K : PySem.W.Frag} {mg : Str → Option Value} {base : Heap} {C f : Addr} {fd : FuncData} (F : Fun K "lower_bounds" "lower_bounds" s_f_lower_bounds f fd) (T : Txt K mg C) (m_cell_count : C8.Met P w K mg base 1 C "cell_count" (sp_m_cell_count K C) []) (m_lower_bound : C8.Met P w K mg base 2 C "lower_bound" (sp_m_lower_bound K C) []) :
    FnOk P w K mg base CX0 3 f fd ["ice"] (sp_f_lower_bounds K C) := by
  refine F.ok sc_f_lower_bounds (fun vs H Q E h => spO0.len h) (fun cdv A outer s H vs Q E hr h => ?_)
  obtain ⟨a, f, rfl, I, G, k⟩ := h
  obtain ⟨dx, l, h1, _⟩ := id I
  have hn := G.count
  have k' := k.same I G rfl
  refine ⟨_, (pss_one (ps_ret (pe_op op_cat (pe_lst (pa_cons (C8.pe_mt0 m_cell_count hr (by decide) (pv 0)) pa_nil)) (pe_lc (own := [("cell", 1)]) (g := (gName 1)) (tt := tYes) (by rfl) sc_f_lower_bounds.nd (pi_range1 rfl T.range (pa_cons (C8.pe_mt0 m_cell_count hr (by decide) (pv 0)) pa_nil)) (blkOk_by (own := [("cell", 1)]) (N := ["ice", "cell"]) (sc := defScope s_f_lower_bounds) (by decide +kernel)) (fun _ _ _ _ _ => (pg_name (i := 1) sc_f_lower_bounds.nd rfl (Or.inl rfl))) (fun _ _ _ _ _ => pts_nil) (fun _ _ _ _ _ => (C8.pe_mt m_lower_bound hr (by decide) (pv 0) (pa_cons (pv 1) pa_nil))))))), ?_⟩
  refine ⟨_, rfl, a, _, _, rfl, h1, lkn (by decide +kernel) _ _, a, f, rfl, I, G, fun H1 s1 => ⟨sz one_le, fun p hp => ?_⟩⟩
  have sp := Same.new (o := .lst [.int (Km563.cellCount f : Nat)]) hp
  have s01 := s1.trans sp
  refine ⟨_, rfl, a, _, _, rfl, (s01 _ _ h1), lkn (by decide +kernel) _ _, a, f, rfl, I.same s01, G, fun H2 s2 => ⟨_, rfl, by omega, by omega, fun D hD => ?_⟩⟩
  have s02 := s01.trans s2
  have ep := s2 _ _ (upd_same (H := H1) (a := p) (o := .lst [.int (Km563.cellCount f : Nat)]))
  refine lc_range (lo := 0) (n := ((Km563.cellCount f : Nat) : Int).toNat) (fun i H' => Same H2 H' ∧ H' D = some (.lst (((List.range i).map fun c => Km563.lowerBound f c).map iv))) ⟨Same.new hD, upd_same⟩ ?_ ?_
  · rintro i H' hi ⟨s3, d3⟩
    rw [Int.toNat_natCast] at hi
    have g3 := s3 _ _ (s02 _ _ h1)
    refine ⟨rfl, ?_⟩
    refine ⟨_, rfl, a, _, _, rfl, g3, lkn (by decide +kernel) _ _, _, rfl, a, f, i, congrArg (fun v => [V.ref a, v]) (zi i), I.same (s02.trans s3), G, True.intro, fun H4 s4 => ?_⟩
    refine ⟨_, s4 _ _ d3, szl (by simp only [List.length_map, List.length_range]; omega), Same.mut (s3.trans s4) hD, upd_same.trans ?_⟩
    rw [range_more, List.map_append, List.map_append]
    rfl
  · rintro H' ⟨s3, d3⟩
    rw [Int.toNat_natCast] at d3
    refine ⟨p, D, _, _, rfl, rfl, s3 _ _ ep, d3, sz (by simp only [List.length_map, List.length_range, List.length_singleton]; omega), fun q hq => k' _ q ((s02.trans s3).trans (Same.new hq)) (upd_same.trans ?_)⟩
    unfold ans
    show _ = some (HO.lst ((((((List.range (Km563.cellCount f)).map fun c => Km563.lowerBound f c).length : Nat) : Int) :: Km563.toInts ((List.range (Km563.cellCount f)).map fun c => Km563.lowerBound f c)).map V.int))
    rw [List.length_map, List.length_range]
    rw [List.map_cons, toInts_iv]
    rfl
abbrev s_f_upper_bounds : Stmt := top 27
theorem sc_f_upper_bounds : FnScope ["ice", "cell"] ["ice"] (defScope s_f_upper_bounds) := ⟨rfl, rfl, rfl, by decide +kernel, rfl, by decide +kernel, by decide +kernel⟩
theorem ok_f_upper_bounds {P : Program} {w : World} {K : PySem.W.Frag} {mg : Str → Option Value} {base : Heap} {C f : Addr} {fd : FuncData} (F : Fun K "upper_bounds" "upper_bounds" s_f_upper_bounds f fd) (T : Txt K mg C) (m_cell_count : C8.Met P w K mg base 1 C "cell_count" (sp_m_cell_count K C) []) (m_upper_bound : C8.Met P w K mg base 2 C "upper_bound" (sp_m_upper_bound K C) []) :
    FnOk P w K mg base CX0 3 f fd ["ice"] (sp_f_upper_bounds K C) := by
  refine F.ok sc_f_upper_bounds (fun vs H Q E h => spO0.len h) (fun cdv A outer s H vs Q E hr h => ?_)
  obtain ⟨a, f, rfl, I, G, k⟩ := h
  obtain ⟨dx, l, h1, _⟩ := id I
  have hn := G.count
  have k' := k.same I G rfl
  refine ⟨_, (pss_one (ps_ret (pe_op op_cat (pe_lst (pa_cons (C8.pe_mt0 m_cell_count hr (by decide) (pv 0)) pa_nil)) (pe_lc (own := [("cell", 1)]) (g := (gName 1)) (tt := tYes) (by rfl) sc_f_upper_bounds.nd (pi_range1 rfl T.range (pa_cons (C8.pe_mt0 m_cell_count hr (by decide) (pv 0)) pa_nil)) (blkOk_by (own := [("cell", 1)]) (N := ["ice", "cell"]) (sc := defScope s_f_upper_bounds) (by decide +kernel)) (fun _ _ _ _ _ => (pg_name (i := 1) sc_f_upper_bounds.nd rfl (Or.inl rfl))) (fun _ _ _ _ _ => pts_nil) (fun _ _ _ _ _ => (C8.pe_mt m_upper_bound hr (by decide) (pv 0) (pa_cons (pv 1) pa_nil))))))), ?_⟩
  refine ⟨_, rfl, a, _, _, rfl, h1, lkn (by decide +kernel) _ _, a, f, rfl, I, G, fun H1 s1 => ⟨sz one_le, fun p hp => ?_⟩⟩
  have sp := Same.new (o := .lst [.int (Km563.cellCount f : Nat)]) hp
  have s01 := s1.trans sp
  refine ⟨_, rfl, a, _, _, rfl, (s01 _ _ h1), lkn (by decide +kernel) _ _, a, f, rfl, I.same s01, G, fun H2 s2 => ⟨_, rfl, by omega, by omega, fun D hD => ?_⟩⟩
  have s02 := s01.trans s2
  have ep := s2 _ _ (upd_same (H := H1) (a := p) (o := .lst [.int (Km563.cellCount f : Nat)]))
  refine lc_range (lo := 0) (n := ((Km563.cellCount f : Nat) : Int).toNat) (fun i H' => Same H2 H' ∧ H' D = some (.lst (((List.range i).map fun c => Km563.upperBound f c).map iv))) ⟨Same.new hD, upd_same⟩ ?_ ?_
  · rintro i H' hi ⟨s3, d3⟩
    rw [Int.toNat_natCast] at hi
    have g3 := s3 _ _ (s02 _ _ h1)
    refine ⟨rfl, ?_⟩
    refine ⟨_, rfl, a, _, _, rfl, g3, lkn (by decide +kernel) _ _, _, rfl, a, f, i, congrArg (fun v => [V.ref a, v]) (zi i), I.same (s02.trans s3), G, True.intro, fun H4 s4 => ?_⟩
    refine ⟨_, s4 _ _ d3, szl (by simp only [List.length_map, List.length_range]; omega), Same.mut (s3.trans s4) hD, upd_same.trans ?_⟩
    rw [range_more, List.map_append, List.map_append]
    rfl
  · rintro H' ⟨s3, d3⟩
    rw [Int.toNat_natCast] at d3
    refine ⟨p, D, _, _, rfl, rfl, s3 _ _ ep, d3, sz (by simp only [List.length_map, List.length_range, List.length_singleton]; omega), fun q hq => k' _ q ((s02.trans s3).trans (Same.new hq)) (upd_same.trans ?_)⟩
    unfold ans
    show _ = some (HO.lst ((((((List.range (Km563.cellCount f)).map fun c => Km563.upperBound f c).length : Nat) : Int) :: Km563.toInts ((List.range (Km563.cellCount f)).map fun c => Km563.upperBound f c)).map V.int))
    rw [List.length_map, List.length_range]
    rw [List.map_cons, toInts_iv]
    rfl
abbrev s_f_is_possible : Stmt := top 28
theorem sc_f_is_possible : FnScope ["ice", "cell", "thickness", "refused"] ["ice", "cell", "thickness"] (defScope s_f_is_possible) := ⟨rfl, rfl, rfl, by decide +kernel, rfl, by decide +kernel, by decide +kernel⟩
theorem ans_possible {f : IceField} (G : Good f) (c t : Nat) : ans f (.isPossible c t) = if Km563.cellCount f ≤ c then [-2] else if 99 < t then [-22] else if Km563.lowerBound f c ≤ t ∧ t ≤ Km563.upperBound f c then [1] else [0] := by
  unfold ans
  show (if Km563.cellCount f ≤ c then Km563.error (-2) else if 99 < t then Km563.error (-22) else Km563.boolean (Km563.isConsistent (Km563.withMeasurement f c t) && decide (Km563.lowerBound f c ≤ t ∧ t ≤ Km563.upperBound f c))).num ::
    (if Km563.cellCount f ≤ c then Km563.error (-2) else if 99 < t then Km563.error (-22) else Km563.boolean (Km563.isConsistent (Km563.withMeasurement f c t) && decide (Km563.lowerBound f c ≤ t ∧ t ≤ Km563.upperBound f c))).nums = _
  rw [possible_eq G]
  by_cases h1 : Km563.cellCount f ≤ c
  · rw [if_pos h1, if_pos h1]
    rfl
  · by_cases h2 : 99 < t
    · rw [if_neg h1, if_neg h1, if_pos h2, if_pos h2]
      rfl
    · rw [if_neg h1, if_neg h1, if_neg h2, if_neg h2]
      by_cases h3 : Km563.lowerBound f c ≤ t ∧ t ≤ Km563.upperBound f c
      · rw [decide_eq_true h3, if_pos h3]
        rfl
      · rw [decide_eq_false h3, if_neg h3]
        rfl
theorem ok_f_is_possible {P : Program} {w : World} {K : PySem.W.Frag} {mg : Str → Option Value} {base : Heap} {C f : Addr} {fd : FuncData} (F : Fun K "is_possible" "is_possible" s_f_is_possible f fd) (T : Txt K mg C) (m_lower_bound : C8.Met P w K mg base 2 C "lower_bound" (sp_m_lower_bound K C) []) (m_upper_bound : C8.Met P w K mg base 2 C "upper_bound" (sp_m_upper_bound K C) []) (f_refusal : C8.Cal P w K mg base 3 "refusal" (sp_f_refusal K C) []) :
    FnOk P w K mg base CX0 4 f fd ["ice", "cell", "thickness"] (sp_f_is_possible K C) := by
  refine F.ok sc_f_is_possible (fun vs H Q E h => spO2.len h) (fun cdv A outer s H vs Q E hr h => ?_)
  obtain ⟨a, f, c, t, rfl, I, G, k⟩ := h
  obtain ⟨dx, l, h1, _⟩ := id I
  have k' := k.same I G rfl
  rw [ans_possible G] at k'
  refine ⟨_, (pss_cons (ps_set (i := 3) sc_f_is_possible.nd rfl (Or.inl rfl) (C8.pe_c f_refusal hr (by decide) rfl (pa_cons (pv 0) (pa_cons (pe_lst (pa_cons (pv 1) pa_nil)) (pa_cons (pv 2) pa_nil)))))
    (pss_cons (ps_if (pt_truth (pv 3) (by intro _; rfl)) (pss_one (ps_ret (pv 3))) pss_nil)
    (pss_cons (ps_if (pt_chain op_le op_le (C8.pe_mt m_lower_bound hr (by decide) (pv 0) (pa_cons (pv 1) pa_nil)) (pv 2) (C8.pe_mt m_upper_bound hr (by decide) (pv 0) (pa_cons (pv 1) pa_nil))) (pss_one (ps_ret (pe_lst (pa_cons pe_int pa_nil)))) pss_nil)
    (pss_one (ps_ret (pe_lst (pa_cons pe_int pa_nil))))))), ?_⟩
  refine ⟨_, rfl, _, rfl, sz one_le, fun b hb => ?_⟩
  have s0 : Same H (upd H b (.lst [.int c])) := Same.new hb
  refine ⟨_, rfl, a, f, b, [c], t, rfl, I.same s0, G, SqL.of upd_same, fun H1 p s1 e1 => ?_⟩
  have s01 := s0.trans s1
  refine ⟨_, rfl, _, .inl ⟨_, SqL.of e1, rfl⟩, ?_⟩
  rcases refuse_one f c t with ⟨q1, e⟩ | ⟨q1, q2, e⟩ | ⟨q1, q2, e⟩
  · rw [e] at e1 ⊢
    refine iteT ?_
    refine ⟨_, rfl, k' _ p s01 (e1.trans ?_)⟩
    rw [if_pos q1]
  · rw [e] at e1 ⊢
    refine iteT ?_
    refine ⟨_, rfl, k' _ p s01 (e1.trans ?_)⟩
    rw [if_neg q1, if_pos q2]
  · rw [e] at e1 ⊢
    refine iteF ?_
    rw [if_neg q1, if_neg q2] at k'
    have g1 := s01 _ _ h1
    refine ⟨_, rfl, a, _, _, rfl, g1, lkn (by decide +kernel) _ _, _, rfl, a, f, c, rfl, I.same s01, G, True.intro, fun H2 s2 => ⟨_, rfl, _, _, rfl, rfl, _, rfl, ?_⟩⟩
    have s02 := s01.trans s2
    have g2 := s02 _ _ h1
    refine iteB (fun q3 => ?_) (fun q3 => ?_)
    · have q3 := of_decide_eq_true q3
      refine ⟨_, rfl, a, _, _, rfl, g2, lkn (by decide +kernel) _ _, _, rfl, a, f, c, rfl, I.same s02, G, True.intro, fun H3 s3 => ⟨_, _, rfl, rfl, _, rfl, ?_⟩⟩
      refine iteB (fun q4 => ?_) (fun q4 => ?_)
      · have q4 := of_decide_eq_true q4
        refine ⟨sz one_le, fun r hr => k' _ r ((s02.trans s3).trans (Same.new hr)) (upd_same.trans ?_)⟩
        rw [if_pos ⟨by omega, by omega⟩]
        rfl
      · have q4 := of_decide_eq_false q4
        refine ⟨sz one_le, fun r hr => k' _ r ((s02.trans s3).trans (Same.new hr)) (upd_same.trans ?_)⟩
        rw [if_neg (fun z => q4 (Int.ofNat_le.mpr z.2))]
        rfl
    · have q3 := of_decide_eq_false q3
      refine ⟨_, rfl, ?_⟩
      refine ⟨sz one_le, fun r hr => k' _ r (s02.trans (Same.new hr)) (upd_same.trans ?_)⟩
      rw [if_neg (fun z => q3 (Int.ofNat_le.mpr z.1))]
      rfl
abbrev s_f_most_uncertain_cell : Stmt := top 30
theorem sc_f_most_uncertain_cell : FnScope ["ice", "found", "cell"] ["ice"] (defScope s_f_most_uncertain_cell) := ⟨rfl, rfl, rfl, by decide +kernel, rfl, by decide +kernel, by decide +kernel⟩
theorem ok_f_most_uncertain_cell {P : Program} {w : World} {K : PySem.W.Frag} {mg : Str → Option Value} {base : Heap} {C f : Addr} {fd : FuncData} (F : Fun K "most_uncertain_cell" "most_uncertain_cell" s_f_most_uncertain_cell f fd) (T : Txt K mg C) (m_uncertainty : C8.Met P w K mg base 3 C "uncertainty" (sp_m_uncertainty K C) []) (m_cell_count : C8.Met P w K mg base 1 C "cell_count" (sp_m_cell_count K C) []) :
    FnOk P w K mg base CX0 4 f fd ["ice"] (sp_f_most_uncertain_cell K C) := by
  refine F.ok sc_f_most_uncertain_cell (fun vs H Q E h => spO0.len h) (fun cdv A outer s H vs Q E hr h => ?_)
  obtain ⟨a, f, rfl, I, G, k⟩ := h
  obtain ⟨dx, l, h1, _⟩ := id I
  have hn := G.count
  have k' := k.same I G rfl
  refine ⟨_, (pss_cons (ps_set (i := 1) sc_f_most_uncertain_cell.nd rfl (Or.inl rfl) pe_int)
    (pss_cons (ps_for PassesOwn.never rfl (pi_range2 rfl T.range (pa_cons pe_int (pa_cons (C8.pe_mt0 m_cell_count hr (by decide) (pv 0)) pa_nil))) (pg_name (i := 2) sc_f_most_uncertain_cell.nd rfl (Or.inl rfl)) (pss_one (ps_if (pt_cmpR op_gt (C8.pe_mt m_uncertainty hr (by decide) (pv 0) (pa_cons (pv 2) pa_nil)) (C8.pe_mt m_uncertainty hr (by decide) (pv 0) (pa_cons (pv 1) pa_nil)) (nomark _)) (pss_one (ps_set (i := 1) sc_f_most_uncertain_cell.nd rfl (Or.inl rfl) (pv 2))) pss_nil)))
    (pss_one (ps_ret (pe_lst (pa_cons (pv 1) (pa_cons (C8.pe_mt m_uncertainty hr (by decide) (pv 0) (pa_cons (pv 1) pa_nil)) pa_nil))))))), ?_⟩
  refine ⟨_, rfl, a, _, _, rfl, h1, lkn (by decide +kernel) _ _, a, f, rfl, I, G, fun H1 s1 => ?_⟩
  have en : (((Km563.cellCount f : Nat) : Int) - 1).toNat = Km563.cellCount f - 1 := by omega
  refine ⟨_, _, rfl, ⟨by omega, by omega, by omega, by omega⟩, for_range (lo := 1) (n := (((Km563.cellCount f : Nat) : Int) - 1).toNat)
    (fun i σ H' => (∃ v, σ = [some (.ref a), some (.int ((((List.range i).foldl (fun (best i : Nat) => if Km563.uncertainty f best < Km563.uncertainty f (1 + i) then 1 + i else best) 0 : Nat)) : Int)), v]) ∧ Same H H') ⟨⟨_, rfl⟩, s1⟩ ?_ ?_⟩
  · rintro i σ H' hi ⟨⟨v, rfl⟩, s2⟩
    have g2 := s2 _ _ h1
    have e1 : (1 : Int) + (i : Int) = ((1 + i : Nat) : Int) := by omega
    rw [range_more, List.foldl_append]
    generalize (List.range i).foldl (fun (best i : Nat) => if Km563.uncertainty f best < Km563.uncertainty f (1 + i) then 1 + i else best) 0 = b
    rw [e1]
    refine ⟨_, rfl, a, _, _, rfl, g2, lkn (by decide +kernel) _ _, _, rfl, a, f, 1 + i, rfl, I.same s2, G, True.intro, fun H3 s3 => ?_⟩
    have s03 := s2.trans s3
    have g3 := s03 _ _ h1
    refine ⟨_, rfl, a, _, _, rfl, g3, lkn (by decide +kernel) _ _, _, rfl, a, f, b, rfl, I.same s03, G, True.intro, fun H4 s4 => ⟨_, _, rfl, rfl, _, rfl, ?_⟩⟩
    refine iteB (fun q => ?_) (fun q => ?_)
    · have q := of_decide_eq_true q
      refine ⟨_, rfl, ⟨some (.int ((1 + i : Nat) : Int)), ?_⟩, s03.trans s4⟩
      show _ = [some (V.ref a), some (V.int ((if Km563.uncertainty f b < Km563.uncertainty f (1 + i) then 1 + i else b : Nat) : Int)), _]
      rw [if_pos (by omega)]
      rfl
    · have q := of_decide_eq_false q
      refine ⟨⟨some (.int ((1 + i : Nat) : Int)), ?_⟩, s03.trans s4⟩
      show _ = [some (V.ref a), some (V.int ((if Km563.uncertainty f b < Km563.uncertainty f (1 + i) then 1 + i else b : Nat) : Int)), _]
      rw [if_neg (by omega)]
      rfl
  · rintro σ H' ⟨⟨v, rfl⟩, s2⟩
    have g2 := s2 _ _ h1
    rw [en, ← most_start f _ hn.1]
    refine ⟨_, rfl, _, rfl, a, _, _, rfl, g2, lkn (by decide +kernel) _ _, _, rfl, a, f, Km563.mostUncertainCell f, rfl, I.same s2, G, True.intro, fun H3 s3 => ⟨sz (by show 2 ≤ 100000; decide), fun p hp => k' _ p ((s2.trans s3).trans (Same.new hp)) (upd_same.trans ?_)⟩⟩
    rfl
end Ib

/-! ### part D11 -/
set_option Elab.async false
set_option linter.all false
set_option maxRecDepth 100000
set_option maxHeartbeats 2000000
namespace Ib
open PySem PySem.Spec PyProof.Rows L2
open Km563 (IceField)
theorem if2 {f : IceField} {p q : Prop} [Decidable p] [Decidable q] {x : Km563.Result} : ((if p then Km563.error (-2) else if q then Km563.error (-22) else x).num :: (if p then Km563.error (-2) else if q then Km563.error (-22) else x).nums) = if p then [-2] else if q then [-22] else x.num :: x.nums := by
  by_cases h1 : p
  · rw [if_pos h1, if_pos h1]
    rfl
  · by_cases h2 : q
    · rw [if_neg h1, if_neg h1, if_pos h2, if_pos h2]
      rfl
    · rw [if_neg h1, if_neg h1, if_neg h2, if_neg h2]
theorem if1 {q : Prop} [Decidable q] {e : Int} {x : Km563.Result} : ((if q then Km563.error e else x).num :: (if q then Km563.error e else x).nums) = if q then [e] else x.num :: x.nums := by
  by_cases h2 : q
  · rw [if_pos h2, if_pos h2]
    rfl
  · rw [if_neg h2, if_neg h2]
abbrev s_f_check_cell : Stmt := top 31
theorem sc_f_check_cell : FnScope ["ice", "required", "cell", "refused"] ["ice", "required", "cell"] (defScope s_f_check_cell) := ⟨rfl, rfl, rfl, by decide +kernel, rfl, by decide +kernel, by decide +kernel⟩
theorem ans_check (f : IceField) (r c : Nat) : ans f (.checkCell r c) = if Km563.cellCount f ≤ c then [-2] else if 99 < r then [-22] else [if Km563.isSafe f r c = true then 1 else if Km563.upperBound f c < r then 0 else 2] := if2 (f := f)
theorem ok_f_check_cell {P : Program} {w : World} {K : PySem.W.Frag} {mg : Str → Option Value} {base : Heap} {C f : Addr} {fd : FuncData} (F : Fun K "check_cell" "check_cell" s_f_check_cell f fd) (T : Txt K mg C) (m_is_uncertain : C8.Met P w K mg base 3 C "is_uncertain" (sp_m_is_uncertain K C) []) (m_is_safe : C8.Met P w K mg base 3 C "is_safe" (sp_m_is_safe K C) []) (f_refusal : C8.Cal P w K mg base 3 "refusal" (sp_f_refusal K C) []) :
    FnOk P w K mg base CX0 4 f fd ["ice", "required", "cell"] (sp_f_check_cell K C) := by
  refine F.ok sc_f_check_cell (fun vs H Q E h => spO2.len h) (fun cdv A outer s H vs Q E hr h => ?_)
  obtain ⟨a, f, t, c, rfl, I, G, k⟩ := h
  obtain ⟨dx, l, h1, _⟩ := id I
  have k' := k.same I G rfl
  rw [ans_check] at k'
  refine ⟨_, (pss_cons (ps_set (i := 3) sc_f_check_cell.nd rfl (Or.inl rfl) (C8.pe_c f_refusal hr (by decide) rfl (pa_cons (pv 0) (pa_cons (pe_lst (pa_cons (pv 2) pa_nil)) (pa_cons (pv 1) pa_nil)))))
    (pss_cons (ps_if (pt_truth (pv 3) (by intro _; rfl)) (pss_one (ps_ret (pv 3))) pss_nil)
    (pss_cons (ps_if (pt_val (C8.pe_mt m_is_safe hr (by decide) (pv 0) (pa_cons (pv 2) (pa_cons (pv 1) pa_nil)))) (pss_one (ps_ret (pe_lst (pa_cons (pe_gi T.gSAFE) pa_nil)))) pss_nil)
    (pss_cons (ps_if (pt_val (C8.pe_mt m_is_uncertain hr (by decide) (pv 0) (pa_cons (pv 2) (pa_cons (pv 1) pa_nil)))) (pss_one (ps_ret (pe_lst (pa_cons (pe_gi T.gUNCERTAIN) pa_nil)))) pss_nil)
    (pss_one (ps_ret (pe_lst (pa_cons (pe_gi T.gNOT_SAFE) pa_nil)))))))), ?_⟩
  refine ⟨_, rfl, _, rfl, sz one_le, fun b hb => ?_⟩
  have s0 : Same H (upd H b (.lst [.int c])) := Same.new hb
  refine ⟨_, rfl, a, f, b, [c], t, rfl, I.same s0, G, SqL.of upd_same, fun H1 p s1 e1 => ?_⟩
  have s01 := s0.trans s1
  refine ⟨_, rfl, _, .inl ⟨_, SqL.of e1, rfl⟩, ?_⟩
  rcases refuse_one f c t with ⟨q1, e⟩ | ⟨q1, q2, e⟩ | ⟨q1, q2, e⟩
  · rw [e] at e1 ⊢
    refine iteT ?_
    refine ⟨_, rfl, k' _ p s01 (e1.trans ?_)⟩
    rw [if_pos q1]
  · rw [e] at e1 ⊢
    refine iteT ?_
    refine ⟨_, rfl, k' _ p s01 (e1.trans ?_)⟩
    rw [if_neg q1, if_pos q2]
  · rw [e] at e1 ⊢
    refine iteF ?_
    rw [if_neg q1, if_neg q2] at k'
    have g1 := s01 _ _ h1
    refine ⟨_, rfl, a, _, _, rfl, g1, lkn (by decide +kernel) _ _, _, rfl, _, rfl, a, f, c, t, rfl, I.same s01, G, True.intro, fun H2 s2 => ⟨_, rfl, ?_⟩⟩
    have s02 := s01.trans s2
    have g2 := s02 _ _ h1
    refine iteB (fun q3 => ?_) (fun q3 => ?_)
    · have q3 : Km563.isSafe f t c = true := q3
      refine ⟨sz one_le, fun r hr => k' _ r (s02.trans (Same.new hr)) (upd_same.trans ?_)⟩
      rw [if_pos q3]
      rfl
    · have q3 : Km563.isSafe f t c = false := q3
      refine ⟨_, rfl, a, _, _, rfl, g2, lkn (by decide +kernel) _ _, _, rfl, _, rfl, a, f, c, t, rfl, I.same s02, G, True.intro, fun H3 s3 => ⟨_, rfl, ?_⟩⟩
      refine iteB (fun q4 => ?_) (fun q4 => ?_)
      · have q4 : isUnc f t c = true := q4
        unfold isUnc at q4
        rw [q3] at q4
        have q5 : t ≤ Km563.upperBound f c := of_decide_eq_true q4
        refine ⟨sz one_le, fun r hr => k' _ r ((s02.trans s3).trans (Same.new hr)) (upd_same.trans ?_)⟩
        rw [if_neg (by rw [q3]; decide), if_neg (by omega)]
        rfl
      · have q4 : isUnc f t c = false := q4
        unfold isUnc at q4
        rw [q3] at q4
        have q5 : ¬ t ≤ Km563.upperBound f c := of_decide_eq_false q4
        refine ⟨sz one_le, fun r hr => k' _ r ((s02.trans s3).trans (Same.new hr)) (upd_same.trans ?_)⟩
        rw [if_neg (by rw [q3]; decide), if_pos (by omega)]
        rfl
abbrev s_f_safe_cells : Stmt := top 32
theorem sc_f_safe_cells : FnScope ["ice", "required", "refused", "cells"] ["ice", "required"] (defScope s_f_safe_cells) := ⟨rfl, rfl, rfl, by decide +kernel, rfl, by decide +kernel, by decide +kernel⟩
theorem ans_safe_cells (f : IceField) (r : Nat) : ans f (.safeCells r) = if 99 < r then [-22] else ((((List.range (Km563.cellCount f)).filter fun n => Km563.isSafe f r n).length : Nat) : Int) :: Km563.toInts ((List.range (Km563.cellCount f)).filter fun n => Km563.isSafe f r n) := if1
theorem ok_f_safe_cells {P : Program} {w : World} {K : PySem.W.Frag} {mg : Str → Option Value} {base : Heap} {C f : Addr} {fd : FuncData} (F : Fun K "safe_cells" "safe_cells" s_f_safe_cells f fd) (T : Txt K mg C) (m_safe_cells : C8.Met P w K mg base 4 C "safe_cells" (sp_m_safe_cells K C) []) (f_refusal : C8.Cal P w K mg base 3 "refusal" (sp_f_refusal K C) []) :
    FnOk P w K mg base CX0 5 f fd ["ice", "required"] (sp_f_safe_cells K C) := by
  refine F.ok sc_f_safe_cells (fun vs H Q E h => spO1.len h) (fun cdv A outer s H vs Q E hr h => ?_)
  obtain ⟨a, f, r, rfl, I, G, k⟩ := h
  obtain ⟨dx, l, h1, _⟩ := id I
  have hn := G.count
  have k' := k.same I G rfl
  rw [ans_safe_cells] at k'
  refine ⟨_, (pss_cons (ps_set (i := 2) sc_f_safe_cells.nd rfl (Or.inl rfl) (C8.pe_c f_refusal hr (by decide) rfl (pa_cons (pv 0) (pa_cons (pe_lst (pa_nil)) (pa_cons (pv 1) pa_nil)))))
    (pss_cons (ps_if (pt_truth (pv 2) (by intro _; rfl)) (pss_one (ps_ret (pv 2))) pss_nil)
    (pss_cons (ps_set (i := 3) sc_f_safe_cells.nd rfl (Or.inl rfl) (C8.pe_mt m_safe_cells hr (by decide) (pv 0) (pa_cons (pv 1) pa_nil)))
    (pss_one (ps_ret (pe_op op_cat (pe_lst (pa_cons (pe_callB call_len_seq (by rfl) T.len (by decide +kernel) (pa_cons (pv 3) pa_nil)) pa_nil)) (pv 3))))))), ?_⟩
  refine ⟨_, rfl, Nat.zero_le _, fun b hb => ?_⟩
  have s0 : Same H (upd H b (.lst [])) := Same.new hb
  refine ⟨_, rfl, a, f, b, [], r, rfl, I.same s0, G, SqL.of upd_same, fun H1 p s1 e1 => ?_⟩
  have s01 := s0.trans s1
  refine ⟨_, rfl, _, .inl ⟨_, SqL.of e1, rfl⟩, ?_⟩
  rcases refuse_nil f r with ⟨q1, e⟩ | ⟨q1, e⟩
  · rw [e] at e1 ⊢
    refine iteT ?_
    refine ⟨_, rfl, k' _ p s01 (e1.trans ?_)⟩
    rw [if_pos q1]
  · rw [e] at e1 ⊢
    refine iteF ?_
    rw [if_neg q1] at k'
    have g1 := s01 _ _ h1
    refine ⟨_, rfl, a, _, _, rfl, g1, lkn (by decide +kernel) _ _, _, rfl, a, f, r, rfl, I.same s01, G, fun H2 pc s2 hpc e2 => ?_⟩
    have s02 := s01.trans s2
    refine ⟨_, rfl, pc, _, rfl, .inl (SqL.of e2), sz one_le, fun pl hpl => ?_⟩
    have s3 := Same.new (o := .lst [.int ((((List.range (Km563.cellCount f)).filter fun n => Km563.isSafe f r n).map iv).length : Nat)]) hpl
    have hle := filter_le (fun n => Km563.isSafe f r n) (Km563.cellCount f)
    refine ⟨_, rfl, pl, pc, _, _, rfl, rfl, upd_same, s3 _ _ e2, sz (by rw [List.length_singleton, List.length_map]; exact Nat.le_trans (Nat.add_le_add_left hle 1) (by omega)), fun q hq => k' _ q ((s02.trans s3).trans (Same.new hq)) (upd_same.trans ?_)⟩
    rw [List.map_cons, toInts_iv, List.length_map]
    rfl
abbrev s_f_uncertain_cells : Stmt := top 33
theorem sc_f_uncertain_cells : FnScope ["ice", "required", "refused", "cells"] ["ice", "required"] (defScope s_f_uncertain_cells) := ⟨rfl, rfl, rfl, by decide +kernel, rfl, by decide +kernel, by decide +kernel⟩
theorem ans_uncertain_cells (f : IceField) (r : Nat) : ans f (.uncertainCells r) = if 99 < r then [-22] else ((((List.range (Km563.cellCount f)).filter fun n => isUnc f r n).length : Nat) : Int) :: Km563.toInts ((List.range (Km563.cellCount f)).filter fun n => isUnc f r n) := if1
theorem ok_f_uncertain_cells {P : Program} {w : World} {K : PySem.W.Frag} {mg : Str → Option Value} {base : Heap} {C f : Addr} {fd : FuncData} (F : Fun K "uncertain_cells" "uncertain_cells" s_f_uncertain_cells f fd) (T : Txt K mg C) (m_uncertain_cells : C8.Met P w K mg base 4 C "uncertain_cells" (sp_m_uncertain_cells K C) []) (f_refusal : C8.Cal P w K mg base 3 "refusal" (sp_f_refusal K C) []) :
    FnOk P w K mg base CX0 5 f fd ["ice", "required"] (sp_f_uncertain_cells K C) := by
  refine F.ok sc_f_uncertain_cells (fun vs H Q E h => spO1.len h) (fun cdv A outer s H vs Q E hr h => ?_)
  obtain ⟨a, f, r, rfl, I, G, k⟩ := h
  obtain ⟨dx, l, h1, _⟩ := id I
  have hn := G.count
  have k' := k.same I G rfl
  rw [ans_uncertain_cells] at k'
  refine ⟨_, (pss_cons (ps_set (i := 2) sc_f_uncertain_cells.nd rfl (Or.inl rfl) (C8.pe_c f_refusal hr (by decide) rfl (pa_cons (pv 0) (pa_cons (pe_lst (pa_nil)) (pa_cons (pv 1) pa_nil)))))
    (pss_cons (ps_if (pt_truth (pv 2) (by intro _; rfl)) (pss_one (ps_ret (pv 2))) pss_nil)
    (pss_cons (ps_set (i := 3) sc_f_uncertain_cells.nd rfl (Or.inl rfl) (C8.pe_mt m_uncertain_cells hr (by decide) (pv 0) (pa_cons (pv 1) pa_nil)))
    (pss_one (ps_ret (pe_op op_cat (pe_lst (pa_cons (pe_callB call_len_seq (by rfl) T.len (by decide +kernel) (pa_cons (pv 3) pa_nil)) pa_nil)) (pv 3))))))), ?_⟩
  refine ⟨_, rfl, Nat.zero_le _, fun b hb => ?_⟩
  have s0 : Same H (upd H b (.lst [])) := Same.new hb
  refine ⟨_, rfl, a, f, b, [], r, rfl, I.same s0, G, SqL.of upd_same, fun H1 p s1 e1 => ?_⟩
  have s01 := s0.trans s1
  refine ⟨_, rfl, _, .inl ⟨_, SqL.of e1, rfl⟩, ?_⟩
  rcases refuse_nil f r with ⟨q1, e⟩ | ⟨q1, e⟩
  · rw [e] at e1 ⊢
    refine iteT ?_
    refine ⟨_, rfl, k' _ p s01 (e1.trans ?_)⟩
    rw [if_pos q1]
  · rw [e] at e1 ⊢
    refine iteF ?_
    rw [if_neg q1] at k'
    have g1 := s01 _ _ h1
    refine ⟨_, rfl, a, _, _, rfl, g1, lkn (by decide +kernel) _ _, _, rfl, a, f, r, rfl, I.same s01, G, fun H2 pc s2 hpc e2 => ?_⟩
    have s02 := s01.trans s2
    refine ⟨_, rfl, pc, _, rfl, .inl (SqL.of e2), sz one_le, fun pl hpl => ?_⟩
    have s3 := Same.new (o := .lst [.int ((((List.range (Km563.cellCount f)).filter fun n => isUnc f r n).map iv).length : Nat)]) hpl
    have hle := filter_le (fun n => isUnc f r n) (Km563.cellCount f)
    refine ⟨_, rfl, pl, pc, _, _, rfl, rfl, upd_same, s3 _ _ e2, sz (by rw [List.length_singleton, List.length_map]; exact Nat.le_trans (Nat.add_le_add_left hle 1) (by omega)), fun q hq => k' _ q ((s02.trans s3).trans (Same.new hq)) (upd_same.trans ?_)⟩
    rw [List.map_cons, toInts_iv, List.length_map]
    rfl
abbrev s_f_safe_route : Stmt := top 34
theorem sc_f_safe_route : FnScope ["ice", "required", "origin", "target", "refused", "route"] ["ice", "required", "origin", "target"] (defScope s_f_safe_route) := ⟨rfl, rfl, rfl, by decide +kernel, rfl, by decide +kernel, by decide +kernel⟩
theorem ans_route (f : IceField) (r o t : Nat) : ans f (.safeRoute r o t) = if Km563.cellCount f ≤ o ∨ Km563.cellCount f ≤ t then [-2] else if 99 < r then [-22] else match Km563.safeRoute f r o t with
    | none => [-33]
    | some l => ((l.length : Nat) : Int) :: Km563.toInts l := by
  unfold ans
  refine (if2 (f := f)).trans ?_
  cases Km563.safeRoute f r o t <;> rfl
theorem ok_f_safe_route {P : Program} {w : World} {K : PySem.W.Frag} {mg : Str → Option Value} {base : Heap} {C f : Addr} {fd : FuncData} (F : Fun K "safe_route" "safe_route" s_f_safe_route f fd) (T : Txt K mg C) (m_safe_route : C8.Met P w K mg base 6 C "safe_route" (sp_m_safe_route K C) []) (f_refusal : C8.Cal P w K mg base 3 "refusal" (sp_f_refusal K C) []) :
    FnOk P w K mg base CX0 7 f fd ["ice", "required", "origin", "target"] (sp_f_safe_route K C) := by
  refine F.ok sc_f_safe_route (fun vs H Q E h => spO3.len h) (fun cdv A outer s H vs Q E hr h => ?_)
  obtain ⟨a, f, r, o, t, rfl, I, G, k⟩ := h
  obtain ⟨dx, l, h1, _⟩ := id I
  have hn := G.count
  have k' := k.same I G rfl
  rw [ans_route] at k'
  refine ⟨_, (pss_cons (ps_set (i := 4) sc_f_safe_route.nd rfl (Or.inl rfl) (C8.pe_c f_refusal hr (by decide) rfl (pa_cons (pv 0) (pa_cons (pe_lst (pa_cons (pv 2) (pa_cons (pv 3) pa_nil))) (pa_cons (pv 1) pa_nil)))))
    (pss_cons (ps_if (pt_truth (pv 4) (by intro _; rfl)) (pss_one (ps_ret (pv 4))) pss_nil)
    (pss_cons (ps_set (i := 5) sc_f_safe_route.nd rfl (Or.inl rfl) (C8.pe_mt m_safe_route hr (by decide) (pv 0) (pa_cons (pv 1) (pa_cons (pv 2) (pa_cons (pv 3) pa_nil)))))
    (pss_cons (ps_if (pt_not (pt_truth (pv 5) (by intro _; rfl))) (pss_one (ps_ret (pe_lst (pa_cons (pe_gi T.gNO_SAFE_ROUTE) pa_nil)))) pss_nil)
    (pss_one (ps_ret (pe_op op_cat (pe_lst (pa_cons (pe_callB call_len_seq (by rfl) T.len (by decide +kernel) (pa_cons (pv 5) pa_nil)) pa_nil)) (pv 5)))))))), ?_⟩
  refine ⟨_, rfl, _, rfl, _, rfl, sz (by show 2 ≤ 100000; decide), fun b hb => ?_⟩
  have s0 : Same H (upd H b (.lst [.int o, .int t])) := Same.new hb
  refine ⟨_, rfl, a, f, b, [o, t], r, rfl, I.same s0, G, SqL.of upd_same, fun H1 p s1 e1 => ?_⟩
  have s01 := s0.trans s1
  refine ⟨_, rfl, _, .inl ⟨_, SqL.of e1, rfl⟩, ?_⟩
  rcases refuse_two f o t r with ⟨q1, e⟩ | ⟨q1, q2, e⟩ | ⟨q1, q2, e⟩
  · rw [e] at e1 ⊢
    refine iteT ?_
    refine ⟨_, rfl, k' _ p s01 (e1.trans ?_)⟩
    rw [if_pos q1]
  · rw [e] at e1 ⊢
    refine iteT ?_
    refine ⟨_, rfl, k' _ p s01 (e1.trans ?_)⟩
    rw [if_neg q1, if_pos q2]
  · rw [e] at e1 ⊢
    refine iteF ?_
    rw [if_neg q1, if_neg q2] at k'
    have ho : o < Km563.cellCount f := by omega
    have ht : t < Km563.cellCount f := by omega
    obtain ⟨d, D, _⟩ := search G r ho
    have g1 := s01 _ _ h1
    refine ⟨_, rfl, a, _, _, rfl, g1, lkn (by decide +kernel) _ _, _, rfl, _, rfl, _, rfl, a, f, r, o, t, rfl, I.same s01, G, ho, ht, fun H2 pc s2 hpc e2 => ?_⟩
    have s02 := s01.trans s2
    refine ⟨_, rfl, _, .inl ⟨_, SqL.of e2, rfl⟩, ?_⟩
    cases er : Km563.safeRoute f r o t with
    | none =>
      have er2 : route f r o t = [] := by
        unfold route
        rw [er]
        rfl
      rw [er] at k'
      rw [er2]
      refine iteT ?_
      exact ⟨sz one_le, fun q hq => k' _ q (s02.trans (Same.new hq)) upd_same⟩
    | some rt =>
      have er2 : route f r o t = rt := by
        unfold route
        rw [er]
        rfl
      have ne : rt ≠ [] := fun z => by
        have z2 := (route_ne (req := r) (origin := o) G D ht).mp (er2.trans z)
        rw [route_is.mpr z2] at er
        cases er
      have hl : rt.length ≤ 26 := by
        cases ev : (Km563.safeDistances f r o).getD t none with
        | none =>
          rw [route_is.mpr ev] at er
          cases er
        | some v =>
          have := route_len G D ht ev
          rw [er2] at this
          rw [D.tab t ht] at ev
          have := (D.lt t v ev).2.2
          omega
      rw [er] at k'
      rw [er2] at e2 ⊢
      have c : (!(!(rt.map iv).isEmpty)) = false := by
        cases rt with
        | nil => exact absurd rfl ne
        | cons x y => rfl
      refine iteFo c ?_
      refine ⟨_, rfl, pc, _, rfl, .inl (SqL.of e2), sz one_le, fun pl hpl => ?_⟩
      have s3 := Same.new (o := .lst [.int ((rt.map iv).length : Nat)]) hpl
      refine ⟨_, rfl, pl, pc, _, _, rfl, rfl, upd_same, s3 _ _ e2, sz (by rw [List.length_singleton, List.length_map]; omega), fun q hq => k' _ q ((s02.trans s3).trans (Same.new hq)) (upd_same.trans ?_)⟩
      show _ = some (HO.lst ((((rt.length : Nat) : Int) :: Km563.toInts rt).map V.int))
      rw [List.map_cons, toInts_iv, List.length_map]
      rfl
abbrev s_f_safe_route_length : Stmt := top 35
theorem sc_f_safe_route_length : FnScope ["ice", "required", "origin", "target", "answer"] ["ice", "required", "origin", "target"] (defScope s_f_safe_route_length) := ⟨rfl, rfl, rfl, by decide +kernel, rfl, by decide +kernel, by decide +kernel⟩
theorem ans_length {f : IceField} (G : Good f) (r o t : Nat) : (∃ x : Int, x < 0 ∧ ans f (.safeRoute r o t) = [x] ∧ ans f (.safeRouteLength r o t) = [x]) ∨
    ∃ (n : Nat) (rest : List Int), ans f (.safeRoute r o t) = ((n + 1 : Nat) : Int) :: rest ∧ ans f (.safeRouteLength r o t) = [(n : Int)] := by
  have e : ans f (.safeRouteLength r o t) = if Km563.cellCount f ≤ o ∨ Km563.cellCount f ≤ t then [-2] else if 99 < r then [-22] else match (Km563.safeDistances f r o).getD t none with
      | none => [-33]
      | some d => [((d : Nat) : Int)] := by
    unfold ans
    refine (if2 (f := f)).trans ?_
    cases (Km563.safeDistances f r o).getD t none <;> rfl
  rw [e, ans_route]
  by_cases h1 : Km563.cellCount f ≤ o ∨ Km563.cellCount f ≤ t
  · rw [if_pos h1, if_pos h1]
    exact .inl ⟨-2, by decide, rfl, rfl⟩
  · by_cases h2 : 99 < r
    · rw [if_neg h1, if_neg h1, if_pos h2, if_pos h2]
      exact .inl ⟨-22, by decide, rfl, rfl⟩
    · rw [if_neg h1, if_neg h1, if_neg h2, if_neg h2]
      obtain ⟨d, D, _⟩ := search G r (show o < Km563.cellCount f by omega)
      cases ev : (Km563.safeDistances f r o).getD t none with
      | none =>
        rw [route_is.mpr ev]
        exact .inl ⟨-33, by decide, rfl, rfl⟩
      | some v =>
        have hl := route_len G D (by omega) ev
        cases er : Km563.safeRoute f r o t with
        | none =>
          rw [route_is.mp er] at ev
          cases ev
        | some rt =>
          have er2 : route f r o t = rt := by
            unfold route
            rw [er]
            rfl
          rw [er2] at hl
          exact .inr ⟨v, Km563.toInts rt, (by show ((rt.length : Nat) : Int) :: Km563.toInts rt = _; rw [hl]), rfl⟩
theorem ok_f_safe_route_length {P : Program} {w : World} {K : PySem.W.Frag} {mg : Str → Option Value} {base : Heap} {C f : Addr} {fd : FuncData} (F : Fun K "safe_route_length" "safe_route_length" s_f_safe_route_length f fd) (T : Txt K mg C) (f_safe_route : C8.Cal P w K mg base 7 "safe_route" (sp_f_safe_route K C) []) :
    FnOk P w K mg base CX0 8 f fd ["ice", "required", "origin", "target"] (sp_f_safe_route_length K C) := by
  refine F.ok sc_f_safe_route_length (fun vs H Q E h => spO3.len h) (fun cdv A outer s H vs Q E hr h => ?_)
  obtain ⟨a, f, r, o, t, rfl, I, G, k⟩ := h
  refine ⟨_, (pss_cons (ps_set (i := 4) sc_f_safe_route_length.nd rfl (Or.inl rfl) (C8.pe_c f_safe_route hr (by decide) rfl (pa_cons (pv 0) (pa_cons (pv 1) (pa_cons (pv 2) (pa_cons (pv 3) pa_nil))))))
    (pss_cons (ps_if (pt_cmpR op_lt (pe_ix ix_list (pv 4) pe_int (fun _ _ => rfl)) pe_int (nomark _)) (pss_one (ps_ret (pv 4))) pss_nil)
    (pss_one (ps_ret (pe_lst (pa_cons (pe_op op_sub (pe_ix ix_list (pv 4) pe_int (fun _ _ => rfl)) pe_int) pa_nil)))))), ?_⟩
  refine ⟨_, rfl, _, rfl, _, rfl, _, rfl, a, f, r, o, t, rfl, I, G, fun H1 p I1 G1 b1 e1 => ?_⟩
  rcases ans_length G r o t with ⟨x, hx, ea, el⟩ | ⟨n, rest, ea, el⟩
  · rw [ea] at e1
    refine ⟨_, rfl, p, _, _, _, rfl, rfl, SqL.of e1, at_of (z := 0) (j := 0) rfl rfl, _, _, rfl, rfl, _, rfl, ?_⟩
    refine iteTo (decide_eq_true hx) ?_
    exact ⟨_, rfl, k H1 p I1 G1 b1 (by rw [el]; exact e1)⟩
  · rw [ea] at e1
    refine ⟨_, rfl, p, _, _, _, rfl, rfl, SqL.of e1, at_of (z := 0) (j := 0) rfl rfl, _, _, rfl, rfl, _, rfl, ?_⟩
    refine iteFo (decide_eq_false (by omega)) ?_
    refine ⟨_, rfl, p, _, _, _, rfl, rfl, SqL.of e1, at_of (z := 0) (j := 0) rfl rfl, _, _, rfl, rfl, sz one_le, fun q hq => ?_⟩
    have s2 := Same.new (o := .lst [.int (((n + 1 : Nat) : Int) - 1)]) hq
    refine k _ q (IceAt.same s2 I1) G1 (b1.trans (But.of s2)) (upd_same.trans ?_)
    rw [el]
    have e : ((n + 1 : Nat) : Int) - 1 = (n : Int) := by omega
    show some (HO.lst [V.int (((n + 1 : Nat) : Int) - 1)]) = _
    rw [e]
    rfl
abbrev s_f_max_safe_thickness : Stmt := top 36
theorem sc_f_max_safe_thickness : FnScope ["ice", "origin", "target"] ["ice", "origin", "target"] (defScope s_f_max_safe_thickness) := ⟨rfl, rfl, rfl, by decide +kernel, rfl, by decide +kernel, by decide +kernel⟩
theorem ans_max (f : IceField) (o t : Nat) : ans f (.maxSafeThickness o t) = if Km563.cellCount f ≤ o ∨ Km563.cellCount f ≤ t then [-2] else [((Km563.maxSafeThickness f o t : Nat) : Int)] := if1
theorem ok_f_max_safe_thickness {P : Program} {w : World} {K : PySem.W.Frag} {mg : Str → Option Value} {base : Heap} {C f : Addr} {fd : FuncData} (F : Fun K "max_safe_thickness" "max_safe_thickness" s_f_max_safe_thickness f fd) (T : Txt K mg C) (m_max_safe_thickness : C8.Met P w K mg base 7 C "max_safe_thickness" (sp_m_max_safe_thickness K C) []) (m_has_cell : C8.Met P w K mg base 2 C "has_cell" (sp_m_has_cell K C) []) :
    FnOk P w K mg base CX0 8 f fd ["ice", "origin", "target"] (sp_f_max_safe_thickness K C) := by
  refine F.ok sc_f_max_safe_thickness (fun vs H Q E h => spO2.len h) (fun cdv A outer s H vs Q E hr h => ?_)
  obtain ⟨a, f, o, t, rfl, I, G, k⟩ := h
  obtain ⟨dx, l, h1, _⟩ := id I
  have k' := k.same I G rfl
  rw [ans_max] at k'
  refine ⟨_, (pss_cons (ps_if (pt_not (PW.pt (pw_and (pt_val (C8.pe_mt m_has_cell hr (by decide) (pv 0) (pa_cons (pv 1) pa_nil))) (pw_and1 (pt_val (C8.pe_mt m_has_cell hr (by decide) (pv 0) (pa_cons (pv 2) pa_nil))))))) (pss_one (ps_ret (pe_lst (pa_cons (pe_gi T.gNO_SUCH_CELL) pa_nil)))) pss_nil)
    (pss_one (ps_ret (pe_lst (pa_cons (C8.pe_mt m_max_safe_thickness hr (by decide) (pv 0) (pa_cons (pv 1) (pa_cons (pv 2) pa_nil))) pa_nil))))), ?_⟩
  refine ⟨_, rfl, a, _, _, rfl, h1, lkn (by decide +kernel) _ _, _, rfl, a, f, o, rfl, I, G, True.intro, fun H1 s1 => ⟨_, rfl, ?_⟩⟩
  have g1 := s1 _ _ h1
  refine iteB (fun c1 => ?_) (fun c1 => ?_)
  · have c1 := of_decide_eq_true c1
    refine ⟨_, rfl, a, _, _, rfl, g1, lkn (by decide +kernel) _ _, _, rfl, a, f, t, rfl, I.same s1, G, True.intro, fun H2 s2 => ⟨_, rfl, ?_⟩⟩
    have s12 := s1.trans s2
    have g2 := s12 _ _ h1
    refine iteB (fun c2 => ?_) (fun c2 => ?_)
    · have c2 := of_decide_eq_false (not_t c2)
      rw [if_pos (by omega)] at k'
      exact ⟨sz one_le, fun p hp => k' _ p (s12.trans (Same.new hp)) upd_same⟩
    · have c2 := of_decide_eq_true (not_f c2)
      rw [if_neg (by omega)] at k'
      exact ⟨_, rfl, a, _, _, rfl, g2, lkn (by decide +kernel) _ _, _, rfl, _, rfl, a, f, o, t, rfl, I.same s12, G, ⟨c1, c2⟩, fun H3 s3 => ⟨sz one_le, fun p hp => k' _ p ((s12.trans s3).trans (Same.new hp)) upd_same⟩⟩
  · have c1 := of_decide_eq_false c1
    rw [if_pos (by omega)] at k'
    exact ⟨sz one_le, fun p hp => k' _ p (s1.trans (Same.new hp)) upd_same⟩
abbrev s_f_total_uncertainty_with : Stmt := top 37
theorem sc_f_total_uncertainty_with : FnScope ["ice", "cell", "thickness", "refused"] ["ice", "cell", "thickness"] (defScope s_f_total_uncertainty_with) := ⟨rfl, rfl, rfl, by decide +kernel, rfl, by decide +kernel, by decide +kernel⟩
theorem total_no {f : IceField} {c t : Nat} (h : mrefuse f c t ≠ []) : ans f (.totalUncertaintyWith c t) = mrefuse f c t := by
  unfold mrefuse at h ⊢
  unfold ans
  refine (if2 (f := f)).trans ?_
  have em : Km563.maxThickness = 99 := rfl
  rw [em]
  by_cases h1 : Km563.cellCount f ≤ c
  · rw [if_pos h1, if_pos h1]
  · by_cases h2 : 99 < t
    · rw [if_neg h1, if_neg h1, if_pos h2, if_pos h2]
    · cases h3 : Km563.isConsistent (Km563.withMeasurement f c t) with
      | false =>
        rw [if_neg h1, if_neg h1, if_neg h2, if_neg h2, if_pos rfl, if_pos rfl]
        rfl
      | true =>
        rw [if_neg h1, if_neg h2, h3, if_neg (by decide)] at h
        exact absurd rfl h
theorem total_yes {f : IceField} {c t : Nat} (h1 : ¬ Km563.cellCount f ≤ c) (h2 : ¬ 99 < t) (h3 : Km563.isConsistent (Km563.withMeasurement f c t) = true) : ans f (.totalUncertaintyWith c t) = [((Km563.totalUncertainty (Km563.withMeasurement f c t) : Nat) : Int)] := by
  unfold ans
  refine (if2 (f := f)).trans ?_
  have h2 : ¬ Km563.maxThickness < t := h2
  rw [if_neg h1, if_neg h2, if_neg (by rw [h3]; decide)]
  rfl
theorem ok_f_total_uncertainty_with {P : Program} {w : World} {K : PySem.W.Frag} {mg : Str → Option Value} {base : Heap} {C f : Addr} {fd : FuncData} (F : Fun K "total_uncertainty_with" "total_uncertainty_with" s_f_total_uncertainty_with f fd) (T : Txt K mg C) (m_total_uncertainty : C8.Met P w K mg base 4 C "total_uncertainty" (sp_m_total_uncertainty K C) []) (m_with_measurement : C8.Met P w K mg base 3 C "with_measurement" (sp_m_with_measurement K C) []) (f_measure_refusal : C8.Cal P w K mg base 4 "measure_refusal" (sp_f_measure_refusal K C) []) :
    FnOk P w K mg base CX0 5 f fd ["ice", "cell", "thickness"] (sp_f_total_uncertainty_with K C) := by
  refine F.ok sc_f_total_uncertainty_with (fun vs H Q E h => spO2.len h) (fun cdv A outer s H vs Q E hr h => ?_)
  obtain ⟨a, f, c, t, rfl, I, G, k⟩ := h
  obtain ⟨dx, l, h1, hM⟩ := id I
  have k' := k.same I G rfl
  refine ⟨_, (pss_cons (ps_set (i := 3) sc_f_total_uncertainty_with.nd rfl (Or.inl rfl) (C8.pe_c f_measure_refusal hr (by decide) rfl (pa_cons (pv 0) (pa_cons (pv 1) (pa_cons (pv 2) pa_nil)))))
    (pss_cons (ps_if (pt_truth (pv 3) (by intro _; rfl)) (pss_one (ps_ret (pv 3))) pss_nil)
    (pss_one (ps_ret (pe_lst (pa_cons (C8.pe_mt0 m_total_uncertainty hr (by decide) (C8.pe_mt m_with_measurement hr (by decide) (pv 0) (pa_cons (pv 1) (pa_cons (pv 2) pa_nil)))) pa_nil)))))), ?_⟩
  refine ⟨_, rfl, _, rfl, _, rfl, a, f, c, t, rfl, I, G, fun H1 p s1 e1 => ?_⟩
  refine ⟨_, rfl, _, .inl ⟨_, SqL.of e1, rfl⟩, ?_⟩
  rcases mrefuse_cases f c t with ne | ⟨q1, q2, q3, e⟩
  · refine iteTo (map_ne ne) ?_
    exact ⟨_, rfl, k' _ p s1 (by rw [total_no ne]; exact e1)⟩
  · rw [e] at e1 ⊢
    refine iteF ?_
    rw [total_yes q1 q2 q3] at k'
    have g1 := s1 _ _ h1
    have G2 := good_with G (by omega) (by omega) q3
    refine ⟨_, rfl, a, _, _, rfl, g1, lkn (by decide +kernel) _ _, _, rfl, _, rfl, a, f, c, t, rfl, I.same s1, G, fun H2 pw s2 I2 => ?_⟩
    obtain ⟨dy, ly, g2, _⟩ := id I2
    exact ⟨pw, _, _, rfl, g2, lkn (by decide +kernel) _ _, pw, _, rfl, I2, G2, fun H3 s3 => ⟨sz one_le, fun p hp2 => k' _ p (((s1.trans s2).trans s3).trans (Same.new hp2)) upd_same⟩⟩
abbrev s_f_worst_total_uncertainty : Stmt := top 38
theorem sc_f_worst_total_uncertainty : FnScope ["ice", "cell"] ["ice", "cell"] (defScope s_f_worst_total_uncertainty) := ⟨rfl, rfl, rfl, by decide +kernel, rfl, by decide +kernel, by decide +kernel⟩
theorem ans_worst (f : IceField) (c : Nat) : ans f (.worstTotalUncertainty c) = if Km563.cellCount f ≤ c then [-2] else if (f.measurements.any fun m => m.1 == c) = true then [-17] else [((worst f c : Nat) : Int)] := by
  unfold ans
  refine if1.trans ?_
  by_cases h1 : Km563.cellCount f ≤ c
  · rw [if_pos h1, if_pos h1]
  · rw [if_neg h1, if_neg h1]
    exact if1
theorem ok_f_worst_total_uncertainty {P : Program} {w : World} {K : PySem.W.Frag} {mg : Str → Option Value} {base : Heap} {C f : Addr} {fd : FuncData} (F : Fun K "worst_total_uncertainty" "worst_total_uncertainty" s_f_worst_total_uncertainty f fd) (T : Txt K mg C) (m_worst_total_uncertainty : C8.Met P w K mg base 5 C "worst_total_uncertainty" (sp_m_worst_total_uncertainty K C) []) (m_is_measured : C8.Met P w K mg base 1 C "is_measured" (sp_m_is_measured K C) []) (m_has_cell : C8.Met P w K mg base 2 C "has_cell" (sp_m_has_cell K C) []) :
    FnOk P w K mg base CX0 6 f fd ["ice", "cell"] (sp_f_worst_total_uncertainty K C) := by
  refine F.ok sc_f_worst_total_uncertainty (fun vs H Q E h => spO1.len h) (fun cdv A outer s H vs Q E hr h => ?_)
  obtain ⟨a, f, c, rfl, I, G, k⟩ := h
  obtain ⟨dx, l, h1, _⟩ := id I
  have k' := k.same I G rfl
  rw [ans_worst] at k'
  refine ⟨_, (pss_cons (ps_if (pt_not (pt_val (C8.pe_mt m_has_cell hr (by decide) (pv 0) (pa_cons (pv 1) pa_nil)))) (pss_one (ps_ret (pe_lst (pa_cons (pe_gi T.gNO_SUCH_CELL) pa_nil)))) pss_nil)
    (pss_cons (ps_if (pt_val (C8.pe_mt m_is_measured hr (by decide) (pv 0) (pa_cons (pv 1) pa_nil))) (pss_one (ps_ret (pe_lst (pa_cons (pe_gi T.gALREADY_MEASURED) pa_nil)))) pss_nil)
    (pss_one (ps_ret (pe_lst (pa_cons (C8.pe_mt m_worst_total_uncertainty hr (by decide) (pv 0) (pa_cons (pv 1) pa_nil)) pa_nil)))))), ?_⟩
  refine ⟨_, rfl, a, _, _, rfl, h1, lkn (by decide +kernel) _ _, _, rfl, a, f, c, rfl, I, G, True.intro, fun H1 s1 => ⟨_, rfl, ?_⟩⟩
  have g1 := s1 _ _ h1
  refine iteB (fun c1 => ?_) (fun c1 => ?_)
  · have c1 := of_decide_eq_false (not_t c1)
    rw [if_pos (by omega)] at k'
    exact ⟨sz one_le, fun p hp => k' _ p (s1.trans (Same.new hp)) upd_same⟩
  · have c1 := of_decide_eq_true (not_f c1)
    rw [if_neg (by omega)] at k'
    refine ⟨_, rfl, a, _, _, rfl, g1, lkn (by decide +kernel) _ _, _, rfl, a, f, c, rfl, I.same s1, G, True.intro, fun H2 s2 => ⟨_, rfl, ?_⟩⟩
    have s12 := s1.trans s2
    have g2 := s12 _ _ h1
    refine iteB (fun c2 => ?_) (fun c2 => ?_)
    · have c2 : (f.measurements.any fun m => m.1 == c) = true := c2
      rw [if_pos c2] at k'
      exact ⟨sz one_le, fun p hp => k' _ p (s12.trans (Same.new hp)) upd_same⟩
    · have c2 : (f.measurements.any fun m => m.1 == c) = false := c2
      rw [if_neg (by rw [c2]; decide)] at k'
      exact ⟨_, rfl, a, _, _, rfl, g2, lkn (by decide +kernel) _ _, _, rfl, a, f, c, rfl, I.same s12, G, c1, fun H3 s3 => ⟨sz one_le, fun p hp => k' _ p ((s12.trans s3).trans (Same.new hp)) upd_same⟩⟩
abbrev s_f_smallest_consistent_step : Stmt := top 39
theorem sc_f_smallest_consistent_step : FnScope ["ice"] ["ice"] (defScope s_f_smallest_consistent_step) := ⟨rfl, rfl, rfl, by decide +kernel, rfl, by decide +kernel, by decide +kernel⟩
theorem ans_smallest {f : IceField} (G : Good f) : ans f .smallestConsistentStep = [(((Km563.smallestConsistentStep f).getD 0 : Nat) : Int)] := by
  have h : (Km563.smallestConsistentStep f).isSome = true := by
    unfold Km563.smallestConsistentStep
    rw [List.find?_isSome]
    exact ⟨f.maxStep, List.mem_range.mpr (by have := G.st; omega), G.cons⟩
  unfold ans
  show (match Km563.smallestConsistentStep f with
    | none => Km563.error (-33)
    | some maxStep => Km563.number (maxStep : Nat)).num :: (match Km563.smallestConsistentStep f with
    | none => Km563.error (-33)
    | some maxStep => Km563.number (maxStep : Nat)).nums = _
  cases e : Km563.smallestConsistentStep f with
  | none =>
    rw [e] at h
    cases h
  | some v => rfl
theorem ok_f_smallest_consistent_step {P : Program} {w : World} {K : PySem.W.Frag} {mg : Str → Option Value} {base : Heap} {C f : Addr} {fd : FuncData} (F : Fun K "smallest_consistent_step" "smallest_consistent_step" s_f_smallest_consistent_step f fd) (T : Txt K mg C) (m_smallest_consistent_step : C8.Met P w K mg base 4 C "smallest_consistent_step" (sp_m_smallest_consistent_step K C) []) :
    FnOk P w K mg base CX0 5 f fd ["ice"] (sp_f_smallest_consistent_step K C) := by
  refine F.ok sc_f_smallest_consistent_step (fun vs H Q E h => spO0.len h) (fun cdv A outer s H vs Q E hr h => ?_)
  obtain ⟨a, f, rfl, I, G, k⟩ := h
  obtain ⟨dx, l, h1, _⟩ := id I
  have k' := k.same I G rfl
  rw [ans_smallest G] at k'
  refine ⟨_, (pss_one (ps_ret (pe_lst (pa_cons (C8.pe_mt0 m_smallest_consistent_step hr (by decide) (pv 0)) pa_nil)))), ?_⟩
  exact ⟨_, rfl, a, _, _, rfl, h1, lkn (by decide +kernel) _ _, a, f, rfl, I, G, fun H1 s1 => ⟨sz one_le, fun p hp => k' _ p (s1.trans (Same.new hp)) upd_same⟩⟩
abbrev s_f_total_uncertainty : Stmt := top 40
theorem sc_f_total_uncertainty : FnScope ["ice"] ["ice"] (defScope s_f_total_uncertainty) := ⟨rfl, rfl, rfl, by decide +kernel, rfl, by decide +kernel, by decide +kernel⟩
theorem ok_f_total_uncertainty {P : Program} {w : World} {K : PySem.W.Frag} {mg : Str → Option Value} {base : Heap} {C f : Addr} {fd : FuncData} (F : Fun K "total_uncertainty" "total_uncertainty" s_f_total_uncertainty f fd) (T : Txt K mg C) (m_total_uncertainty : C8.Met P w K mg base 4 C "total_uncertainty" (sp_m_total_uncertainty K C) []) :
    FnOk P w K mg base CX0 5 f fd ["ice"] (sp_f_total_uncertainty K C) := by
  refine F.ok sc_f_total_uncertainty (fun vs H Q E h => spO0.len h) (fun cdv A outer s H vs Q E hr h => ?_)
  obtain ⟨a, f, rfl, I, G, k⟩ := h
  obtain ⟨dx, l, h1, _⟩ := id I
  have k' := k.same I G rfl
  refine ⟨_, (pss_one (ps_ret (pe_lst (pa_cons (C8.pe_mt0 m_total_uncertainty hr (by decide) (pv 0)) pa_nil)))), ?_⟩
  exact ⟨_, rfl, a, _, _, rfl, h1, lkn (by decide +kernel) _ _, a, f, rfl, I, G, fun H1 s1 => ⟨sz one_le, fun p hp => k' _ p (s1.trans (Same.new hp)) upd_same⟩⟩
abbrev s_f_summary : Stmt := top 41
theorem sc_f_summary : FnScope ["ice"] ["ice"] (defScope s_f_summary) := ⟨rfl, rfl, rfl, by decide +kernel, rfl, by decide +kernel, by decide +kernel⟩
theorem ok_f_summary {P : Program} {w : World} {K : PySem.W.Frag} {mg : Str → Option Value} {base : Heap} {C f : Addr} {fd : FuncData} (F : Fun K "summary" "summary" s_f_summary f fd) (T : Txt K mg C)  :
    FnOk P w K mg base CX0 1 f fd ["ice"] (sp_f_summary K C) := by
  refine F.ok sc_f_summary (fun vs H Q E h => spO0.len h) (fun cdv A outer s H vs Q E hr h => ?_)
  obtain ⟨a, f, rfl, I, G, k⟩ := h
  obtain ⟨dx, l, h1, ts, hl, hp⟩ := id I
  have k' := k.same I G rfl
  refine ⟨_, (pss_one (ps_ret (pe_lst (pa_cons (pe_fld (pv 0) rfl) (pa_cons (pe_fld (pv 0) rfl) (pa_cons (pe_fld (pv 0) rfl) (pa_cons (pe_callB call_len_seq (by rfl) T.len (by decide +kernel) (pa_cons (pe_fld (pv 0) rfl) pa_nil)) pa_nil))))))), ?_⟩
  refine ⟨_, rfl, a, C, dx, _, _, rfl, h1, T.cl, T.nc, lkc _ _, _, rfl, a, C, dx, _, _, rfl, h1, T.cl, T.nr, lkr _ _, _, rfl, a, C, dx, _, _, rfl, h1, T.cl, T.ns, lks _ _, _, rfl, a, C, dx, _, _, rfl, h1, T.cl, T.nm, lkm _ _, l, _, rfl, .inl (SqL.of hl), sz (by show 4 ≤ 100000; decide), fun p hp2 => k' _ p (Same.new hp2) (upd_same.trans ?_)⟩
  rw [List.length_map, paired_len hp]
  rfl
end Ib

/-! ### part D12 -/
set_option Elab.async false
set_option linter.all false
set_option maxRecDepth 100000
set_option maxHeartbeats 2000000
namespace Ib
open PySem PySem.Spec PyProof.Rows L2
open Km563 (IceField)
def Shape.sp (C : Addr) : Shape → Sp
  | .o0 c => spO0 C c
  | .o1 mk => spO1 C mk
  | .o2 mk => spO2 C mk
  | .o3 mk => spO3 C mk
/-- what the table of the operations holds -/
structure Ops (P : Program) (w : World) (K : PySem.W.Frag) (mg : Str → Option Value) (base : Heap) (C O : Addr) : Prop where
  gO : mg "OPERATIONS" = some (.ref O)
  at_ : ∀ n sh, shapeOf n = some sh → ∃ g, KDctI K O (n : Int) (.ref g) ∧ Held P w K mg base 8 g (sh.sp C)
def sp_f_operate (K : PySem.W.Frag) (C : Addr) : Sp := fun vs H Q _ => ∃ (a : Addr) (f : IceField) (n : Nat) (l : Addr) (ps : List Nat) (sh : Shape) (c : Km563.Call), vs = [.ref a, .int n, .ref l] ∧ IceAt C H a f ∧ Good f ∧ SqL K H l (ps.map iv) ∧
  shapeOf n = some sh ∧ sh.call ps = some c ∧ Done C a f c H Q
abbrev s_f_operate : Stmt := top 43
theorem sc_f_operate : FnScope ["ice", "number", "parameters", "operation"] ["ice", "number", "parameters"] (defScope s_f_operate) := ⟨rfl, rfl, rfl, by decide +kernel, rfl, by decide +kernel, by decide +kernel⟩
theorem ok_f_operate {P : Program} {w : World} {K : PySem.W.Frag} {mg : Str → Option Value} {base : Heap} {C f : Addr} {fd : FuncData} (F : Fun K "operate" "operate" s_f_operate f fd) (T : Txt K mg C)  {O : Addr} (TP : Ops P w K mg base C O) :
    FnOk P w K mg base CX0 9 f fd ["ice", "number", "parameters"] (sp_f_operate K C) := by
  refine F.ok sc_f_operate (fun vs H Q E h => ?_) (fun cdv A outer s H vs Q E hr h => ?_)
  · obtain ⟨_, _, _, _, _, _, _, rfl, _⟩ := h
    rfl
  obtain ⟨a, f, n, l, ps, sh, c, rfl, I, G, hS, hsh, hc, k⟩ := h
  obtain ⟨g, kd, hel⟩ := TP.at_ n sh hsh
  have HH : ∀ (x : Addr) (sp : Sp), (if x = g then some (sh.sp C) else none) = some sp → Held P w K mg base 8 x sp := fun x sp e => by
    by_cases z : x = g
    · rw [if_pos z] at e
      cases e
      rw [z]
      exact hel
    · rw [if_neg z] at e
      cases e
  refine ⟨_, (pss_cons (ps_set (i := 3) sc_f_operate.nd rfl (Or.inl rfl) (pe_ix ix_kdictI (pe_gr TP.gO) (pv 1) (fun _ _ => rfl)))
    (pss_cons (ps_if (pt_cmpR op_eq (pe_callB call_len_seq (by rfl) T.len (by decide +kernel) (pa_cons (pv 2) pa_nil)) pe_int (nomark _)) (pss_one (ps_ret (pe_callA (i := 3) HH hr rfl (Or.inl rfl) (pa_cons (pv 0) pa_nil)))) pss_nil)
    (pss_cons (ps_if (pt_cmpR op_eq (pe_callB call_len_seq (by rfl) T.len (by decide +kernel) (pa_cons (pv 2) pa_nil)) pe_int (nomark _)) (pss_one (ps_ret (pe_callA (i := 3) HH hr rfl (Or.inl rfl) (pa_cons (pv 0) (pa_cons (pe_ix ix_list (pv 2) pe_int (fun _ _ => rfl)) pa_nil))))) pss_nil)
    (pss_cons (ps_if (pt_cmpR op_eq (pe_callB call_len_seq (by rfl) T.len (by decide +kernel) (pa_cons (pv 2) pa_nil)) pe_int (nomark _)) (pss_one (ps_ret (pe_callA (i := 3) HH hr rfl (Or.inl rfl) (pa_cons (pv 0) (pa_cons (pe_ix ix_list (pv 2) pe_int (fun _ _ => rfl)) (pa_cons (pe_ix ix_list (pv 2) pe_int (fun _ _ => rfl)) pa_nil)))))) pss_nil)
    (pss_one (ps_ret (pe_callA (i := 3) HH hr rfl (Or.inl rfl) (pa_cons (pv 0) (pa_cons (pe_ix ix_list (pv 2) pe_int (fun _ _ => rfl)) (pa_cons (pe_ix ix_list (pv 2) pe_int (fun _ _ => rfl)) (pa_cons (pe_ix ix_list (pv 2) pe_int (fun _ _ => rfl)) pa_nil))))))))))), ?_⟩
  refine ⟨_, rfl, O, n, .ref g, rfl, rfl, kd, ?_⟩
  have len0 : ∀ m : Nat, decide (V.int (((ps.map iv).length : Nat) : Int) = V.int ((m : Nat) : Int)) = (ps.length == m) := fun m => by
    rw [List.length_map, dint]
  refine ⟨_, rfl, l, _, rfl, .inl hS, rfl, _, rfl, ?_⟩
  show if decide (V.int (((ps.map iv).length : Nat) : Int) = V.int ((0 : Nat) : Int)) = true then _ else _
  rw [len0]
  cases sh with
  | o0 mk =>
    cases ps with
    | cons x r => cases hc
    | nil =>
      cases hc
      refine iteT ?_
      exact ⟨g, _, rfl, if_pos rfl, _, rfl, a, f, rfl, I, G, k⟩
  | o1 mk =>
    match ps, hc with
    | [x], hc =>
      cases hc
      refine iteF ?_
      refine ⟨_, rfl, l, _, rfl, .inl hS, rfl, _, rfl, ?_⟩
      refine iteT ?_
      exact ⟨g, _, rfl, if_pos rfl, _, rfl, _, rfl, l, _, _, _, rfl, rfl, hS, at_of (z := 0) (j := 0) rfl rfl, a, f, x, rfl, I, G, k⟩
  | o2 mk =>
    match ps, hc with
    | [x, y], hc =>
      cases hc
      refine iteF ?_
      refine ⟨_, rfl, l, _, rfl, .inl hS, rfl, _, rfl, ?_⟩
      refine iteF ?_
      refine ⟨_, rfl, l, _, rfl, .inl hS, rfl, _, rfl, ?_⟩
      refine iteT ?_
      exact ⟨g, _, rfl, if_pos rfl, _, rfl, _, rfl, l, _, _, _, rfl, rfl, hS, at_of (z := 0) (j := 0) rfl rfl, _, rfl, l, _, _, _, rfl, rfl, hS, at_of (z := 1) (j := 1) rfl rfl, a, f, x, y, rfl, I, G, k⟩
  | o3 mk =>
    match ps, hc with
    | [x, y, z], hc =>
      cases hc
      refine iteF ?_
      refine ⟨_, rfl, l, _, rfl, .inl hS, rfl, _, rfl, ?_⟩
      refine iteF ?_
      refine ⟨_, rfl, l, _, rfl, .inl hS, rfl, _, rfl, ?_⟩
      refine iteF ?_
      exact ⟨g, _, rfl, if_pos rfl, _, rfl, _, rfl, l, _, _, _, rfl, rfl, hS, at_of (z := 0) (j := 0) rfl rfl, _, rfl, l, _, _, _, rfl, rfl, hS, at_of (z := 1) (j := 1) rfl rfl, _, rfl, l, _, _, _, rfl, rfl, hS, at_of (z := 2) (j := 2) rfl rfl, a, f, x, y, z, rfl, I, G, k⟩
end Ib

/-! ### part D13 -/
set_option Elab.async false
set_option linter.all false
set_option maxRecDepth 100000
set_option maxHeartbeats 2000000
namespace Ib
open PySem PySem.Spec PyProof.Rows L2
open Km563 (IceField)
/-- the heap without p -/
def del (H : Hp) (p : Addr) : Hp := fun b => if b = p then none else H b
theorem del_ne {H : Hp} {p b : Addr} (h : b ≠ p) : del H p b = H b := by
  unfold del
  rw [if_neg h]
theorem del_at {H : Hp} {p b : Addr} {o : HO} (h : del H p b = some o) : b ≠ p ∧ H b = some o := by
  unfold del at h
  by_cases e : b = p
  · rw [if_pos e] at h
    cases h
  · rw [if_neg e] at h
    exact ⟨e, h⟩
theorem del_sub (H : Hp) (p : Addr) : Same (del H p) H := fun b o e => (del_at e).2
theorem del_upd (H : Hp) (p : Addr) (o : HO) : Same (del H p) (upd H p o) := fun b u e => by
  obtain ⟨h1, h2⟩ := del_at e
  rw [upd_ne h1]
  exact h2
theorem del_set (H : Hp) (p : Addr) (o : HO) : Same (del H p) (del (upd H p o) p) := fun b u e => by
  obtain ⟨h1, h2⟩ := del_at e
  rw [del_ne h1, upd_ne h1]
  exact h2
theorem del_same {H H' : Hp} (p : Addr) (s : Same H H') : Same (del H p) (del H' p) := fun b u e => by
  obtain ⟨h1, h2⟩ := del_at e
  rw [del_ne h1]
  exact s _ _ h2
theorem del_but {H H' : Hp} {a : Addr} (p : Addr) (s : But a H H') : But a (del H p) (del H' p) := fun b u e n => by
  obtain ⟨h1, h2⟩ := del_at e
  rw [del_ne h1]
  exact s _ _ h2 n
theorem ice_del {C : Addr} {H : Hp} {a p : Addr} {f : IceField} {o : Obj} {u : HO} (h : IceAt C H a f) (hp : H p = some (.frz o u)) : IceAt C (del H p) a f := by
  obtain ⟨dx, l, h1, ts, h2, h3⟩ := h
  refine ⟨dx, l, (del_ne (ne_of h1 hp (by intro z; cases z))).trans h1, ts, (del_ne (ne_of h2 hp (by intro z; cases z))).trans h2, paired_mono h3 fun t m e => ?_⟩
  exact (del_ne (ne_of e hp (by intro z; cases z))).trans e
theorem sql_but {K : PySem.W.Frag} {H H' : Hp} {a l C dx : Addr} {fs : List (Str × V)} {xs : List V} (s : But a H H') (ha : H a = some (.ins C dx fs)) (h : SqL K H l xs) : SqL K H' l xs := by
  rcases h with (h | ⟨o, h⟩) | h
  · exact .inl (.inl (s _ _ h (ne_of h ha (by intro z; cases z))))
  · exact .inl (.inr ⟨o, s _ _ h (ne_of h ha (by intro z; cases z))⟩)
  · exact .inr h
theorem sql_del {K : PySem.W.Frag} {H : Hp} {l p : Addr} {xs : List V} (hp : H p = none) (h : SqL K H l xs) : SqL K (del H p) l xs := by
  rcases h with (h | ⟨o, h⟩) | h
  · exact .inl (.inl ((del_ne (ne_of_none h hp)).trans h))
  · exact .inl (.inr ⟨o, (del_ne (ne_of_none h hp)).trans h⟩)
  · exact .inr h
/-- the instance that the name holds -/
def IceO (C : Addr) (H : Hp) (v : V) : Km563.State → Prop
  | none => v = .non
  | some f => ∃ a, v = .ref a ∧ IceAt C H a f ∧ Good f
theorem IceO.same {C : Addr} {H H' : Hp} {v : V} {s : Km563.State} (e : Same H H') (h : IceO C H v s) : IceO C H' v s := by
  cases s with
  | none => exact h
  | some f =>
    obtain ⟨a, h1, h2, h3⟩ := h
    exact ⟨a, h1, h2.same e, h3⟩
structure Cnt (K : PySem.W.Frag) (mg : Str → Option Value) (TT : Addr) : Prop where
  gT : mg "PARAMETER_COUNTS" = some (.ref TT)
  sq : ∀ H : Hp, SqT K H TT (cnts.map V.int)
def spAns (K : PySem.W.Frag) : Sp := fun vs H Q _ => ∃ (a : Addr) (ms : List Nat), vs = [.ref a] ∧ SqL K H a (ms.map iv) ∧ PyKm563.answers_asked (ms.map cst) = true ∧
  ∀ (H' : Hp) (p : Addr), H' p = some (.lst ((PyKm563.answers (ms.map cst)).map V.int)) → Q (.ref p) H'
def sp_f_answers (K : PySem.W.Frag) (C : Addr) : Sp := spAns K
theorem asked_is {ns : List Int} (h : PyKm563.answers_asked ns = true) : ∃ raw, PyFlat.calls PyKm563.shape ns.length ns = some raw ∧ PyKm563.answers ns = PyFlat.told (PyFlat.played Km563Neutral.step Km563Neutral.start (raw.map PyKm563.whole)) ∧ (PyKm563.answers ns).length ≤ 10000000 := by
  unfold PyKm563.answers_asked at h
  cases e : PyFlat.calls PyKm563.shape ns.length ns with
  | none => simp [e] at h
  | some raw =>
    simp only [e, Bool.and_eq_true] at h
    refine ⟨raw, rfl, ?_, of_decide_eq_true h.2⟩
    unfold PyKm563.answers PyKm563.calls
    rw [e]
theorem cut_is (ms : List Nat) (i n : Nat) (h : i + 1 + n ≤ ms.length) : cutV (ms.map iv) (some ((i : Int) + 1)) (some ((i : Int) + 1 + (n : Int))) = ((ms.drop (i + 1)).take n).map iv := by
  have e1 : (i : Int) + 1 = ((i + 1 : Nat) : Int) := by omega
  have e2 : (i : Int) + 1 + (n : Int) = ((i + 1 + n : Nat) : Int) := by omega
  unfold cutV
  rw [e2, e1, HT.sIx_nat, HT.sIx_nat, List.length_map, Nat.min_eq_left h, Nat.min_eq_left (by omega : i + 1 ≤ ms.length), ← List.map_drop, ← List.map_take]
  congr 2
  omega
theorem told_len {pref a rest all : List Int} (h : all = pref ++ ((a.length : Nat) : Int) :: (a ++ rest)) : pref.length + a.length + 1 ≤ all.length := by
  rw [h, List.length_append, List.length_cons, List.length_append]
  omega
end Ib

/-! ### part D14 -/
set_option Elab.async false
set_option linter.all false
set_option maxRecDepth 100000
set_option maxHeartbeats 2000000
namespace Ib
open PySem PySem.Spec PyProof.Rows L2
open Km563 (IceField)
abbrev s_f_answers : Stmt := top 44
theorem sc_f_answers : FnScope ["calls", "answered", "ice", "at", "number", "end", "parameters", "answer"] ["calls"] (defScope s_f_answers) := ⟨rfl, rfl, rfl, by decide +kernel, rfl, by decide +kernel, by decide +kernel⟩
theorem ok_f_answers {P : Program} {w : World} {K : PySem.W.Frag} {mg : Str → Option Value} {base : Heap} {C f : Addr} {fd : FuncData} (F : Fun K "answers" "answers" s_f_answers f fd) (T : Txt K mg C) (f_is_creatable : C8.Cal P w K mg base 1 "is_creatable" (sp_f_is_creatable K C) []) (mkIce : C8.Mak P w K mg base 1 "Ice" C (sp_m___init__ K C) []) (f_operate : C8.Cal P w K mg base 9 "operate" (sp_f_operate K C) []) {TT : Addr} (TP : Cnt K mg TT) :
    FnOk P w K mg base CX0 10 f fd ["calls"] (sp_f_answers K C) := by
  refine F.ok sc_f_answers (fun vs H Q E h => ?_) (fun cdv A outer s H vs Q E hr h => ?_)
  · obtain ⟨_, _, rfl, _⟩ := h
    rfl
  obtain ⟨ac, ms, rfl, hS0, ask, k⟩ := h
  obtain ⟨raw, hraw, hans, hlen⟩ := asked_is ask
  rw [List.length_map] at hraw
  generalize PyKm563.answers (ms.map cst) = due at hans hlen k
  refine ⟨_, (pss_cons (ps_set (i := 1) sc_f_answers.nd rfl (Or.inl rfl) (pe_lst (pa_nil)))
    (pss_cons (ps_set (i := 2) sc_f_answers.nd rfl (Or.inl rfl) pe_non)
    (pss_cons (ps_set (i := 3) sc_f_answers.nd rfl (Or.inl rfl) pe_int)
    (pss_cons (ps_while PassesOwn.never (pt_cmpR op_lt (pv 3) (pe_callB call_len_seq (by rfl) T.len (by decide +kernel) (pa_cons (pv 0) pa_nil)) (nomark _)) (pss_cons (ps_set (i := 4) sc_f_answers.nd rfl (Or.inl rfl) (pe_ix ix_list (pv 0) (pv 3) (fun _ _ => rfl)))
      (pss_cons (ps_set (i := 5) sc_f_answers.nd rfl (Or.inl rfl) (pe_op op_add (pe_op op_add (pv 3) pe_int) (pe_ix ix_tup (pe_gr TP.gT) (pv 4) (fun _ _ => rfl))))
      (pss_cons (ps_set (i := 6) sc_f_answers.nd rfl (Or.inl rfl) (pe_slice sl_list (pv 0) (po_some (pe_op op_add (pv 3) pe_int)) (po_some (pv 5))))
      (pss_cons (ps_set (i := 3) sc_f_answers.nd rfl (Or.inl rfl) (pv 5))
      (C8.pss_cut (ps_if (pt_cmpR op_eq (pv 4) (pe_gi T.gCREATE) (nomark _)) (pss_cons (ps_set (i := 7) sc_f_answers.nd rfl (Or.inl rfl) (pe_lst (pa_cons (pe_gi T.gOUT_OF_RANGE) pa_nil)))
        (pss_one (ps_if (pt_val (C8.pe_c f_is_creatable hr (by decide) rfl (pa_cons (pe_ix ix_list (pv 6) pe_int (fun _ _ => rfl)) (pa_cons (pe_ix ix_list (pv 6) pe_int (fun _ _ => rfl)) (pa_cons (pe_ix ix_list (pv 6) pe_int (fun _ _ => rfl)) pa_nil))))) (pss_cons (ps_set (i := 2) sc_f_answers.nd rfl (Or.inl rfl) (pe_lock (C8.pe_mk mkIce hr (by decide) rfl (pa_cons (pe_ix ix_list (pv 6) pe_int (fun _ _ => rfl)) (pa_cons (pe_ix ix_list (pv 6) pe_int (fun _ _ => rfl)) (pa_cons (pe_ix ix_list (pv 6) pe_int (fun _ _ => rfl)) pa_nil))))))
          (pss_one (ps_set (i := 7) sc_f_answers.nd rfl (Or.inl rfl) (pe_lst (pa_cons pe_int pa_nil))))) pss_nil))) (pss_one (ps_if (pt_cmpR op_isN (pv 2) pe_non (nomark _)) (pss_one (ps_set (i := 7) sc_f_answers.nd rfl (Or.inl rfl) (pe_lst (pa_cons (pe_gi T.gNO_INSTANCE) pa_nil)))) (pss_one (ps_set (i := 7) sc_f_answers.nd rfl (Or.inl rfl) (pe_lock (C8.pe_c f_operate hr (by decide) rfl (pa_cons (pv 2) (pa_cons (pv 4) (pa_cons (pv 6) pa_nil))))))))))
      (pss_cons (ps_expr (pe_bm PySem.F.plainAttrs_list PySem.F.slot_list_append PySem.F.type_list_append mt_append (pv 1) (pa_cons (pe_callB call_len_seq (by rfl) T.len (by decide +kernel) (pa_cons (pv 7) pa_nil)) pa_nil)))
      (pss_one (ps_expr (pe_bm PySem.F.plainAttrs_list PySem.F.slot_list_extend PySem.F.type_list_extend mt_extend (pv 1) (pa_cons (pv 7) pa_nil)))))))))))
    (pss_one (ps_ret (pv 1))))))), ?_⟩
  refine ⟨Nat.zero_le _, fun pr hpr => ?_⟩
  -- while at < len(calls)
  refine ⟨fun m σ H' => ∃ (i : Nat) (st : Km563.State) (v : V) (pref : List Int) (fuel : Nat) (cs : List (List (List Int))) (w4 w5 w6 w7 : Option V), σ = [some (.ref ac), some (.ref pr), some v, some (.int (i : Int)), w4, w5, w6, w7] ∧
    SqL K (del H' pr) ac (ms.map iv) ∧ H' pr = some (.lst (pref.map V.int)) ∧ IceO C (del H' pr) v st ∧ i ≤ ms.length ∧ PyFlat.calls PyKm563.shape fuel ((ms.drop i).map cst) = some cs ∧
    due = pref ++ PyFlat.told (PyFlat.played Km563Neutral.step st (cs.map PyKm563.whole)) ∧ m = ms.length - i,
    ⟨_, 0, none, .non, [], _, raw, none, none, none, none, rfl, (del_set H pr _).seq (sql_del hpr hS0), upd_same, rfl, Nat.zero_le _, hraw, hans, rfl⟩, ?_⟩
  rintro m σ H' ⟨i, st, v, pref, fuel, cs, w4, w5, w6, w7, rfl, hS, er, hI, hi, hcs, hdue, rfl⟩
  have hSf : SqL K H' ac (ms.map iv) := (del_sub H' pr).seq hS
  refine ⟨_, rfl, _, rfl, ac, _, rfl, .inl hSf, _, _, rfl, rfl, _, rfl, ?_⟩
  refine iteB (fun c => ?_) (fun c => ?_)
  · have c := of_decide_eq_true c
    rw [List.length_map] at c
    have hil : i < ms.length := by omega
    have hdrop : ms.drop i = ms[i] :: ms.drop (i + 1) := List.drop_eq_getElem_cons hil
    have hji : ms[i]? = some ms[i] := List.getElem?_eq_getElem hil
    generalize ms[i] = j at hdrop hji
    rw [hdrop] at hcs
    obtain ⟨n, f', cs', hn, hnl, hcs', rfl⟩ := due_step hcs
    rw [List.length_drop] at hnl
    have hend : i + 1 + n ≤ ms.length := by omega
    rw [List.drop_drop] at hcs'
    have hy : ((ms.drop (i + 1)).take n).length = n := by
      rw [List.length_take, List.length_drop]
      omega
    have hcut := cut_is ms i n hend
    generalize (ms.drop (i + 1)).take n = ys at hdue hy hcut
    refine ⟨fun σ' H3 => ∃ (st' : Km563.State) (v' : V) (pref' : List Int) (w4 w5 w6 w7 : Option V), σ' = [some (.ref ac), some (.ref pr), some v', some (.int ((i + 1 + n : Nat) : Int)), w4, w5, w6, w7] ∧
      SqL K (del H3 pr) ac (ms.map iv) ∧ H3 pr = some (.lst (pref'.map V.int)) ∧ IceO C (del H3 pr) v' st' ∧ due = pref' ++ PyFlat.told (PyFlat.played Km563Neutral.step st' (cs'.map PyKm563.whole)), ?_, ?_⟩
    · rintro σ' H3 ⟨st', v', pref', u4, u5, u6, u7, rfl, a1, a2, a3, a4⟩
      exact ⟨ms.length - (i + 1 + n), by omega, i + 1 + n, st', v', pref', f', cs', u4, u5, u6, u7, rfl, a1, a2, a3, hend, hcs', a4, rfl⟩
    -- number = calls[at]
    refine ⟨_, rfl, _, rfl, ac, _, _, _, rfl, rfl, hSf, at_of (j := i) rfl (show (ms.map iv)[i]? = some (V.int j) by rw [List.getElem?_map, hji]; rfl), ?_⟩
    -- end = at + 1 + PARAMETER_COUNTS[number]
    refine ⟨_, rfl, _, _, rfl, rfl, _, rfl, TT, _, _, _, rfl, rfl, TP.sq _, at_of (j := j) rfl (show (cnts.map V.int)[j]? = some (V.int n) by rw [List.getElem?_map, hn]; rfl), _, _, rfl, rfl, ?_⟩
    -- parameters = calls[at + 1:end]
    refine ⟨_, rfl, _, rfl, _, _, rfl, rfl, _, rfl, _, rfl, _, rfl, ac, _, rfl, hSf, fun pp hpp => ?_⟩
    rw [hcut]
    have s1 : Same H' (upd H' pp (.lst (ys.map iv))) := Same.new hpp
    have epp : (upd H' pp (.lst (ys.map iv))) pp = some (.lst (ys.map iv)) := upd_same
    have er1 := s1 _ _ er
    have hS1 := (del_same pr s1).seq hS
    have hI1 := hI.same (del_same pr s1)
    generalize upd H' pp (.lst (ys.map iv)) = H1 at s1 epp er1 hS1 hI1 ⊢
    have npp : pp ≠ pr := fun z => by
      rw [z, er] at hpp
      cases hpp
    -- at = end
    refine ⟨_, rfl, ?_⟩
    refine ⟨fun σ' H3 => ∃ (st' : Km563.State) (v' : V) (pa : Addr) (al : List Int), σ' = [some (.ref ac), some (.ref pr), some v', some (.int ((i : Int) + 1 + (n : Int))), some (.int (j : Int)), some (.int ((i : Int) + 1 + (n : Int))), some (.ref pp), some (.ref pa)] ∧
      SqL K (del H3 pr) ac (ms.map iv) ∧ H3 pr = some (.lst (pref.map V.int)) ∧ IceO C (del H3 pr) v' st' ∧ pa ≠ pr ∧ H3 pa = some (.lst (al.map V.int)) ∧ Km563Neutral.step st (PyKm563.whole [(j : Int) :: ys.map cst]) = (st', al), ?_, ?_⟩
    · -- if number == CREATE
      refine ⟨_, rfl, rfl, _, rfl, ?_⟩
      show if decide (V.int (j : Int) = V.int ((0 : Nat) : Int)) = true then _ else _
      rw [dint]
      refine iteB (fun q => ?_) (fun q => ?_)
      · have q : j = 0 := by simpa using q
        subst q
        have n3 : n = 3 := by
          have := Option.some.inj hn
          omega
        subst n3
        obtain ⟨a, b, z, rfl⟩ := len3 hy
        -- answer = [OUT_OF_RANGE]
        refine ⟨sz one_le, fun p7 hp7 => ?_⟩
        have s2 : Same H1 (upd H1 p7 (.lst [.int (-22)])) := Same.new hp7
        have e7 : (upd H1 p7 (.lst [.int (-22)])) p7 = some (.lst [.int (-22)]) := upd_same
        have n7 : p7 ≠ pr := fun z => by
          rw [z, er1] at hp7
          cases hp7
        generalize upd H1 p7 (.lst [.int (-22)]) = H2 at s2 e7 ⊢
        have epp2 := s2 _ _ epp
        refine ⟨_, rfl, pp, _, _, _, rfl, rfl, SqL.of epp2, at_of (z := 0) (j := 0) rfl rfl, _, rfl, pp, _, _, _, rfl, rfl, SqL.of epp2, at_of (z := 1) (j := 1) rfl rfl, _, rfl, pp, _, _, _, rfl, rfl, SqL.of epp2, at_of (z := 2) (j := 2) rfl rfl, a, b, z, rfl, fun H4 s4 => ⟨_, rfl, ?_⟩⟩
        have s24 := s2.trans s4
        refine iteB (fun q => ?_) (fun q => ?_)
        · have q := of_decide_eq_false (not_t q)
          have epp4 := s24 _ _ epp
          have er4 := s24 _ _ er1
          refine ⟨pr, _, er4, True.intro, fun od => ?_⟩
          have lk : Same (del H4 pr) (upd H4 pr (.frz od (.lst (pref.map V.int)))) := del_upd H4 pr _
          have epp5 : (upd H4 pr (.frz od (.lst (pref.map V.int)))) pp = some (.lst ([a, b, z].map iv)) := (upd_ne npp).trans epp4
          refine ⟨_, rfl, pp, _, _, _, rfl, rfl, SqL.of epp5, at_of (z := 0) (j := 0) rfl rfl, _, rfl, pp, _, _, _, rfl, rfl, SqL.of epp5, at_of (z := 1) (j := 1) rfl rfl, _, rfl, pp, _, _, _, rfl, rfl, SqL.of epp5, at_of (z := 2) (j := 2) rfl rfl, fun x dx nx ndx ne => ?_⟩
          refine ⟨x, dx, a, b, z, rfl, upd_same, fun H5 I5 b5 => ⟨rfl, ?_⟩⟩
          have s45 : Same (upd H4 pr (.frz od (.lst (pref.map V.int)))) H5 := fun b o e => b5 b o (by rw [upd_ne (ne_of_none e nx), upd_ne (ne_of_none e ndx)]; exact e) (ne_of_none e nx)
          have er5 : H5 pr = some (.frz od (.lst (pref.map V.int))) := s45 _ _ upd_same
          refine ⟨er5, ?_⟩
          have d5 : Same (del H1 pr) (del (upd H5 pr (.lst (pref.map V.int))) pr) := ((del_same pr s24).trans (del_set H4 pr _)).trans ((del_same pr s45).trans (del_set H5 pr _))
          have I6 : IceAt C (del (upd H5 pr (.lst (pref.map V.int))) pr) x ⟨a, b, z, []⟩ := (ice_del I5 er5).same (del_set H5 pr _)
          have er6 : (upd H5 pr (.lst (pref.map V.int))) pr = some (.lst (pref.map V.int)) := upd_same
          generalize upd H5 pr (.lst (pref.map V.int)) = H6 at d5 I6 er6 ⊢
          refine ⟨sz one_le, fun p8 hp8 => ?_⟩
          have n8 : p8 ≠ pr := fun z => by
            rw [z, er6] at hp8
            cases hp8
          have s8 : Same H6 (upd H6 p8 (.lst [.int 0])) := Same.new hp8
          have es : Km563.step st (.create a b z) = (some ⟨a, b, z, []⟩, Km563.number 0) := by
            show (if _ then _ else _) = _
            rw [if_neg q]
          refine ⟨some ⟨a, b, z, []⟩, .ref x, p8, [0], rfl, (d5.trans (del_same pr s8)).seq hS1, s8 _ _ er6, ⟨x, rfl, I6.same (del_same pr s8), good_new q⟩, n8, upd_same, ?_⟩
          rw [call_create, es]
          rfl
        · have q := of_decide_eq_true (not_f q)
          have es : Km563.step st (.create a b z) = (st, Km563.error (-22)) := by
            show (if _ then _ else _) = _
            rw [if_pos q]
          refine ⟨st, v, p7, [-22], rfl, (del_same pr s24).seq hS1, s24 _ _ er1, hI1.same (del_same pr s24), n7, s4 _ _ e7, ?_⟩
          rw [call_create, es]
          rfl
      · have q : j ≠ 0 := by simpa using q
        obtain ⟨sh, cl, hsh, hcl, hst, hno⟩ := call_other hn q hy
        refine ⟨_, rfl, rfl, _, rfl, ?_⟩
        cases st with
        | none =>
          have hv : v = .non := hI1
          subst hv
          refine iteT ?_
          refine ⟨sz one_le, fun p7 hp7 => ?_⟩
          have s2 : Same H1 (upd H1 p7 (.lst [.int (-11)])) := Same.new hp7
          have n7 : p7 ≠ pr := fun z => by
            rw [z, er1] at hp7
            cases hp7
          refine ⟨none, .non, p7, [-11], rfl, (del_same pr s2).seq hS1, s2 _ _ er1, rfl, n7, upd_same, ?_⟩
          rw [hst none, hno]
          rfl
        | some f =>
          obtain ⟨a, rfl, I1, G⟩ := hI1
          refine iteF ?_
          refine ⟨pr, _, er1, True.intro, fun od => ?_⟩
          have lk : Same (del H1 pr) (upd H1 pr (.frz od (.lst (pref.map V.int)))) := del_upd H1 pr _
          have epp5 : (upd H1 pr (.frz od (.lst (pref.map V.int)))) pp = some (.lst (ys.map iv)) := (upd_ne npp).trans epp
          have IL := I1.same lk
          obtain ⟨dx, l, hL, _⟩ := id IL
          refine ⟨_, rfl, _, rfl, _, rfl, a, f, j, pp, ys, sh, cl, rfl, IL, G, SqL.of epp5, hsh, hcl, fun H4 p4 I4 G4 b4 e4 => ?_⟩
          have nra : pr ≠ a := ne_of (upd_same (H := H1) (a := pr) (o := .frz od (.lst (pref.map V.int)))) hL (by intro z; cases z)
          have er4 : H4 pr = some (.frz od (.lst (pref.map V.int))) := b4 _ _ upd_same nra
          refine ⟨er4, ?_⟩
          have n4 : p4 ≠ pr := ne_of e4 er4 (by intro z; cases z)
          have hS4 : SqL K (del H4 pr) ac (ms.map iv) := sql_but (del_but pr b4) ((del_ne (fun z => nra z.symm)).trans hL) ((del_set H1 pr _).seq hS1)
          obtain ⟨g, hg⟩ := step_some f cl
          have eg : nxt f cl = g := by
            unfold nxt
            rw [hg]
            rfl
          refine ⟨some (nxt f cl), .ref a, p4, ans f cl, rfl, (del_set H4 pr _).seq hS4, upd_same, ⟨a, rfl, (ice_del I4 er4).same (del_set H4 pr _), G4⟩, n4, (upd_ne n4).trans e4, ?_⟩
          rw [hst (some f), eg, ← hg]
          rfl
    · rintro σ' H3 ⟨st', v', pa, al, rfl, hS3, er3, hI3, npa, ea, hstep⟩
      have hdue2 : due = pref ++ ((al.length : Nat) : Int) :: (al ++ PyFlat.told (PyFlat.played Km563Neutral.step st' (cs'.map PyKm563.whole))) := by
        rw [hdue]
        show pref ++ PyFlat.told ((Km563Neutral.step st (PyKm563.whole [(j : Int) :: ys.map cst])).2 :: PyFlat.played Km563Neutral.step (Km563Neutral.step st (PyKm563.whole [(j : Int) :: ys.map cst])).1 (cs'.map PyKm563.whole)) = _
        rw [hstep]
        rfl
      have hl := told_len hdue2
      have hline : (10000000 : Nat) ≤ sizeLine := by decide
      -- answered.append(len(answer))
      refine ⟨_, rfl, .inl ⟨rfl, _, SqL.of er3⟩, _, rfl, pa, _, rfl, .inl (SqL.of ea), pr, _, _, rfl, rfl, er3, (by rw [List.length_map]; omega), ?_⟩
      have ea2 := (upd_ne (H := H3) (o := .lst (pref.map V.int ++ [V.int (((al.map V.int).length : Nat) : Int)])) npa).trans ea
      refine ⟨_, rfl, .inl ⟨rfl, _, SqL.of upd_same⟩, _, rfl, pr, pa, _, _, rfl, rfl, upd_same, ea2, (by simp only [List.length_append, List.length_map, List.length_singleton]; omega), ?_⟩
      refine ⟨st', v', pref ++ ((al.length : Nat) : Int) :: al, _, _, _, _, rfl, ?_, upd_same.trans ?_, ?_, ?_⟩
      · exact ((del_set H3 pr _).trans (del_set _ pr _)).seq hS3
      · rw [List.map_append, List.map_cons, List.length_map, List.append_assoc]
        rfl
      · exact hI3.same ((del_set H3 pr _).trans (del_set _ pr _))
      · rw [hdue2, List.append_assoc]
        rfl
  · have c := of_decide_eq_false c
    rw [List.length_map] at c
    have e : i = ms.length := by omega
    subst e
    rw [List.drop_length] at hcs
    have e2 : cs = [] := by
      cases fuel with
      | zero => exact (Option.some.inj hcs).symm
      | succ f => exact (Option.some.inj hcs).symm
    subst e2
    refine ⟨_, rfl, k H' pr ?_⟩
    rw [hdue]
    show _ = some (HO.lst ((pref ++ []).map V.int))
    rw [List.append_nil]
    exact er
end Ib

/-! ### part E1 -/
set_option autoImplicit false
set_option Elab.async false
set_option linter.all false
set_option maxRecDepth 100000
set_option maxHeartbeats 2000000
namespace Ib
open PySem PySem.Spec PyProof.Rows L2
open Km563 (IceField)
/-- a def's own facts at its address -/
structure At (K : PySem.W.Frag) (x qual : Str) (st : Stmt) (f : Addr) : Prop where
  ex : ∃ fd, Fun K x qual st f fd
  fn : PySem.W.isFn K (.ref f) = true
  kp : PySem.W.keepIn K (.ref f) = true
theorem at_mk {K : PySem.W.Frag} {x qual : Str} {st : Stmt} {f : Addr} {oc : Value} {od an : Option Addr} {osl : Array (Option Value)} {kV dc pm cdv ct : Value} (l : K.lookup f = some ⟨oc, od, .func (PySem.W.fnOf x qual (defArgs st) (defBody st) (defScope st) .none kV dc pm an cdv ct), osl⟩)
    (c : PySem.W.codeIn K cdv qual = true) (k : PySem.W.keepIn K (.ref f) = true) (i : PySem.W.isFn K (.ref f) = true) : At K x qual st f := ⟨⟨_, fun_mk l c k⟩, i, k⟩
theorem all_mk {P : Program} {w : World} {K : PySem.W.Frag} {h : Heap} {mg : Str → Option Value} {fa : Addr} (X : K.In h) (G : h.Ns mainGlobals mg) (hfa : mg "answers" = some (.ref fa))
    {C O TT am___init__ am_cell_count am_has_cell am_distance am_neighbours am_is_measured am_measurements_except am_record am_with_measurement am_fits am_is_consistent_with_step am_smallest_consistent_step am_lower_bound am_upper_bound am_uncertainty am_total_uncertainty am_worst_total_uncertainty am_is_safe am_is_uncertain am_safe_cells am_uncertain_cells am_steps_over_safe_cells am_safe_route am_max_safe_thickness af_is_creatable af_refusal af_measure_refusal af_set_max_step af_measure af_remove_measurement af_list_measurements af_lower_bound af_upper_bound af_lower_bounds af_upper_bounds af_is_possible af_uncertainty af_most_uncertain_cell af_check_cell af_safe_cells af_uncertain_cells af_safe_route af_safe_route_length af_max_safe_thickness af_total_uncertainty_with af_worst_total_uncertainty af_smallest_consistent_step af_total_uncertainty af_summary af_operate af_answers : Addr} {es : Array DictEntry} {en tn : Nat} {ts : Array Value} {od : Option Addr} {sl : Array (Option Value)} {k_MAX_THICKNESS k_CREATE k_MAX_SIDE k_GREATEST_MAX_STEP k_NO_SUCH_CELL k_NO_INSTANCE k_OUT_OF_RANGE k_ALREADY_MEASURED k_INCONSISTENT k_NO_SAFE_ROUTE k_NOT_SAFE k_SAFE k_UNCERTAIN : Tok}
    (kC : PySem.W.nsIn K mainGlobals "Ice" = some (some (.ref C)))
    (n_m___init__ : PySem.W.findIn K (.ref C) "__init__" = some (some (.ref am___init__)))
    (t_m___init__ : At K "__init__" "Ice.__init__" s_m___init__ am___init__)
    (n_m_cell_count : PySem.W.findIn K (.ref C) "cell_count" = some (some (.ref am_cell_count)))
    (t_m_cell_count : At K "cell_count" "Ice.cell_count" s_m_cell_count am_cell_count)
    (n_m_has_cell : PySem.W.findIn K (.ref C) "has_cell" = some (some (.ref am_has_cell)))
    (t_m_has_cell : At K "has_cell" "Ice.has_cell" s_m_has_cell am_has_cell)
    (n_m_distance : PySem.W.findIn K (.ref C) "distance" = some (some (.ref am_distance)))
    (t_m_distance : At K "distance" "Ice.distance" s_m_distance am_distance)
    (n_m_neighbours : PySem.W.findIn K (.ref C) "neighbours" = some (some (.ref am_neighbours)))
    (t_m_neighbours : At K "neighbours" "Ice.neighbours" s_m_neighbours am_neighbours)
    (n_m_is_measured : PySem.W.findIn K (.ref C) "is_measured" = some (some (.ref am_is_measured)))
    (t_m_is_measured : At K "is_measured" "Ice.is_measured" s_m_is_measured am_is_measured)
    (n_m_measurements_except : PySem.W.findIn K (.ref C) "measurements_except" = some (some (.ref am_measurements_except)))
    (t_m_measurements_except : At K "measurements_except" "Ice.measurements_except" s_m_measurements_except am_measurements_except)
    (n_m_record : PySem.W.findIn K (.ref C) "record" = some (some (.ref am_record)))
    (t_m_record : At K "record" "Ice.record" s_m_record am_record)
    (n_m_with_measurement : PySem.W.findIn K (.ref C) "with_measurement" = some (some (.ref am_with_measurement)))
    (t_m_with_measurement : At K "with_measurement" "Ice.with_measurement" s_m_with_measurement am_with_measurement)
    (n_m_fits : PySem.W.findIn K (.ref C) "fits" = some (some (.ref am_fits)))
    (t_m_fits : At K "fits" "Ice.fits" s_m_fits am_fits)
    (n_m_is_consistent_with_step : PySem.W.findIn K (.ref C) "is_consistent_with_step" = some (some (.ref am_is_consistent_with_step)))
    (t_m_is_consistent_with_step : At K "is_consistent_with_step" "Ice.is_consistent_with_step" s_m_is_consistent_with_step am_is_consistent_with_step)
    (n_m_smallest_consistent_step : PySem.W.findIn K (.ref C) "smallest_consistent_step" = some (some (.ref am_smallest_consistent_step)))
    (t_m_smallest_consistent_step : At K "smallest_consistent_step" "Ice.smallest_consistent_step" s_m_smallest_consistent_step am_smallest_consistent_step)
    (n_m_lower_bound : PySem.W.findIn K (.ref C) "lower_bound" = some (some (.ref am_lower_bound)))
    (t_m_lower_bound : At K "lower_bound" "Ice.lower_bound" s_m_lower_bound am_lower_bound)
    (n_m_upper_bound : PySem.W.findIn K (.ref C) "upper_bound" = some (some (.ref am_upper_bound)))
    (t_m_upper_bound : At K "upper_bound" "Ice.upper_bound" s_m_upper_bound am_upper_bound)
    (n_m_uncertainty : PySem.W.findIn K (.ref C) "uncertainty" = some (some (.ref am_uncertainty)))
    (t_m_uncertainty : At K "uncertainty" "Ice.uncertainty" s_m_uncertainty am_uncertainty)
    (n_m_total_uncertainty : PySem.W.findIn K (.ref C) "total_uncertainty" = some (some (.ref am_total_uncertainty)))
    (t_m_total_uncertainty : At K "total_uncertainty" "Ice.total_uncertainty" s_m_total_uncertainty am_total_uncertainty)
    (n_m_worst_total_uncertainty : PySem.W.findIn K (.ref C) "worst_total_uncertainty" = some (some (.ref am_worst_total_uncertainty)))
    (t_m_worst_total_uncertainty : At K "worst_total_uncertainty" "Ice.worst_total_uncertainty" s_m_worst_total_uncertainty am_worst_total_uncertainty)
    (n_m_is_safe : PySem.W.findIn K (.ref C) "is_safe" = some (some (.ref am_is_safe)))
    (t_m_is_safe : At K "is_safe" "Ice.is_safe" s_m_is_safe am_is_safe)
    (n_m_is_uncertain : PySem.W.findIn K (.ref C) "is_uncertain" = some (some (.ref am_is_uncertain)))
    (t_m_is_uncertain : At K "is_uncertain" "Ice.is_uncertain" s_m_is_uncertain am_is_uncertain)
    (n_m_safe_cells : PySem.W.findIn K (.ref C) "safe_cells" = some (some (.ref am_safe_cells)))
    (t_m_safe_cells : At K "safe_cells" "Ice.safe_cells" s_m_safe_cells am_safe_cells)
    (n_m_uncertain_cells : PySem.W.findIn K (.ref C) "uncertain_cells" = some (some (.ref am_uncertain_cells)))
    (t_m_uncertain_cells : At K "uncertain_cells" "Ice.uncertain_cells" s_m_uncertain_cells am_uncertain_cells)
    (n_m_steps_over_safe_cells : PySem.W.findIn K (.ref C) "steps_over_safe_cells" = some (some (.ref am_steps_over_safe_cells)))
    (t_m_steps_over_safe_cells : At K "steps_over_safe_cells" "Ice.steps_over_safe_cells" s_m_steps_over_safe_cells am_steps_over_safe_cells)
    (n_m_safe_route : PySem.W.findIn K (.ref C) "safe_route" = some (some (.ref am_safe_route)))
    (t_m_safe_route : At K "safe_route" "Ice.safe_route" s_m_safe_route am_safe_route)
    (n_m_max_safe_thickness : PySem.W.findIn K (.ref C) "max_safe_thickness" = some (some (.ref am_max_safe_thickness)))
    (t_m_max_safe_thickness : At K "max_safe_thickness" "Ice.max_safe_thickness" s_m_max_safe_thickness am_max_safe_thickness)
    (n_f_is_creatable : PySem.W.nsIn K mainGlobals "is_creatable" = some (some (.ref af_is_creatable)))
    (t_f_is_creatable : At K "is_creatable" "is_creatable" s_f_is_creatable af_is_creatable)
    (n_f_refusal : PySem.W.nsIn K mainGlobals "refusal" = some (some (.ref af_refusal)))
    (t_f_refusal : At K "refusal" "refusal" s_f_refusal af_refusal)
    (n_f_measure_refusal : PySem.W.nsIn K mainGlobals "measure_refusal" = some (some (.ref af_measure_refusal)))
    (t_f_measure_refusal : At K "measure_refusal" "measure_refusal" s_f_measure_refusal af_measure_refusal)
    (n_f_set_max_step : PySem.W.nsIn K mainGlobals "set_max_step" = some (some (.ref af_set_max_step)))
    (t_f_set_max_step : At K "set_max_step" "set_max_step" s_f_set_max_step af_set_max_step)
    (n_f_measure : PySem.W.nsIn K mainGlobals "measure" = some (some (.ref af_measure)))
    (t_f_measure : At K "measure" "measure" s_f_measure af_measure)
    (n_f_remove_measurement : PySem.W.nsIn K mainGlobals "remove_measurement" = some (some (.ref af_remove_measurement)))
    (t_f_remove_measurement : At K "remove_measurement" "remove_measurement" s_f_remove_measurement af_remove_measurement)
    (n_f_list_measurements : PySem.W.nsIn K mainGlobals "list_measurements" = some (some (.ref af_list_measurements)))
    (t_f_list_measurements : At K "list_measurements" "list_measurements" s_f_list_measurements af_list_measurements)
    (n_f_lower_bound : PySem.W.nsIn K mainGlobals "lower_bound" = some (some (.ref af_lower_bound)))
    (t_f_lower_bound : At K "lower_bound" "lower_bound" s_f_lower_bound af_lower_bound)
    (n_f_upper_bound : PySem.W.nsIn K mainGlobals "upper_bound" = some (some (.ref af_upper_bound)))
    (t_f_upper_bound : At K "upper_bound" "upper_bound" s_f_upper_bound af_upper_bound)
    (n_f_lower_bounds : PySem.W.nsIn K mainGlobals "lower_bounds" = some (some (.ref af_lower_bounds)))
    (t_f_lower_bounds : At K "lower_bounds" "lower_bounds" s_f_lower_bounds af_lower_bounds)
    (n_f_upper_bounds : PySem.W.nsIn K mainGlobals "upper_bounds" = some (some (.ref af_upper_bounds)))
    (t_f_upper_bounds : At K "upper_bounds" "upper_bounds" s_f_upper_bounds af_upper_bounds)
    (n_f_is_possible : PySem.W.nsIn K mainGlobals "is_possible" = some (some (.ref af_is_possible)))
    (t_f_is_possible : At K "is_possible" "is_possible" s_f_is_possible af_is_possible)
    (n_f_uncertainty : PySem.W.nsIn K mainGlobals "uncertainty" = some (some (.ref af_uncertainty)))
    (t_f_uncertainty : At K "uncertainty" "uncertainty" s_f_uncertainty af_uncertainty)
    (n_f_most_uncertain_cell : PySem.W.nsIn K mainGlobals "most_uncertain_cell" = some (some (.ref af_most_uncertain_cell)))
    (t_f_most_uncertain_cell : At K "most_uncertain_cell" "most_uncertain_cell" s_f_most_uncertain_cell af_most_uncertain_cell)
    (n_f_check_cell : PySem.W.nsIn K mainGlobals "check_cell" = some (some (.ref af_check_cell)))
    (t_f_check_cell : At K "check_cell" "check_cell" s_f_check_cell af_check_cell)
    (n_f_safe_cells : PySem.W.nsIn K mainGlobals "safe_cells" = some (some (.ref af_safe_cells)))
    (t_f_safe_cells : At K "safe_cells" "safe_cells" s_f_safe_cells af_safe_cells)
    (n_f_uncertain_cells : PySem.W.nsIn K mainGlobals "uncertain_cells" = some (some (.ref af_uncertain_cells)))
    (t_f_uncertain_cells : At K "uncertain_cells" "uncertain_cells" s_f_uncertain_cells af_uncertain_cells)
    (n_f_safe_route : PySem.W.nsIn K mainGlobals "safe_route" = some (some (.ref af_safe_route)))
    (t_f_safe_route : At K "safe_route" "safe_route" s_f_safe_route af_safe_route)
    (n_f_safe_route_length : PySem.W.nsIn K mainGlobals "safe_route_length" = some (some (.ref af_safe_route_length)))
    (t_f_safe_route_length : At K "safe_route_length" "safe_route_length" s_f_safe_route_length af_safe_route_length)
    (n_f_max_safe_thickness : PySem.W.nsIn K mainGlobals "max_safe_thickness" = some (some (.ref af_max_safe_thickness)))
    (t_f_max_safe_thickness : At K "max_safe_thickness" "max_safe_thickness" s_f_max_safe_thickness af_max_safe_thickness)
    (n_f_total_uncertainty_with : PySem.W.nsIn K mainGlobals "total_uncertainty_with" = some (some (.ref af_total_uncertainty_with)))
    (t_f_total_uncertainty_with : At K "total_uncertainty_with" "total_uncertainty_with" s_f_total_uncertainty_with af_total_uncertainty_with)
    (n_f_worst_total_uncertainty : PySem.W.nsIn K mainGlobals "worst_total_uncertainty" = some (some (.ref af_worst_total_uncertainty)))
    (t_f_worst_total_uncertainty : At K "worst_total_uncertainty" "worst_total_uncertainty" s_f_worst_total_uncertainty af_worst_total_uncertainty)
    (n_f_smallest_consistent_step : PySem.W.nsIn K mainGlobals "smallest_consistent_step" = some (some (.ref af_smallest_consistent_step)))
    (t_f_smallest_consistent_step : At K "smallest_consistent_step" "smallest_consistent_step" s_f_smallest_consistent_step af_smallest_consistent_step)
    (n_f_total_uncertainty : PySem.W.nsIn K mainGlobals "total_uncertainty" = some (some (.ref af_total_uncertainty)))
    (t_f_total_uncertainty : At K "total_uncertainty" "total_uncertainty" s_f_total_uncertainty af_total_uncertainty)
    (n_f_summary : PySem.W.nsIn K mainGlobals "summary" = some (some (.ref af_summary)))
    (t_f_summary : At K "summary" "summary" s_f_summary af_summary)
    (n_f_operate : PySem.W.nsIn K mainGlobals "operate" = some (some (.ref af_operate)))
    (t_f_operate : At K "operate" "operate" s_f_operate af_operate)
    (n_f_answers : PySem.W.nsIn K mainGlobals "answers" = some (some (.ref af_answers)))
    (t_f_answers : At K "answers" "answers" s_f_answers af_answers)
    (pg : PySem.W.plainGet K C Str.empty = true) (hd : PySem.W.hasDictIn K C = true) (po : PySem.W.plainOver K C = true) (sa : PySem.W.findIn K (.ref C) "__setattr__" = some (some (.builtin "object.__setattr__"))) (mk : PySem.W.makesIn K C = true) (kc : PySem.W.keepIn K (.ref C) = true)
    (nc : PySem.W.findIn K (.ref C) "columns" = some none)
    (nr : PySem.W.findIn K (.ref C) "rows" = some none)
    (ns : PySem.W.findIn K (.ref C) "max_step" = some none)
    (nm : PySem.W.findIn K (.ref C) "measurements" = some none)
    (z_len : PySem.W.nsIn K mainGlobals "len" = some none)
    (z_abs : PySem.W.nsIn K mainGlobals "abs" = some none)
    (z_max : PySem.W.nsIn K mainGlobals "max" = some none)
    (z_min : PySem.W.nsIn K mainGlobals "min" = some none)
    (z_sum : PySem.W.nsIn K mainGlobals "sum" = some none)
    (z_any : PySem.W.nsIn K mainGlobals "any" = some none)
    (z_range : PySem.W.nsIn K mainGlobals "range" = some none)
    (z_list : PySem.W.nsIn K mainGlobals "list" = some none)
    (z_reversed : PySem.W.nsIn K mainGlobals "reversed" = some none)
    (g_MAX_THICKNESS : PySem.W.nsIn K mainGlobals "MAX_THICKNESS" = some (some (.int (99) k_MAX_THICKNESS)))
    (g_CREATE : PySem.W.nsIn K mainGlobals "CREATE" = some (some (.int (0) k_CREATE)))
    (g_MAX_SIDE : PySem.W.nsIn K mainGlobals "MAX_SIDE" = some (some (.int (5) k_MAX_SIDE)))
    (g_GREATEST_MAX_STEP : PySem.W.nsIn K mainGlobals "GREATEST_MAX_STEP" = some (some (.int (20) k_GREATEST_MAX_STEP)))
    (g_NO_SUCH_CELL : PySem.W.nsIn K mainGlobals "NO_SUCH_CELL" = some (some (.int (-2) k_NO_SUCH_CELL)))
    (g_NO_INSTANCE : PySem.W.nsIn K mainGlobals "NO_INSTANCE" = some (some (.int (-11) k_NO_INSTANCE)))
    (g_OUT_OF_RANGE : PySem.W.nsIn K mainGlobals "OUT_OF_RANGE" = some (some (.int (-22) k_OUT_OF_RANGE)))
    (g_ALREADY_MEASURED : PySem.W.nsIn K mainGlobals "ALREADY_MEASURED" = some (some (.int (-17) k_ALREADY_MEASURED)))
    (g_INCONSISTENT : PySem.W.nsIn K mainGlobals "INCONSISTENT" = some (some (.int (-33) k_INCONSISTENT)))
    (g_NO_SAFE_ROUTE : PySem.W.nsIn K mainGlobals "NO_SAFE_ROUTE" = some (some (.int (-33) k_NO_SAFE_ROUTE)))
    (g_NOT_SAFE : PySem.W.nsIn K mainGlobals "NOT_SAFE" = some (some (.int (0) k_NOT_SAFE)))
    (g_SAFE : PySem.W.nsIn K mainGlobals "SAFE" = some (some (.int (1) k_SAFE)))
    (g_UNCERTAIN : PySem.W.nsIn K mainGlobals "UNCERTAIN" = some (some (.int (2) k_UNCERTAIN)))
    (g_O : PySem.W.nsIn K mainGlobals "OPERATIONS" = some (some (.ref O))) (l_O : K.lookup O = some ⟨.type "dict", none, .dict es en, #[]⟩) (y_O : es.toList.all keyI = true)
    (r_1 : refAt es 1 = some af_set_max_step)
    (r_2 : refAt es 2 = some af_measure)
    (r_3 : refAt es 3 = some af_remove_measurement)
    (r_4 : refAt es 4 = some af_list_measurements)
    (r_5 : refAt es 5 = some af_lower_bound)
    (r_6 : refAt es 6 = some af_upper_bound)
    (r_7 : refAt es 7 = some af_lower_bounds)
    (r_8 : refAt es 8 = some af_upper_bounds)
    (r_9 : refAt es 9 = some af_is_possible)
    (r_10 : refAt es 10 = some af_uncertainty)
    (r_11 : refAt es 11 = some af_most_uncertain_cell)
    (r_12 : refAt es 12 = some af_check_cell)
    (r_13 : refAt es 13 = some af_safe_cells)
    (r_14 : refAt es 14 = some af_uncertain_cells)
    (r_15 : refAt es 15 = some af_safe_route)
    (r_16 : refAt es 16 = some af_safe_route_length)
    (r_17 : refAt es 17 = some af_max_safe_thickness)
    (r_18 : refAt es 18 = some af_total_uncertainty_with)
    (r_19 : refAt es 19 = some af_worst_total_uncertainty)
    (r_20 : refAt es 20 = some af_smallest_consistent_step)
    (r_21 : refAt es 21 = some af_total_uncertainty)
    (r_22 : refAt es 22 = some af_summary)
    (g_T : PySem.W.nsIn K mainGlobals "PARAMETER_COUNTS" = some (some (.ref TT))) (l_T : K.lookup TT = some ⟨.type "tuple", od, .seq ts tn, sl⟩) (y_T : ts.toList.map intOf = cnts.map some) (w_T : decide (ts.size ≤ sizeLine) = true) :
    ∃ fd : FuncData, (∀ (s : Shared) (us : List Value), us.length = (["calls"] : List Str).length → BindsTo s fd ⟨us, []⟩ ((["calls"] : List Str).zip us)) ∧ ∀ base : Heap, K.In base → base.Ns mainGlobals mg → FnOk P w K mg base CX0 10 fa fd ["calls"] (spAns K) := by
  have e := hfa.symm.trans (PySem.W.mg_of X G n_f_answers)
  cases e
  have T : Txt K mg C := ⟨⟨pg, hd, po, sa⟩, nc, nr, ns, nm, PySem.W.mg_none_of X G z_len, PySem.W.mg_none_of X G z_abs, PySem.W.mg_none_of X G z_max, PySem.W.mg_none_of X G z_min, PySem.W.mg_none_of X G z_sum, PySem.W.mg_none_of X G z_any, PySem.W.mg_none_of X G z_range, PySem.W.mg_none_of X G z_list, PySem.W.mg_none_of X G z_reversed, ⟨_, PySem.W.mg_of X G g_MAX_THICKNESS⟩, ⟨_, PySem.W.mg_of X G g_CREATE⟩, ⟨_, PySem.W.mg_of X G g_MAX_SIDE⟩, ⟨_, PySem.W.mg_of X G g_GREATEST_MAX_STEP⟩, ⟨_, PySem.W.mg_of X G g_NO_SUCH_CELL⟩, ⟨_, PySem.W.mg_of X G g_NO_INSTANCE⟩, ⟨_, PySem.W.mg_of X G g_OUT_OF_RANGE⟩, ⟨_, PySem.W.mg_of X G g_ALREADY_MEASURED⟩, ⟨_, PySem.W.mg_of X G g_INCONSISTENT⟩, ⟨_, PySem.W.mg_of X G g_NO_SAFE_ROUTE⟩, ⟨_, PySem.W.mg_of X G g_NOT_SAFE⟩, ⟨_, PySem.W.mg_of X G g_SAFE⟩, ⟨_, PySem.W.mg_of X G g_UNCERTAIN⟩⟩
  obtain ⟨d_m___init__, F_m___init__⟩ := t_m___init__.ex
  obtain ⟨d_m_cell_count, F_m_cell_count⟩ := t_m_cell_count.ex
  obtain ⟨d_m_has_cell, F_m_has_cell⟩ := t_m_has_cell.ex
  obtain ⟨d_m_distance, F_m_distance⟩ := t_m_distance.ex
  obtain ⟨d_m_neighbours, F_m_neighbours⟩ := t_m_neighbours.ex
  obtain ⟨d_m_is_measured, F_m_is_measured⟩ := t_m_is_measured.ex
  obtain ⟨d_m_measurements_except, F_m_measurements_except⟩ := t_m_measurements_except.ex
  obtain ⟨d_m_record, F_m_record⟩ := t_m_record.ex
  obtain ⟨d_m_with_measurement, F_m_with_measurement⟩ := t_m_with_measurement.ex
  obtain ⟨d_m_fits, F_m_fits⟩ := t_m_fits.ex
  obtain ⟨d_m_is_consistent_with_step, F_m_is_consistent_with_step⟩ := t_m_is_consistent_with_step.ex
  obtain ⟨d_m_smallest_consistent_step, F_m_smallest_consistent_step⟩ := t_m_smallest_consistent_step.ex
  obtain ⟨d_m_lower_bound, F_m_lower_bound⟩ := t_m_lower_bound.ex
  obtain ⟨d_m_upper_bound, F_m_upper_bound⟩ := t_m_upper_bound.ex
  obtain ⟨d_m_uncertainty, F_m_uncertainty⟩ := t_m_uncertainty.ex
  obtain ⟨d_m_total_uncertainty, F_m_total_uncertainty⟩ := t_m_total_uncertainty.ex
  obtain ⟨d_m_worst_total_uncertainty, F_m_worst_total_uncertainty⟩ := t_m_worst_total_uncertainty.ex
  obtain ⟨d_m_is_safe, F_m_is_safe⟩ := t_m_is_safe.ex
  obtain ⟨d_m_is_uncertain, F_m_is_uncertain⟩ := t_m_is_uncertain.ex
  obtain ⟨d_m_safe_cells, F_m_safe_cells⟩ := t_m_safe_cells.ex
  obtain ⟨d_m_uncertain_cells, F_m_uncertain_cells⟩ := t_m_uncertain_cells.ex
  obtain ⟨d_m_steps_over_safe_cells, F_m_steps_over_safe_cells⟩ := t_m_steps_over_safe_cells.ex
  obtain ⟨d_m_safe_route, F_m_safe_route⟩ := t_m_safe_route.ex
  obtain ⟨d_m_max_safe_thickness, F_m_max_safe_thickness⟩ := t_m_max_safe_thickness.ex
  obtain ⟨d_f_is_creatable, F_f_is_creatable⟩ := t_f_is_creatable.ex
  obtain ⟨d_f_refusal, F_f_refusal⟩ := t_f_refusal.ex
  obtain ⟨d_f_measure_refusal, F_f_measure_refusal⟩ := t_f_measure_refusal.ex
  obtain ⟨d_f_set_max_step, F_f_set_max_step⟩ := t_f_set_max_step.ex
  obtain ⟨d_f_measure, F_f_measure⟩ := t_f_measure.ex
  obtain ⟨d_f_remove_measurement, F_f_remove_measurement⟩ := t_f_remove_measurement.ex
  obtain ⟨d_f_list_measurements, F_f_list_measurements⟩ := t_f_list_measurements.ex
  obtain ⟨d_f_lower_bound, F_f_lower_bound⟩ := t_f_lower_bound.ex
  obtain ⟨d_f_upper_bound, F_f_upper_bound⟩ := t_f_upper_bound.ex
  obtain ⟨d_f_lower_bounds, F_f_lower_bounds⟩ := t_f_lower_bounds.ex
  obtain ⟨d_f_upper_bounds, F_f_upper_bounds⟩ := t_f_upper_bounds.ex
  obtain ⟨d_f_is_possible, F_f_is_possible⟩ := t_f_is_possible.ex
  obtain ⟨d_f_uncertainty, F_f_uncertainty⟩ := t_f_uncertainty.ex
  obtain ⟨d_f_most_uncertain_cell, F_f_most_uncertain_cell⟩ := t_f_most_uncertain_cell.ex
  obtain ⟨d_f_check_cell, F_f_check_cell⟩ := t_f_check_cell.ex
  obtain ⟨d_f_safe_cells, F_f_safe_cells⟩ := t_f_safe_cells.ex
  obtain ⟨d_f_uncertain_cells, F_f_uncertain_cells⟩ := t_f_uncertain_cells.ex
  obtain ⟨d_f_safe_route, F_f_safe_route⟩ := t_f_safe_route.ex
  obtain ⟨d_f_safe_route_length, F_f_safe_route_length⟩ := t_f_safe_route_length.ex
  obtain ⟨d_f_max_safe_thickness, F_f_max_safe_thickness⟩ := t_f_max_safe_thickness.ex
  obtain ⟨d_f_total_uncertainty_with, F_f_total_uncertainty_with⟩ := t_f_total_uncertainty_with.ex
  obtain ⟨d_f_worst_total_uncertainty, F_f_worst_total_uncertainty⟩ := t_f_worst_total_uncertainty.ex
  obtain ⟨d_f_smallest_consistent_step, F_f_smallest_consistent_step⟩ := t_f_smallest_consistent_step.ex
  obtain ⟨d_f_total_uncertainty, F_f_total_uncertainty⟩ := t_f_total_uncertainty.ex
  obtain ⟨d_f_summary, F_f_summary⟩ := t_f_summary.ex
  obtain ⟨d_f_operate, F_f_operate⟩ := t_f_operate.ex
  obtain ⟨d_f_answers, F_f_answers⟩ := t_f_answers.ex
  have b_m___init__ := F_m___init__.binds (ps := ["self", "columns", "rows", "max_step"]) fun _ _ _ _ _ _ us hl => match us, hl with | [_, _, _, _], _ => rfl
  have b_m_cell_count := F_m_cell_count.binds (ps := ["self"]) fun _ _ _ _ _ _ us hl => match us, hl with | [_], _ => rfl
  have b_m_has_cell := F_m_has_cell.binds (ps := ["self", "cell"]) fun _ _ _ _ _ _ us hl => match us, hl with | [_, _], _ => rfl
  have b_m_distance := F_m_distance.binds (ps := ["self", "p", "q"]) fun _ _ _ _ _ _ us hl => match us, hl with | [_, _, _], _ => rfl
  have b_m_neighbours := F_m_neighbours.binds (ps := ["self", "cell"]) fun _ _ _ _ _ _ us hl => match us, hl with | [_, _], _ => rfl
  have b_m_is_measured := F_m_is_measured.binds (ps := ["self", "cell"]) fun _ _ _ _ _ _ us hl => match us, hl with | [_, _], _ => rfl
  have b_m_measurements_except := F_m_measurements_except.binds (ps := ["self", "cell"]) fun _ _ _ _ _ _ us hl => match us, hl with | [_, _], _ => rfl
  have b_m_record := F_m_record.binds (ps := ["self", "cell", "thickness"]) fun _ _ _ _ _ _ us hl => match us, hl with | [_, _, _], _ => rfl
  have b_m_with_measurement := F_m_with_measurement.binds (ps := ["self", "cell", "thickness"]) fun _ _ _ _ _ _ us hl => match us, hl with | [_, _, _], _ => rfl
  have b_m_fits := F_m_fits.binds (ps := ["self", "cell", "thickness", "measurements", "max_step"]) fun _ _ _ _ _ _ us hl => match us, hl with | [_, _, _, _, _], _ => rfl
  have b_m_is_consistent_with_step := F_m_is_consistent_with_step.binds (ps := ["self", "max_step"]) fun _ _ _ _ _ _ us hl => match us, hl with | [_, _], _ => rfl
  have b_m_smallest_consistent_step := F_m_smallest_consistent_step.binds (ps := ["self"]) fun _ _ _ _ _ _ us hl => match us, hl with | [_], _ => rfl
  have b_m_lower_bound := F_m_lower_bound.binds (ps := ["self", "cell"]) fun _ _ _ _ _ _ us hl => match us, hl with | [_, _], _ => rfl
  have b_m_upper_bound := F_m_upper_bound.binds (ps := ["self", "cell"]) fun _ _ _ _ _ _ us hl => match us, hl with | [_, _], _ => rfl
  have b_m_uncertainty := F_m_uncertainty.binds (ps := ["self", "cell"]) fun _ _ _ _ _ _ us hl => match us, hl with | [_, _], _ => rfl
  have b_m_total_uncertainty := F_m_total_uncertainty.binds (ps := ["self"]) fun _ _ _ _ _ _ us hl => match us, hl with | [_], _ => rfl
  have b_m_worst_total_uncertainty := F_m_worst_total_uncertainty.binds (ps := ["self", "cell"]) fun _ _ _ _ _ _ us hl => match us, hl with | [_, _], _ => rfl
  have b_m_is_safe := F_m_is_safe.binds (ps := ["self", "cell", "required"]) fun _ _ _ _ _ _ us hl => match us, hl with | [_, _, _], _ => rfl
  have b_m_is_uncertain := F_m_is_uncertain.binds (ps := ["self", "cell", "required"]) fun _ _ _ _ _ _ us hl => match us, hl with | [_, _, _], _ => rfl
  have b_m_safe_cells := F_m_safe_cells.binds (ps := ["self", "required"]) fun _ _ _ _ _ _ us hl => match us, hl with | [_, _], _ => rfl
  have b_m_uncertain_cells := F_m_uncertain_cells.binds (ps := ["self", "required"]) fun _ _ _ _ _ _ us hl => match us, hl with | [_, _], _ => rfl
  have b_m_steps_over_safe_cells := F_m_steps_over_safe_cells.binds (ps := ["self", "required", "origin"]) fun _ _ _ _ _ _ us hl => match us, hl with | [_, _, _], _ => rfl
  have b_m_safe_route := F_m_safe_route.binds (ps := ["self", "required", "origin", "target"]) fun _ _ _ _ _ _ us hl => match us, hl with | [_, _, _, _], _ => rfl
  have b_m_max_safe_thickness := F_m_max_safe_thickness.binds (ps := ["self", "origin", "target"]) fun _ _ _ _ _ _ us hl => match us, hl with | [_, _, _], _ => rfl
  have b_f_is_creatable := F_f_is_creatable.binds (ps := ["columns", "rows", "max_step"]) fun _ _ _ _ _ _ us hl => match us, hl with | [_, _, _], _ => rfl
  have b_f_refusal := F_f_refusal.binds (ps := ["ice", "cells", "thickness"]) fun _ _ _ _ _ _ us hl => match us, hl with | [_, _, _], _ => rfl
  have b_f_measure_refusal := F_f_measure_refusal.binds (ps := ["ice", "cell", "thickness"]) fun _ _ _ _ _ _ us hl => match us, hl with | [_, _, _], _ => rfl
  have b_f_set_max_step := F_f_set_max_step.binds (ps := ["ice", "max_step"]) fun _ _ _ _ _ _ us hl => match us, hl with | [_, _], _ => rfl
  have b_f_measure := F_f_measure.binds (ps := ["ice", "cell", "thickness"]) fun _ _ _ _ _ _ us hl => match us, hl with | [_, _, _], _ => rfl
  have b_f_remove_measurement := F_f_remove_measurement.binds (ps := ["ice", "cell"]) fun _ _ _ _ _ _ us hl => match us, hl with | [_, _], _ => rfl
  have b_f_list_measurements := F_f_list_measurements.binds (ps := ["ice"]) fun _ _ _ _ _ _ us hl => match us, hl with | [_], _ => rfl
  have b_f_lower_bound := F_f_lower_bound.binds (ps := ["ice", "cell"]) fun _ _ _ _ _ _ us hl => match us, hl with | [_, _], _ => rfl
  have b_f_upper_bound := F_f_upper_bound.binds (ps := ["ice", "cell"]) fun _ _ _ _ _ _ us hl => match us, hl with | [_, _], _ => rfl
  have b_f_lower_bounds := F_f_lower_bounds.binds (ps := ["ice"]) fun _ _ _ _ _ _ us hl => match us, hl with | [_], _ => rfl
  have b_f_upper_bounds := F_f_upper_bounds.binds (ps := ["ice"]) fun _ _ _ _ _ _ us hl => match us, hl with | [_], _ => rfl
  have b_f_is_possible := F_f_is_possible.binds (ps := ["ice", "cell", "thickness"]) fun _ _ _ _ _ _ us hl => match us, hl with | [_, _, _], _ => rfl
  have b_f_uncertainty := F_f_uncertainty.binds (ps := ["ice", "cell"]) fun _ _ _ _ _ _ us hl => match us, hl with | [_, _], _ => rfl
  have b_f_most_uncertain_cell := F_f_most_uncertain_cell.binds (ps := ["ice"]) fun _ _ _ _ _ _ us hl => match us, hl with | [_], _ => rfl
  have b_f_check_cell := F_f_check_cell.binds (ps := ["ice", "required", "cell"]) fun _ _ _ _ _ _ us hl => match us, hl with | [_, _, _], _ => rfl
  have b_f_safe_cells := F_f_safe_cells.binds (ps := ["ice", "required"]) fun _ _ _ _ _ _ us hl => match us, hl with | [_, _], _ => rfl
  have b_f_uncertain_cells := F_f_uncertain_cells.binds (ps := ["ice", "required"]) fun _ _ _ _ _ _ us hl => match us, hl with | [_, _], _ => rfl
  have b_f_safe_route := F_f_safe_route.binds (ps := ["ice", "required", "origin", "target"]) fun _ _ _ _ _ _ us hl => match us, hl with | [_, _, _, _], _ => rfl
  have b_f_safe_route_length := F_f_safe_route_length.binds (ps := ["ice", "required", "origin", "target"]) fun _ _ _ _ _ _ us hl => match us, hl with | [_, _, _, _], _ => rfl
  have b_f_max_safe_thickness := F_f_max_safe_thickness.binds (ps := ["ice", "origin", "target"]) fun _ _ _ _ _ _ us hl => match us, hl with | [_, _, _], _ => rfl
  have b_f_total_uncertainty_with := F_f_total_uncertainty_with.binds (ps := ["ice", "cell", "thickness"]) fun _ _ _ _ _ _ us hl => match us, hl with | [_, _, _], _ => rfl
  have b_f_worst_total_uncertainty := F_f_worst_total_uncertainty.binds (ps := ["ice", "cell"]) fun _ _ _ _ _ _ us hl => match us, hl with | [_, _], _ => rfl
  have b_f_smallest_consistent_step := F_f_smallest_consistent_step.binds (ps := ["ice"]) fun _ _ _ _ _ _ us hl => match us, hl with | [_], _ => rfl
  have b_f_total_uncertainty := F_f_total_uncertainty.binds (ps := ["ice"]) fun _ _ _ _ _ _ us hl => match us, hl with | [_], _ => rfl
  have b_f_summary := F_f_summary.binds (ps := ["ice"]) fun _ _ _ _ _ _ us hl => match us, hl with | [_], _ => rfl
  have b_f_operate := F_f_operate.binds (ps := ["ice", "number", "parameters"]) fun _ _ _ _ _ _ us hl => match us, hl with | [_, _, _], _ => rfl
  have b_f_answers := F_f_answers.binds (ps := ["calls"]) fun _ _ _ _ _ _ us hl => match us, hl with | [_], _ => rfl
  have CT : Cnt K mg TT := ⟨PySem.W.mg_of X G g_T, fun H => .inr ⟨_, ts, tn, l_T, rfl, rfl, of_decide_eq_true w_T, vals_ints y_T⟩⟩
  have ans_fd : ∀ (s : Shared) (us : List Value), us.length = (["calls"] : List Str).length → BindsTo s d_f_answers ⟨us, []⟩ ((["calls"] : List Str).zip us) := by
    obtain ⟨oc, od, kV, doc, pm, an, cdv, ct, osl, rfl, _, _⟩ := F_f_answers.ex
    exact fun s us hu => match us, hu with | [_], _ => .of_eq rfl
  refine ⟨d_f_answers, ans_fd, fun base kb nb => ?_⟩
  have f_is_creatable : C8.Cal P w K mg base 1 "is_creatable" (sp_f_is_creatable K C) [] := ⟨_, _, _, [], ok_f_is_creatable F_f_is_creatable T , PySem.W.mg_of X G n_f_is_creatable, t_f_is_creatable.kp, b_f_is_creatable, .nil⟩
  have mkIce : C8.Mak P w K mg base 1 "Ice" C (sp_m___init__ K C) [] := ⟨_, _, _, [], ⟨mk, n_m___init__, t_m___init__.fn, kc⟩, ok_m___init__ F_m___init__ T, PySem.W.mg_of X G kC, b_m___init__, .nil⟩
  have m_distance : C8.Met P w K mg base 1 C "distance" (sp_m_distance K C) [] := ⟨_, _, _, [], T.cl, ⟨n_m_distance, t_m_distance.fn, t_m_distance.kp⟩, ok_m_distance F_m_distance T , b_m_distance, .nil⟩
  have m_fits : C8.Met P w K mg base 2 C "fits" (sp_m_fits K C) [] := ⟨_, _, _, [], T.cl, ⟨n_m_fits, t_m_fits.fn, t_m_fits.kp⟩, ok_m_fits F_m_fits T m_distance, b_m_fits, .nil⟩
  have m_is_consistent_with_step : C8.Met P w K mg base 3 C "is_consistent_with_step" (sp_m_is_consistent_with_step K C) [] := ⟨_, _, _, [], T.cl, ⟨n_m_is_consistent_with_step, t_m_is_consistent_with_step.fn, t_m_is_consistent_with_step.kp⟩, ok_m_is_consistent_with_step F_m_is_consistent_with_step T m_fits, b_m_is_consistent_with_step, .nil⟩
  have f_set_max_step : C8.Cal P w K mg base 4 "set_max_step" (sp_f_set_max_step K C) [] := ⟨_, _, _, [], ok_f_set_max_step F_f_set_max_step T m_is_consistent_with_step, PySem.W.mg_of X G n_f_set_max_step, t_f_set_max_step.kp, b_f_set_max_step, .nil⟩
  have m_measurements_except : C8.Met P w K mg base 1 C "measurements_except" (sp_m_measurements_except K C) [] := ⟨_, _, _, [], T.cl, ⟨n_m_measurements_except, t_m_measurements_except.fn, t_m_measurements_except.kp⟩, ok_m_measurements_except F_m_measurements_except T , b_m_measurements_except, .nil⟩
  have m_record : C8.Met P w K mg base 2 C "record" (sp_m_record K C) [] := ⟨_, _, _, [], T.cl, ⟨n_m_record, t_m_record.fn, t_m_record.kp⟩, ok_m_record F_m_record T m_measurements_except, b_m_record, .nil⟩
  have m_cell_count : C8.Met P w K mg base 1 C "cell_count" (sp_m_cell_count K C) [] := ⟨_, _, _, [], T.cl, ⟨n_m_cell_count, t_m_cell_count.fn, t_m_cell_count.kp⟩, ok_m_cell_count F_m_cell_count T , b_m_cell_count, .nil⟩
  have m_has_cell : C8.Met P w K mg base 2 C "has_cell" (sp_m_has_cell K C) [] := ⟨_, _, _, [], T.cl, ⟨n_m_has_cell, t_m_has_cell.fn, t_m_has_cell.kp⟩, ok_m_has_cell F_m_has_cell T m_cell_count, b_m_has_cell, .nil⟩
  have f_refusal : C8.Cal P w K mg base 3 "refusal" (sp_f_refusal K C) [] := ⟨_, _, _, [], ok_f_refusal F_f_refusal T m_has_cell, PySem.W.mg_of X G n_f_refusal, t_f_refusal.kp, b_f_refusal, .nil⟩
  have f_measure_refusal : C8.Cal P w K mg base 4 "measure_refusal" (sp_f_measure_refusal K C) [] := ⟨_, _, _, [], ok_f_measure_refusal F_f_measure_refusal T m_fits m_measurements_except f_refusal, PySem.W.mg_of X G n_f_measure_refusal, t_f_measure_refusal.kp, b_f_measure_refusal, .nil⟩
  have f_measure : C8.Cal P w K mg base 5 "measure" (sp_f_measure K C) [] := ⟨_, _, _, [], ok_f_measure F_f_measure T m_record f_measure_refusal, PySem.W.mg_of X G n_f_measure, t_f_measure.kp, b_f_measure, .nil⟩
  have m_is_measured : C8.Met P w K mg base 1 C "is_measured" (sp_m_is_measured K C) [] := ⟨_, _, _, [], T.cl, ⟨n_m_is_measured, t_m_is_measured.fn, t_m_is_measured.kp⟩, ok_m_is_measured F_m_is_measured T , b_m_is_measured, .nil⟩
  have f_remove_measurement : C8.Cal P w K mg base 2 "remove_measurement" (sp_f_remove_measurement K C) [] := ⟨_, _, _, [], ok_f_remove_measurement F_f_remove_measurement T m_measurements_except m_is_measured, PySem.W.mg_of X G n_f_remove_measurement, t_f_remove_measurement.kp, b_f_remove_measurement, .nil⟩
  have f_list_measurements : C8.Cal P w K mg base 1 "list_measurements" (sp_f_list_measurements K C) [] := ⟨_, _, _, [], ok_f_list_measurements F_f_list_measurements T , PySem.W.mg_of X G n_f_list_measurements, t_f_list_measurements.kp, b_f_list_measurements, .nil⟩
  have m_lower_bound : C8.Met P w K mg base 2 C "lower_bound" (sp_m_lower_bound K C) [] := ⟨_, _, _, [], T.cl, ⟨n_m_lower_bound, t_m_lower_bound.fn, t_m_lower_bound.kp⟩, ok_m_lower_bound F_m_lower_bound T m_distance, b_m_lower_bound, .nil⟩
  have f_lower_bound : C8.Cal P w K mg base 3 "lower_bound" (sp_f_lower_bound K C) [] := ⟨_, _, _, [], ok_f_lower_bound F_f_lower_bound T m_lower_bound m_has_cell, PySem.W.mg_of X G n_f_lower_bound, t_f_lower_bound.kp, b_f_lower_bound, .nil⟩
  have m_upper_bound : C8.Met P w K mg base 2 C "upper_bound" (sp_m_upper_bound K C) [] := ⟨_, _, _, [], T.cl, ⟨n_m_upper_bound, t_m_upper_bound.fn, t_m_upper_bound.kp⟩, ok_m_upper_bound F_m_upper_bound T m_distance, b_m_upper_bound, .nil⟩
  have f_upper_bound : C8.Cal P w K mg base 3 "upper_bound" (sp_f_upper_bound K C) [] := ⟨_, _, _, [], ok_f_upper_bound F_f_upper_bound T m_upper_bound m_has_cell, PySem.W.mg_of X G n_f_upper_bound, t_f_upper_bound.kp, b_f_upper_bound, .nil⟩
  have f_lower_bounds : C8.Cal P w K mg base 3 "lower_bounds" (sp_f_lower_bounds K C) [] := ⟨_, _, _, [], ok_f_lower_bounds F_f_lower_bounds T m_cell_count m_lower_bound, PySem.W.mg_of X G n_f_lower_bounds, t_f_lower_bounds.kp, b_f_lower_bounds, .nil⟩
  have f_upper_bounds : C8.Cal P w K mg base 3 "upper_bounds" (sp_f_upper_bounds K C) [] := ⟨_, _, _, [], ok_f_upper_bounds F_f_upper_bounds T m_cell_count m_upper_bound, PySem.W.mg_of X G n_f_upper_bounds, t_f_upper_bounds.kp, b_f_upper_bounds, .nil⟩
  have f_is_possible : C8.Cal P w K mg base 4 "is_possible" (sp_f_is_possible K C) [] := ⟨_, _, _, [], ok_f_is_possible F_f_is_possible T m_lower_bound m_upper_bound f_refusal, PySem.W.mg_of X G n_f_is_possible, t_f_is_possible.kp, b_f_is_possible, .nil⟩
  have m_uncertainty : C8.Met P w K mg base 3 C "uncertainty" (sp_m_uncertainty K C) [] := ⟨_, _, _, [], T.cl, ⟨n_m_uncertainty, t_m_uncertainty.fn, t_m_uncertainty.kp⟩, ok_m_uncertainty F_m_uncertainty T m_upper_bound m_lower_bound, b_m_uncertainty, .nil⟩
  have f_uncertainty : C8.Cal P w K mg base 4 "uncertainty" (sp_f_uncertainty K C) [] := ⟨_, _, _, [], ok_f_uncertainty F_f_uncertainty T m_uncertainty m_has_cell, PySem.W.mg_of X G n_f_uncertainty, t_f_uncertainty.kp, b_f_uncertainty, .nil⟩
  have f_most_uncertain_cell : C8.Cal P w K mg base 4 "most_uncertain_cell" (sp_f_most_uncertain_cell K C) [] := ⟨_, _, _, [], ok_f_most_uncertain_cell F_f_most_uncertain_cell T m_uncertainty m_cell_count, PySem.W.mg_of X G n_f_most_uncertain_cell, t_f_most_uncertain_cell.kp, b_f_most_uncertain_cell, .nil⟩
  have m_is_uncertain : C8.Met P w K mg base 3 C "is_uncertain" (sp_m_is_uncertain K C) [] := ⟨_, _, _, [], T.cl, ⟨n_m_is_uncertain, t_m_is_uncertain.fn, t_m_is_uncertain.kp⟩, ok_m_is_uncertain F_m_is_uncertain T m_lower_bound m_upper_bound, b_m_is_uncertain, .nil⟩
  have m_is_safe : C8.Met P w K mg base 3 C "is_safe" (sp_m_is_safe K C) [] := ⟨_, _, _, [], T.cl, ⟨n_m_is_safe, t_m_is_safe.fn, t_m_is_safe.kp⟩, ok_m_is_safe F_m_is_safe T m_lower_bound, b_m_is_safe, .nil⟩
  have f_check_cell : C8.Cal P w K mg base 4 "check_cell" (sp_f_check_cell K C) [] := ⟨_, _, _, [], ok_f_check_cell F_f_check_cell T m_is_uncertain m_is_safe f_refusal, PySem.W.mg_of X G n_f_check_cell, t_f_check_cell.kp, b_f_check_cell, .nil⟩
  have m_safe_cells : C8.Met P w K mg base 4 C "safe_cells" (sp_m_safe_cells K C) [] := ⟨_, _, _, [], T.cl, ⟨n_m_safe_cells, t_m_safe_cells.fn, t_m_safe_cells.kp⟩, ok_m_safe_cells F_m_safe_cells T m_cell_count m_is_safe, b_m_safe_cells, .nil⟩
  have f_safe_cells : C8.Cal P w K mg base 5 "safe_cells" (sp_f_safe_cells K C) [] := ⟨_, _, _, [], ok_f_safe_cells F_f_safe_cells T m_safe_cells f_refusal, PySem.W.mg_of X G n_f_safe_cells, t_f_safe_cells.kp, b_f_safe_cells, .nil⟩
  have m_uncertain_cells : C8.Met P w K mg base 4 C "uncertain_cells" (sp_m_uncertain_cells K C) [] := ⟨_, _, _, [], T.cl, ⟨n_m_uncertain_cells, t_m_uncertain_cells.fn, t_m_uncertain_cells.kp⟩, ok_m_uncertain_cells F_m_uncertain_cells T m_cell_count m_is_uncertain, b_m_uncertain_cells, .nil⟩
  have f_uncertain_cells : C8.Cal P w K mg base 5 "uncertain_cells" (sp_f_uncertain_cells K C) [] := ⟨_, _, _, [], ok_f_uncertain_cells F_f_uncertain_cells T m_uncertain_cells f_refusal, PySem.W.mg_of X G n_f_uncertain_cells, t_f_uncertain_cells.kp, b_f_uncertain_cells, .nil⟩
  have m_neighbours : C8.Met P w K mg base 2 C "neighbours" (sp_m_neighbours K C) [] := ⟨_, _, _, [], T.cl, ⟨n_m_neighbours, t_m_neighbours.fn, t_m_neighbours.kp⟩, ok_m_neighbours F_m_neighbours T m_cell_count, b_m_neighbours, .nil⟩
  have m_steps_over_safe_cells : C8.Met P w K mg base 5 C "steps_over_safe_cells" (sp_m_steps_over_safe_cells K C) [] := ⟨_, _, _, [], T.cl, ⟨n_m_steps_over_safe_cells, t_m_steps_over_safe_cells.fn, t_m_steps_over_safe_cells.kp⟩, ok_m_steps_over_safe_cells F_m_steps_over_safe_cells T m_neighbours m_safe_cells, b_m_steps_over_safe_cells, .nil⟩
  have m_safe_route : C8.Met P w K mg base 6 C "safe_route" (sp_m_safe_route K C) [] := ⟨_, _, _, [], T.cl, ⟨n_m_safe_route, t_m_safe_route.fn, t_m_safe_route.kp⟩, ok_m_safe_route F_m_safe_route T m_neighbours m_steps_over_safe_cells, b_m_safe_route, .nil⟩
  have f_safe_route : C8.Cal P w K mg base 7 "safe_route" (sp_f_safe_route K C) [] := ⟨_, _, _, [], ok_f_safe_route F_f_safe_route T m_safe_route f_refusal, PySem.W.mg_of X G n_f_safe_route, t_f_safe_route.kp, b_f_safe_route, .nil⟩
  have f_safe_route_length : C8.Cal P w K mg base 8 "safe_route_length" (sp_f_safe_route_length K C) [] := ⟨_, _, _, [], ok_f_safe_route_length F_f_safe_route_length T f_safe_route, PySem.W.mg_of X G n_f_safe_route_length, t_f_safe_route_length.kp, b_f_safe_route_length, .nil⟩
  have m_max_safe_thickness : C8.Met P w K mg base 7 C "max_safe_thickness" (sp_m_max_safe_thickness K C) [] := ⟨_, _, _, [], T.cl, ⟨n_m_max_safe_thickness, t_m_max_safe_thickness.fn, t_m_max_safe_thickness.kp⟩, ok_m_max_safe_thickness F_m_max_safe_thickness T m_safe_route, b_m_max_safe_thickness, .nil⟩
  have f_max_safe_thickness : C8.Cal P w K mg base 8 "max_safe_thickness" (sp_f_max_safe_thickness K C) [] := ⟨_, _, _, [], ok_f_max_safe_thickness F_f_max_safe_thickness T m_max_safe_thickness m_has_cell, PySem.W.mg_of X G n_f_max_safe_thickness, t_f_max_safe_thickness.kp, b_f_max_safe_thickness, .nil⟩
  have m_total_uncertainty : C8.Met P w K mg base 4 C "total_uncertainty" (sp_m_total_uncertainty K C) [] := ⟨_, _, _, [], T.cl, ⟨n_m_total_uncertainty, t_m_total_uncertainty.fn, t_m_total_uncertainty.kp⟩, ok_m_total_uncertainty F_m_total_uncertainty T m_cell_count m_uncertainty, b_m_total_uncertainty, .nil⟩
  have m_with_measurement : C8.Met P w K mg base 3 C "with_measurement" (sp_m_with_measurement K C) [] := ⟨_, _, _, [], T.cl, ⟨n_m_with_measurement, t_m_with_measurement.fn, t_m_with_measurement.kp⟩, ok_m_with_measurement F_m_with_measurement T m_record mkIce, b_m_with_measurement, .nil⟩
  have f_total_uncertainty_with : C8.Cal P w K mg base 5 "total_uncertainty_with" (sp_f_total_uncertainty_with K C) [] := ⟨_, _, _, [], ok_f_total_uncertainty_with F_f_total_uncertainty_with T m_total_uncertainty m_with_measurement f_measure_refusal, PySem.W.mg_of X G n_f_total_uncertainty_with, t_f_total_uncertainty_with.kp, b_f_total_uncertainty_with, .nil⟩
  have m_worst_total_uncertainty : C8.Met P w K mg base 5 C "worst_total_uncertainty" (sp_m_worst_total_uncertainty K C) [] := ⟨_, _, _, [], T.cl, ⟨n_m_worst_total_uncertainty, t_m_worst_total_uncertainty.fn, t_m_worst_total_uncertainty.kp⟩, ok_m_worst_total_uncertainty F_m_worst_total_uncertainty T m_upper_bound m_lower_bound m_total_uncertainty m_with_measurement, b_m_worst_total_uncertainty, .nil⟩
  have f_worst_total_uncertainty : C8.Cal P w K mg base 6 "worst_total_uncertainty" (sp_f_worst_total_uncertainty K C) [] := ⟨_, _, _, [], ok_f_worst_total_uncertainty F_f_worst_total_uncertainty T m_worst_total_uncertainty m_is_measured m_has_cell, PySem.W.mg_of X G n_f_worst_total_uncertainty, t_f_worst_total_uncertainty.kp, b_f_worst_total_uncertainty, .nil⟩
  have m_smallest_consistent_step : C8.Met P w K mg base 4 C "smallest_consistent_step" (sp_m_smallest_consistent_step K C) [] := ⟨_, _, _, [], T.cl, ⟨n_m_smallest_consistent_step, t_m_smallest_consistent_step.fn, t_m_smallest_consistent_step.kp⟩, ok_m_smallest_consistent_step F_m_smallest_consistent_step T m_is_consistent_with_step, b_m_smallest_consistent_step, .nil⟩
  have f_smallest_consistent_step : C8.Cal P w K mg base 5 "smallest_consistent_step" (sp_f_smallest_consistent_step K C) [] := ⟨_, _, _, [], ok_f_smallest_consistent_step F_f_smallest_consistent_step T m_smallest_consistent_step, PySem.W.mg_of X G n_f_smallest_consistent_step, t_f_smallest_consistent_step.kp, b_f_smallest_consistent_step, .nil⟩
  have f_total_uncertainty : C8.Cal P w K mg base 5 "total_uncertainty" (sp_f_total_uncertainty K C) [] := ⟨_, _, _, [], ok_f_total_uncertainty F_f_total_uncertainty T m_total_uncertainty, PySem.W.mg_of X G n_f_total_uncertainty, t_f_total_uncertainty.kp, b_f_total_uncertainty, .nil⟩
  have f_summary : C8.Cal P w K mg base 1 "summary" (sp_f_summary K C) [] := ⟨_, _, _, [], ok_f_summary F_f_summary T , PySem.W.mg_of X G n_f_summary, t_f_summary.kp, b_f_summary, .nil⟩
  have OP : Ops P w K mg base C O := by
    refine ⟨PySem.W.mg_of X G g_O, fun n sh hs => ?_⟩
    match n, hs with
    | 1, hs =>
      cases hs
      exact ⟨_, ⟨es, en, _, l_O, keysI y_O, refAt_is r_1, rfl⟩, ⟨_, _, (ok_f_set_max_step F_f_set_max_step T m_is_consistent_with_step).mono (by decide), t_f_set_max_step.kp, b_f_set_max_step⟩⟩
    | 2, hs =>
      cases hs
      exact ⟨_, ⟨es, en, _, l_O, keysI y_O, refAt_is r_2, rfl⟩, ⟨_, _, (ok_f_measure F_f_measure T m_record f_measure_refusal).mono (by decide), t_f_measure.kp, b_f_measure⟩⟩
    | 3, hs =>
      cases hs
      exact ⟨_, ⟨es, en, _, l_O, keysI y_O, refAt_is r_3, rfl⟩, ⟨_, _, (ok_f_remove_measurement F_f_remove_measurement T m_measurements_except m_is_measured).mono (by decide), t_f_remove_measurement.kp, b_f_remove_measurement⟩⟩
    | 4, hs =>
      cases hs
      exact ⟨_, ⟨es, en, _, l_O, keysI y_O, refAt_is r_4, rfl⟩, ⟨_, _, (ok_f_list_measurements F_f_list_measurements T ).mono (by decide), t_f_list_measurements.kp, b_f_list_measurements⟩⟩
    | 5, hs =>
      cases hs
      exact ⟨_, ⟨es, en, _, l_O, keysI y_O, refAt_is r_5, rfl⟩, ⟨_, _, (ok_f_lower_bound F_f_lower_bound T m_lower_bound m_has_cell).mono (by decide), t_f_lower_bound.kp, b_f_lower_bound⟩⟩
    | 6, hs =>
      cases hs
      exact ⟨_, ⟨es, en, _, l_O, keysI y_O, refAt_is r_6, rfl⟩, ⟨_, _, (ok_f_upper_bound F_f_upper_bound T m_upper_bound m_has_cell).mono (by decide), t_f_upper_bound.kp, b_f_upper_bound⟩⟩
    | 7, hs =>
      cases hs
      exact ⟨_, ⟨es, en, _, l_O, keysI y_O, refAt_is r_7, rfl⟩, ⟨_, _, (ok_f_lower_bounds F_f_lower_bounds T m_cell_count m_lower_bound).mono (by decide), t_f_lower_bounds.kp, b_f_lower_bounds⟩⟩
    | 8, hs =>
      cases hs
      exact ⟨_, ⟨es, en, _, l_O, keysI y_O, refAt_is r_8, rfl⟩, ⟨_, _, (ok_f_upper_bounds F_f_upper_bounds T m_cell_count m_upper_bound).mono (by decide), t_f_upper_bounds.kp, b_f_upper_bounds⟩⟩
    | 9, hs =>
      cases hs
      exact ⟨_, ⟨es, en, _, l_O, keysI y_O, refAt_is r_9, rfl⟩, ⟨_, _, (ok_f_is_possible F_f_is_possible T m_lower_bound m_upper_bound f_refusal).mono (by decide), t_f_is_possible.kp, b_f_is_possible⟩⟩
    | 10, hs =>
      cases hs
      exact ⟨_, ⟨es, en, _, l_O, keysI y_O, refAt_is r_10, rfl⟩, ⟨_, _, (ok_f_uncertainty F_f_uncertainty T m_uncertainty m_has_cell).mono (by decide), t_f_uncertainty.kp, b_f_uncertainty⟩⟩
    | 11, hs =>
      cases hs
      exact ⟨_, ⟨es, en, _, l_O, keysI y_O, refAt_is r_11, rfl⟩, ⟨_, _, (ok_f_most_uncertain_cell F_f_most_uncertain_cell T m_uncertainty m_cell_count).mono (by decide), t_f_most_uncertain_cell.kp, b_f_most_uncertain_cell⟩⟩
    | 12, hs =>
      cases hs
      exact ⟨_, ⟨es, en, _, l_O, keysI y_O, refAt_is r_12, rfl⟩, ⟨_, _, (ok_f_check_cell F_f_check_cell T m_is_uncertain m_is_safe f_refusal).mono (by decide), t_f_check_cell.kp, b_f_check_cell⟩⟩
    | 13, hs =>
      cases hs
      exact ⟨_, ⟨es, en, _, l_O, keysI y_O, refAt_is r_13, rfl⟩, ⟨_, _, (ok_f_safe_cells F_f_safe_cells T m_safe_cells f_refusal).mono (by decide), t_f_safe_cells.kp, b_f_safe_cells⟩⟩
    | 14, hs =>
      cases hs
      exact ⟨_, ⟨es, en, _, l_O, keysI y_O, refAt_is r_14, rfl⟩, ⟨_, _, (ok_f_uncertain_cells F_f_uncertain_cells T m_uncertain_cells f_refusal).mono (by decide), t_f_uncertain_cells.kp, b_f_uncertain_cells⟩⟩
    | 15, hs =>
      cases hs
      exact ⟨_, ⟨es, en, _, l_O, keysI y_O, refAt_is r_15, rfl⟩, ⟨_, _, (ok_f_safe_route F_f_safe_route T m_safe_route f_refusal).mono (by decide), t_f_safe_route.kp, b_f_safe_route⟩⟩
    | 16, hs =>
      cases hs
      exact ⟨_, ⟨es, en, _, l_O, keysI y_O, refAt_is r_16, rfl⟩, ⟨_, _, (ok_f_safe_route_length F_f_safe_route_length T f_safe_route).mono (by decide), t_f_safe_route_length.kp, b_f_safe_route_length⟩⟩
    | 17, hs =>
      cases hs
      exact ⟨_, ⟨es, en, _, l_O, keysI y_O, refAt_is r_17, rfl⟩, ⟨_, _, (ok_f_max_safe_thickness F_f_max_safe_thickness T m_max_safe_thickness m_has_cell).mono (by decide), t_f_max_safe_thickness.kp, b_f_max_safe_thickness⟩⟩
    | 18, hs =>
      cases hs
      exact ⟨_, ⟨es, en, _, l_O, keysI y_O, refAt_is r_18, rfl⟩, ⟨_, _, (ok_f_total_uncertainty_with F_f_total_uncertainty_with T m_total_uncertainty m_with_measurement f_measure_refusal).mono (by decide), t_f_total_uncertainty_with.kp, b_f_total_uncertainty_with⟩⟩
    | 19, hs =>
      cases hs
      exact ⟨_, ⟨es, en, _, l_O, keysI y_O, refAt_is r_19, rfl⟩, ⟨_, _, (ok_f_worst_total_uncertainty F_f_worst_total_uncertainty T m_worst_total_uncertainty m_is_measured m_has_cell).mono (by decide), t_f_worst_total_uncertainty.kp, b_f_worst_total_uncertainty⟩⟩
    | 20, hs =>
      cases hs
      exact ⟨_, ⟨es, en, _, l_O, keysI y_O, refAt_is r_20, rfl⟩, ⟨_, _, (ok_f_smallest_consistent_step F_f_smallest_consistent_step T m_smallest_consistent_step).mono (by decide), t_f_smallest_consistent_step.kp, b_f_smallest_consistent_step⟩⟩
    | 21, hs =>
      cases hs
      exact ⟨_, ⟨es, en, _, l_O, keysI y_O, refAt_is r_21, rfl⟩, ⟨_, _, (ok_f_total_uncertainty F_f_total_uncertainty T m_total_uncertainty).mono (by decide), t_f_total_uncertainty.kp, b_f_total_uncertainty⟩⟩
    | 22, hs =>
      cases hs
      exact ⟨_, ⟨es, en, _, l_O, keysI y_O, refAt_is r_22, rfl⟩, ⟨_, _, (ok_f_summary F_f_summary T ).mono (by decide), t_f_summary.kp, b_f_summary⟩⟩
  have f_operate : C8.Cal P w K mg base 9 "operate" (sp_f_operate K C) [] := ⟨_, _, _, [], ok_f_operate F_f_operate T OP, PySem.W.mg_of X G n_f_operate, t_f_operate.kp, b_f_operate, .nil⟩
  exact ok_f_answers F_f_answers T f_is_creatable mkIce f_operate CT
end Ib

/-! ### part Z1 -/
set_option Elab.async false
namespace Ib
open PySem PySem.Spec PyProof.Rows L2
open PySem.W (Codec)
theorem nat_of : ∀ {ns : List Int}, (ns.all fun x => decide (0 ≤ x)) = true → (ns.map Int.toNat).map cst = ns
  | [], _ => rfl
  | x :: r, h => by
    rw [List.all_cons, Bool.and_eq_true, decide_eq_true_eq] at h
    rw [List.map_cons, List.map_cons, nat_of h.2]
    have e : cst x.toNat = x := Int.toNat_of_nonneg h.1
    rw [e]
theorem request {K : PySem.W.Frag} {H : Hp} {p : Addr} {ns : List Int} {Q : VK} {E : XK} (hs : SqL K H p (ns.map V.int)) (hw : (ns.all fun x => decide (0 ≤ x)) = true) (ask : PyKm563.answers_asked ns = true)
    (k : ∀ (H' : Hp) (q : Addr), H' q = some (.lst ((PyKm563.answers ns).map V.int)) → Q (.ref q) H') : spAns K [.ref p] H Q E := by
  have e := nat_of hw
  refine ⟨p, ns.map Int.toNat, rfl, ?_, by rw [e]; exact ask, by rw [e]; exact k⟩
  have e2 : (ns.map Int.toNat).map iv = ((ns.map Int.toNat).map cst).map V.int := by
    rw [List.map_map (f := cst)]
    rfl
  rw [e2, e]
  exact hs
end Ib
open PySem PySem.W PyProof.Rows
set_option maxRecDepth 100000 in
set_option maxHeartbeats 8000000 in
theorem PySem.Challenge.cw_icebounds_s01_answers_holds : PySem.Challenge.rw_icebounds_s01_answers.Holds := by
  w_on; k_headS; (case hw => exact ⟨[.list [.int 22]], by decide +kernel, by decide +kernel⟩)
  k_fillS
  refine L2.walk_specK (r := PySem.Challenge.rw_icebounds_s01_answers) (k := 10) (CX := L2.CX0) (ps := ["calls"]) (sp := Ib.spAns) (by decide +kernel) rfl rfl ⟨rfl, by decide, by decide⟩ (fun w h Y => PySem.W.kIn_of Y) ?F ?S (fun _ _ _ _ z => z)
  case F =>
    intro w mg fa h Y KX G hmg
    refine' Ib.all_mk KX G hmg ?kC ?n_m___init__ ?t_m___init__ ?n_m_cell_count ?t_m_cell_count ?n_m_has_cell ?t_m_has_cell ?n_m_distance ?t_m_distance ?n_m_neighbours ?t_m_neighbours ?n_m_is_measured ?t_m_is_measured ?n_m_measurements_except ?t_m_measurements_except ?n_m_record ?t_m_record ?n_m_with_measurement ?t_m_with_measurement ?n_m_fits ?t_m_fits ?n_m_is_consistent_with_step ?t_m_is_consistent_with_step ?n_m_smallest_consistent_step ?t_m_smallest_consistent_step ?n_m_lower_bound ?t_m_lower_bound ?n_m_upper_bound ?t_m_upper_bound ?n_m_uncertainty ?t_m_uncertainty ?n_m_total_uncertainty ?t_m_total_uncertainty ?n_m_worst_total_uncertainty ?t_m_worst_total_uncertainty ?n_m_is_safe ?t_m_is_safe ?n_m_is_uncertain ?t_m_is_uncertain ?n_m_safe_cells ?t_m_safe_cells ?n_m_uncertain_cells ?t_m_uncertain_cells ?n_m_steps_over_safe_cells ?t_m_steps_over_safe_cells ?n_m_safe_route ?t_m_safe_route ?n_m_max_safe_thickness ?t_m_max_safe_thickness ?n_f_is_creatable ?t_f_is_creatable ?n_f_refusal ?t_f_refusal ?n_f_measure_refusal ?t_f_measure_refusal ?n_f_set_max_step ?t_f_set_max_step ?n_f_measure ?t_f_measure ?n_f_remove_measurement ?t_f_remove_measurement ?n_f_list_measurements ?t_f_list_measurements ?n_f_lower_bound ?t_f_lower_bound ?n_f_upper_bound ?t_f_upper_bound ?n_f_lower_bounds ?t_f_lower_bounds ?n_f_upper_bounds ?t_f_upper_bounds ?n_f_is_possible ?t_f_is_possible ?n_f_uncertainty ?t_f_uncertainty ?n_f_most_uncertain_cell ?t_f_most_uncertain_cell ?n_f_check_cell ?t_f_check_cell ?n_f_safe_cells ?t_f_safe_cells ?n_f_uncertain_cells ?t_f_uncertain_cells ?n_f_safe_route ?t_f_safe_route ?n_f_safe_route_length ?t_f_safe_route_length ?n_f_max_safe_thickness ?t_f_max_safe_thickness ?n_f_total_uncertainty_with ?t_f_total_uncertainty_with ?n_f_worst_total_uncertainty ?t_f_worst_total_uncertainty ?n_f_smallest_consistent_step ?t_f_smallest_consistent_step ?n_f_total_uncertainty ?t_f_total_uncertainty ?n_f_summary ?t_f_summary ?n_f_operate ?t_f_operate ?n_f_answers ?t_f_answers ?pg ?hd ?po ?sa ?mk ?kc ?nc ?nr ?ns ?nm ?z_len ?z_abs ?z_max ?z_min ?z_sum ?z_any ?z_range ?z_list ?z_reversed ?g_MAX_THICKNESS ?g_CREATE ?g_MAX_SIDE ?g_GREATEST_MAX_STEP ?g_NO_SUCH_CELL ?g_NO_INSTANCE ?g_OUT_OF_RANGE ?g_ALREADY_MEASURED ?g_INCONSISTENT ?g_NO_SAFE_ROUTE ?g_NOT_SAFE ?g_SAFE ?g_UNCERTAIN ?g_O ?l_O ?y_O ?r_1 ?r_2 ?r_3 ?r_4 ?r_5 ?r_6 ?r_7 ?r_8 ?r_9 ?r_10 ?r_11 ?r_12 ?r_13 ?r_14 ?r_15 ?r_16 ?r_17 ?r_18 ?r_19 ?r_20 ?r_21 ?r_22 ?g_T ?l_T ?y_T ?w_T
    (case kC => k_is)
    (case n_m___init__ => k_is)
    (case t_m___init__ => (refine' Ib.at_mk ?l ?c ?k ?i; (case l => k_is); (case c => k_is); (case k => k_is); (case i => k_is)))
    (case n_m_cell_count => k_is)
    (case t_m_cell_count => (refine' Ib.at_mk ?l ?c ?k ?i; (case l => k_is); (case c => k_is); (case k => k_is); (case i => k_is)))
    (case n_m_has_cell => k_is)
    (case t_m_has_cell => (refine' Ib.at_mk ?l ?c ?k ?i; (case l => k_is); (case c => k_is); (case k => k_is); (case i => k_is)))
    (case n_m_distance => k_is)
    (case t_m_distance => (refine' Ib.at_mk ?l ?c ?k ?i; (case l => k_is); (case c => k_is); (case k => k_is); (case i => k_is)))
    (case n_m_neighbours => k_is)
    (case t_m_neighbours => (refine' Ib.at_mk ?l ?c ?k ?i; (case l => k_is); (case c => k_is); (case k => k_is); (case i => k_is)))
    (case n_m_is_measured => k_is)
    (case t_m_is_measured => (refine' Ib.at_mk ?l ?c ?k ?i; (case l => k_is); (case c => k_is); (case k => k_is); (case i => k_is)))
    (case n_m_measurements_except => k_is)
    (case t_m_measurements_except => (refine' Ib.at_mk ?l ?c ?k ?i; (case l => k_is); (case c => k_is); (case k => k_is); (case i => k_is)))
    (case n_m_record => k_is)
    (case t_m_record => (refine' Ib.at_mk ?l ?c ?k ?i; (case l => k_is); (case c => k_is); (case k => k_is); (case i => k_is)))
    (case n_m_with_measurement => k_is)
    (case t_m_with_measurement => (refine' Ib.at_mk ?l ?c ?k ?i; (case l => k_is); (case c => k_is); (case k => k_is); (case i => k_is)))
    (case n_m_fits => k_is)
    (case t_m_fits => (refine' Ib.at_mk ?l ?c ?k ?i; (case l => k_is); (case c => k_is); (case k => k_is); (case i => k_is)))
    (case n_m_is_consistent_with_step => k_is)
    (case t_m_is_consistent_with_step => (refine' Ib.at_mk ?l ?c ?k ?i; (case l => k_is); (case c => k_is); (case k => k_is); (case i => k_is)))
    (case n_m_smallest_consistent_step => k_is)
    (case t_m_smallest_consistent_step => (refine' Ib.at_mk ?l ?c ?k ?i; (case l => k_is); (case c => k_is); (case k => k_is); (case i => k_is)))
    (case n_m_lower_bound => k_is)
    (case t_m_lower_bound => (refine' Ib.at_mk ?l ?c ?k ?i; (case l => k_is); (case c => k_is); (case k => k_is); (case i => k_is)))
    (case n_m_upper_bound => k_is)
    (case t_m_upper_bound => (refine' Ib.at_mk ?l ?c ?k ?i; (case l => k_is); (case c => k_is); (case k => k_is); (case i => k_is)))
    (case n_m_uncertainty => k_is)
    (case t_m_uncertainty => (refine' Ib.at_mk ?l ?c ?k ?i; (case l => k_is); (case c => k_is); (case k => k_is); (case i => k_is)))
    (case n_m_total_uncertainty => k_is)
    (case t_m_total_uncertainty => (refine' Ib.at_mk ?l ?c ?k ?i; (case l => k_is); (case c => k_is); (case k => k_is); (case i => k_is)))
    (case n_m_worst_total_uncertainty => k_is)
    (case t_m_worst_total_uncertainty => (refine' Ib.at_mk ?l ?c ?k ?i; (case l => k_is); (case c => k_is); (case k => k_is); (case i => k_is)))
    (case n_m_is_safe => k_is)
    (case t_m_is_safe => (refine' Ib.at_mk ?l ?c ?k ?i; (case l => k_is); (case c => k_is); (case k => k_is); (case i => k_is)))
    (case n_m_is_uncertain => k_is)
    (case t_m_is_uncertain => (refine' Ib.at_mk ?l ?c ?k ?i; (case l => k_is); (case c => k_is); (case k => k_is); (case i => k_is)))
    (case n_m_safe_cells => k_is)
    (case t_m_safe_cells => (refine' Ib.at_mk ?l ?c ?k ?i; (case l => k_is); (case c => k_is); (case k => k_is); (case i => k_is)))
    (case n_m_uncertain_cells => k_is)
    (case t_m_uncertain_cells => (refine' Ib.at_mk ?l ?c ?k ?i; (case l => k_is); (case c => k_is); (case k => k_is); (case i => k_is)))
    (case n_m_steps_over_safe_cells => k_is)
    (case t_m_steps_over_safe_cells => (refine' Ib.at_mk ?l ?c ?k ?i; (case l => k_is); (case c => k_is); (case k => k_is); (case i => k_is)))
    (case n_m_safe_route => k_is)
    (case t_m_safe_route => (refine' Ib.at_mk ?l ?c ?k ?i; (case l => k_is); (case c => k_is); (case k => k_is); (case i => k_is)))
    (case n_m_max_safe_thickness => k_is)
    (case t_m_max_safe_thickness => (refine' Ib.at_mk ?l ?c ?k ?i; (case l => k_is); (case c => k_is); (case k => k_is); (case i => k_is)))
    (case n_f_is_creatable => k_is)
    (case t_f_is_creatable => (refine' Ib.at_mk ?l ?c ?k ?i; (case l => k_is); (case c => k_is); (case k => k_is); (case i => k_is)))
    (case n_f_refusal => k_is)
    (case t_f_refusal => (refine' Ib.at_mk ?l ?c ?k ?i; (case l => k_is); (case c => k_is); (case k => k_is); (case i => k_is)))
    (case n_f_measure_refusal => k_is)
    (case t_f_measure_refusal => (refine' Ib.at_mk ?l ?c ?k ?i; (case l => k_is); (case c => k_is); (case k => k_is); (case i => k_is)))
    (case n_f_set_max_step => k_is)
    (case t_f_set_max_step => (refine' Ib.at_mk ?l ?c ?k ?i; (case l => k_is); (case c => k_is); (case k => k_is); (case i => k_is)))
    (case n_f_measure => k_is)
    (case t_f_measure => (refine' Ib.at_mk ?l ?c ?k ?i; (case l => k_is); (case c => k_is); (case k => k_is); (case i => k_is)))
    (case n_f_remove_measurement => k_is)
    (case t_f_remove_measurement => (refine' Ib.at_mk ?l ?c ?k ?i; (case l => k_is); (case c => k_is); (case k => k_is); (case i => k_is)))
    (case n_f_list_measurements => k_is)
    (case t_f_list_measurements => (refine' Ib.at_mk ?l ?c ?k ?i; (case l => k_is); (case c => k_is); (case k => k_is); (case i => k_is)))
    (case n_f_lower_bound => k_is)
    (case t_f_lower_bound => (refine' Ib.at_mk ?l ?c ?k ?i; (case l => k_is); (case c => k_is); (case k => k_is); (case i => k_is)))
    (case n_f_upper_bound => k_is)
    (case t_f_upper_bound => (refine' Ib.at_mk ?l ?c ?k ?i; (case l => k_is); (case c => k_is); (case k => k_is); (case i => k_is)))
    (case n_f_lower_bounds => k_is)
    (case t_f_lower_bounds => (refine' Ib.at_mk ?l ?c ?k ?i; (case l => k_is); (case c => k_is); (case k => k_is); (case i => k_is)))
    (case n_f_upper_bounds => k_is)
    (case t_f_upper_bounds => (refine' Ib.at_mk ?l ?c ?k ?i; (case l => k_is); (case c => k_is); (case k => k_is); (case i => k_is)))
    (case n_f_is_possible => k_is)
    (case t_f_is_possible => (refine' Ib.at_mk ?l ?c ?k ?i; (case l => k_is); (case c => k_is); (case k => k_is); (case i => k_is)))
    (case n_f_uncertainty => k_is)
    (case t_f_uncertainty => (refine' Ib.at_mk ?l ?c ?k ?i; (case l => k_is); (case c => k_is); (case k => k_is); (case i => k_is)))
    (case n_f_most_uncertain_cell => k_is)
    (case t_f_most_uncertain_cell => (refine' Ib.at_mk ?l ?c ?k ?i; (case l => k_is); (case c => k_is); (case k => k_is); (case i => k_is)))
    (case n_f_check_cell => k_is)
    (case t_f_check_cell => (refine' Ib.at_mk ?l ?c ?k ?i; (case l => k_is); (case c => k_is); (case k => k_is); (case i => k_is)))
    (case n_f_safe_cells => k_is)
    (case t_f_safe_cells => (refine' Ib.at_mk ?l ?c ?k ?i; (case l => k_is); (case c => k_is); (case k => k_is); (case i => k_is)))
    (case n_f_uncertain_cells => k_is)
    (case t_f_uncertain_cells => (refine' Ib.at_mk ?l ?c ?k ?i; (case l => k_is); (case c => k_is); (case k => k_is); (case i => k_is)))
    (case n_f_safe_route => k_is)
    (case t_f_safe_route => (refine' Ib.at_mk ?l ?c ?k ?i; (case l => k_is); (case c => k_is); (case k => k_is); (case i => k_is)))
    (case n_f_safe_route_length => k_is)
    (case t_f_safe_route_length => (refine' Ib.at_mk ?l ?c ?k ?i; (case l => k_is); (case c => k_is); (case k => k_is); (case i => k_is)))
    (case n_f_max_safe_thickness => k_is)
    (case t_f_max_safe_thickness => (refine' Ib.at_mk ?l ?c ?k ?i; (case l => k_is); (case c => k_is); (case k => k_is); (case i => k_is)))
    (case n_f_total_uncertainty_with => k_is)
    (case t_f_total_uncertainty_with => (refine' Ib.at_mk ?l ?c ?k ?i; (case l => k_is); (case c => k_is); (case k => k_is); (case i => k_is)))
    (case n_f_worst_total_uncertainty => k_is)
    (case t_f_worst_total_uncertainty => (refine' Ib.at_mk ?l ?c ?k ?i; (case l => k_is); (case c => k_is); (case k => k_is); (case i => k_is)))
    (case n_f_smallest_consistent_step => k_is)
    (case t_f_smallest_consistent_step => (refine' Ib.at_mk ?l ?c ?k ?i; (case l => k_is); (case c => k_is); (case k => k_is); (case i => k_is)))
    (case n_f_total_uncertainty => k_is)
    (case t_f_total_uncertainty => (refine' Ib.at_mk ?l ?c ?k ?i; (case l => k_is); (case c => k_is); (case k => k_is); (case i => k_is)))
    (case n_f_summary => k_is)
    (case t_f_summary => (refine' Ib.at_mk ?l ?c ?k ?i; (case l => k_is); (case c => k_is); (case k => k_is); (case i => k_is)))
    (case n_f_operate => k_is)
    (case t_f_operate => (refine' Ib.at_mk ?l ?c ?k ?i; (case l => k_is); (case c => k_is); (case k => k_is); (case i => k_is)))
    (case n_f_answers => k_is)
    (case t_f_answers => (refine' Ib.at_mk ?l ?c ?k ?i; (case l => k_is); (case c => k_is); (case k => k_is); (case i => k_is)))
    (case pg => k_is)
    (case hd => k_is)
    (case po => k_is)
    (case sa => k_is)
    (case mk => k_is)
    (case kc => k_is)
    (case nc => k_is)
    (case nr => k_is)
    (case ns => k_is)
    (case nm => k_is)
    (case z_len => k_is)
    (case z_abs => k_is)
    (case z_max => k_is)
    (case z_min => k_is)
    (case z_sum => k_is)
    (case z_any => k_is)
    (case z_range => k_is)
    (case z_list => k_is)
    (case z_reversed => k_is)
    (case g_MAX_THICKNESS => k_is)
    (case g_CREATE => k_is)
    (case g_MAX_SIDE => k_is)
    (case g_GREATEST_MAX_STEP => k_is)
    (case g_NO_SUCH_CELL => k_is)
    (case g_NO_INSTANCE => k_is)
    (case g_OUT_OF_RANGE => k_is)
    (case g_ALREADY_MEASURED => k_is)
    (case g_INCONSISTENT => k_is)
    (case g_NO_SAFE_ROUTE => k_is)
    (case g_NOT_SAFE => k_is)
    (case g_SAFE => k_is)
    (case g_UNCERTAIN => k_is)
    (case g_O => k_is)
    (case l_O => k_is)
    (case y_O => first | rfl | decide +kernel)
    (case r_1 => first | rfl | decide +kernel)
    (case r_2 => first | rfl | decide +kernel)
    (case r_3 => first | rfl | decide +kernel)
    (case r_4 => first | rfl | decide +kernel)
    (case r_5 => first | rfl | decide +kernel)
    (case r_6 => first | rfl | decide +kernel)
    (case r_7 => first | rfl | decide +kernel)
    (case r_8 => first | rfl | decide +kernel)
    (case r_9 => first | rfl | decide +kernel)
    (case r_10 => first | rfl | decide +kernel)
    (case r_11 => first | rfl | decide +kernel)
    (case r_12 => first | rfl | decide +kernel)
    (case r_13 => first | rfl | decide +kernel)
    (case r_14 => first | rfl | decide +kernel)
    (case r_15 => first | rfl | decide +kernel)
    (case r_16 => first | rfl | decide +kernel)
    (case r_17 => first | rfl | decide +kernel)
    (case r_18 => first | rfl | decide +kernel)
    (case r_19 => first | rfl | decide +kernel)
    (case r_20 => first | rfl | decide +kernel)
    (case r_21 => first | rfl | decide +kernel)
    (case r_22 => first | rfl | decide +kernel)
    (case g_T => k_is)
    (case l_T => k_is)
    (case y_T => first | rfl | decide +kernel)
    (case w_T => first | rfl | decide +kernel)
  case S =>
    intro K H xs a hO hwi hask hx
    cases hx with
    | cons h1 h2 =>
      cases h2
      cases h1 with
      | lst hs ha =>
        have e := L2.ints_dw a.1 _ ha
        subst e
        have q : ((Codec.inLen 0 160 a.1 && a.1.all (Codec.inInt 0 4294967295)) && true) = true := hwi
        rw [Bool.and_eq_true, Bool.and_eq_true] at q
        have hw : (a.1.all fun x => decide (0 ≤ x)) = true := by
          rw [List.all_eq_true]
          intro x hx
          have z := List.all_eq_true.mp q.1.2 x hx
          exact decide_eq_true (Codec.inInt_iff.mp z).1
        exact Ib.request hs hw hask fun H' p hp => .lst (L2.SqL.of hp) (L2.dw_ints _)
#print axioms PySem.Challenge.cw_icebounds_s01_answers_holds
