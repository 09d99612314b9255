import PyProof.Rows.All
import Wide.All
import OpenK.AllK
import Wide.FinOn
import Open.SpecLaws
import KE.OsHead
import KE.OsGo
import HandS.ForSpec
import HandS.ForMost
import HandS.Wide
import PySem.Challenge.RW_cogterms_s01_answers
import HandS.Rev
import HandS.SortKw
import KE.DataMinMax
import HandS.More
namespace CR
open Re03

/-! ## the whole root -/
theorem rootFrom_spec (n : Nat) : ∀ (b r : Nat), r * r ≤ n → n < (r + 2 ^ b) * (r + 2 ^ b) →
    rootFrom n b r * rootFrom n b r ≤ n ∧ n < (rootFrom n b r + 1) * (rootFrom n b r + 1) := by
  intro b
  induction b with
  | zero => intro r h1 h2; simpa [rootFrom] using And.intro h1 h2
  | succ b ih =>
    intro r h1 h2
    unfold rootFrom
    split
    · rename_i h
      apply ih _ h
      have : r + 2 ^ b + 2 ^ b = r + 2 ^ (b + 1) := by rw [Nat.pow_succ]; omega
      rw [this]; exact h2
    · rename_i h
      exact ih _ h1 (by omega)

theorem root_spec (n : Nat) : root n * root n ≤ n ∧ n < (root n + 1) * (root n + 1) := by
  unfold root
  apply rootFrom_spec
  · simp
  · simp only [Nat.zero_add]
    rw [← Nat.pow_add]
    have h : n < 2 ^ (Nat.log2 n + 1) := Nat.lt_log2_self
    refine Nat.lt_of_lt_of_le h ?_
    apply Nat.pow_le_pow_right (by decide)
    omega

theorem root_unique (n r : Nat) (h1 : r * r ≤ n) (h2 : n < (r + 1) * (r + 1)) : root n = r := by
  obtain ⟨a, b⟩ := root_spec n
  rcases Nat.lt_trichotomy (root n) r with h | h | h
  · have : (root n + 1) * (root n + 1) ≤ r * r := Nat.mul_le_mul h h
    omega
  · exact h
  · have : (r + 1) * (r + 1) ≤ root n * root n := Nat.mul_le_mul h h
    omega

/-! ## pigeonhole -/
theorem pigeon {α : Type} [DecidableEq α] : ∀ (M : Nat) (f : Nat → α) (T : List α),
    (∀ j, j < M → f j ∈ T) → (∀ i j, i < j → j < M → f i ≠ f j) → M ≤ T.length := by
  intro M
  induction M with
  | zero => intros; omega
  | succ M ih =>
    intro f T h1 h2
    have hm := h1 M (by omega)
    have := ih f (T.erase (f M)) (fun j hj => by
      rw [List.mem_erase_of_ne (h2 j M hj (by omega))]
      exact h1 j (by omega)) (fun i j hij hj => h2 i j hij (by omega))
    rw [List.length_erase_of_mem hm] at this
    have : 0 < T.length := List.length_pos_of_mem hm
    omega

/-! ## the codes of the pairs -/
def cell (d e : Nat) : List (Nat × Nat × Nat) :=
  if d % 2 = 1 ∧ e % 2 = 0 then [] else (List.range (Nat.gcd d e)).map fun t => (d, e, t)
def codes (S : Nat) : List (Nat × Nat × Nat) :=
  (List.range S).flatMap fun i => (List.range (S / (i + 1))).flatMap fun j => cell (i + 1) (j + 1)

theorem mem_codes (S d e t : Nat) (hd : 0 < d) (he : 0 < e) (h : d * e ≤ S) (hp : ¬ (d % 2 = 1 ∧ e % 2 = 0))
    (ht : t < Nat.gcd d e) : (d, e, t) ∈ codes S := by
  unfold codes
  rw [List.mem_flatMap]
  have hdS : d ≤ S := Nat.le_trans (Nat.le_mul_of_pos_right d he) h
  refine ⟨d - 1, by simp; omega, ?_⟩
  rw [List.mem_flatMap]
  have e1 : d - 1 + 1 = d := by omega
  have e2 : e - 1 + 1 = e := by omega
  refine ⟨e - 1, ?_, ?_⟩
  · rw [e1, List.mem_range]
    have : e ≤ S / d := by
      rw [Nat.le_div_iff_mul_le hd]; rw [Nat.mul_comm]; exact h
    omega
  · rw [e1, e2]
    unfold cell
    rw [if_neg hp, List.mem_map]
    exact ⟨t, by simpa using ht, rfl⟩

/-- how many, by a sum that can be reckoned -/
def cellN (d e : Nat) : Nat := bif (Nat.beq (d % 2) 1) && (Nat.beq (e % 2) 0) then 0 else Nat.gcd d e
def rowN (d : Nat) : Nat → Nat → Nat
  | 0, acc => acc
  | j + 1, acc => rowN d j (acc + cellN d (j + 1))
def allN (S : Nat) : Nat → Nat → Nat
  | 0, acc => acc
  | i + 1, acc => allN S i (rowN (i + 1) (S / (i + 1)) acc)

theorem cell_length (d e : Nat) : (cell d e).length = cellN d e := by
  unfold cell cellN
  by_cases h : d % 2 = 1 ∧ e % 2 = 0
  · simp [h.1, h.2]
  · rw [if_neg h]
    have : (Nat.beq (d % 2) 1 && Nat.beq (e % 2) 0) = false := by
      rw [Bool.and_eq_false_iff]
      by_cases h1 : d % 2 = 1
      · right
        have : e % 2 ≠ 0 := fun h2 => h ⟨h1, h2⟩
        exact Bool.eq_false_iff.mpr (fun h => this (Nat.eq_of_beq_eq_true h))
      · left
        exact Bool.eq_false_iff.mpr (fun h => h1 (Nat.eq_of_beq_eq_true h))
    simp [this]
theorem row_length (d : Nat) : ∀ k acc, rowN d k acc = acc + ((List.range k).flatMap fun j => cell d (j + 1)).length := by
  intro k
  induction k with
  | zero => intro acc; simp [rowN]
  | succ k ih =>
    intro acc
    rw [rowN, ih, List.range_succ, List.flatMap_append, List.length_append]
    simp only [List.flatMap_cons, List.flatMap_nil, List.append_nil, cell_length]
    omega

theorem all_length (S : Nat) : ∀ k acc, allN S k acc = acc + ((List.range k).flatMap fun i => (List.range (S / (i + 1))).flatMap fun j => cell (i + 1) (j + 1)).length := by
  intro k
  induction k with
  | zero => intro acc; simp [allN]
  | succ k ih =>
    intro acc
    rw [allN, ih, row_length, List.range_succ, List.flatMap_append, List.length_append]
    simp only [List.flatMap_cons, List.flatMap_nil, List.append_nil]
    omega

theorem codes_length : (codes 3162).length = 41437 := by
  have h := all_length 3162 3162 0
  have k : allN 3162 3162 0 = 41437 := by decide +kernel
  rw [k] at h
  unfold codes
  omega

open Classical in
noncomputable def ref (D Q : Int) : Int := if h : ∃ r, Q ∣ D - r * r then Classical.choose h else 0

theorem ref_spec (D Q P : Int) (h : Q ∣ D - P * P) : Q ∣ D - ref D Q * ref D Q := by
  have h' : ∃ r, Q ∣ D - r * r := ⟨P, h⟩
  unfold ref
  rw [dif_pos h']
  exact Classical.choose_spec h'

noncomputable def code (D s P Q : Int) : Nat × Nat × Nat :=
  (Nat.gcd Q.toNat (P - ref D Q).natAbs, Q.toNat / Nat.gcd Q.toNat (P - ref D Q).natAbs,
   (s - P).toNat / Nat.lcm (Nat.gcd Q.toNat (P - ref D Q).natAbs) (Q.toNat / Nat.gcd Q.toNat (P - ref D Q).natAbs))

structure Okay (D s P Q : Int) : Prop where
  pos : 0 < Q
  hi : P ≤ s
  lo : s - Q < P
  dvd : Q ∣ D - P * P

/-- what the code's two parts divide -/
theorem parts (D s P Q : Int) (h : Okay D s P Q) :
    let d := Nat.gcd Q.toNat (P - ref D Q).natAbs
    let e := Q.toNat / d
    0 < d ∧ 0 < e ∧ d * e = Q.toNat ∧ ((d : Int) ∣ P - ref D Q) ∧ ((e : Int) ∣ P + ref D Q) ∧ ¬ (d % 2 = 1 ∧ e % 2 = 0) := by
  intro d e
  have hq : 0 < Q.toNat := by have := h.pos; omega
  have hd : 0 < d := Nat.gcd_pos_of_pos_left _ hq
  have hdq : d ∣ Q.toNat := Nat.gcd_dvd_left _ _
  have hde : d * e = Q.toNat := Nat.mul_div_cancel' hdq
  have he : 0 < e := by
    rcases Nat.eq_zero_or_pos e with h0 | h0
    · rw [h0] at hde; omega
    · exact h0
  have hdA : d ∣ (P - ref D Q).natAbs := Nat.gcd_dvd_right _ _
  have hr := ref_spec D Q P h.dvd
  have hprod : Q ∣ (P - ref D Q) * (P + ref D Q) := by
    have := Int.dvd_sub hr h.dvd
    have e1 : D - ref D Q * ref D Q - (D - P * P) = (P - ref D Q) * (P + ref D Q) := by
      rw [Int.sub_mul, Int.mul_add, Int.mul_add, Int.mul_comm (ref D Q) P]; omega
    rwa [e1] at this
  have hprodN : Q.toNat ∣ (P - ref D Q).natAbs * (P + ref D Q).natAbs := by
    rw [← Int.natAbs_mul]
    rw [← Int.ofNat_dvd_left]
    rwa [Int.toNat_of_nonneg (Int.le_of_lt h.pos)]
  have hdvdE : e ∣ (P + ref D Q).natAbs := by
    obtain ⟨a, ha⟩ := hdA
    have ha' : (P - ref D Q).natAbs / d = a := by rw [ha]; exact Nat.mul_div_cancel_left a hd
    have hco : Nat.Coprime e a := by
      have := Nat.coprime_div_gcd_div_gcd (m := Q.toNat) (n := (P - ref D Q).natAbs) hd
      rw [← ha']
      exact this
    rw [ha, ← hde, Nat.mul_assoc] at hprodN
    have h2 := Nat.dvd_of_mul_dvd_mul_left hd hprodN
    exact hco.dvd_of_dvd_mul_left h2
  refine ⟨hd, he, hde, ?_, ?_, ?_⟩
  · rw [Int.ofNat_dvd_left]; exact hdA
  · rw [Int.ofNat_dvd_left]; exact hdvdE
  · rintro ⟨h1, h2⟩
    have h2e : 2 ∣ Q.toNat := by rw [← hde]; exact Nat.dvd_trans (Nat.dvd_of_mod_eq_zero h2) (Nat.dvd_mul_left _ _)
    have h3 : 2 ∣ (P - ref D Q).natAbs * (P + ref D Q).natAbs := Nat.dvd_trans h2e hprodN
    have h4 : 2 ∣ (P - ref D Q).natAbs := by
      have h5 : ((P - ref D Q).natAbs * (P + ref D Q).natAbs) % 2 = 0 := Nat.mod_eq_zero_of_dvd h3
      rw [Nat.mul_mod] at h5
      have hp : (P - ref D Q).natAbs % 2 = (P + ref D Q).natAbs % 2 := by omega
      rw [← hp] at h5
      have h6 : (P - ref D Q).natAbs % 2 = 0 ∨ (P - ref D Q).natAbs % 2 = 1 := by omega
      rcases h6 with h6 | h6
      · exact Nat.dvd_of_mod_eq_zero h6
      · rw [h6] at h5; omega
    have h7 : 2 ∣ d := Nat.dvd_gcd h2e h4
    omega

theorem code_mem (D s P Q : Int) (h : Okay D s P Q) (S : Nat) (hS : Q ≤ S) : code D s P Q ∈ codes S := by
  obtain ⟨h1, h2, h3, h4, h5, h6⟩ := parts D s P Q h
  unfold code
  apply mem_codes _ _ _ _ h1 h2 _ h6
  · apply Nat.div_lt_of_lt_mul
    rw [Nat.mul_comm, Nat.gcd_mul_lcm, h3]
    have := h.pos; have := h.lo; have := h.hi
    omega
  · rw [h3]; omega

theorem code_inj (D s P Q P2 Q2 : Int) (h : Okay D s P Q) (h' : Okay D s P2 Q2)
    (hc : code D s P Q = code D s P2 Q2) : P = P2 ∧ Q = Q2 := by
  obtain ⟨h1, h2, h3, h4, h5, h6⟩ := parts D s P Q h
  obtain ⟨g1, g2, g3, g4, g5, g6⟩ := parts D s P2 Q2 h'
  unfold code at hc
  rw [Prod.mk.injEq, Prod.mk.injEq] at hc
  obtain ⟨c1, c2, c3⟩ := hc
  have hQ : Q = Q2 := by
    have : Q.toNat = Q2.toNat := by rw [← h3, ← g3, c2, c1]
    have := h.pos; have := h'.pos
    omega
  refine ⟨?_, hQ⟩
  subst hQ
  rw [c1] at h5
  rw [c1] at h4
  rw [c1] at c3
  generalize hd : Nat.gcd Q.toNat (P2 - ref D Q).natAbs = d at *
  generalize he : Q.toNat / d = e at *
  have k1 : (d : Int) ∣ P - P2 := by
    have := Int.dvd_sub h4 g4
    have e1 : P - ref D Q - (P2 - ref D Q) = P - P2 := by omega
    rwa [e1] at this
  have k2 : (e : Int) ∣ P - P2 := by
    have := Int.dvd_sub h5 g5
    have e1 : P + ref D Q - (P2 + ref D Q) = P - P2 := by omega
    rwa [e1] at this
  rw [Int.ofNat_dvd_left] at k1 k2
  have k3 : Nat.lcm d e ∣ (P - P2).natAbs := Nat.lcm_dvd k1 k2
  have hL : 0 < Nat.lcm d e := Nat.lcm_pos g1 g2
  generalize Nat.lcm d e = L at *
  have hx := Nat.div_add_mod (s - P).toNat L
  have hy := Nat.div_add_mod (s - P2).toNat L
  have hx2 := Nat.mod_lt (s - P).toNat hL
  have hy2 := Nat.mod_lt (s - P2).toNat hL
  rw [c3] at hx
  have a1 := h.hi
  have a2 := h'.hi
  have k4 : (P - P2).natAbs < L := by omega
  have := Nat.eq_zero_of_dvd_of_lt k3 k4
  omega

def it (D : Nat) (x : Surd) : Nat → Surd
  | 0 => x
  | k + 1 => (it D x k).next D

theorem it_add (D : Nat) (x : Surd) (a : Nat) : ∀ b, it D x (a + b) = it D (it D x a) b := by
  intro b
  induction b with
  | zero => rfl
  | succ b ih => rw [← Nat.add_assoc]; simp only [it, ih]

theorem it_succ' (D : Nat) (x : Surd) (k : Nat) : it D x (k + 1) = it D (x.next D) k := by
  rw [Nat.add_comm, it_add]; rfl

/-- D is no square, s its whole root -/
structure Base (D : Nat) : Prop where
  ns : root D * root D ≠ D

theorem Base.lo {D : Nat} (h : Base D) : (root D : Int) * root D < D := by
  have := (root_spec D).1; have := h.ns
  have : root D * root D < D := by omega
  exact_mod_cast this

theorem base_hi (D : Nat) : (D : Int) < ((root D : Int) + 1) * ((root D : Int) + 1) := by
  have := (root_spec D).2
  exact_mod_cast this

structure V (D : Nat) (x : Surd) : Prop where
  ne : x.q ≠ 0
  dvd : x.q ∣ (D : Int) - x.p * x.p

/-- the next upper number -/
theorem next_p_dvd (D : Nat) (x : Surd) (h : V D x) : x.q ∣ (D : Int) - (x.next D).p * (x.next D).p := by
  have e : (D : Int) - (x.next D).p * (x.next D).p = ((D : Int) - x.p * x.p) - x.q * (x.floor D * ((x.next D).p - x.p)) := by
    show (D : Int) - (x.floor D * x.q - x.p) * (x.floor D * x.q - x.p) = ((D : Int) - x.p * x.p) - x.q * (x.floor D * ((x.floor D * x.q - x.p) - x.p))
    generalize x.floor D = a
    generalize x.q = q
    generalize x.p = p
    grind
  rw [e]
  exact Int.dvd_sub h.dvd (Int.dvd_mul_right _ _)

theorem next_mul (D : Nat) (x : Surd) (h : V D x) : x.q * (x.next D).q = (D : Int) - (x.next D).p * (x.next D).p := by
  have := next_p_dvd D x h
  show x.q * (((D : Int) - (x.next D).p * (x.next D).p) / x.q) = _
  exact Int.mul_ediv_cancel' this

theorem nsq (D : Nat) (hb : Base D) (z : Int) : (D : Int) - z * z ≠ 0 := by
  intro h
  have h1 := hb.lo
  have h2 := base_hi D
  have h0 : (0 : Int) ≤ root D := Int.natCast_nonneg _
  generalize (root D : Int) = s at *
  have h3 : (D : Int) = z * z := by omega
  rw [h3] at h1 h2
  rcases Int.le_total 0 z with hz | hz
  · rcases Int.le_total z s with h4 | h4
    · have := Int.mul_le_mul h4 h4 hz h0
      omega
    · rcases Int.lt_or_le s z with h5 | h5
      · have : (s + 1) * (s + 1) ≤ z * z := Int.mul_le_mul h5 h5 (by omega) (by omega)
        omega
      · have : z = s := by omega
        subst this; omega
  · have hw : z * z = (-z) * (-z) := (Int.neg_mul_neg z z).symm
    rw [hw] at h1 h2
    generalize hw' : -z = w at *
    have hz' : 0 ≤ w := by omega
    rcases Int.le_total w s with h4 | h4
    · have := Int.mul_le_mul h4 h4 hz' h0
      omega
    · rcases Int.lt_or_le s w with h5 | h5
      · have : (s + 1) * (s + 1) ≤ w * w := Int.mul_le_mul h5 h5 (by omega) (by omega)
        omega
      · have : w = s := by omega
        subst this; omega

theorem next_V (D : Nat) (hb : Base D) (x : Surd) (h : V D x) : V D (x.next D) := by
  have hm := next_mul D x h
  constructor
  · intro h0
    rw [h0, Int.mul_zero] at hm
    exact nsq D hb _ hm.symm
  · rw [← hm]; exact Int.dvd_mul_left _ _

theorem it_V (D : Nat) (hb : Base D) (x : Surd) (h : V D x) : ∀ k, V D (it D x k) := by
  intro k
  induction k with
  | zero => exact h
  | succ k ih => exact next_V D hb _ ih

/-- where the next upper number lies -/
theorem next_pos (D : Nat) (x : Surd) (h : 0 < x.q) : (x.next D).p ≤ root D ∧ (root D : Int) - x.q < (x.next D).p := by
  have e : (x.next D).p = ((x.p + root D) / x.q) * x.q - x.p := by
    show x.floor D * x.q - x.p = _
    unfold Surd.floor
    rw [if_pos h]
  rw [e]
  have h1 := Int.mul_ediv_add_emod (x.p + root D) x.q
  have h2 := Int.emod_nonneg (x.p + root D) (show x.q ≠ 0 by omega)
  have h3 := Int.emod_lt_of_pos (x.p + root D) h
  rw [Int.mul_comm] at h1
  omega

theorem next_neg (D : Nat) (x : Surd) (h : x.q < 0) : (root D : Int) + 1 ≤ (x.next D).p ∧ (x.next D).p ≤ root D - x.q := by
  have e : (x.next D).p = ((0 - x.p - root D - 1) / (0 - x.q)) * x.q - x.p := by
    show x.floor D * x.q - x.p = _
    unfold Surd.floor
    rw [if_neg (by omega)]
  rw [e]
  have h1 := Int.mul_ediv_add_emod (0 - x.p - root D - 1) (0 - x.q)
  have h2 := Int.emod_nonneg (0 - x.p - root D - 1) (show (0 - x.q) ≠ 0 by omega)
  have h3 := Int.emod_lt_of_pos (0 - x.p - root D - 1) (show 0 < 0 - x.q by omega)
  have h4 : (0 - x.q) * ((0 - x.p - root D - 1) / (0 - x.q)) = 0 - ((0 - x.p - root D - 1) / (0 - x.q)) * x.q := by
    rw [Int.sub_mul, Int.mul_comm x.q]; omega
  omega

structure Inv (D : Nat) (x : Surd) : Prop where
  pos : 0 < x.q
  hi : x.p ≤ root D
  big : x.q ≤ x.p + root D

theorem inv_of (D : Nat) (hb : Base D) (x : Surd) (hv : V D x) (h : 0 < x.q) (hp : -(root D : Int) ≤ (x.next D).p) :
    Inv D (x.next D) := by
  obtain ⟨h1, h2⟩ := next_pos D x h
  have hm := next_mul D x hv
  have hlo := hb.lo
  have hhi := base_hi D
  have h0 : (0 : Int) ≤ root D := Int.natCast_nonneg _
  generalize hS : (root D : Int) = s at *
  generalize hP : (x.next D).p = P at *
  generalize hQ : (x.next D).q = Q' at *
  generalize x.q = Q at *
  generalize (D : Int) = d at *
  have hsq : P * P ≤ s * s := by
    rcases Int.le_total 0 P with hz | hz
    · exact Int.mul_le_mul h1 h1 hz h0
    · have : (-P) * (-P) ≤ s * s := Int.mul_le_mul (by omega) (by omega) (by omega) h0
      rwa [Int.neg_mul_neg] at this
  have hpos : 0 < Q' := by
    have : 0 < Q * Q' := by omega
    exact Int.pos_of_mul_pos_right this h
  refine ⟨by rw [hQ]; exact hpos, by rw [hP, hS]; exact h1, ?_⟩
  rw [hQ, hP, hS]
  rcases Int.lt_or_le (P + s) Q' with hc | hc
  · exfalso
    have : (s - P + 1) * (P + s + 1) ≤ Q * Q' := Int.mul_le_mul (by omega) (by omega) (by omega) (by omega)
    have e : (s - P + 1) * (P + s + 1) = (s + 1) * (s + 1) - P * P := by grind
    omega
  · exact hc

theorem inv_next (D : Nat) (hb : Base D) (x : Surd) (hv : V D x) (h : Inv D x) : Inv D (x.next D) := by
  apply inv_of D hb x hv h.pos
  obtain ⟨h1, h2⟩ := next_pos D x h.pos
  have ha : 1 ≤ x.floor D := by
    unfold Surd.floor
    rw [if_pos h.pos]
    have := h.big
    have h3 := h.pos
    rw [Int.le_ediv_iff_mul_le h3]
    omega
  have e : (x.next D).p = x.floor D * x.q - x.p := rfl
  have : 1 * x.q ≤ x.floor D * x.q := Int.mul_le_mul_of_nonneg_right ha (Int.le_of_lt h.pos)
  have := h.hi
  have := h.pos
  omega
/-- a step above 0 whose next upper number is far below 0: the lower number shrinks -/
theorem shrink_pos (D : Nat) (x : Surd) (hv : V D x) (h : 0 < x.q) (hp : (x.next D).p < -(root D : Int)) :
    (x.next D).q.natAbs < x.q.natAbs := by
  obtain ⟨h1, h2⟩ := next_pos D x h
  have hm := next_mul D x hv
  have hhi := base_hi D
  have h0 : (0 : Int) ≤ root D := Int.natCast_nonneg _
  generalize (root D : Int) = s at *
  generalize (x.next D).p = P at *
  generalize (x.next D).q = Q' at *
  generalize x.q = Q at *
  have hd : (0 : Int) ≤ D := Int.natCast_nonneg _
  generalize (D : Int) = d at *
  have k1 : (s + 1) * (s + 1) ≤ (-P) * (-P) := Int.mul_le_mul (by omega) (by omega) (by omega) (by omega)
  rw [Int.neg_mul_neg] at k1
  have k2 : (-P) * (-P) ≤ (Q - 1) * (Q - 1) := Int.mul_le_mul (by omega) (by omega) (by omega) (by omega)
  rw [Int.neg_mul_neg] at k2
  have k3 : Q * Q' < 0 := by omega
  have k4 : Q' < 0 := by
    rcases Int.lt_or_le Q' 0 with hc | hc
    · exact hc
    · have := Int.mul_nonneg (Int.le_of_lt h) hc
      omega
  rcases Int.lt_or_le (-Q') Q with hc | hc
  · omega
  · exfalso
    have k5 : Q * Q ≤ Q * (-Q') := Int.mul_le_mul_of_nonneg_left hc (by omega)
    rw [Int.mul_neg] at k5
    have k6 : (Q - 1) * (Q - 1) = Q * Q - 2 * Q + 1 := by grind
    omega

/-- a step below 0 -/
theorem step_neg (D : Nat) (hb : Base D) (x : Surd) (hv : V D x) (h : x.q < 0) :
    (x.next D).q.natAbs < x.q.natAbs ∨ Inv D ((x.next D).next D) := by
  obtain ⟨h1, h2⟩ := next_neg D x h
  have hm := next_mul D x hv
  have hhi := base_hi D
  have hlo := hb.lo
  have h0 : (0 : Int) ≤ root D := Int.natCast_nonneg _
  have hd : (0 : Int) ≤ D := Int.natCast_nonneg _
  have hv' := next_V D hb x hv
  have hpq : 0 < (x.next D).q := by
    have k1 : ((root D : Int) + 1) * ((root D : Int) + 1) ≤ (x.next D).p * (x.next D).p := Int.mul_le_mul h1 h1 (by omega) (by omega)
    have k3 : x.q * (x.next D).q < 0 := by omega
    rcases Int.lt_or_le 0 (x.next D).q with hc | hc
    · exact hc
    · have := Int.mul_nonneg_of_nonpos_of_nonpos (Int.le_of_lt h) hc
      omega
  rcases Int.lt_or_le ((x.next D).p + root D) (0 - x.q) with hc | hc
  · left
    generalize (root D : Int) = s at *
    generalize (x.next D).p = P at *
    generalize (x.next D).q = Q' at *
    generalize x.q = Q at *
    generalize (D : Int) = d at *
    rcases Int.lt_or_le Q' (-Q) with hc2 | hc2
    · omega
    · exfalso
      have k2 : P * P ≤ (-Q) * (-Q) := Int.mul_le_mul (by omega) (by omega) (by omega) (by omega)
      have k5 : (-Q) * (-Q) ≤ (-Q) * Q' := Int.mul_le_mul_of_nonneg_left hc2 (by omega)
      rw [Int.neg_mul Q Q'] at k5
      have k6 : (s + 1) * (s + 1) = s * s + 2 * s + 1 := by grind
      have k7 : 0 ≤ s * s := Int.mul_nonneg h0 h0
      omega
  · right
    have kA : (x.next D).q ≤ (x.next D).p + root D := by
      generalize (root D : Int) = s at *
      generalize (x.next D).p = P at *
      generalize (x.next D).q = Q' at *
      generalize x.q = Q at *
      generalize (D : Int) = d at *
      rcases Int.lt_or_le (P + s) Q' with hc2 | hc2
      · exfalso
        have k : (P - s) * (P + s + 1) ≤ (-Q) * Q' := Int.mul_le_mul (by omega) (by omega) (by omega) (by omega)
        rw [Int.neg_mul] at k
        have e : (P - s) * (P + s + 1) = P * P - s * s + P - s := by grind
        omega
      · exact hc2
    have kB : (x.next D).p - root D ≤ (x.next D).q := by
      generalize (root D : Int) = s at *
      generalize (x.next D).p = P at *
      generalize (x.next D).q = Q' at *
      generalize x.q = Q at *
      generalize (D : Int) = d at *
      rcases Int.lt_or_le Q' (P - s) with hc2 | hc2
      · exfalso
        have k : (-Q) * Q' ≤ (P + s) * (P - s - 1) := Int.mul_le_mul (by omega) (by omega) (by omega) (by omega)
        rw [Int.neg_mul] at k
        have e : (P + s) * (P - s - 1) = P * P - s * s - P - s := by grind
        have e2 : (s + 1) * (s + 1) = s * s + 2 * s + 1 := by grind
        omega
      · exact hc2
    apply inv_of D hb _ hv' hpq
    have ha : 1 ≤ (x.next D).floor D := by
      unfold Surd.floor
      rw [if_pos hpq, Int.le_ediv_iff_mul_le hpq]
      omega
    have e : ((x.next D).next D).p = (x.next D).floor D * (x.next D).q - (x.next D).p := rfl
    have : 1 * (x.next D).q ≤ (x.next D).floor D * (x.next D).q := Int.mul_le_mul_of_nonneg_right ha (Int.le_of_lt hpq)
    omega

theorem reach (D : Nat) (hb : Base D) : ∀ (m : Nat) (x : Surd), V D x → x.q.natAbs ≤ m → ∃ k, k ≤ m + 2 ∧ Inv D (it D x k) := by
  intro m
  induction m with
  | zero => intro x hv h; exact absurd (by omega) hv.ne
  | succ m ih =>
    intro x hv h
    rcases Int.lt_or_le 0 x.q with hq | hq
    · rcases Int.lt_or_le (x.next D).p (-(root D : Int)) with hp | hp
      · have := shrink_pos D x hv hq hp
        obtain ⟨k, hk, hi⟩ := ih (x.next D) (next_V D hb x hv) (by omega)
        exact ⟨k + 1, by omega, by rw [it_succ']; exact hi⟩
      · exact ⟨1, by omega, inv_of D hb x hv hq hp⟩
    · have hq' : x.q < 0 := by have := hv.ne; omega
      rcases step_neg D hb x hv hq' with hs | hs
      · obtain ⟨k, hk, hi⟩ := ih (x.next D) (next_V D hb x hv) (by omega)
        exact ⟨k + 1, by omega, by rw [it_succ']; exact hi⟩
      · exact ⟨2, by omega, hs⟩

theorem inv_it (D : Nat) (hb : Base D) (x : Surd) (hv : V D x) (h : Inv D x) : ∀ k, Inv D (it D x k) := by
  intro k
  induction k with
  | zero => exact h
  | succ k ih => exact inv_next D hb _ (it_V D hb x hv k) ih

/-- one of two neighbours is small -/
theorem small (D : Nat) (x : Surd) (hv : V D x) : x.q ≤ root D ∨ (x.next D).q ≤ root D := by
  rcases Int.lt_or_le (root D : Int) x.q with h1 | h1
  · right
    rcases Int.lt_or_le (root D : Int) (x.next D).q with h2 | h2
    · exfalso
      have hm := next_mul D x hv
      have hhi := base_hi D
      have h0 : (0 : Int) ≤ root D := Int.natCast_nonneg _
      have k : ((root D : Int) + 1) * ((root D : Int) + 1) ≤ x.q * (x.next D).q := Int.mul_le_mul h1 h2 (by omega) (by omega)
      have k2 : 0 ≤ (x.next D).p * (x.next D).p := by
        rcases Int.le_total 0 (x.next D).p with hz | hz
        · exact Int.mul_nonneg hz hz
        · exact Int.mul_nonneg_of_nonpos_of_nonpos hz hz
      omega
    · exact h2
  · exact Or.inl h1

/-- of two neighbours the small one -/
def pick (D : Nat) (x : Surd) (k0 j : Nat) : Nat := if (it D x (k0 + 2 * j)).q ≤ root D then k0 + 2 * j else k0 + 2 * j + 1
theorem pick_lo (D : Nat) (x : Surd) (k0 j : Nat) : k0 + 2 * j ≤ pick D x k0 j := by unfold pick; split <;> omega
theorem pick_hi (D : Nat) (x : Surd) (k0 j : Nat) : pick D x k0 j ≤ k0 + 2 * j + 1 := by unfold pick; split <;> omega

/-- **There aren't many that differ.** -/
theorem few (D : Nat) (hb : Base D) (hs : root D ≤ 3162) (x : Surd) (hv : V D x) (L : Nat)
    (hd : ∀ i j, i < j → j < L → it D x i ≠ it D x j) : L ≤ x.q.natAbs + 82880 := by
  obtain ⟨k0, hk, hi⟩ := reach D hb x.q.natAbs x hv (Nat.le_refl _)
  rcases Nat.lt_or_ge (x.q.natAbs + 82880) L with hL | hL
  · exfalso
    have hI : ∀ k, Inv D (it D x (k0 + k)) := by
      intro k; rw [it_add]; exact inv_it D hb _ (it_V D hb x hv k0) hi k
    have ph_lo := pick_lo D x k0
    have ph_hi := pick_hi D x k0
    have ph_eq : ∀ j, pick D x k0 j = if (it D x (k0 + 2 * j)).q ≤ root D then k0 + 2 * j else k0 + 2 * j + 1 := fun j => rfl
    generalize pick D x k0 = ph at *
    have ph_small : ∀ j, (it D x (ph j)).q ≤ root D := by
      intro j
      by_cases hc : (it D x (k0 + 2 * j)).q ≤ root D
      · have : ph j = k0 + 2 * j := by rw [ph_eq]; exact if_pos hc
        rw [this]; exact hc
      · have : ph j = k0 + 2 * j + 1 := by rw [ph_eq]; exact if_neg hc
        rw [this]
        rcases small D (it D x (k0 + 2 * j)) (it_V D hb x hv _) with h | h
        · exact absurd h hc
        · exact h
    have ph_inv : ∀ j, Inv D (it D x (ph j)) := by
      intro j
      have := hI (ph j - k0)
      have e : k0 + (ph j - k0) = ph j := by have := ph_lo j; omega
      rwa [e] at this
    have okay : ∀ j, Okay (D : Int) (root D : Int) (it D x (ph j + 1)).p (it D x (ph j)).q := by
      intro j
      obtain ⟨h1, h2⟩ := next_pos D (it D x (ph j)) (ph_inv j).pos
      exact ⟨(ph_inv j).pos, h1, h2, next_p_dvd D _ (it_V D hb x hv _)⟩
    have := pigeon 41438 (fun j => code (D : Int) (root D : Int) (it D x (ph j + 1)).p (it D x (ph j)).q) (codes 3162)
      (fun j _ => code_mem _ _ _ _ (okay j) 3162 (by have := ph_small j; omega))
      (fun i j hij hj hc => by
        obtain ⟨e1, e2⟩ := code_inj _ _ _ _ _ _ (okay i) (okay j) hc
        have l1 := ph_hi i
        have l2 := ph_lo j
        have l3 := ph_hi j
        refine hd (ph i + 1) (ph j + 1) (by omega) (by omega) ?_
        have q1 : (it D x (ph i + 1)).q = (it D x (ph j + 1)).q := by
          show ((D : Int) - (it D x (ph i + 1)).p * (it D x (ph i + 1)).p) / (it D x (ph i)).q = ((D : Int) - (it D x (ph j + 1)).p * (it D x (ph j + 1)).p) / (it D x (ph j)).q
          rw [e1, e2]
        generalize it D x (ph i + 1) = u at *
        generalize it D x (ph j + 1) = v at *
        cases u; cases v
        simp only at e1 q1
        rw [e1, q1])
    rw [codes_length] at this
    omega
  · exact hL

def upto (D : Nat) (x : Surd) (k : Nat) : List Surd := (List.range k).map (it D x)

theorem upto_succ (D : Nat) (x : Surd) (k : Nat) : upto D x (k + 1) = upto D x k ++ [it D x k] := by
  simp [upto, List.range_succ]
theorem upto_length (D : Nat) (x : Surd) (k : Nat) : (upto D x k).length = k := by simp [upto]
theorem mem_upto (D : Nat) (x y : Surd) (k : Nat) : y ∈ upto D x k ↔ ∃ i, i < k ∧ it D x i = y := by
  simp [upto]

theorem find_none (D : Nat) (x y : Surd) (k : Nat) (h : ∀ i, i < k → it D x i ≠ y) :
    ((upto D x k).findIdx? fun z => z == y) = none := by
  rw [List.findIdx?_eq_none_iff]
  intro z hz
  rw [mem_upto] at hz
  obtain ⟨i, hi, e⟩ := hz
  have := h i hi
  rw [e] at this
  simpa using this

theorem find_some (D : Nat) (x y : Surd) (k i : Nat) (hik : i < k) (he : it D x i = y) (h : ∀ a, a < i → it D x a ≠ y) :
    ((upto D x k).findIdx? fun z => z == y) = some i := by
  rw [List.findIdx?_eq_some_iff_getElem]
  refine ⟨by rw [upto_length]; exact hik, by simp [upto, he], ?_⟩
  intro a ha
  have := h a ha
  simp [upto, this]

/-- what the ring's search comes to -/
theorem ring_eq (D : Nat) (x : Surd) (j i : Nat) (hij : i < j) (hi : it D x i = it D x j)
    (hd : ∀ a b, a < b → b < j → it D x a ≠ it D x b) :
    ∀ f k, k ≤ j → j < k + f → ring D f (it D x k) (upto D x k) = (upto D x j, i) := by
  intro f
  induction f with
  | zero => intro k h1 h2; omega
  | succ f ih =>
    intro k h1 h2
    unfold ring
    rcases Nat.lt_or_ge k j with hk | hk
    · rw [find_none D x _ k (fun a ha => hd a k ha hk)]
      have := ih (k + 1) hk (by omega)
      rw [upto_succ] at this
      exact this
    · have e : k = j := by omega
      subst e
      rw [find_some D x _ k i hij hi (fun a ha hc => hd a i ha hij (hc.trans hi.symm))]

theorem first (D : Nat) (x : Surd) : ∀ L, (∀ i j, i < j → j < L → it D x i ≠ it D x j) ∨
    ∃ j i, j < L ∧ i < j ∧ it D x i = it D x j ∧ ∀ a b, a < b → b < j → it D x a ≠ it D x b := by
  intro L
  induction L with
  | zero => left; intros; omega
  | succ L ih =>
    rcases ih with h | ⟨j, i, h1, h2⟩
    · by_cases hc : ∃ i, i < L ∧ it D x i = it D x L
      · obtain ⟨i, hi, e⟩ := hc
        exact Or.inr ⟨L, i, by omega, hi, e, h⟩
      · left
        intro a b hab hb
        rcases Nat.lt_or_ge b L with hb' | hb'
        · exact h a b hab hb'
        · have e : b = L := by omega
          subst e
          exact fun he => hc ⟨a, hab, he⟩
    · exact Or.inr ⟨j, i, by omega, h2⟩

/-- **The ring closes before the end of the search.** -/
theorem closes (D : Nat) (hb : Base D) (hs : root D ≤ 3162) (x : Surd) (hv : V D x) (hq : x.q.natAbs ≤ 10000) :
    ∃ j i, j < END ∧ i < j ∧ it D x i = it D x j ∧ (∀ a b, a < b → b < j → it D x a ≠ it D x b) ∧
      ring D END x [] = (upto D x j, i) := by
  rcases first D x 99999 with h | ⟨j, i, h1, h2, h3, h4⟩
  · have := few D hb hs x hv 99999 h
    omega
  · refine ⟨j, i, by unfold END; omega, h2, h3, h4, ?_⟩
    have := ring_eq D x j i h2 h3 h4 END 0 (by omega) (by unfold END; omega)
    exact this

/-- the terms by places -/
theorem terms_of (D : Nat) (x : Surd) (j i : Nat) (hij : i < j) (h : ring D END x [] = (upto D x j, i)) :
    Surd.terms D x = ((List.range i).map fun k => (it D x k).floor D, ((List.range j).drop i).map fun k => (it D x k).floor D) := by
  unfold Surd.terms
  rw [h]
  simp only [upto, ← List.map_take, ← List.map_drop, List.map_map, List.take_range, Nat.min_eq_left (Nat.le_of_lt hij)]
  rfl

theorem root_le (n k : Nat) (h : n < (k + 1) * (k + 1)) : root n ≤ k := by
  rcases Nat.lt_or_ge k (root n) with hc | hc
  · have := (root_spec n).1
    have : (k + 1) * (k + 1) ≤ root n * root n := Nat.mul_le_mul hc hc
    omega
  · exact hc

theorem root_sq (r : Nat) : root (r * r) = r := by
  apply root_unique
  · exact Nat.le_refl _
  · exact Nat.mul_lt_mul'' (Nat.lt_succ_self _) (Nat.lt_succ_self _)

theorem base_of (n : Nat) (h : square n = false) : Base n := by
  constructor
  intro e
  unfold square at h
  rw [e] at h
  simp at h

theorem base_mul (n g : Nat) (hg : 0 < g) (h : Base n) : Base (n * g * g) := by
  constructor
  intro e
  generalize root (n * g * g) = r at e
  have h1 : g ^ 2 ∣ r ^ 2 := by rw [Nat.pow_two, Nat.pow_two, e, Nat.mul_assoc]; exact Nat.dvd_mul_left _ _
  have h2 : g ∣ r := (Nat.pow_dvd_pow_iff (by decide)).mp h1
  obtain ⟨t, ht⟩ := h2
  apply h.ns
  have h3 : t * t = n := by
    rw [ht] at e
    have h4 : (t * t) * (g * g) = n * (g * g) := by
      rw [← Nat.mul_assoc n, ← e]; ac_rfl
    exact Nat.eq_of_mul_eq_mul_right (Nat.mul_pos hg hg) h4
  rw [← h3, root_sq]

theorem V_root (n : Nat) : V n ⟨0, 1⟩ := ⟨by simp, by simp⟩

theorem V_ring (p q : Int) (n : Nat) (hq : q ≠ 0) : V (n * q.natAbs * q.natAbs) ⟨p * q.natAbs, q * q.natAbs⟩ := by
  have hg : (q.natAbs : Int) ≠ 0 := by omega
  constructor
  · exact Int.mul_ne_zero hq hg
  · show q * (q.natAbs : Int) ∣ ((n * q.natAbs * q.natAbs : Nat) : Int) - (p * q.natAbs) * (p * q.natAbs)
    have e : ((n * q.natAbs * q.natAbs : Nat) : Int) - (p * q.natAbs) * (p * q.natAbs) = ((q.natAbs : Int) * q.natAbs) * (n - p * p) := by
      push_cast
      generalize (q.natAbs : Int) = g
      grind
    rw [e]
    apply Int.dvd_trans _ (Int.dvd_mul_right _ _)
    exact Int.mul_dvd_mul (Int.dvd_natAbs.mpr (Int.dvd_refl q)) (Int.dvd_refl _)

/-- the ring of a root -/
theorem closes_root (n : Nat) (h0 : n ≤ 1000000) (h : square n = false) :
    ∃ j i, j < END ∧ i < j ∧ it n ⟨0, 1⟩ i = it n ⟨0, 1⟩ j ∧ (∀ a b, a < b → b < j → it n ⟨0, 1⟩ a ≠ it n ⟨0, 1⟩ b) ∧
      ring n END ⟨0, 1⟩ [] = (upto n ⟨0, 1⟩ j, i) :=
  closes n (base_of n h) (root_le n 3162 (by omega)) _ (V_root n) (by decide)

theorem closes_ring (p q : Int) (n : Nat) (hq : q ≠ 0) (hq2 : q.natAbs ≤ 100) (hn : n ≤ 1000) (h : square n = false) :
    let D := n * q.natAbs * q.natAbs
    let x : Surd := ⟨p * q.natAbs, q * q.natAbs⟩
    ∃ j i, j < END ∧ i < j ∧ it D x i = it D x j ∧ (∀ a b, a < b → b < j → it D x a ≠ it D x b) ∧
      ring D END x [] = (upto D x j, i) := by
  intro D x
  have hg : 0 < q.natAbs := by omega
  apply closes D (base_mul n _ hg (base_of n h)) _ x (V_ring p q n hq)
  · show (q * (q.natAbs : Int)).natAbs ≤ 10000
    rw [Int.natAbs_mul]
    show q.natAbs * q.natAbs ≤ 100 * 100
    exact Nat.mul_le_mul hq2 hq2
  · apply root_le
    have h1 : n * q.natAbs * q.natAbs ≤ 1000 * 100 * 100 := Nat.mul_le_mul (Nat.mul_le_mul hn hq2) hq2
    show n * q.natAbs * q.natAbs < _
    omega

/-! ## how great the numbers get -/
theorem neg_big (D : Nat) (hb : Base D) (x : Surd) (hv : V D x) (h : x.q < 0) :
    0 < (x.next D).q ∧ (x.next D).q ≤ 2 * root D - x.q := by
  obtain ⟨h1, h2⟩ := next_neg D x h
  have hm := next_mul D x hv
  have hhi := base_hi D
  have hlo := hb.lo
  have h0 : (0 : Int) ≤ root D := Int.natCast_nonneg _
  generalize (root D : Int) = s at *
  generalize (x.next D).p = P at *
  generalize (x.next D).q = Q' at *
  generalize x.q = Q at *
  generalize (D : Int) = d at *
  constructor
  · have k1 : (s + 1) * (s + 1) ≤ P * P := Int.mul_le_mul h1 h1 (by omega) (by omega)
    have k3 : Q * Q' < 0 := by omega
    rcases Int.lt_or_le 0 Q' with hc | hc
    · exact hc
    · have := Int.mul_nonneg_of_nonpos_of_nonpos (Int.le_of_lt h) hc
      omega
  · have : Q' ≤ P + s := by
      rcases Int.lt_or_le (P + s) Q' with hc2 | hc2
      · exfalso
        have k : (P - s) * (P + s + 1) ≤ (-Q) * Q' := Int.mul_le_mul (by omega) (by omega) (by omega) (by omega)
        rw [Int.neg_mul] at k
        have e : (P - s) * (P + s + 1) = P * P - s * s + P - s := by grind
        omega
      · exact hc2
    omega

def Bd (D : Nat) (c : Nat) (x : Surd) : Prop := x.q.natAbs ≤ c ∨ (Inv D (x.next D) ∧ x.q.natAbs ≤ 2 * root D + c) ∨ Inv D x

theorem Bd.next {D c : Nat} (hb : Base D) {x : Surd} (hv : V D x) (h : Bd D c x) : Bd D c (x.next D) := by
  rcases h with h | ⟨h, _⟩ | h
  · rcases Int.lt_or_le 0 x.q with hq | hq
    · rcases Int.lt_or_le (x.next D).p (-(root D : Int)) with hp | hp
      · have := shrink_pos D x hv hq hp
        exact .inl (by omega)
      · exact .inr (.inr (inv_of D hb x hv hq hp))
    · have hq' : x.q < 0 := by have := hv.ne; omega
      rcases step_neg D hb x hv hq' with hs | hs
      · exact .inl (by omega)
      · obtain ⟨a, b⟩ := neg_big D hb x hv hq'
        exact .inr (.inl ⟨hs, by omega⟩)
  · exact .inr (.inr h)
  · exact .inr (.inr (inv_next D hb x hv h))

theorem Bd.le {D c : Nat} {x : Surd} (h : Bd D c x) : x.q.natAbs ≤ 2 * root D + c := by
  rcases h with h | ⟨_, h⟩ | h
  · omega
  · exact h
  · have := h.pos; have := h.hi; have := h.big
    omega

theorem q_le (D : Nat) (hb : Base D) (x : Surd) (hv : V D x) (k : Nat) : (it D x k).q.natAbs ≤ 2 * root D + x.q.natAbs := by
  have : ∀ k, Bd D x.q.natAbs (it D x k) := by
    intro k
    induction k with
    | zero => exact .inl (Nat.le_refl _)
    | succ k ih => exact ih.next hb (it_V D hb x hv k)
  exact (this k).le

theorem p_le (D : Nat) (hb : Base D) (x : Surd) (hv : V D x) (k : Nat) : (it D x k).p.natAbs ≤ 3 * root D + x.q.natAbs + x.p.natAbs := by
  cases k with
  | zero => show x.p.natAbs ≤ _; omega
  | succ k =>
    have h := q_le D hb x hv k
    show ((it D x k).next D).p.natAbs ≤ _
    rcases Int.lt_or_le 0 (it D x k).q with hq | hq
    · obtain ⟨a, b⟩ := next_pos D _ hq
      omega
    · have hq' : (it D x k).q < 0 := by have := (it_V D hb x hv k).ne; omega
      obtain ⟨a, b⟩ := next_neg D _ hq'
      omega

/-- all that a ring's reckoning asks of p, q, n -/
structure RHyp (D : Nat) (x : Surd) : Prop where
  base : Base D
  rt : root D ≤ 3162
  v : V D x
  q0 : x.q.natAbs ≤ 10000
  p0 : x.p.natAbs ≤ 10000

theorem RHyp.q {D : Nat} {x : Surd} (h : RHyp D x) (k : Nat) : (it D x k).q ≠ 0 ∧ (it D x k).q.natAbs < 1073741824 := by
  have := q_le D h.base x h.v k
  have := h.rt; have := h.q0
  exact ⟨(it_V D h.base x h.v k).ne, by omega⟩
theorem RHyp.p {D : Nat} {x : Surd} (h : RHyp D x) (k : Nat) : (it D x k).p.natAbs < 1073741824 := by
  have := p_le D h.base x h.v k
  have := h.rt; have := h.q0; have := h.p0
  omega
theorem RHyp.closes {D : Nat} {x : Surd} (h : RHyp D x) :
    ∃ j i, j < END ∧ i < j ∧ it D x i = it D x j ∧ (∀ a b, a < b → b < j → it D x a ≠ it D x b) ∧
      ring D END x [] = (upto D x j, i) := CR.closes D h.base h.rt x h.v h.q0

theorem rhyp_root (n : Nat) (h0 : n ≤ 1000000) (h : square n = false) : RHyp n ⟨0, 1⟩ :=
  ⟨base_of n h, root_le n 3162 (by omega), V_root n, by decide, by decide⟩

theorem rhyp_ring (p q : Int) (n : Nat) (hq : q ≠ 0) (hq2 : q.natAbs ≤ 100) (hp : p.natAbs ≤ 100) (hn : n ≤ 1000) (h : square n = false) :
    RHyp (n * q.natAbs * q.natAbs) ⟨p * q.natAbs, q * q.natAbs⟩ := by
  have hg : 0 < q.natAbs := by omega
  refine ⟨base_mul n _ hg (base_of n h), root_le _ 3162 ?_, V_ring p q n hq, ?_, ?_⟩
  · have h1 : n * q.natAbs * q.natAbs ≤ 1000 * 100 * 100 := Nat.mul_le_mul (Nat.mul_le_mul hn hq2) hq2
    omega
  · show (q * (q.natAbs : Int)).natAbs ≤ 100 * 100
    rw [Int.natAbs_mul]
    exact Nat.mul_le_mul hq2 hq2
  · show (p * (q.natAbs : Int)).natAbs ≤ 100 * 100
    rw [Int.natAbs_mul]
    exact Nat.mul_le_mul hp hq2
end CR

namespace CN
open Re03
/-- one step of the search, as the specification has it -/
def stepN (t : At) (best x : Q) : Q :=
    let sx := t.sign x.n x.d
    let sb := t.sign best.n best.d
    let nearer := if sb = 0 then false else if sx = 0 then true
      else if sx = sb then (if sx < 0 then decide (best.n * x.d < x.n * best.d) else decide (x.n * best.d < best.n * x.d))
      else if sx < 0 then t.lower x best && !(match t with
        | .fraction y => decide (2 * y.n * x.d * best.d = (x.n * best.d + best.n * x.d) * y.d)
        | .root _ => false)
      else !t.lower best x
    if nearer = true then x else best
theorem near_eq (t : At) (m : Nat) : t.near m = ((List.range m).flatMap fun i => [Q.of (t.down (i + 1)) (i + 1), Q.of (t.down (i + 1) + 1) (i + 1)]).foldl (stepN t) (Q.of (t.down 1) 1) := rfl

theorem of_spec (u : Int) (l : Nat) (hl : 0 < l) : ∃ g : Nat, 0 < g ∧ u = (Q.of u l).n * g ∧ l = (Q.of u l).d * g ∧ 0 < (Q.of u l).d ∧ g = Nat.gcd u.natAbs l := by
  refine ⟨Nat.gcd u.natAbs l, Nat.gcd_pos_of_pos_right _ hl, ?_, ?_, ?_, rfl⟩
  · show u = u / ((Nat.gcd u.natAbs l : Nat) : Int) * ((Nat.gcd u.natAbs l : Nat) : Int)
    rw [Int.ediv_mul_cancel]
    exact Int.ofNat_dvd_left.mpr (Nat.gcd_dvd_left _ _)
  · show l = l / Nat.gcd u.natAbs l * Nat.gcd u.natAbs l
    rw [Nat.div_mul_cancel (Nat.gcd_dvd_right _ _)]
  · show 0 < l / Nat.gcd u.natAbs l
    exact Nat.div_pos (Nat.le_of_dvd hl (Nat.gcd_dvd_right _ _)) (Nat.gcd_pos_of_pos_right _ hl)
theorem of_coprime (u : Int) (l : Nat) (h : Nat.gcd u.natAbs l = 1) : Q.of u l = ⟨u, l⟩ := by
  unfold Q.of
  rw [h]
  simp

theorem sgn_pos {z : Int} (h : 0 < z) : sgn z = 1 := if_pos h
theorem sgn_neg {z : Int} (h : z < 0) : sgn z = -1 := by unfold sgn; rw [if_neg (by omega), if_pos h]
theorem sgn_zero : sgn 0 = 0 := rfl
theorem sgn_mul {z : Int} {g : Int} (hg : 0 < g) : sgn (z * g) = sgn z := by
  rcases Int.lt_trichotomy z 0 with h | h | h
  · rw [sgn_neg h, sgn_neg (Int.mul_neg_of_neg_of_pos h hg)]
  · rw [h, Int.zero_mul]
  · rw [sgn_pos h, sgn_pos (Int.mul_pos h hg)]

/-- a fraction less n / d, times what is below -/
def off (n : Int) (d : Nat) (q : Q) : Int := q.n * d - n * q.d

theorem sign_frac (n : Int) (d : Nat) (hd : 0 < d) (q : Q) : (At.fraction (Q.of n d)).sign q.n q.d = sgn (off n d q) := by
  obtain ⟨g, hg, e1, e2, _, _⟩ := of_spec n d hd
  show sgn (q.n * ((Q.of n d).d : Int) - (Q.of n d).n * q.d) = sgn (q.n * d - n * q.d)
  rw [← sgn_mul (g := (g : Int)) (by omega)]
  congr 1
  have e2' : (d : Int) = ((Q.of n d).d : Int) * g := by exact_mod_cast e2
  conv => rhs; rw [e1, e2']
  generalize (Q.of n d).n = a
  generalize ((Q.of n d).d : Int) = b
  grind

theorem lower_frac (n : Int) (d : Nat) (hd : 0 < d) (a b : Q) : (At.fraction (Q.of n d)).lower a b = decide (0 ≤ off n d a * b.d + off n d b * a.d) := by
  obtain ⟨g, hg, e1, e2, _, _⟩ := of_spec n d hd
  have e2' : (d : Int) = ((Q.of n d).d : Int) * g := by exact_mod_cast e2
  show decide (2 * (Q.of n d).n * a.d * b.d ≤ (a.n * b.d + b.n * a.d) * ((Q.of n d).d : Int)) = _
  rw [decide_eq_decide]
  unfold off
  have key : (a.n * d - n * a.d) * b.d + (b.n * d - n * b.d) * a.d = ((a.n * b.d + b.n * a.d) * ((Q.of n d).d : Int) - 2 * (Q.of n d).n * a.d * b.d) * g := by
    conv => lhs; rw [e1, e2']
    generalize (Q.of n d).n = y
    generalize ((Q.of n d).d : Int) = z
    grind
  rw [key]
  have hg' : (0 : Int) < g := by omega
  constructor
  · intro h
    exact Int.mul_nonneg (by omega) (by omega)
  · intro h
    have := Int.nonneg_of_mul_nonneg_left h hg'
    omega

theorem tie_frac (n : Int) (d : Nat) (hd : 0 < d) (a b : Q) : decide (2 * (Q.of n d).n * a.d * b.d = (a.n * b.d + b.n * a.d) * (Q.of n d).d) = decide (off n d a * b.d + off n d b * a.d = 0) := by
  obtain ⟨g, hg, e1, e2, _, _⟩ := of_spec n d hd
  have e2' : (d : Int) = ((Q.of n d).d : Int) * g := by exact_mod_cast e2
  rw [decide_eq_decide]
  unfold off
  have key : (a.n * d - n * a.d) * b.d + (b.n * d - n * b.d) * a.d = ((a.n * b.d + b.n * a.d) * ((Q.of n d).d : Int) - 2 * (Q.of n d).n * a.d * b.d) * g := by
    conv => lhs; rw [e1, e2']
    generalize (Q.of n d).n = y
    generalize ((Q.of n d).d : Int) = z
    grind
  rw [key]
  have hg' : (g : Int) ≠ 0 := by omega
  constructor
  · intro h; rw [h, Int.sub_self, Int.zero_mul]
  · intro h
    rcases Int.mul_eq_zero.mp h with h | h
    · omega
    · exact absurd h hg'

theorem cmp_frac (n : Int) (d : Nat) (hd : 0 < d) (a b : Q) : (a.n * b.d < b.n * a.d) ↔ (off n d a * b.d < off n d b * a.d) := by
  unfold off
  have key : (b.n * d - n * b.d) * a.d - (a.n * d - n * a.d) * b.d = (b.n * a.d - a.n * b.d) * d := by grind
  have hd' : (0 : Int) < d := by omega
  constructor
  · intro h
    have : 0 < (b.n * a.d - a.n * b.d) * d := Int.mul_pos (by omega) hd'
    omega
  · intro h
    have h1 : 0 < (b.n * a.d - a.n * b.d) * d := by omega
    have := Int.pos_of_mul_pos_left h1 hd'
    omega

/-- the specification's step takes the new one where it is nearer -/
theorem step_frac (n : Int) (d : Nat) (hd : 0 < d) (best x : Q) (hb : 0 < best.d) (hx : 0 < x.d) :
    stepN (.fraction (Q.of n d)) best x = if (off n d x).natAbs * best.d < (off n d best).natAbs * x.d then x else best := by
  have hb' : (0 : Int) < best.d := by omega
  have hx' : (0 : Int) < x.d := by omega
  unfold stepN
  dsimp only
  rw [sign_frac n d hd, sign_frac n d hd, lower_frac n d hd, lower_frac n d hd, tie_frac n d hd]
  have c1 := cmp_frac n d hd best x
  have c2 := cmp_frac n d hd x best
  generalize off n d x = p at *
  generalize off n d best = P at *
  have iffN : (p.natAbs * best.d < P.natAbs * x.d) ↔ ((p.natAbs : Int) * best.d < (P.natAbs : Int) * x.d) := by
    constructor <;> intro h <;> exact_mod_cast h
  simp only [iffN]
  rcases Int.lt_trichotomy P 0 with hP | hP | hP
  · have eP : (P.natAbs : Int) = -P := by omega
    rw [sgn_neg hP, eP]
    rcases Int.lt_trichotomy p 0 with hp | hp | hp
    · have ep : (p.natAbs : Int) = -p := by omega
      rw [sgn_neg hp, ep]
      simp only [Int.reduceNeg, Int.reduceEq, Int.reduceLT, reduceIte, decide_eq_true_eq, c1, Int.neg_mul]
      congr 1
      apply propext
      omega
    · subst hp
      have := Int.mul_pos (show 0 < -P by omega) hx'
      rw [sgn_zero, Int.natAbs_zero]
      simp only [Int.reduceNeg, Int.reduceEq, reduceIte, Int.natCast_zero, Int.zero_mul, this]
    · have ep : (p.natAbs : Int) = p := by omega
      rw [sgn_pos hp, ep]
      simp only [Int.reduceNeg, Int.reduceEq, Int.reduceLT, reduceIte, Bool.not_eq_true', decide_eq_false_iff_not, Int.neg_mul]
      congr 1
      apply propext
      omega
  · subst hP
    have := Int.mul_nonneg (Int.natCast_nonneg p.natAbs) (Int.le_of_lt hb')
    rw [sgn_zero, Int.natAbs_zero]
    have h2 : ¬ ((p.natAbs : Int) * (best.d : Int) < 0) := by omega
    simp only [reduceIte, Bool.false_eq_true, Int.natCast_zero, Int.zero_mul, h2]
  · have eP : (P.natAbs : Int) = P := by omega
    rw [sgn_pos hP, eP]
    rcases Int.lt_trichotomy p 0 with hp | hp | hp
    · have ep : (p.natAbs : Int) = -p := by omega
      rw [sgn_neg hp, ep]
      simp only [Int.reduceNeg, Int.reduceEq, Int.reduceLT, reduceIte, Bool.and_eq_true, Bool.not_eq_true', decide_eq_false_iff_not, decide_eq_true_eq, Int.neg_mul]
      congr 1
      apply propext
      omega
    · subst hp
      have := Int.mul_pos hP hx'
      rw [sgn_zero, Int.natAbs_zero]
      simp only [Int.reduceEq, reduceIte, Int.natCast_zero, Int.zero_mul, this]
    · have ep : (p.natAbs : Int) = p := by omega
      rw [sgn_pos hp, ep]
      simp only [Int.reduceEq, Int.reduceLT, reduceIte, decide_eq_true_eq, c2]

/-! ## the search as the program has it -/
def far (n : Int) (d : Nat) (u : Int) (l : Nat) : Nat := (n * l - u * d).natAbs
def nst (n : Int) (d : Nat) (b : Int × Nat) (u : Int) (l : Nat) : Int × Nat := if far n d u l * b.2 < far n d b.1 b.2 * l then (u, l) else b
def fl (n : Int) (d : Nat) (l : Nat) : Int := n * l / (d : Int)
def nfold (n : Int) (d : Nat) : Nat → Int × Nat
  | 0 => (n / (d : Int), 1)
  | i + 1 => nst n d (nst n d (nfold n d i) (fl n d (i + 1)) (i + 1)) (fl n d (i + 1) + 1) (i + 1)

theorem far_off (n : Int) (d : Nat) (u : Int) (l : Nat) : far n d u l = (off n d ⟨u, l⟩).natAbs := by
  unfold far off
  dsimp only
  omega

/-- b is as near as all with a lesser number below -/
def Best (n : Int) (d : Nat) (b : Int × Nat) (l : Nat) : Prop := ∀ l', 0 < l' → l' < l → ∀ u, (u = fl n d l' ∨ u = fl n d l' + 1) → far n d b.1 b.2 * l' ≤ far n d u l' * b.2

theorem fl_spec (n : Int) (d : Nat) (hd : 0 < d) (l : Nat) (u : Int) : u = fl n d l ↔ (u * d ≤ n * l ∧ n * l < u * d + d) := by
  unfold fl
  have hd' : (0 : Int) < d := by omega
  have h1 := Int.mul_ediv_add_emod (n * l) d
  have h2 := Int.emod_nonneg (n * l) (show (d : Int) ≠ 0 by omega)
  have h3 := Int.emod_lt_of_pos (n * l) hd'
  constructor
  · intro e
    subst e
    rw [Int.mul_comm] at h1
    omega
  · rintro ⟨h4, h5⟩
    apply Int.le_antisymm
    · rw [Int.le_ediv_iff_mul_le hd']; exact h4
    · have : n * l / (d : Int) < u + 1 := by
        rw [Int.ediv_lt_iff_lt_mul hd']
        rw [Int.add_mul]; omega
      omega

/-- the lowest terms of a candidate were a candidate too -/
theorem cand_red (n : Int) (d : Nat) (hd : 0 < d) (l : Nat) (hl : 0 < l) (u : Int) (hu : u = fl n d l ∨ u = fl n d l + 1) :
    (Q.of u l).n = fl n d (Q.of u l).d ∨ (Q.of u l).n = fl n d (Q.of u l).d + 1 := by
  obtain ⟨g, hg, e1, e2, hx, _⟩ := of_spec u l hl
  generalize hX : (Q.of u l).n = X at *
  generalize hY : (Q.of u l).d = Y at *
  have hg' : (1 : Int) ≤ g := by omega
  have e2' : (l : Int) = (Y : Int) * g := by exact_mod_cast e2
  rcases hu with hu | hu
  · left
    rw [fl_spec n d hd] at hu ⊢
    obtain ⟨h1, h2⟩ := hu
    rw [e1, e2'] at h1 h2
    have k : n * ((Y : Int) * g) - X * g * d = (n * Y - X * d) * g := by grind
    have h3 : 0 ≤ (n * Y - X * d) * g := by omega
    have h4 : 0 ≤ n * Y - X * d := Int.nonneg_of_mul_nonneg_left h3 (by omega)
    have h5 : (n * Y - X * d) * 1 ≤ (n * Y - X * d) * g := Int.mul_le_mul_of_nonneg_left hg' h4
    omega
  · right
    have hu' : u - 1 = fl n d l := by omega
    have goal : X - 1 = fl n d Y := by
      rw [fl_spec n d hd] at hu' ⊢
      obtain ⟨h1, h2⟩ := hu'
      rw [Int.sub_mul] at h1 h2 ⊢
      rw [e1, e2'] at h1 h2
      have k : X * g * d - n * ((Y : Int) * g) = (X * d - n * Y) * g := by grind
      have h3 : 0 < (X * d - n * Y) * g := by omega
      have h4 : 0 < X * d - n * Y := Int.pos_of_mul_pos_left h3 (by omega)
      have h5 : (X * d - n * Y) * 1 ≤ (X * d - n * Y) * g := Int.mul_le_mul_of_nonneg_left hg' (by omega)
      omega
    omega

theorem one_step (n : Int) (d : Nat) (hd : 0 < d) (b : Int × Nat) (hb : 0 < b.2) (l : Nat) (hl : 0 < l) (hB : Best n d b l) (hco : Nat.gcd b.1.natAbs b.2 = 1) (u : Int) (hu : u = fl n d l ∨ u = fl n d l + 1) :
    stepN (.fraction (Q.of n d)) ⟨b.1, b.2⟩ (Q.of u l) = ⟨(nst n d b u l).1, (nst n d b u l).2⟩ ∧ 0 < (nst n d b u l).2 ∧ Nat.gcd (nst n d b u l).1.natAbs (nst n d b u l).2 = 1 ∧
    far n d (nst n d b u l).1 (nst n d b u l).2 * b.2 ≤ far n d b.1 b.2 * (nst n d b u l).2 ∧ far n d (nst n d b u l).1 (nst n d b u l).2 * l ≤ far n d u l * (nst n d b u l).2 := by
  obtain ⟨g, hg, e1, e2, hx, eg⟩ := of_spec u l hl
  have hred := cand_red n d hd l hl u hu
  rw [step_frac n d hd ⟨b.1, b.2⟩ (Q.of u l) hb hx]
  have hfar : far n d u l = (off n d (Q.of u l)).natAbs * g := by
    unfold far off
    have e2' : (l : Int) = ((Q.of u l).d : Int) * g := by exact_mod_cast e2
    have : n * l - u * d = -(((Q.of u l).n * d - n * (Q.of u l).d) * g) := by
      conv => lhs; rw [e1, e2']
      generalize (Q.of u l).n = X
      generalize ((Q.of u l).d : Int) = Y
      grind
    rw [this, Int.natAbs_neg, Int.natAbs_mul]
    simp
  have hC : (far n d u l * b.2 < far n d b.1 b.2 * l) ↔ ((off n d (Q.of u l)).natAbs * b.2 < (off n d ⟨b.1, b.2⟩).natAbs * (Q.of u l).d) := by
    rw [hfar, ← far_off n d b.1 b.2]
    conv => lhs; rhs; rw [e2, ← Nat.mul_assoc]
    have : (off n d (Q.of u l)).natAbs * g * b.2 = (off n d (Q.of u l)).natAbs * b.2 * g := by
      rw [Nat.mul_assoc, Nat.mul_comm g, ← Nat.mul_assoc]
    rw [this]
    exact Nat.mul_lt_mul_right hg
  unfold nst
  by_cases c : far n d u l * b.2 < far n d b.1 b.2 * l
  · rw [if_pos c, if_pos (hC.mp c)]
    have hg1 : g = 1 := by
      rcases Nat.lt_or_ge 1 g with h | h
      · exfalso
        have hlt : (Q.of u l).d < l := by
          conv => rhs; rw [e2]
          exact (Nat.lt_mul_iff_one_lt_right hx).mpr h
        have h1 := hB (Q.of u l).d hx hlt (Q.of u l).n hred
        have c2 := hC.mp c
        rw [← far_off n d b.1 b.2] at c2
        rw [far_off n d (Q.of u l).n] at h1
        have h2 : far n d b.1 b.2 * (Q.of u l).d ≤ (off n d (Q.of u l)).natAbs * b.2 := h1
        omega
      · omega
    have hq : Q.of u l = ⟨u, l⟩ := of_coprime u l (by rw [← eg, hg1])
    refine ⟨hq, hl, by rw [← eg, hg1], Nat.le_of_lt c, Nat.le_refl _⟩
  · rw [if_neg c, if_neg (fun h => c (hC.mpr h))]
    exact ⟨rfl, hb, hco, Nat.le_refl _, by omega⟩

theorem far_trans {a1 a2 a3 b1 b2 b3 : Nat} (h2 : 0 < b2) (h : a1 * b2 ≤ a2 * b1) (h' : a2 * b3 ≤ a3 * b2) : a1 * b3 ≤ a3 * b1 := by
  have k1 : a1 * b2 * b3 ≤ a2 * b1 * b3 := Nat.mul_le_mul_right b3 h
  have k2 : a2 * b3 * b1 ≤ a3 * b2 * b1 := Nat.mul_le_mul_right b1 h'
  have e1 : a1 * b2 * b3 = a1 * b3 * b2 := by ac_rfl
  have e2 : a2 * b1 * b3 = a2 * b3 * b1 := by ac_rfl
  have e3 : a3 * b2 * b1 = a3 * b1 * b2 := by ac_rfl
  have : a1 * b3 * b2 ≤ a3 * b1 * b2 := by omega
  exact Nat.le_of_mul_le_mul_right this h2

theorem down_fl (n : Int) (d : Nat) (hd : 0 < d) (l : Nat) : (At.fraction (Q.of n d)).down l = fl n d l := by
  rw [fl_spec n d hd]
  obtain ⟨g, hg, e1, e2, hx, _⟩ := of_spec n d hd
  show (Q.of n d).n * l / ((Q.of n d).d : Int) * d ≤ n * l ∧ n * l < (Q.of n d).n * l / ((Q.of n d).d : Int) * d + d
  have e2' : (d : Int) = ((Q.of n d).d : Int) * g := by exact_mod_cast e2
  have hx' : (0 : Int) < ((Q.of n d).d : Int) := by omega
  have hg' : (0 : Int) < g := by omega
  have h1 := Int.mul_ediv_add_emod ((Q.of n d).n * l) ((Q.of n d).d : Int)
  have h2 := Int.emod_nonneg ((Q.of n d).n * l) (show ((Q.of n d).d : Int) ≠ 0 by omega)
  have h3 := Int.emod_lt_of_pos ((Q.of n d).n * l) hx'
  generalize (Q.of n d).n * l / ((Q.of n d).d : Int) = f at *
  have k1 : n * l - f * d = ((Q.of n d).n * l - ((Q.of n d).d : Int) * f) * g := by
    conv => lhs; rw [e1, e2']
    generalize (Q.of n d).n = X
    generalize ((Q.of n d).d : Int) = Y
    grind
  have k2 : 0 ≤ ((Q.of n d).n * l - ((Q.of n d).d : Int) * f) * g := Int.mul_nonneg (by omega) (by omega)
  have k3 : ((Q.of n d).n * l - ((Q.of n d).d : Int) * f) * g < ((Q.of n d).d : Int) * g := Int.mul_lt_mul_of_pos_right (by omega) hg'
  omega

theorem sim (n : Int) (d : Nat) (hd : 0 < d) : ∀ i, 
    (((List.range i).flatMap fun i => [Q.of ((At.fraction (Q.of n d)).down (i + 1)) (i + 1), Q.of ((At.fraction (Q.of n d)).down (i + 1) + 1) (i + 1)]).foldl (stepN (.fraction (Q.of n d))) (Q.of ((At.fraction (Q.of n d)).down 1) 1)
      = ⟨(nfold n d i).1, (nfold n d i).2⟩) ∧ 0 < (nfold n d i).2 ∧ Nat.gcd (nfold n d i).1.natAbs (nfold n d i).2 = 1 ∧ Best n d (nfold n d i) (i + 1) := by
  intro i
  induction i with
  | zero =>
    refine ⟨?_, (by show 0 < 1; decide), Nat.gcd_one_right _, fun l' h1 h2 => by omega⟩
    simp only [List.range_zero, List.flatMap_nil, List.foldl_nil, down_fl n d hd]
    rw [of_coprime _ _ (Nat.gcd_one_right _)]
    unfold fl nfold
    simp
  | succ i ih =>
    obtain ⟨h1, h2, h3, h4⟩ := ih
    rw [List.range_succ, List.flatMap_append, List.foldl_append, h1]
    simp only [List.flatMap_cons, List.flatMap_nil, List.append_nil, List.foldl_cons, List.foldl_nil, down_fl n d hd]
    generalize hbb : nfold n d i = b at *
    have hB1 : Best n d b (i + 1) := h4
    obtain ⟨s1, s2, s3, s4, s5⟩ := one_step n d hd b h2 (i + 1) (by omega) hB1 h3 (fl n d (i + 1)) (.inl rfl)
    show stepN (.fraction (Q.of n d)) (stepN (.fraction (Q.of n d)) ⟨b.1, b.2⟩ (Q.of (fl n d (i + 1)) (i + 1))) (Q.of (fl n d (i + 1) + 1) (i + 1)) = _ ∧ _
    rw [s1]
    generalize hb1 : nst n d b (fl n d (i + 1)) (i + 1) = b1 at *
    have hB2 : Best n d b1 (i + 1) := fun l' h5 h6 u hu => far_trans h2 s4 (hB1 l' h5 h6 u hu)
    obtain ⟨r1, r2, r3, r4, r5⟩ := one_step n d hd b1 s2 (i + 1) (by omega) hB2 s3 (fl n d (i + 1) + 1) (.inr rfl)
    rw [r1]
    have e : nfold n d (i + 1) = nst n d b1 (fl n d (i + 1) + 1) (i + 1) := by
      rw [← hb1, ← hbb]
      rfl
    rw [e]
    refine ⟨rfl, r2, r3, fun l' h5 h6 u hu => ?_⟩
    rcases Nat.lt_or_ge l' (i + 1) with h7 | h7
    · exact far_trans s2 r4 (hB2 l' h5 h7 u hu)
    · have : l' = i + 1 := by omega
      subst this
      rcases hu with rfl | rfl
      · exact far_trans s2 r4 s5
      · exact r5

/-- **The nearest is what the program's search comes to.** -/
theorem near_frac (n : Int) (d m : Nat) (hd : 0 < d) : At.near (.fraction (Q.of n d)) m = ⟨(nfold n d m).1, (nfold n d m).2⟩ := by
  rw [near_eq]
  exact (sim n d hd m).1
end CN

namespace CN
open Re03

/-! ## nearness to a root, over a common number below -/
theorem sq_lt {a b : Int} (ha : 0 ≤ a) (hb : 0 ≤ b) : a * a < b * b ↔ a < b := by
  constructor
  · intro h
    rcases Int.lt_or_le a b with hc | hc
    · exact hc
    · have := Int.mul_le_mul hc hc hb ha
      omega
  · intro h
    have h1 : a * a ≤ a * b := Int.mul_le_mul_of_nonneg_left (Int.le_of_lt h) ha
    have h2 : a * b < b * b := Int.mul_lt_mul_of_pos_right h (by omega)
    omega
theorem sq_le {a b : Int} (ha : 0 ≤ a) (hb : 0 ≤ b) : a * a ≤ b * b ↔ a ≤ b := by
  have := sq_lt hb ha
  omega

/-- x is nearer to the half of the root of t than y -/
def N (t x y : Int) : Prop := (x < y ∧ t < (x + y) * (x + y)) ∨ (y < x ∧ (x + y) * (x + y) < t)

theorem N_irr (t x : Int) : ¬ N t x x := by
  unfold N; omega

theorem N_trans {t x y z : Int} (hx : 0 ≤ x) (hy : 0 ≤ y) (hz : 0 ≤ z) (h : N t x y) (h' : N t y z) : N t x z := by
  have lt1 : ∀ {a b : Int}, 0 ≤ a → 0 ≤ b → a < b → a * a < b * b := fun ha hb h => (sq_lt ha hb).mpr h
  rcases h with ⟨h1, h2⟩ | ⟨h1, h2⟩ <;> rcases h' with ⟨h3, h4⟩ | ⟨h3, h4⟩
  · left
    have := lt1 (a := x + y) (b := x + z) (by omega) (by omega) (by omega)
    exact ⟨by omega, by omega⟩
  · right
    have h5 : y + z < x + y := (sq_lt (by omega) (by omega)).mp (by omega)
    have := lt1 (a := x + z) (b := y + z) (by omega) (by omega) (by omega)
    exact ⟨by omega, by omega⟩
  · left
    have h5 : x + y < y + z := (sq_lt (by omega) (by omega)).mp (by omega)
    have := lt1 (a := y + z) (b := x + z) (by omega) (by omega) (by omega)
    exact ⟨by omega, by omega⟩
  · right
    have := lt1 (a := x + z) (b := x + y) (by omega) (by omega) (by omega)
    exact ⟨by omega, by omega⟩

theorem lt_scale {a b c : Int} (hc : 0 < c) : a * c < b * c ↔ a < b :=
  ⟨fun h => Int.lt_of_mul_lt_mul_right h (Int.le_of_lt hc), fun h => Int.mul_lt_mul_of_pos_right h hc⟩

theorem N_scale {t x y c : Int} (hc : 0 < c) : N (t * (c * c)) (x * c) (y * c) ↔ N t x y := by
  unfold N
  have e : (x * c + y * c) * (x * c + y * c) = (x + y) * (x + y) * (c * c) := by grind
  have hcc : 0 < c * c := Int.mul_pos hc hc
  rw [e, lt_scale hc, lt_scale hc, lt_scale hcc, lt_scale hcc]

/-- u / l is nearer to n's root than b -/
def rn (n : Nat) (u : Int) (l : Nat) (b : Int × Nat) : Prop := N (4 * (n : Int) * ((l : Int) * b.2) * ((l : Int) * b.2)) (u * b.2) (b.1 * l)

/-- as the program reckons it -/
theorem rn_iff (n : Nat) (u : Int) (l : Nat) (b : Int × Nat) :
    ((u * b.2 - b.1 * l) * ((u * b.2 + b.1 * l) * (u * b.2 + b.1 * l) - n * (2 * l * b.2) * (2 * l * b.2)) < 0) ↔ rn n u l b := by
  unfold rn N
  have e : (n : Int) * (2 * l * b.2) * (2 * l * b.2) = 4 * (n : Int) * ((l : Int) * b.2) * ((l : Int) * b.2) := by grind
  rw [e]
  generalize 4 * (n : Int) * ((l : Int) * b.2) * ((l : Int) * b.2) = t
  generalize u * (b.2 : Int) = x
  generalize b.1 * (l : Int) = y
  generalize (x + y) * (x + y) = s
  constructor
  · intro h
    rcases Int.lt_trichotomy x y with hc | hc | hc
    · left
      refine ⟨hc, ?_⟩
      rcases Int.lt_or_le t s with hd | hd
      · exact hd
      · have := Int.mul_nonneg_of_nonpos_of_nonpos (show x - y ≤ 0 by omega) (show s - t ≤ 0 by omega)
        omega
    · rw [hc, Int.sub_self, Int.zero_mul] at h
      omega
    · right
      refine ⟨hc, ?_⟩
      rcases Int.lt_or_le s t with hd | hd
      · exact hd
      · have := Int.mul_nonneg (show 0 ≤ x - y by omega) (show 0 ≤ s - t by omega)
        omega
  · rintro (⟨h1, h2⟩ | ⟨h1, h2⟩)
    · exact Int.mul_neg_of_neg_of_pos (by omega) (by omega)
    · exact Int.mul_neg_of_pos_of_neg (by omega) (by omega)

theorem rn_trans {n : Nat} {u v : Int} {l k : Nat} {b : Int × Nat} (hu : 0 ≤ u) (hv : 0 ≤ v) (hb : 0 ≤ b.1) (hl : 0 < l) (hk : 0 < k) (hb2 : 0 < b.2)
    (h : rn n u l (v, k)) (h' : rn n v k b) : rn n u l b := by
  unfold rn at *
  dsimp only at h
  have hl' : (0 : Int) < l := by omega
  have hk' : (0 : Int) < k := by omega
  have hb2' : (0 : Int) < b.2 := by omega
  rw [← N_scale hb2'] at h
  rw [← N_scale hl'] at h'
  rw [← N_scale hk']
  have e1 : 4 * (n : Int) * ((l : Int) * k) * ((l : Int) * k) * ((b.2 : Int) * b.2) = 4 * (n : Int) * ((l : Int) * b.2) * ((l : Int) * b.2) * ((k : Int) * k) := by grind
  have e2 : 4 * (n : Int) * ((k : Int) * b.2) * ((k : Int) * b.2) * ((l : Int) * l) = 4 * (n : Int) * ((l : Int) * b.2) * ((l : Int) * b.2) * ((k : Int) * k) := by grind
  have e3 : u * k * b.2 = u * b.2 * k := by grind
  have e4 : v * (b.2 : Int) * l = v * l * b.2 := by grind
  have e5 : b.1 * (k : Int) * l = b.1 * l * k := by grind
  rw [e1, e3] at h
  rw [e2, e4, e5] at h'
  refine N_trans (y := v * l * b.2) ?_ ?_ ?_ h h'
  · exact Int.mul_nonneg (Int.mul_nonneg hu (by omega)) (by omega)
  · exact Int.mul_nonneg (Int.mul_nonneg hv (by omega)) (by omega)
  · exact Int.mul_nonneg (Int.mul_nonneg hb (by omega)) (by omega)

theorem rn_irr (n : Nat) (u : Int) (l : Nat) : ¬ rn n u l (u, l) := N_irr _ _

theorem rn_red {n : Nat} {u : Int} {l g : Nat} {b : Int × Nat} (hg : 0 < g) : rn n (u * g) (l * g) b ↔ rn n u l b := by
  unfold rn
  have hg' : (0 : Int) < g := by omega
  have k := N_scale (t := 4 * (n : Int) * ((l : Int) * b.2) * ((l : Int) * b.2)) (x := u * b.2) (y := b.1 * l) (c := (g : Int)) hg'
  have e1 : 4 * (n : Int) * ((l : Int) * b.2) * ((l : Int) * b.2) * ((g : Int) * g) = 4 * (n : Int) * (((l * g : Nat) : Int) * b.2) * (((l * g : Nat) : Int) * b.2) := by push_cast; grind
  have e2 : u * g * b.2 = u * (b.2 : Int) * g := by grind
  have e3 : b.1 * ((l * g : Nat) : Int) = b.1 * l * g := by push_cast; grind
  rw [e1, ← e2, ← e3] at k
  exact k

/-- the specification's step -/
theorem step_root (n : Nat) (best x : Q) (hb : 0 < best.d) (hx : 0 < x.d) (hb0 : 0 ≤ best.n) (hx0 : 0 ≤ x.n)
    (H : CR.Base n ∨ best.n * best.n = n * best.d * best.d) [Decidable (rn n x.n x.d (best.n, best.d))] :
    stepN (.root n) best x = if rn n x.n x.d (best.n, best.d) then x else best := by
  have hb' : (0 : Int) < best.d := by omega
  have hx' : (0 : Int) < x.d := by omega
  have hw : (0 : Int) < (x.d : Int) * best.d := Int.mul_pos hx' hb'
  have sb : (At.root n).sign best.n best.d = sgn (best.n * best.n - n * best.d * best.d) := by
    show (if best.n < 0 then -1 else _) = _
    rw [if_neg (by omega)]
  have sx : (At.root n).sign x.n x.d = sgn (x.n * x.n - n * x.d * x.d) := by
    show (if x.n < 0 then -1 else _) = _
    rw [if_neg (by omega)]
  have eX : (x.n * best.d) * (x.n * best.d) = x.n * x.n * (best.d * best.d) := by grind
  have eY : (best.n * x.d) * (best.n * x.d) = best.n * best.n * (x.d * x.d) := by grind
  have eT1 : (n : Int) * ((x.d : Int) * best.d) * ((x.d : Int) * best.d) = n * x.d * x.d * (best.d * best.d) := by grind
  have eT2 : (n : Int) * ((x.d : Int) * best.d) * ((x.d : Int) * best.d) = n * best.d * best.d * (x.d * x.d) := by grind
  have hX0 : 0 ≤ x.n * best.d := Int.mul_nonneg hx0 (by omega)
  have hY0 : 0 ≤ best.n * x.d := Int.mul_nonneg hb0 (by omega)
  have low1 : (At.root n).lower x best = (decide (0 ≤ x.n * best.d + best.n * x.d) && decide (4 * (n : Int) * ((x.d : Int) * best.d) * ((x.d : Int) * best.d) ≤ (x.n * best.d + best.n * x.d) * (x.n * best.d + best.n * x.d))) := by
    show (decide _ && decide _) = _
    push_cast
    rfl
  have low2 : (At.root n).lower best x = (decide (0 ≤ x.n * best.d + best.n * x.d) && decide (4 * (n : Int) * ((x.d : Int) * best.d) * ((x.d : Int) * best.d) ≤ (x.n * best.d + best.n * x.d) * (x.n * best.d + best.n * x.d))) := by
    show (decide _ && decide _) = _
    push_cast
    have c1 : best.n * (x.d : Int) + x.n * best.d = x.n * best.d + best.n * x.d := Int.add_comm _ _
    have c2 : (best.d : Int) * x.d = x.d * best.d := Int.mul_comm _ _
    simp only [c1, c2]
  have hns : CR.Base n → 4 * (n : Int) * ((x.d : Int) * best.d) * ((x.d : Int) * best.d) ≠ (x.n * best.d + best.n * x.d) * (x.n * best.d + best.n * x.d) := by
    intro hB he
    have hB2 := CR.base_mul n (2 * (x.d * best.d)) (Nat.mul_pos (by decide) (Nat.mul_pos hx hb)) hB
    refine CR.nsq _ hB2 (x.n * best.d + best.n * x.d) ?_
    rw [← he]
    push_cast
    generalize (x.d : Int) * best.d = w
    grind
  have e4 : 4 * (n : Int) * ((x.d : Int) * best.d) * ((x.d : Int) * best.d) = 4 * ((n : Int) * ((x.d : Int) * best.d) * ((x.d : Int) * best.d)) := by grind
  unfold stepN
  dsimp only
  rw [sb, sx, low1, low2]
  have congr_if : ∀ {p : Prop} [Decidable p] {c : Bool}, (c = true ↔ p) → (if c = true then x else best) = if p then x else best := by
    intro p _ c h
    by_cases hp : p
    · rw [if_pos hp, if_pos (h.mpr hp)]
    · rw [if_neg hp, if_neg (fun e => hp (h.mp e))]
  apply congr_if
  clear congr_if
  unfold rn N
  dsimp only
  simp only [e4] at hns ⊢
  have hbb : (0 : Int) < best.d * best.d := Int.mul_pos hb' hb'
  have hxx : (0 : Int) < x.d * x.d := Int.mul_pos hx' hx'
  -- signs over the common number below
  have sgx : ∀ z : Int, (x.n * x.n - n * x.d * x.d) * (best.d * best.d) = (x.n * best.d) * (x.n * best.d) - (n : Int) * ((x.d : Int) * best.d) * ((x.d : Int) * best.d) := by intro _; rw [eX, eT1, Int.sub_mul]
  have sgb : ∀ z : Int, (best.n * best.n - n * best.d * best.d) * (x.d * x.d) = (best.n * x.d) * (best.n * x.d) - (n : Int) * ((x.d : Int) * best.d) * ((x.d : Int) * best.d) := by intro _; rw [eY, eT2, Int.sub_mul]
  have g1 : sgn (x.n * x.n - n * x.d * x.d) = sgn ((x.n * best.d) * (x.n * best.d) - (n : Int) * ((x.d : Int) * best.d) * ((x.d : Int) * best.d)) := by rw [← sgx 0, sgn_mul hbb]
  have g2 : sgn (best.n * best.n - n * best.d * best.d) = sgn ((best.n * x.d) * (best.n * x.d) - (n : Int) * ((x.d : Int) * best.d) * ((x.d : Int) * best.d)) := by rw [← sgb 0, sgn_mul hxx]
  have H' : CR.Base n ∨ (best.n * x.d) * (best.n * x.d) - (n : Int) * ((x.d : Int) * best.d) * ((x.d : Int) * best.d) = 0 := by
    rcases H with h | h
    · exact .inl h
    · right
      rw [← sgb 0, h, Int.sub_self, Int.zero_mul]
  rw [g1, g2]
  clear g1 g2 sgx sgb eX eY eT1 eT2 sb sx low1 low2 e4 H
  generalize (n : Int) * ((x.d : Int) * best.d) * ((x.d : Int) * best.d) = t at *
  generalize x.n * (best.d : Int) = X at *
  generalize best.n * (x.d : Int) = Y at *
  have h0 : (0 : Int) ≤ X + Y := by omega
  have eS : ∀ z : Int, 4 * (z * z) = (z + z) * (z + z) := by intro z; grind
  have cmp : ∀ {a b : Int}, 0 ≤ a → 0 ≤ b → a * a ≤ b * b → a ≤ b := fun ha hb h => (sq_le ha hb).mp h
  have sq : ∀ {a b : Int}, 0 ≤ a → 0 ≤ b → a < b → a * a < b * b := fun ha hb h => (sq_lt ha hb).mpr h
  rcases Int.lt_trichotomy (Y * Y - t) 0 with hP | hP | hP
  · rw [sgn_neg hP]
    rcases Int.lt_trichotomy (X * X - t) 0 with hp | hp | hp
    · rw [sgn_neg hp]
      simp only [Int.reduceNeg, Int.reduceEq, Int.reduceLT, reduceIte, decide_eq_true_eq]
      constructor
      · intro h
        have := sq (a := X + Y) (b := X + X) h0 (by omega) (by omega)
        have := eS X
        exact .inr ⟨h, by omega⟩
      · rintro (⟨h1, h2⟩ | ⟨h1, _⟩)
        · have := sq (a := X + Y) (b := Y + Y) h0 (by omega) (by omega)
          have := eS Y
          omega
        · exact h1
    · rw [hp, sgn_zero]
      simp only [Int.reduceNeg, Int.reduceEq, reduceIte, true_iff]
      have h1 : Y < X := (sq_lt hY0 hX0).mp (by omega)
      have := sq (a := X + Y) (b := X + X) h0 (by omega) (by omega)
      have := eS X
      exact .inr ⟨h1, by omega⟩
    · rw [sgn_pos hp]
      have h1 : Y < X := (sq_lt hY0 hX0).mp (by omega)
      simp only [Int.reduceNeg, Int.reduceEq, Int.reduceLT, reduceIte, Bool.not_eq_true', Bool.and_eq_false_iff, decide_eq_false_iff_not]
      constructor
      · rintro (h | h)
        · exact absurd h0 h
        · exact .inr ⟨h1, by omega⟩
      · rintro (⟨h2, _⟩ | ⟨_, h2⟩)
        · omega
        · exact .inr (by omega)
  · rw [hP, sgn_zero]
    simp only [reduceIte, Bool.false_eq_true, false_iff]
    have := eS Y
    rintro (⟨h1, h2⟩ | ⟨h1, h2⟩)
    · have := sq (a := X + Y) (b := Y + Y) h0 (by omega) (by omega)
      omega
    · have := sq (a := Y + Y) (b := X + Y) (by omega) h0 (by omega)
      omega
  · rw [sgn_pos hP]
    have hB : CR.Base n := by
      rcases H' with h | h
      · exact h
      · omega
    have hne := hns hB
    rcases Int.lt_trichotomy (X * X - t) 0 with hp | hp | hp
    · rw [sgn_neg hp]
      have h1 : X < Y := (sq_lt hX0 hY0).mp (by omega)
      simp only [Int.reduceNeg, Int.reduceEq, Int.reduceLT, reduceIte, Bool.and_eq_true, Bool.not_false, decide_eq_true_eq, and_true]
      constructor
      · rintro ⟨_, h⟩
        exact .inl ⟨h1, by omega⟩
      · rintro (⟨_, h2⟩ | ⟨h2, _⟩)
        · exact ⟨h0, by omega⟩
        · omega
    · rw [hp, sgn_zero]
      simp only [Int.reduceEq, reduceIte, true_iff]
      have h1 : X < Y := (sq_lt hX0 hY0).mp (by omega)
      have := sq (a := X + X) (b := X + Y) (by omega) h0 (by omega)
      have := eS X
      exact .inl ⟨h1, by omega⟩
    · rw [sgn_pos hp]
      simp only [Int.reduceEq, Int.reduceLT, reduceIte, decide_eq_true_eq]
      constructor
      · intro h
        have := sq (a := X + X) (b := X + Y) (by omega) h0 (by omega)
        have := eS X
        exact .inl ⟨h, by omega⟩
      · rintro (⟨h1, _⟩ | ⟨h1, h2⟩)
        · exact h1
        · have := sq (a := Y + Y) (b := X + Y) (by omega) h0 (by omega)
          have := eS Y
          omega

/-! ## the search as the program has it -/
open Classical in
noncomputable def rst (n : Nat) (b : Int × Nat) (u : Int) (l : Nat) : Int × Nat := if rn n u l b then (u, l) else b
def rfl' (n : Nat) (l : Nat) : Int := (Re03.root (n * l * l) : Int)
noncomputable def rfold (n : Nat) : Nat → Int × Nat
  | 0 => ((Re03.root n : Int), 1)
  | i + 1 => rst n (rst n (rfold n i) (rfl' n (i + 1)) (i + 1)) (rfl' n (i + 1) + 1) (i + 1)

def RBest (n : Nat) (b : Int × Nat) (l : Nat) : Prop := ∀ l', 0 < l' → l' < l → ∀ u, (u = rfl' n l' ∨ u = rfl' n l' + 1) → ¬ rn n u l' b

theorem rfl_nn (n l : Nat) : 0 ≤ rfl' n l := Int.natCast_nonneg _
theorem rfl_spec (n l : Nat) : rfl' n l * rfl' n l ≤ n * l * l ∧ (n : Int) * l * l < (rfl' n l + 1) * (rfl' n l + 1) := by
  obtain ⟨h1, h2⟩ := CR.root_spec (n * l * l)
  unfold rfl'
  constructor
  · exact_mod_cast h1
  · exact_mod_cast h2
theorem rfl_uniq (n l : Nat) (u : Int) (h0 : 0 ≤ u) (h1 : u * u ≤ n * l * l) (h2 : (n : Int) * l * l < (u + 1) * (u + 1)) : u = rfl' n l := by
  obtain ⟨h3, h4⟩ := rfl_spec n l
  have h5 := rfl_nn n l
  have a : u < rfl' n l + 1 := (sq_lt h0 (by omega)).mp (by omega)
  have b : rfl' n l < u + 1 := (sq_lt h5 (by omega)).mp (by omega)
  omega

theorem rcand_red (n : Nat) (l : Nat) (hl : 0 < l) (u : Int) (hu : u = rfl' n l ∨ u = rfl' n l + 1) :
    0 ≤ (Q.of u l).n ∧ ((Q.of u l).n = rfl' n (Q.of u l).d ∨ (Q.of u l).n = rfl' n (Q.of u l).d + 1) := by
  obtain ⟨g, hg, e1, e2, hx, _⟩ := of_spec u l hl
  have hnn := rfl_nn n l
  obtain ⟨s1, s2⟩ := rfl_spec n l
  have hg' : (1 : Int) ≤ g := by omega
  generalize hX : (Q.of u l).n = X at *
  generalize hY : (Q.of u l).d = Y at *
  have e2' : (l : Int) = (Y : Int) * g := by exact_mod_cast e2
  have hgg : (0 : Int) < (g : Int) * g := Int.mul_pos (by omega) (by omega)
  have hX0 : 0 ≤ X := by
    have : 0 ≤ X * g := by omega
    exact Int.nonneg_of_mul_nonneg_left this (by omega)
  have eD : (n : Int) * l * l = n * Y * Y * ((g : Int) * g) := by rw [e2']; grind
  rw [eD] at s1 s2
  refine ⟨hX0, ?_⟩
  rcases hu with hu | hu
  · left
    rw [← hu] at s1 s2
    rw [e1] at s1 s2
    apply rfl_uniq n Y X hX0
    · have : X * g * (X * g) = X * X * ((g : Int) * g) := by grind
      rw [this] at s1
      exact Int.le_of_mul_le_mul_right s1 hgg
    · have h1 : X * g + 1 ≤ (X + 1) * g := by rw [Int.add_mul]; omega
      have h0 : 0 ≤ X * g := Int.mul_nonneg hX0 (by omega)
      have h2 := (sq_le (show (0 : Int) ≤ X * g + 1 by omega) (show 0 ≤ (X + 1) * g by omega)).mpr h1
      have h3 : (X + 1) * g * ((X + 1) * g) = (X + 1) * (X + 1) * ((g : Int) * g) := by grind
      rw [h3] at h2
      exact Int.lt_of_mul_lt_mul_right (Int.lt_of_lt_of_le s2 h2) (Int.le_of_lt hgg)
  · right
    have hu' : rfl' n l = X * g - 1 := by omega
    rw [hu'] at s1 s2
    have hX1 : 1 ≤ X := by
      rcases Int.lt_or_le 0 X with h | h
      · omega
      · have : X = 0 := by omega
        subst this
        omega
    have goal : X - 1 = rfl' n Y := by
      apply rfl_uniq n Y (X - 1) (by omega)
      · have h1 : (X - 1) * g ≤ X * g - 1 := by rw [Int.sub_mul]; omega
        have h0 : 0 ≤ (X - 1) * g := Int.mul_nonneg (by omega) (by omega)
        have h2 := (sq_le h0 (show (0 : Int) ≤ X * g - 1 by omega)).mpr h1
        have h3 : (X - 1) * g * ((X - 1) * g) = (X - 1) * (X - 1) * ((g : Int) * g) := by grind
        rw [h3] at h2
        exact Int.le_of_mul_le_mul_right (Int.le_trans h2 s1) hgg
      · have h1 : X * g - 1 + 1 = X * g := by omega
        have h2 : X - 1 + 1 = X := by omega
        rw [h1] at s2
        rw [h2]
        have h3 : X * g * (X * g) = X * X * ((g : Int) * g) := by grind
        rw [h3] at s2
        exact Int.lt_of_mul_lt_mul_right s2 (Int.le_of_lt hgg)
    omega

/-- what the search carries -/
structure RI (n : Nat) (b : Int × Nat) : Prop where
  nn : 0 ≤ b.1
  pos : 0 < b.2
  co : Nat.gcd b.1.natAbs b.2 = 1
  sq : CR.Base n ∨ b.1 * b.1 = n * b.2 * b.2

theorem rone_step (n : Nat) (b : Int × Nat) (hI : RI n b) (l : Nat) (hl : 0 < l) (hB : RBest n b l) (u : Int) (hu : u = rfl' n l ∨ u = rfl' n l + 1) :
    stepN (.root n) ⟨b.1, b.2⟩ (Q.of u l) = ⟨(rst n b u l).1, (rst n b u l).2⟩ ∧ RI n (rst n b u l) ∧ RBest n (rst n b u l) l ∧
    ¬ rn n u l (rst n b u l) ∧ (∀ v k, 0 ≤ v → 0 < k → ¬ rn n v k b → ¬ rn n v k (rst n b u l)) := by
  obtain ⟨g, hg, e1, e2, hx, eg⟩ := of_spec u l hl
  obtain ⟨hn0, hred⟩ := rcand_red n l hl u hu
  have hu0 : 0 ≤ u := by have := rfl_nn n l; omega
  have hC : rn n u l b ↔ rn n (Q.of u l).n (Q.of u l).d b := by
    have k := @rn_red n (Q.of u l).n (Q.of u l).d g b hg
    rw [← e1, ← e2] at k
    exact k
  have hst := Classical.propDecidable (rn n (Q.of u l).n (Q.of u l).d (b.1, b.2))
  have hs := step_root n ⟨b.1, b.2⟩ (Q.of u l) hI.pos hx hI.nn hn0 hI.sq
  rw [hs]
  by_cases c : rn n u l b
  · have er : rst n b u l = (u, l) := by unfold rst; rw [if_pos c]
    rw [er, if_pos (hC.mp c)]
    have hg1 : g = 1 := by
      rcases Nat.lt_or_ge 1 g with h | h
      · exfalso
        have hlt : (Q.of u l).d < l := by
          conv => rhs; rw [e2]
          exact (Nat.lt_mul_iff_one_lt_right hx).mpr h
        exact hB _ hx hlt _ hred (hC.mp c)
      · omega
    have hq : Q.of u l = ⟨u, l⟩ := of_coprime u l (by rw [← eg, hg1])
    have hbase : CR.Base n := by
      rcases hI.sq with h | h
      · exact h
      · exfalso
        -- nothing is nearer than the root itself
        unfold rn N at c
        have e3 : 4 * (n : Int) * ((l : Int) * b.2) * ((l : Int) * b.2) = (b.1 * l + b.1 * l) * (b.1 * l + b.1 * l) := by
          have : 4 * (n : Int) * ((l : Int) * b.2) * ((l : Int) * b.2) = 4 * (n * b.2 * b.2) * (l * l) := by grind
          rw [this, ← h]
          grind
        rw [e3] at c
        have h1 : 0 ≤ u * (b.2 : Int) := Int.mul_nonneg hu0 (by omega)
        have h2 : 0 ≤ b.1 * (l : Int) := Int.mul_nonneg hI.nn (by omega)
        rcases c with ⟨c1, c2⟩ | ⟨c1, c2⟩
        · have := (sq_lt (by omega) (by omega)).mp c2
          omega
        · have := (sq_lt (by omega) (by omega)).mp c2
          omega
    have tr : ∀ v k, 0 ≤ v → 0 < k → ¬ rn n v k b → ¬ rn n v k (u, l) := fun v k hv hk h h' => h (rn_trans hv hu0 hI.nn hk hl hI.pos h' c)
    refine ⟨hq, ⟨hu0, hl, by rw [← eg, hg1], .inl hbase⟩, fun l' h1 h2 v hv => ?_, rn_irr n u l, tr⟩
    exact tr v l' (by have := rfl_nn n l'; omega) h1 (hB l' h1 h2 v hv)
  · have er : rst n b u l = b := by unfold rst; rw [if_neg c]
    rw [er, if_neg (fun h => c (hC.mpr h))]
    exact ⟨rfl, hI, hB, c, fun _ _ _ _ h => h⟩

theorem rsim (n : Nat) : ∀ i,
    (((List.range i).flatMap fun i => [Q.of ((At.root n).down (i + 1)) (i + 1), Q.of ((At.root n).down (i + 1) + 1) (i + 1)]).foldl (stepN (.root n)) (Q.of ((At.root n).down 1) 1)
      = ⟨(rfold n i).1, (rfold n i).2⟩) ∧ RI n (rfold n i) ∧ RBest n (rfold n i) (i + 1) := by
  intro i
  induction i with
  | zero =>
    refine ⟨?_, ⟨?_, ?_, Nat.gcd_one_right _, ?_⟩, fun l' h1 h2 => by omega⟩
    · simp only [List.range_zero, List.flatMap_nil, List.foldl_nil]
      rw [of_coprime _ _ (Nat.gcd_one_right _)]
      show (⟨((Re03.root (n * 1 * 1) : Nat) : Int), 1⟩ : Q) = ⟨((Re03.root n : Nat) : Int), 1⟩
      rw [Nat.mul_one, Nat.mul_one]
    · exact Int.natCast_nonneg _
    · show 0 < 1
      decide
    · by_cases h : Re03.root n * Re03.root n = n
      · right
        show ((Re03.root n : Nat) : Int) * ((Re03.root n : Nat) : Int) = n * ((1 : Nat) : Int) * ((1 : Nat) : Int)
        rw [Int.natCast_one, Int.mul_one, Int.mul_one]
        exact_mod_cast h
      · exact .inl ⟨h⟩
  | succ i ih =>
    obtain ⟨h1, h2, h4⟩ := ih
    rw [List.range_succ, List.flatMap_append, List.foldl_append, h1]
    simp only [List.flatMap_cons, List.flatMap_nil, List.append_nil, List.foldl_cons, List.foldl_nil]
    have ed : (At.root n).down (i + 1) = rfl' n (i + 1) := rfl
    rw [ed]
    have e : rfold n (i + 1) = rst n (rst n (rfold n i) (rfl' n (i + 1)) (i + 1)) (rfl' n (i + 1) + 1) (i + 1) := rfl
    rw [e]
    generalize rfold n i = b at *
    obtain ⟨s1, s2, s3, s4, s5⟩ := rone_step n b h2 (i + 1) (by omega) h4 (rfl' n (i + 1)) (.inl rfl)
    rw [s1]
    generalize rst n b (rfl' n (i + 1)) (i + 1) = b1 at *
    obtain ⟨r1, r2, r3, r4, r5⟩ := rone_step n b1 s2 (i + 1) (by omega) s3 (rfl' n (i + 1) + 1) (.inr rfl)
    rw [r1]
    refine ⟨rfl, r2, fun l' h5 h6 u hu => ?_⟩
    rcases Nat.lt_or_ge l' (i + 1) with h7 | h7
    · exact r3 l' h5 h7 u hu
    · have : l' = i + 1 := by omega
      subst this
      rcases hu with rfl | rfl
      · exact r5 _ _ (rfl_nn n _) h5 s4
      · exact r4

/-- **The nearest to a root is what the program's search comes to.** -/
theorem near_root (n m : Nat) : At.near (.root n) m = ⟨(rfold n m).1, (rfold n m).2⟩ := by
  rw [near_eq]
  exact (rsim n m).1
end CN

namespace CB
open Re03
/-- the terms as the program finds them -/
def bt : Nat → Int → Int → Int → Int → List Int
  | 0, _, _, _, _ => []
  | f + 1, a, b, c, d => if (a / b + 1) * d < c then [a / b + 1] else a / b :: bt f d (c - a / b * d) b (a - a / b * b)

/-- two fractions, the first from 0 on, the second above it (or without end) -/
structure Ok (a b c d : Int) : Prop where
  a0 : 0 ≤ a
  b0 : 0 < b
  d0 : 0 ≤ d
  lt : a * d < c * b
  aM : a ≤ 1000000
  bM : b ≤ 1000000
  cM : c ≤ 1000000
  dM : d ≤ 1000000

theorem Ok.c0 {a b c d : Int} (h : Ok a b c d) : 0 < c := by
  have h1 : 0 ≤ a * d := Int.mul_nonneg h.a0 h.d0
  have h2 : 0 < c * b := by have := h.lt; omega
  exact Int.pos_of_mul_pos_left h2 h.b0

theorem Ok.q {a b c d : Int} (h : Ok a b c d) : 0 ≤ a - a / b * b ∧ a - a / b * b < b ∧ 0 ≤ a / b ∧ a / b ≤ 1000000 := by
  have h1 := Int.mul_ediv_add_emod a b
  have h2 := Int.emod_nonneg a (show b ≠ 0 by have := h.b0; omega)
  have h3 := Int.emod_lt_of_pos a h.b0
  have h4 : 0 ≤ a / b := Int.ediv_nonneg h.a0 (by have := h.b0; omega)
  have h5 : 1 * (a / b) ≤ b * (a / b) := Int.mul_le_mul_of_nonneg_right (by have := h.b0; omega) h4
  rw [Int.mul_comm] at h1
  have := h.aM
  rw [Int.mul_comm b] at h5
  omega

theorem Ok.next {a b c d : Int} (h : Ok a b c d) (hc : ¬ (a / b + 1) * d < c) :
    Ok d (c - a / b * d) b (a - a / b * b) ∧ (c - a / b * d) + (a - a / b * b) < b + d := by
  obtain ⟨q1, q2, q3, q4⟩ := h.q
  have e : (a / b + 1) * d = a / b * d + d := by rw [Int.add_mul, Int.one_mul]
  rw [e] at hc
  have hb := h.b0
  have hd := h.d0
  have hp : 0 < c - a / b * d := by
    have h1 : a / b * b * d ≤ a * d := Int.mul_le_mul_of_nonneg_right (by omega) h.d0
    have h2 := h.lt
    have h3 : 0 < (c - a / b * d) * b := by
      have : (c - a / b * d) * b = c * b - a / b * b * d := by grind
      omega
    exact Int.pos_of_mul_pos_left h3 hb
  have := h.bM
  have := h.dM
  refine ⟨⟨hd, hp, q1, ?_, by omega, by omega, by omega, by omega⟩, by omega⟩
  have h2 := h.lt
  have e1 : b * (c - a / b * d) - d * (a - a / b * b) = c * b - a * d := by grind
  omega

theorem bt_mem : ∀ (f : Nat) (a b c d : Int), Ok a b c d → ∀ x ∈ bt f a b c d, x.natAbs ≤ 1000001 := by
  intro f
  induction f with
  | zero => intro a b c d _ x hx; cases hx
  | succ f ih =>
    intro a b c d h x hx
    obtain ⟨q1, q2, q3, q4⟩ := h.q
    rw [bt] at hx
    split at hx
    · rw [List.mem_singleton] at hx
      omega
    · rename_i hc
      rcases List.mem_cons.mp hx with hx | hx
      · omega
      · exact ih _ _ _ _ (h.next hc).1 x hx

/-- **The specification's search finds the same.** -/
theorem bt_spec : ∀ (f : Nat) (a : Int) (b : Nat) (c : Int) (d : Nat), Ok a b c d → (b + d) < f →
    value (bt f a b c d) = ((between f a b c d).1, ((between f a b c d).2 : Int)) ∧ 0 < (value (bt f a b c d)).1 ∧ 0 < (value (bt f a b c d)).2 := by
  intro f
  induction f with
  | zero => intro a b c d _ h; omega
  | succ f ih =>
    intro a b c d h hf
    obtain ⟨q1, q2, q3, q4⟩ := h.q
    rw [bt, between]
    dsimp only
    by_cases hc : (a / (b : Int) + 1) * d < c
    · rw [if_pos hc, if_pos hc]
      simp only [value, Int.mul_one, Int.add_zero]
      exact ⟨rfl, by omega, by decide⟩
    · rw [if_neg hc, if_neg hc]
      obtain ⟨hn, hlt⟩ := h.next hc
      have e : a / (b : Int) + 1 - 1 = a / (b : Int) := by omega
      rw [e]
      have hp := hn.b0
      generalize he : a / (b : Int) = w at *
      by_cases hq : (a - w * b).toNat = 0
      · rw [if_pos hq]
        have hq' : a - w * b = 0 := by omega
        obtain ⟨g, rfl⟩ : ∃ g, f = g + 1 := ⟨f - 1, by have := h.b0; omega⟩
        have hb0 := h.b0
        rw [hq', bt, Int.mul_zero, if_pos hb0]
        simp only [value, Int.mul_one, Int.add_zero]
        have hk : 0 ≤ (d : Int) / (c - w * d) := Int.ediv_nonneg (by omega) (by omega)
        have e2 : (((d : Int) / (c - w * d) + 1).toNat : Int) = (d : Int) / (c - w * d) + 1 := by omega
        rw [e2]
        refine ⟨rfl, ?_, by show 0 < (d : Int) / (c - w * d) + 1; omega⟩
        have : 0 ≤ w * ((d : Int) / (c - w * d) + 1) := Int.mul_nonneg q3 (by omega)
        show 0 < w * ((d : Int) / (c - w * d) + 1) + 1
        omega
      · rw [if_neg hq]
        have ep : (((c - w * d).toNat : Nat) : Int) = c - w * d := by omega
        have eq : (((a - w * b).toNat : Nat) : Int) = a - w * b := by omega
        have := ih (d : Int) (c - w * d).toNat (b : Int) (a - w * b).toNat (by rw [ep, eq]; exact hn) (by omega)
        rw [ep, eq] at this
        obtain ⟨i1, i2, i3⟩ := this
        have e3 : value (w :: bt f d (c - w * d) b (a - w * b)) = (w * (value (bt f d (c - w * d) b (a - w * b))).1 + (value (bt f d (c - w * d) b (a - w * b))).2, (value (bt f d (c - w * d) b (a - w * b))).1) := rfl
        rw [e3]
        rw [i1] at i2 i3 ⊢
        generalize between f (d : Int) (c - w * d).toNat (b : Int) (a - w * b).toNat = r at *
        dsimp only at i2 i3 ⊢
        have e4 : ((r.1.toNat : Nat) : Int) = r.1 := by omega
        rw [e4]
        refine ⟨rfl, ?_, i2⟩
        show 0 < w * r.1 + (r.2 : Int)
        have h1 : 0 ≤ w * r.1 := Int.mul_nonneg q3 (by omega)
        omega
end CB

namespace CR
open Re03

/-! ## terms put one behind another -/
def second : List Int → Int × Int
  | [] => (0, 1)
  | a :: l => (a * (second l).1 + (second l).2, (second l).1)

theorem value_cons (a : Int) (l : List Int) : value (a :: l) = (a * (value l).1 + (value l).2, (value l).1) := rfl

theorem value_append (l r : List Int) : value (l ++ r) =
    ((value l).1 * (value r).1 + (second l).1 * (value r).2, (value l).2 * (value r).1 + (second l).2 * (value r).2) := by
  induction l with
  | nil => simp [value, second]
  | cons a l ih =>
    rw [List.cons_append, value_cons, ih, value_cons, second]
    simp only [Prod.mk.injEq, and_true]
    grind

theorem second_append (l r : List Int) : second (l ++ r) =
    ((value l).1 * (second r).1 + (second l).1 * (second r).2, (value l).2 * (second r).1 + (second l).2 * (second r).2) := by
  induction l with
  | nil => simp [value, second]
  | cons a l ih =>
    rw [List.cons_append, value_cons, second, ih, second]
    simp only [Prod.mk.injEq, and_true]
    grind

def sign (k : Nat) : Int := if k % 2 = 0 then 1 else -1
theorem sign_succ (k : Nat) : sign (k + 1) = -sign k := by
  unfold sign
  split <;> split <;> omega

theorem det (l : List Int) : (value l).1 * (second l).2 - (second l).1 * (value l).2 = sign l.length := by
  induction l with
  | nil => simp [value, second, sign]
  | cons a l ih =>
    rw [value_cons, second, List.length_cons, sign_succ, ← ih]
    grind

/-- the first k terms of a number -/
def lead (n : Nat) (k : Nat) : List Int := (List.range k).map fun i => (it n ⟨0, 1⟩ i).floor n
theorem lead_succ (n k : Nat) : lead n (k + 1) = lead n k ++ [(it n ⟨0, 1⟩ k).floor n] := by
  unfold lead
  rw [List.range_succ, List.map_append]
  rfl
theorem lead_len (n k : Nat) : (lead n k).length = k := by simp [lead]

theorem cancel_left {a b c : Int} (ha : a ≠ 0) (h : a * b = a * c) : b = c := Int.eq_of_mul_eq_mul_left ha h

/-- the fraction of the first terms against what is left -/
theorem lead_inv (n : Nat) (hb : Base n) : ∀ k,
    (value (lead n k)).1 = (value (lead n k)).2 * (it n ⟨0, 1⟩ k).p + (it n ⟨0, 1⟩ k).q * (second (lead n k)).2 ∧
    (n : Int) * (value (lead n k)).2 = (value (lead n k)).1 * (it n ⟨0, 1⟩ k).p + (it n ⟨0, 1⟩ k).q * (second (lead n k)).1 := by
  intro k
  induction k with
  | zero => simp [lead, value, second, it]
  | succ k ih =>
    obtain ⟨h1, h2⟩ := ih
    have hV := it_V n hb ⟨0, 1⟩ (V_root n) k
    have hm := next_mul n (it n ⟨0, 1⟩ k) hV
    have hq := hV.ne
    have ep : (it n ⟨0, 1⟩ (k + 1)).p = (it n ⟨0, 1⟩ k).floor n * (it n ⟨0, 1⟩ k).q - (it n ⟨0, 1⟩ k).p := rfl
    change (it n ⟨0, 1⟩ k).q * (it n ⟨0, 1⟩ (k + 1)).q = _ - (it n ⟨0, 1⟩ (k + 1)).p * (it n ⟨0, 1⟩ (k + 1)).p at hm
    rw [lead_succ, value_append, second_append]
    simp only [value, second, Int.mul_one, Int.mul_zero, Int.add_zero, Int.zero_add]
    generalize (it n ⟨0, 1⟩ k).floor n = a at *
    generalize (it n ⟨0, 1⟩ (k + 1)).p = P' at *
    generalize (it n ⟨0, 1⟩ (k + 1)).q = Q' at *
    generalize (it n ⟨0, 1⟩ k).p = P at *
    generalize (it n ⟨0, 1⟩ k).q = Q at *
    generalize (value (lead n k)).1 = x at *
    generalize (value (lead n k)).2 = y at *
    generalize (second (lead n k)).1 = u at *
    generalize (second (lead n k)).2 = v at *
    generalize (n : Int) = d at *
    constructor
    · apply cancel_left hq
      grind
    · apply cancel_left hq
      grind

/-! ## the ring of a root begins behind its first term -/
theorem root_pos (n : Nat) (hb : Base n) : 1 ≤ root n := by
  rcases Nat.eq_zero_or_pos (root n) with h | h
  · exfalso
    have h1 := (root_spec n).2
    have h2 := hb.ns
    rw [h] at h1 h2
    omega
  · exact h

theorem inv_root (n : Nat) (hb : Base n) (k : Nat) : Inv n (it n ⟨0, 1⟩ k) := by
  have hp := root_pos n hb
  apply inv_it n hb _ (V_root n)
  refine ⟨by show (0 : Int) < 1; decide, by show (0 : Int) ≤ _; omega, by show (1 : Int) ≤ 0 + _; omega⟩

theorem floor_ge (n : Nat) (x : Surd) (h : Inv n x) : 1 ≤ x.floor n := by
  unfold Surd.floor
  rw [if_pos h.pos, Int.le_ediv_iff_mul_le h.pos]
  have := h.big
  omega

theorem red_next (n : Nat) (hb : Base n) (x : Surd) (hv : V n x) (h : Inv n x) : (root n : Int) - (x.next n).p < (x.next n).q := by
  have ha := floor_ge n x h
  have hm := next_mul n x hv
  have hi := (inv_next n hb x hv h).hi
  have hlo := hb.lo
  have e : (x.next n).p = x.floor n * x.q - x.p := rfl
  have h3 : 1 * x.q ≤ x.floor n * x.q := Int.mul_le_mul_of_nonneg_right ha (Int.le_of_lt h.pos)
  have h4 := h.hi
  have h5 := h.pos
  rcases Int.lt_or_le ((root n : Int) - (x.next n).p) (x.next n).q with hc | hc
  · exact hc
  · exfalso
    have hp : 0 < (x.next n).q := (inv_next n hb x hv h).pos
    have k1 : x.q * (x.next n).q ≤ ((x.next n).p + root n) * ((root n : Int) - (x.next n).p) := Int.mul_le_mul (by omega) hc (Int.le_of_lt hp) (by omega)
    have k2 : ((x.next n).p + root n) * ((root n : Int) - (x.next n).p) = (root n : Int) * root n - (x.next n).p * (x.next n).p := by grind
    omega

theorem red_root (n : Nat) (hb : Base n) (k : Nat) : (root n : Int) - (it n ⟨0, 1⟩ (k + 1)).p < (it n ⟨0, 1⟩ (k + 1)).q :=
  red_next n hb _ (it_V n hb _ (V_root n) k) (inv_root n hb k)

theorem surd_ext {x y : Surd} (h1 : x.p = y.p) (h2 : x.q = y.q) : x = y := by
  cases x; cases y
  simp only at h1 h2
  rw [h1, h2]

theorem q_back (n : Nat) (hb : Base n) (x y : Surd) (hx : V n x) (hy : V n y) (h : x.next n = y.next n) : x.q = y.q := by
  have h1 := next_mul n x hx
  have h2 := next_mul n y hy
  have hne := (next_V n hb x hx).ne
  rw [← h, ← h1, Int.mul_comm y.q, Int.mul_comm x.q] at h2
  exact (Int.eq_of_mul_eq_mul_left hne h2).symm

theorem back (n : Nat) (hb : Base n) (x y : Surd) (hx : V n x) (hy : V n y) (ix : Inv n x) (iy : Inv n y)
    (rx : (root n : Int) - x.p < x.q) (ry : (root n : Int) - y.p < y.q) (h : x.next n = y.next n) : x = y := by
  have hq := q_back n hb x y hx hy h
  have hp : (x.next n).p = (y.next n).p := by rw [h]
  have e1 : (x.next n).p = x.floor n * x.q - x.p := rfl
  have e2 : (y.next n).p = y.floor n * y.q - y.p := rfl
  have a1 := ix.hi
  have a2 := iy.hi
  have a3 := ix.pos
  rw [← hq] at e2 ry
  refine surd_ext ?_ hq
  generalize x.floor n = a at *
  generalize y.floor n = b at *
  have e3 : (a - b) * x.q = x.p - y.p := by rw [Int.sub_mul]; omega
  rcases Int.lt_trichotomy a b with hc | hc | hc
  · have : (a - b) * x.q ≤ (-1) * x.q := Int.mul_le_mul_of_nonneg_right (by omega) (by omega)
    omega
  · subst hc
    rw [Int.sub_self, Int.zero_mul] at e3
    omega
  · have : 1 * x.q ≤ (a - b) * x.q := Int.mul_le_mul_of_nonneg_right (by omega) (by omega)
    omega

/-- **The ring of a root**: its length l, its last one -/
theorem root_ring (n : Nat) (hb : Base n) (j i : Nat) (hij : i < j) (he : it n ⟨0, 1⟩ i = it n ⟨0, 1⟩ j)
    (hd : ∀ a b, a < b → b < j → it n ⟨0, 1⟩ a ≠ it n ⟨0, 1⟩ b) :
    i = 1 ∧ (it n ⟨0, 1⟩ (j - 1)).q = 1 ∧ (it n ⟨0, 1⟩ (j - 1)).p = root n := by
  have hs := root_pos n hb
  have h0 : i ≠ 0 := by
    intro h
    subst h
    obtain ⟨m, rfl⟩ : ∃ m, j = m + 1 := ⟨j - 1, by omega⟩
    have := red_root n hb m
    rw [← he] at this
    change (root n : Int) - 0 < 1 at this
    omega
  have h1 : i = 1 := by
    rcases Nat.lt_or_ge 1 i with h | h
    · exfalso
      obtain ⟨a, rfl⟩ : ∃ a, i = a + 1 + 1 := ⟨i - 2, by omega⟩
      obtain ⟨b, rfl⟩ : ∃ b, j = b + 1 + 1 := ⟨j - 2, by omega⟩
      refine hd (a + 1) (b + 1) (by omega) (by omega) ?_
      exact back n hb _ _ (it_V n hb _ (V_root n) _) (it_V n hb _ (V_root n) _) (inv_root n hb _) (inv_root n hb _) (red_root n hb a) (red_root n hb b) he
    · omega
  subst h1
  obtain ⟨b, rfl⟩ : ∃ b, j = b + 1 + 1 := ⟨j - 2, by omega⟩
  have hq : (1 : Int) = (it n ⟨0, 1⟩ (b + 1)).q :=
    q_back n hb (it n ⟨0, 1⟩ 0) (it n ⟨0, 1⟩ (b + 1)) (V_root n) (it_V n hb _ (V_root n) _) he
  have e : b + 1 + 1 - 1 = b + 1 := by omega
  rw [e]
  refine ⟨rfl, hq.symm, ?_⟩
  have h2 := red_root n hb b
  have h3 := (inv_root n hb (b + 1)).hi
  omega

/-! ## the least pair -/
/-- what the terms of a root tell -/
structure Ring (n l : Nat) : Prop where
  pos : 0 < l
  base : Base n
  q : (it n ⟨0, 1⟩ l).q = 1
  p : (it n ⟨0, 1⟩ l).p = root n
  terms : Surd.terms n ⟨0, 1⟩ = ([(it n ⟨0, 1⟩ 0).floor n], (List.range l).map fun k => (it n ⟨0, 1⟩ (k + 1)).floor n)
  dis : ∀ a b, a < b → b ≤ l → it n ⟨0, 1⟩ a ≠ it n ⟨0, 1⟩ b

theorem ring_of (n : Nat) (h0 : n ≤ 1000000) (h : square n = false) : ∃ l, Ring n l := by
  obtain ⟨j, i, hj, hij, he, hd, hr⟩ := closes_root n h0 h
  have hb := base_of n h
  obtain ⟨rfl, h1, h2⟩ := root_ring n hb j i hij he hd
  refine ⟨j - 1, by omega, hb, h1, h2, ?_, fun a b h3 h4 => hd a b h3 (by omega)⟩
  rw [terms_of n _ j 1 hij hr]
  obtain ⟨l, rfl⟩ : ∃ l, j = l + 1 := ⟨j - 1, by omega⟩
  simp only [Nat.add_sub_cancel]
  refine Prod.ext (by rfl) ?_
  dsimp only
  rw [List.range_succ_eq_map, List.drop_one, List.tail_cons, List.map_map]
  rfl

theorem Ring.len {n l : Nat} (h : Ring n l) : (Surd.terms n ⟨0, 1⟩).2.length = l := by rw [h.terms]; simp

theorem Ring.termAt {n l : Nat} (h : Ring n l) (k : Nat) (hk : k ≤ l) : termAt (Surd.terms n ⟨0, 1⟩) k = (it n ⟨0, 1⟩ k).floor n := by
  unfold Re03.termAt
  rw [h.terms]
  cases k with
  | zero => simp
  | succ k =>
    simp only [List.length_singleton, List.length_map, List.length_range]
    rw [if_neg (by omega), Nat.add_sub_cancel, Nat.mod_eq_of_lt (by omega), List.getD_eq_getElem?_getD, List.getElem?_map, List.getElem?_range (by omega)]
    rfl
theorem Ring.termAt2 {n l : Nat} (h : Ring n l) (k : Nat) (hk : k < l) : Re03.termAt (Surd.terms n ⟨0, 1⟩) (l + (k + 1)) = (it n ⟨0, 1⟩ (k + 1)).floor n := by
  unfold Re03.termAt
  rw [h.terms]
  simp only [List.length_singleton, List.length_map, List.length_range]
  rw [if_neg (by omega)]
  have e : l + (k + 1) - 1 = l + k := by omega
  rw [e, Nat.add_mod_left, Nat.mod_eq_of_lt hk, List.getD_eq_getElem?_getD, List.getElem?_map, List.getElem?_range (by omega)]
  rfl

/-- the fraction of the terms ahead of the ring's last one -/
theorem Ring.conv1 {n l : Nat} (h : Ring n l) : convergent (Surd.terms n ⟨0, 1⟩) (l - 1) = value (lead n l) := by
  unfold convergent lead
  have := h.pos
  have e : l - 1 + 1 = l := by omega
  rw [e]
  congr 1
  apply List.map_congr_left
  intro k hk
  rw [List.mem_range] at hk
  exact h.termAt k (by omega)

theorem Ring.apart {n l : Nat} (h : Ring n l) : (value (lead n l)).1 * (value (lead n l)).1 - n * (value (lead n l)).2 * (value (lead n l)).2 = sign l := by
  obtain ⟨h1, h2⟩ := lead_inv n h.base l
  have h3 := det (lead n l)
  rw [lead_len] at h3
  rw [h.q, h.p] at h1 h2
  rw [← h3]
  generalize (value (lead n l)).1 = x at *
  generalize (value (lead n l)).2 = y at *
  generalize (second (lead n l)).1 = u at *
  generalize (second (lead n l)).2 = v at *
  generalize (n : Int) = d at *
  generalize (root n : Int) = s at *
  grind

theorem Ring.conv2 {n l : Nat} (h : Ring n l) : convergent (Surd.terms n ⟨0, 1⟩) (2 * l - 1) = together n (value (lead n l)) (value (lead n l)) := by
  have hl := h.pos
  obtain ⟨h1, h2⟩ := lead_inv n h.base l
  rw [h.q, h.p] at h1 h2
  obtain ⟨m, rfl⟩ : ∃ m, l = m + 1 := ⟨l - 1, by omega⟩
  have e : (List.range (2 * (m + 1) - 1 + 1)).map (Re03.termAt (Surd.terms n ⟨0, 1⟩)) = lead n (m + 1) ++ (2 * (root n : Int)) :: (List.range m).map (fun k => (it n ⟨0, 1⟩ (k + 1)).floor n) := by
    have e1 : 2 * (m + 1) - 1 + 1 = (m + 1) + (m + 1) := by omega
    rw [e1, List.range_add, List.map_append]
    congr 1
    · unfold lead
      apply List.map_congr_left
      intro k hk
      rw [List.mem_range] at hk
      exact h.termAt k (by omega)
    · rw [List.range_succ_eq_map, List.map_map, List.map_cons, List.map_map]
      congr 1
      · show Re03.termAt (Surd.terms n ⟨0, 1⟩) (m + 1 + 0) = _
        rw [Nat.add_zero, h.termAt (m + 1) (Nat.le_refl _)]
        unfold Surd.floor
        rw [h.q, h.p, if_pos (by decide), Int.ediv_one]
        omega
      · apply List.map_congr_left
        intro k hk
        rw [List.mem_range] at hk
        exact h.termAt2 k (by omega)
  unfold convergent
  rw [e, value_append]
  have e2 : lead n (m + 1) = (root n : Int) :: (List.range m).map (fun k => (it n ⟨0, 1⟩ (k + 1)).floor n) := by
    unfold lead
    rw [List.range_succ_eq_map, List.map_cons, List.map_map]
    congr 1
    show (⟨0, 1⟩ : Surd).floor n = _
    unfold Surd.floor
    rw [if_pos (by decide), Int.ediv_one, Int.zero_add]
  have e3 : value (lead n (m + 1)) = ((root n : Int) * (value ((List.range m).map (fun k => (it n ⟨0, 1⟩ (k + 1)).floor n))).1 + (value ((List.range m).map (fun k => (it n ⟨0, 1⟩ (k + 1)).floor n))).2, (value ((List.range m).map (fun k => (it n ⟨0, 1⟩ (k + 1)).floor n))).1) := by
    rw [e2, value_cons]
  rw [value_cons]
  generalize (value ((List.range m).map (fun k => (it n ⟨0, 1⟩ (k + 1)).floor n))).1 = g at *
  generalize (value ((List.range m).map (fun k => (it n ⟨0, 1⟩ (k + 1)).floor n))).2 = f at *
  have e4 : (value (lead n (m + 1))).1 = (root n : Int) * g + f := by rw [e3]
  have e5 : (value (lead n (m + 1))).2 = g := by rw [e3]
  unfold together
  generalize (value (lead n (m + 1))).1 = x at *
  generalize (value (lead n (m + 1))).2 = y at *
  generalize (second (lead n (m + 1))).1 = u at *
  generalize (second (lead n (m + 1))).2 = v at *
  dsimp only
  generalize (n : Int) = d at *
  generalize (root n : Int) = s at *
  clear e3
  refine Prod.ext ?_ ?_
  · dsimp only; grind
  · dsimp only; grind

/-! ## what is due of one and minus one -/
theorem Ring.pell {n l : Nat} (h : Ring n l) : pell n = if l % 2 = 0 then value (lead n l) else together n (value (lead n l)) (value (lead n l)) := by
  unfold Re03.pell
  dsimp only
  rw [h.len]
  split
  · exact h.conv1
  · exact h.conv2

theorem Ring.minus {n l : Nat} (h : Ring n l) : minus n = if l % 2 = 0 then none else some (value (lead n l)) := by
  unfold Re03.minus
  dsimp only
  rw [h.len, h.conv1]

theorem solution_one (n : Nat) : solution n 1 = pell n := by
  show together n (1, 0) (pell n) = pell n
  unfold together
  refine Prod.ext ?_ ?_ <;> dsimp only <;> grind

/-! ## how great they get -/
theorem Ring.short {n l : Nat} (h : Ring n l) (hn : n ≤ 1000) : l < 2048 := by
  have hs : root n ≤ 31 := root_le n 31 (by omega)
  have key : ∀ k, 0 ≤ (it n ⟨0, 1⟩ k).p ∧ (it n ⟨0, 1⟩ k).p ≤ 31 ∧ 0 < (it n ⟨0, 1⟩ k).q ∧ (it n ⟨0, 1⟩ k).q ≤ 62 := by
    intro k
    have h1 := inv_root n h.base k
    have a1 := h1.pos
    have a2 := h1.hi
    have a3 := h1.big
    have a4 : 0 ≤ (it n ⟨0, 1⟩ k).p := by
      cases k with
      | zero => exact Int.le_refl _
      | succ k => have := red_root n h.base k; omega
    omega
  have := pigeon (l + 1) (fun k => (it n ⟨0, 1⟩ k).p.toNat * 64 + (it n ⟨0, 1⟩ k).q.toNat) (List.range 2048)
    (fun j _ => by
      rw [List.mem_range]
      have := key j
      omega)
    (fun i j hij hj hc => by
      have k1 := key i
      have k2 := key j
      exact h.dis i j hij (by omega) (surd_ext (by omega) (by omega)))
  rw [List.length_range] at this
  omega

theorem lead_small (n : Nat) (hb : Base n) (hn : n ≤ 1000) (k : Nat) : ∀ x ∈ lead n k, 1 ≤ x ∧ x ≤ 62 := by
  have hs : root n ≤ 31 := root_le n 31 (by omega)
  intro x hx
  unfold lead at hx
  rw [List.mem_map] at hx
  obtain ⟨i, _, rfl⟩ := hx
  have h1 := inv_root n hb i
  refine ⟨floor_ge n _ h1, ?_⟩
  unfold Surd.floor
  have a1 := h1.pos
  have a2 := h1.hi
  rw [if_pos a1]
  have : ((it n ⟨0, 1⟩ i).p + (root n : Int)) / (it n ⟨0, 1⟩ i).q < 63 := by
    rw [Int.ediv_lt_iff_lt_mul a1]
    have : 63 * 1 ≤ 63 * (it n ⟨0, 1⟩ i).q := Int.mul_le_mul_of_nonneg_left (by omega) (by decide)
    omega
  omega

theorem value_small : ∀ l : List Int, (∀ x ∈ l, 1 ≤ x ∧ x ≤ 62) → 0 ≤ (value l).1 ∧ 0 ≤ (value l).2 ∧ (value l).1 < 2 ^ (6 * l.length + 1) ∧ (value l).2 < 2 ^ (6 * l.length + 1) := by
  intro l
  induction l with
  | nil => intro _; decide
  | cons a l ih =>
    intro h
    obtain ⟨h1, h2, h3, h4⟩ := ih fun x hx => h x (List.mem_cons_of_mem _ hx)
    have ha := h a (List.mem_cons_self ..)
    rw [value_cons]
    dsimp only
    have e : (2 : Int) ^ (6 * (a :: l).length + 1) = 64 * 2 ^ (6 * l.length + 1) := by
      rw [List.length_cons]
      have : 6 * (l.length + 1) + 1 = 6 * l.length + 1 + 6 := by omega
      rw [this, Int.pow_add]
      omega
    rw [e]
    generalize (2 : Int) ^ (6 * l.length + 1) = M at *
    have k1 : 0 ≤ a * (value l).1 := Int.mul_nonneg (by omega) h1
    have k2 : a * (value l).1 ≤ 62 * (value l).1 := Int.mul_le_mul_of_nonneg_right ha.2 h1
    omega

theorem Ring.small {n l : Nat} (h : Ring n l) (hn : n ≤ 1000) : ∃ A : Nat, 0 < A ∧ A ≤ 12300 ∧ (0 ≤ (value (lead n l)).1 ∧ 0 ≤ (value (lead n l)).2 ∧ (value (lead n l)).1 < 2 ^ A ∧ (value (lead n l)).2 < 2 ^ A) := by
  have hl := h.short hn
  exact ⟨6 * (lead n l).length + 1, by omega, by rw [lead_len]; omega, value_small (lead n l) (lead_small n h.base hn l)⟩

/-- two put together -/
theorem together_small {n : Nat} (hn : n ≤ 1000) {a b : Int × Int} {A B : Nat} (ha : 0 ≤ a.1 ∧ 0 ≤ a.2 ∧ a.1 < 2 ^ A ∧ a.2 < 2 ^ A) (hb : 0 ≤ b.1 ∧ 0 ≤ b.2 ∧ b.1 < 2 ^ B ∧ b.2 < 2 ^ B) :
    0 ≤ (together n a b).1 ∧ 0 ≤ (together n a b).2 ∧ (together n a b).1 < 2 ^ (A + B + 10) ∧ (together n a b).2 < 2 ^ (A + B + 10) := by
  obtain ⟨a1, a2, a3, a4⟩ := ha
  obtain ⟨b1, b2, b3, b4⟩ := hb
  unfold together
  dsimp only
  have e : (2 : Int) ^ (A + B + 10) = 1024 * (2 ^ A * 2 ^ B) := by
    rw [Int.pow_add, Int.pow_add]; omega
  rw [e]
  generalize (2 : Int) ^ A = M at *
  generalize (2 : Int) ^ B = N at *
  generalize a.1 = x at *
  generalize a.2 = y at *
  generalize b.1 = u at *
  generalize b.2 = v at *
  have k1 : 0 ≤ x * u := Int.mul_nonneg a1 b1
  have k2 : 0 ≤ y * v := Int.mul_nonneg a2 b2
  have k3 : 0 ≤ x * v := Int.mul_nonneg a1 b2
  have k4 : 0 ≤ y * u := Int.mul_nonneg a2 b1
  have m1 : x * u < M * N := Int.mul_lt_mul' (Int.le_of_lt a3) b3 b1 (by omega)
  have m2 : y * v < M * N := Int.mul_lt_mul' (Int.le_of_lt a4) b4 b2 (by omega)
  have m3 : x * v < M * N := Int.mul_lt_mul' (Int.le_of_lt a3) b4 b2 (by omega)
  have m4 : y * u < M * N := Int.mul_lt_mul' (Int.le_of_lt a4) b3 b1 (by omega)
  have en : (n : Int) * y * v = n * (y * v) := Int.mul_assoc ..
  rw [en]
  have n1 : 0 ≤ (n : Int) * (y * v) := Int.mul_nonneg (by omega) k2
  have n2 : (n : Int) * (y * v) ≤ 1000 * (y * v) := Int.mul_le_mul_of_nonneg_right (by omega) k2
  omega
end CR

namespace CF
open PyRe03
/-- one call at the list's head: the list, the call, what is behind -/
inductive Parsed : List Int → List (List Int) → List Int → Prop
  | terms (n d : Int) (t : List Int) : Parsed (0 :: n :: d :: t) [[0, n, d]] t
  | value (r t : List Int) : Parsed (1 :: (r.length : Int) :: (r ++ t)) [[1], r] t
  | root (n : Int) (t : List Int) : Parsed (2 :: n :: t) [[2, n]] t
  | ring (p q n : Int) (t : List Int) : Parsed (3 :: p :: q :: n :: t) [[3, p, q, n]] t
  | near (n d m : Int) (t : List Int) : Parsed (4 :: n :: d :: m :: t) [[4, n, d, m]] t
  | nearRoot (n m : Int) (t : List Int) : Parsed (5 :: n :: m :: t) [[5, n, m]] t
  | between (a b c d : Int) (t : List Int) : Parsed (6 :: a :: b :: c :: d :: t) [[6, a, b, c, d]] t
  | one (n k : Int) (t : List Int) : Parsed (7 :: n :: k :: t) [[7, n, k]] t
  | minus (n : Int) (t : List Int) : Parsed (8 :: n :: t) [[8, n]] t

theorem row_some {l x s : List Int} (h : PyFlat.row l = some (x, s)) : l = (x.length : Int) :: (x ++ s) := by
  cases l with
  | nil => cases h
  | cons n r =>
    dsimp only [PyFlat.row] at h
    split at h
    · rename_i hc
      simp only [Option.some.injEq, Prod.mk.injEq] at h
      obtain ⟨rfl, rfl⟩ := h
      rw [List.take_append_drop, List.length_take, Nat.min_eq_left hc.2]
      congr 1
      omega
    · cases h

theorem take_drop1 {r : List Int} (h : ¬ r.length < 1) : ∃ a t, r = a :: t := by
  cases r with
  | nil => simp at h
  | cons a t => exact ⟨a, t, rfl⟩
theorem take_drop2 {r : List Int} (h : ¬ r.length < 2) : ∃ a b t, r = a :: b :: t := by
  match r, h with
  | a :: b :: t, _ => exact ⟨a, b, t, rfl⟩
  | [_], h => simp at h
  | [], h => simp at h
theorem take_drop3 {r : List Int} (h : ¬ r.length < 3) : ∃ a b c t, r = a :: b :: c :: t := by
  match r, h with
  | a :: b :: c :: t, _ => exact ⟨a, b, c, t, rfl⟩
  | [_, _], h => simp at h
  | [_], h => simp at h
  | [], h => simp at h
theorem take_drop4 {r : List Int} (h : ¬ r.length < 4) : ∃ a b c d t, r = a :: b :: c :: d :: t := by
  match r, h with
  | a :: b :: c :: d :: t, _ => exact ⟨a, b, c, d, t, rfl⟩
  | [_, _, _], h => simp at h
  | [_, _], h => simp at h
  | [_], h => simp at h
  | [], h => simp at h

theorem parsed {l : List Int} {c : List (List Int)} {t : List Int} (h : PyFlat.call shape l = some (c, t)) : Parsed l c t := by
  cases l with
  | nil => cases h
  | cons p r =>
    have plain : ∀ {n : Nat}, shape p = some (n, 0) → ¬ r.length < n ∧ c = [p :: r.take n] ∧ t = r.drop n := by
      intro n hs
      dsimp only [PyFlat.call] at h
      rw [hs] at h
      dsimp only at h
      split at h
      · cases h
      · rename_i hl
        simp only [PyFlat.rows, Option.some.injEq, Prod.mk.injEq] at h
        exact ⟨hl, h.1.symm, h.2.symm⟩
    by_cases h0 : p = 0
    · obtain ⟨a, rfl, rfl⟩ := plain (n := 2) (by subst h0; rfl)
      obtain ⟨x, y, t, rfl⟩ := take_drop2 a
      subst h0; exact .terms x y t
    by_cases h1 : p = 1
    · subst h1
      have hs : shape 1 = some (0, 1) := rfl
      dsimp only [PyFlat.call] at h
      rw [hs] at h
      dsimp only at h
      split at h
      · cases h
      · simp only [PyFlat.rows, List.drop_zero] at h
        cases hr : PyFlat.row r with
        | none => rw [hr] at h; cases h
        | some xs =>
          obtain ⟨x, s⟩ := xs
          rw [hr] at h
          simp only [Option.some.injEq, Prod.mk.injEq] at h
          obtain ⟨rfl, rfl⟩ := h
          rw [row_some hr]
          exact .value x s
    by_cases h2 : p = 2
    · obtain ⟨a, rfl, rfl⟩ := plain (n := 1) (by subst h2; rfl)
      obtain ⟨x, t, rfl⟩ := take_drop1 a
      subst h2; exact .root x t
    by_cases h3 : p = 3
    · obtain ⟨a, rfl, rfl⟩ := plain (n := 3) (by subst h3; rfl)
      obtain ⟨x, y, z, t, rfl⟩ := take_drop3 a
      subst h3; exact .ring x y z t
    by_cases h4 : p = 4
    · obtain ⟨a, rfl, rfl⟩ := plain (n := 3) (by subst h4; rfl)
      obtain ⟨x, y, z, t, rfl⟩ := take_drop3 a
      subst h4; exact .near x y z t
    by_cases h5 : p = 5
    · obtain ⟨a, rfl, rfl⟩ := plain (n := 2) (by subst h5; rfl)
      obtain ⟨x, y, t, rfl⟩ := take_drop2 a
      subst h5; exact .nearRoot x y t
    by_cases h6 : p = 6
    · obtain ⟨a, rfl, rfl⟩ := plain (n := 4) (by subst h6; rfl)
      obtain ⟨x, y, z, u, t, rfl⟩ := take_drop4 a
      subst h6; exact .between x y z u t
    by_cases h7 : p = 7
    · obtain ⟨a, rfl, rfl⟩ := plain (n := 2) (by subst h7; rfl)
      obtain ⟨x, y, t, rfl⟩ := take_drop2 a
      subst h7; exact .one x y t
    by_cases h8 : p = 8
    · obtain ⟨a, rfl, rfl⟩ := plain (n := 1) (by subst h8; rfl)
      obtain ⟨x, t, rfl⟩ := take_drop1 a
      subst h8; exact .minus x t
    exfalso
    have hs : shape p = none := by
      unfold shape
      simp only [h0, h1, h2, h3, h4, h5, h6, h7, h8, if_false]
    dsimp only [PyFlat.call] at h
    rw [hs] at h
    cases h

/-- the call alone -/
theorem Parsed.split {l : List Int} {c : List (List Int)} {t : List Int} (h : Parsed l c t) : ∃ u, l = u ++ t ∧ Parsed u c [] ∧ 0 < u.length := by
  cases h with
  | terms n d => exact ⟨[0, n, d], rfl, .terms n d [], by simp⟩
  | value r => exact ⟨1 :: (r.length : Int) :: r, rfl, by simpa using Parsed.value r [], by simp⟩
  | root n => exact ⟨[2, n], rfl, .root n [], by simp⟩
  | ring p q n => exact ⟨[3, p, q, n], rfl, .ring p q n [], by simp⟩
  | near n d m => exact ⟨[4, n, d, m], rfl, .near n d m [], by simp⟩
  | nearRoot n m => exact ⟨[5, n, m], rfl, .nearRoot n m [], by simp⟩
  | between a b c d => exact ⟨[6, a, b, c, d], rfl, .between a b c d [], by simp⟩
  | one n k => exact ⟨[7, n, k], rfl, .one n k [], by simp⟩
  | minus n => exact ⟨[8, n], rfl, .minus n [], by simp⟩

/-- the calls of a list, one behind another -/
inductive Chain : List Int → List (List (List Int)) → Prop
  | nil : Chain [] []
  | cons {l t : List Int} {c : List (List Int)} {cs : List (List (List Int))} : Parsed l c t → Chain t cs → Chain l (c :: cs)

theorem chain : ∀ (f : Nat) (l : List Int) (cs : List (List (List Int))), PyFlat.calls shape f l = some cs → Chain l cs := by
  intro f
  induction f with
  | zero =>
    intro l cs h
    cases l with
    | nil => simp only [PyFlat.calls, Option.some.injEq] at h; subst h; exact .nil
    | cons p r => cases h
  | succ f ih =>
    intro l cs h
    cases l with
    | nil => simp only [PyFlat.calls, Option.some.injEq] at h; subst h; exact .nil
    | cons p r =>
      rw [PyFlat.calls] at h
      cases hc : PyFlat.call shape (p :: r) with
      | none => rw [hc] at h; cases h
      | some ct =>
        obtain ⟨c, t⟩ := ct
        rw [hc] at h
        dsimp only at h
        cases hs : PyFlat.calls shape f t with
        | none => rw [hs] at h; cases h
        | some cs' =>
          rw [hs] at h
          simp only [Option.some.injEq] at h
          subst h
          exact .cons (parsed hc) (ih t cs' hs)

/-- what is due of one call as it is handed in -/
def dueRaw (c : List (List Int)) : List Int := (Re03Neutral.step Re03Neutral.start ((whole c).headD [])).2
theorem step_state (s : Re03Neutral.S) (c : Re03Neutral.Call) : (Re03Neutral.step s c).1 = s := by
  unfold Re03Neutral.step
  split
  · rfl
  · rename_i x _
    cases x <;> rfl
theorem played_eq (s : Re03Neutral.S) : ∀ cs : List (List (List Int)), PyFlat.played (fun s c => Re03Neutral.step s (c.headD [])) s (cs.map whole) = cs.map fun c => (Re03Neutral.step s ((whole c).headD [])).2
  | [] => rfl
  | c :: r => by
    simp only [List.map_cons, PyFlat.played]
    rw [step_state, played_eq s r]
/-- one call's part of the whole answer -/
def part (c : List (List Int)) : List Int := ((dueRaw c).length : Int) :: dueRaw c
theorem answers_eq {l : List Int} {cs : List (List (List Int))} (h : PyFlat.calls shape l.length l = some cs) : answers l = cs.flatMap part := by
  unfold answers calls
  rw [h]
  dsimp only
  rw [played_eq, PyFlat.told, List.flatMap_map]
  rfl

/-- all that a list that may be handed in tells -/
structure Asked (l : List Int) (cs : List (List (List Int))) : Prop where
  chain : Chain l cs
  eq : answers l = cs.flatMap part
  one : ∀ c ∈ cs, Re03Neutral.asked1 ((whole c).headD []) = true
  short : (answers l).length ≤ 10000000
theorem asked {l : List Int} (h : answers_asked l = true) : ∃ cs, Asked l cs := by
  unfold answers_asked at h
  cases hc : PyFlat.calls shape l.length l with
  | none => rw [hc] at h; cases h
  | some cs =>
    rw [hc] at h
    dsimp only at h
    rw [Bool.and_eq_true, Bool.and_eq_true] at h
    obtain ⟨⟨_, h1⟩, h2⟩ := h
    refine ⟨cs, chain _ _ _ hc, answers_eq hc, ?_, of_decide_eq_true h2⟩
    unfold Re03Neutral.asked at h1
    rw [Bool.and_eq_true] at h1
    intro c hm
    have := List.all_eq_true.mp h1.1
    exact this _ (List.mem_map.mpr ⟨whole c, List.mem_map.mpr ⟨c, hm, rfl⟩, rfl⟩)

/-- one call: which it is -/
theorem due_call {c : List (List Int)} (h : Re03Neutral.asked1 ((whole c).headD []) = true) : ∃ x, Re03Neutral.callIn ((whole c).headD []) = some x ∧ dueRaw c = Re03Neutral.out (Re03.step Re03.init x).2 := by
  unfold Re03Neutral.asked1 Re03Neutral.callOf at h
  split at h
  · cases h
  · rename_i hm
    obtain ⟨x, hx⟩ := Option.isSome_iff_exists.mp h
    refine ⟨x, hx, ?_⟩
    unfold dueRaw Re03Neutral.step Re03Neutral.callOf
    rw [if_neg hm, hx]
    rfl
end CF

set_option Elab.async false
set_option maxRecDepth 100000
set_option maxHeartbeats 2000000
namespace CT
open PySem PySem.Spec PyProof.Rows L2
open PySem.W (Codec)

/-- the i-th statement of the program -/
def top (i : Nat) : Stmt := PySem.Challenge.pw_cogterms_s01_answers.main.body.getD i (.Pass ⟨0, 0, 0, 0⟩)
abbrev sFracTerms : Stmt := top 34
abbrev sTermsFrac : Stmt := top 35
abbrev sWhole : Stmt := top 36
abbrev sIsSq : Stmt := top 37
abbrev sRingTerms : Stmt := top 38
abbrev sFloor : Stmt := top 39
abbrev sNearest : Stmt := top 40
abbrev sNearestRoot : Stmt := top 41
abbrev sIsNearer : Stmt := top 42
abbrev sBetTerms : Stmt := top 43
abbrev sLeast : Stmt := top 44
abbrev sApart : Stmt := top 45
abbrev sProd : Stmt := top 46
abbrev sAnsNearRoot : Stmt := top 30
abbrev sAnsBetween : Stmt := top 31
abbrev sAnsOne : Stmt := top 32
abbrev sAnsMinus : Stmt := top 33

theorem if_true_of {c : Bool} {A B : Prop} (hc : c = true) (h : A) : if c = true then A else B := by
  rw [if_pos hc]; exact h
theorem if_false_of {c : Bool} {A B : Prop} (hc : c = false) (h : B) : if c = true then A else B := by
  rw [hc, if_neg Bool.false_ne_true]; exact h
theorem if_dec {p : Prop} [Decidable p] {A B : Prop} (h1 : p → A) (h2 : ¬ p → B) : if decide p = true then A else B := by
  by_cases h : p
  · exact if_true_of (decide_eq_true h) (h1 h)
  · exact if_false_of (decide_eq_false h) (h2 h)
theorem same_upd {H : Hp} {p : Addr} {o : HO} (h : H p = none) : Same H (upd H p o) := fun b x e => by
  rw [upd_ne (ne_of_none e h)]; exact e

section
variable {P : Program} {w : World} {K : PySem.W.Frag} {mg : Str → Option Value} {base : Heap}

/-! ### whole_root -/
theorem scW : FnScope ["n", "low", "high", "middle"] ["n"] (defScope sWhole) := ⟨rfl, rfl, rfl, by decide +kernel, rfl, by decide +kernel, by decide +kernel⟩
def spWhole : Sp := fun vs H Q _ => ∃ n : Nat, vs = [.int n] ∧ n < 2 ^ 60 ∧ Q (.int (Re03.root n)) H

def wWhole (n : Nat) (H : Hp) : Nat → L2.St → Hp → Prop := fun m σ H' => ∃ (lo hi : Nat) (v : Option V), σ = [some (.int n), some (.int lo), some (.int hi), v] ∧ H' = H ∧ lo < hi ∧ hi ≤ n + 1 ∧ lo * lo ≤ n ∧ n < hi * hi ∧ m = hi - lo

theorem ok_whole {f : Addr} {fd : FuncData} (F : Fun K "whole_root" "whole_root" sWhole f fd) : FnOk P w K mg base CX0 1 f fd ["n"] spWhole := by
  refine F.ok scW (fun vs H Q E h => ?_) (fun cdv A outer s H vs Q E hr h => ?_)
  · obtain ⟨n, rfl, _⟩ := h
    rfl
  · obtain ⟨n, rfl, hn, k⟩ := h
    refine ⟨_, pss_cons (ps_set (i := 1) scW.nd rfl (.inl rfl) pe_int)
      (pss_cons (ps_set (i := 2) scW.nd rfl (.inl rfl) (pe_op op_add (pv 0) pe_int))
      (pss_cons (ps_while PassesOwn.never (pt_cmpR op_gt (pe_op op_sub (pv 2) (pv 1)) pe_int (nomark _))
        (pss_cons (ps_set (i := 3) scW.nd rfl (.inl rfl) (pe_op op_fdiv (pe_op op_add (pv 1) (pv 2)) pe_int))
        (pss_one (ps_if (pt_cmpR op_le (pe_op op_mul (pv 3) (pv 3)) (pv 0) (nomark _))
          (pss_one (ps_set (i := 1) scW.nd rfl (.inl rfl) (pv 3)))
          (pss_one (ps_set (i := 2) scW.nd rfl (.inl rfl) (pv 3)))))))
      (pss_one (ps_ret (pv 1))))), ?_⟩
    refine ⟨_, rfl, _, _, rfl, rfl, ?_⟩
    refine ⟨wWhole n H, ⟨_, 0, n + 1, none, rfl, rfl, by omega, by omega, by omega, ?_, rfl⟩, ?_⟩
    · exact Nat.lt_of_lt_of_le (Nat.lt_succ_self n) (Nat.le_mul_of_pos_right _ (by omega))
    · rintro m σ H' ⟨lo, hi, v, rfl, rfl, h1, h2, h3, h4, rfl⟩
      refine ⟨_, rfl, _, rfl, _, _, rfl, rfl, _, _, rfl, rfl, _, rfl, if_dec (fun hc => ?_) (fun hc => ?_)⟩
      · refine ⟨fun σ' H'' => ∃ m', m' < hi - lo ∧ wWhole n H' m' σ' H'', fun _ _ h => h, ?_⟩
        refine ⟨_, rfl, _, rfl, _, _, rfl, rfl, _, _, rfl, rfl, ⟨by decide, by decide⟩, ?_⟩
        have hmid : ((lo : Int) + (hi : Int)) / 2 = ((lo + hi) / 2 : Nat) := by omega
        dsimp only; rw [hmid]
        generalize hM : (lo + hi) / 2 = mid
        have a1 : lo < mid := by omega
        have a2 : mid < hi := by omega
        refine ⟨_, rfl, _, rfl, _, _, rfl, rfl, .inl ⟨by omega, by omega⟩, _, rfl, _, _, rfl, rfl, _, rfl, if_dec (fun hd => ?_) (fun hd => ?_)⟩
        · refine ⟨_, rfl, hi - mid, by omega, mid, hi, _, rfl, rfl, by omega, by omega, ?_, h4, rfl⟩
          exact_mod_cast hd
        · refine ⟨_, rfl, mid - lo, by omega, lo, mid, _, rfl, rfl, by omega, by omega, h3, ?_, rfl⟩
          have hd' : ¬ ((mid * mid : Nat) : Int) ≤ n := by push_cast; exact hd
          omega
      · refine ⟨_, rfl, ?_⟩
        have e : hi = lo + 1 := by omega
        subst e
        rw [← CR.root_unique n lo h3 h4]
        exact k

/-! ### a def that keeps its promise, as a caller sees it -/
def Keeps (P : Program) (w : World) (K : PySem.W.Frag) (mg : Str → Option Value) (base : Heap) (x : Str) (k : Nat) (ps : List Str) (sp : Sp) : Prop :=
  ∃ (f : Addr) (fd : FuncData), mg x = some (.ref f) ∧ PySem.W.keepIn K (.ref f) = true ∧ Binds K fd ps [] ∧ FnOk P w K mg base CX0 k f fd ps sp

/-! ### is_square -/
theorem scQ : FnScope ["n", "low"] ["n"] (defScope sIsSq) := ⟨rfl, rfl, rfl, by decide +kernel, rfl, by decide +kernel, by decide +kernel⟩
def spIsSq : Sp := fun vs H Q _ => ∃ n : Nat, vs = [.int n] ∧ n < 2 ^ 60 ∧ Q (.bl (Re03.square n)) H
theorem root_lt (n : Nat) (h : n < 2 ^ 60) : Re03.root n < 2 ^ 60 := by
  have h1 := (CR.root_spec n).1
  rcases Nat.eq_zero_or_pos (Re03.root n) with h0 | h0
  · rw [h0]; decide
  · have := Nat.le_mul_of_pos_right (Re03.root n) h0
    omega
theorem ok_isSq {f : Addr} {fd : FuncData} (F : Fun K "is_square" "is_square" sIsSq f fd) (W : Keeps P w K mg base "whole_root" 1 ["n"] spWhole) : FnOk P w K mg base CX0 2 f fd ["n"] spIsSq := by
  obtain ⟨fW, fdW, mW, kW, bW, GW⟩ := W
  refine F.ok scQ (fun vs H Q E h => ?_) (fun cdv A outer s H vs Q E hr h => ?_)
  · obtain ⟨n, rfl, _⟩ := h
    rfl
  · obtain ⟨n, rfl, hn, k⟩ := h
    refine ⟨_, pss_cons (ps_set (i := 1) scQ.nd rfl (.inl rfl) (pe_call GW hr rfl mW kW bW .nil pass0 (pa_cons (pv 0) pa_nil)))
      (pss_one (ps_ret (pe_cmpR op_eq (pe_op op_mul (pv 1) (pv 1)) (pv 0) (nomark _)))), ?_⟩
    have hr := root_lt n hn
    refine ⟨_, rfl, n, rfl, hn, ?_⟩
    refine ⟨_, rfl, _, rfl, _, _, rfl, rfl, .inl ⟨by omega, by omega⟩, _, rfl, rfl, ?_⟩
    have e : decide (V.int ((Re03.root n : Int) * (Re03.root n : Int)) = V.int (n : Int)) = Re03.square n := by
      unfold Re03.square
      rw [Bool.eq_iff_iff]
      simp only [decide_eq_true_eq, beq_iff_eq, V.int.injEq]
      constructor <;> intro h <;> exact_mod_cast h
    dsimp only; rw [e]
    exact k

/-! ### surd_floor -/
theorem scFl : FnScope ["upper", "lower", "whole"] ["upper", "lower", "whole"] (defScope sFloor) := ⟨rfl, rfl, rfl, by decide +kernel, rfl, by decide +kernel, by decide +kernel⟩
def spFloor : Sp := fun vs H Q _ => ∃ (p q : Int) (n : Nat), vs = [.int p, .int q, .int (Re03.root n)] ∧ q ≠ 0 ∧ q.natAbs < 1073741824 ∧ Q (.int (Re03.Surd.floor n ⟨p, q⟩)) H
theorem floor_pos (p q : Int) (n : Nat) (h : 0 < q) : (p + (Re03.root n : Int)).fdiv q = Re03.Surd.floor n ⟨p, q⟩ := by
  unfold Re03.Surd.floor
  rw [if_pos h, Int.fdiv_eq_ediv_of_nonneg _ (by omega)]
theorem floor_neg (p q : Int) (n : Nat) (h : q < 0) : (p + (Re03.root n : Int) + 1).fdiv q = Re03.Surd.floor n ⟨p, q⟩ := by
  unfold Re03.Surd.floor
  dsimp only
  rw [if_neg (by omega)]
  have e : (p + (Re03.root n : Int) + 1).fdiv q = (-(p + (Re03.root n : Int) + 1)).fdiv (-q) := by
    rw [Int.neg_fdiv_neg]
  rw [e, Int.fdiv_eq_ediv_of_nonneg _ (by omega)]
  congr 1 <;> omega
theorem ok_floor {f : Addr} {fd : FuncData} (F : Fun K "surd_floor" "surd_floor" sFloor f fd) : FnOk P w K mg base CX0 1 f fd ["upper", "lower", "whole"] spFloor := by
  refine F.ok scFl (fun vs H Q E h => ?_) (fun cdv A outer s H vs Q E hr h => ?_)
  · obtain ⟨p, q, n, rfl, _⟩ := h
    rfl
  · obtain ⟨p, q, n, rfl, hq, hq2, k⟩ := h
    refine ⟨_, pss_cons (ps_if (pt_cmpR op_gt (pv 1) pe_int (nomark _)) (pss_one (ps_ret (pe_op op_fdivN (pe_op op_add (pv 0) (pv 2)) (pv 1)))) pss_nil)
      (pss_one (ps_ret (pe_op op_fdivN (pe_op op_add (pe_op op_add (pv 0) (pv 2)) pe_int) (pv 1)))), ?_⟩
    refine ⟨_, rfl, _, _, rfl, rfl, _, rfl, if_dec (fun hc => ?_) (fun hc => ?_)⟩
    · refine ⟨_, rfl, _, rfl, _, _, rfl, rfl, _, rfl, _, _, rfl, rfl, ⟨hq, hq2⟩, ?_⟩
      dsimp only; rw [floor_pos p q n (by omega)]; exact k
    · refine ⟨_, rfl, _, rfl, _, _, rfl, rfl, _, _, rfl, rfl, _, rfl, _, _, rfl, rfl, ⟨hq, hq2⟩, ?_⟩
      dsimp only; rw [floor_neg p q n (by omega)]; exact k
end
end CT

set_option Elab.async false
set_option maxRecDepth 100000
set_option maxHeartbeats 2000000
namespace CT
open PySem PySem.Spec PyProof.Rows L2
open PySem.W (Codec)
section
variable {P : Program} {w : World} {K : PySem.W.Frag} {mg : Str → Option Value} {base : Heap}

/-! ### fraction_terms -/
theorem terms_len : ∀ (f : Nat) (n : Int) (d : Nat), (Re03.terms f n d).length ≤ f := by
  intro f
  induction f with
  | zero => intro n d; exact Nat.le_refl _
  | succ f ih =>
    intro n d
    unfold Re03.terms
    dsimp only
    split
    · simp
    · have := ih d (n - n / (d : Int) * d).toNat
      simp only [List.length_cons]
      omega
theorem terms_step (f : Nat) (u : Int) (l : Nat) (hl : 0 < l) : Re03.terms (f + 1) u l =
    [u / (l : Int)] ++ (if (u % (l : Int)).toNat = 0 then [] else Re03.terms f l (u % (l : Int)).toNat) := by
  have e : u - u / (l : Int) * l = u % (l : Int) := by
    have := Int.mul_ediv_add_emod u l
    rw [Int.mul_comm] at this; omega
  conv => lhs; unfold Re03.terms
  dsimp only
  rw [e]
  split <;> simp
/-- what is told so far, and what is left -/
def FT (n : Int) (d : Nat) (acc : List Int) (u : Int) (l : Nat) : Prop :=
  ∃ F, l < F ∧ acc ++ (if l = 0 then [] else Re03.terms F u l) = Re03.terms (d + 1) n d
theorem FT.start (n : Int) (d : Nat) (h : 0 < d) : FT n d [] n d := ⟨d + 1, by omega, by rw [if_neg (by omega)]; rfl⟩
theorem FT.step {n : Int} {d : Nat} {acc : List Int} {u : Int} {l : Nat} (h : FT n d acc u l) (hl : 0 < l) :
    FT n d (acc ++ [u / (l : Int)]) l (u % (l : Int)).toNat := by
  obtain ⟨F, h1, h2⟩ := h
  cases F with
  | zero => omega
  | succ F =>
    rw [if_neg (by omega), terms_step F u l hl, ← List.append_assoc] at h2
    refine ⟨F, ?_, h2⟩
    have := Int.emod_lt_of_pos u (show (0 : Int) < l by omega)
    have := Int.emod_nonneg u (show (l : Int) ≠ 0 by omega)
    omega
theorem FT.len {n : Int} {d : Nat} {acc : List Int} {u : Int} {l : Nat} (h : FT n d acc u l) : acc.length ≤ d + 1 := by
  obtain ⟨F, h1, h2⟩ := h
  have := terms_len (d + 1) n d
  rw [← h2, List.length_append] at this
  omega
theorem FT.done {n : Int} {d : Nat} {acc : List Int} {u : Int} {l : Nat} (h : FT n d acc u l) (hl : l = 0) : acc = Re03.terms (d + 1) n d := by
  obtain ⟨F, h1, h2⟩ := h
  rw [if_pos hl, List.append_nil] at h2
  exact h2

theorem scFT : FnScope ["n", "d", "row", "upper", "lower", "rest"] ["n", "d"] (defScope sFracTerms) := ⟨rfl, rfl, rfl, by decide +kernel, rfl, by decide +kernel, by decide +kernel⟩
def spFracTerms : Sp := fun vs H Q _ => ∃ (n : Int) (d : Nat), vs = [.int n, .int d] ∧ 0 < d ∧ d ≤ 1000000 ∧
  ∀ H' p, Same H H' → H p = none → H' p = some (.lst ((Re03.terms (d + 1) n d).map V.int)) → Q (.ref p) H'
def wFracTerms (n : Int) (d : Nat) (H : Hp) (p : Addr) : Nat → L2.St → Hp → Prop := fun m σ H' => ∃ (u : Int) (l : Nat) (acc : List Int) (v : Option V),
  σ = [some (.int n), some (.int d), some (.ref p), some (.int u), some (.int l), v] ∧ Same H H' ∧ H' p = some (.lst (acc.map V.int)) ∧ FT n d acc u l ∧ l ≤ d ∧ m = l

theorem same_over {H H' : Hp} {p : Addr} {o : HO} (h : H p = none) (s : Same H H') : Same H (upd H' p o) := fun b x e => by
  rw [upd_ne (ne_of_none e h)]; exact s b x e

theorem ok_fracTerms {f : Addr} {fd : FuncData} (F : Fun K "fraction_terms" "fraction_terms" sFracTerms f fd) : FnOk P w K mg base CX0 1 f fd ["n", "d"] spFracTerms := by
  refine F.ok scFT (fun vs H Q E h => ?_) (fun cdv A outer s H vs Q E hr h => ?_)
  · obtain ⟨n, d, rfl, _⟩ := h
    rfl
  · obtain ⟨n, d, rfl, hd, hd2, k⟩ := h
    refine ⟨_, pss_cons (ps_set (i := 2) scFT.nd rfl (.inl rfl) (pe_lst pa_nil))
      (pss_cons (ps_set (i := 3) scFT.nd rfl (.inl rfl) (pv 0))
      (pss_cons (ps_set (i := 4) scFT.nd rfl (.inl rfl) (pv 1))
      (pss_cons (ps_while PassesOwn.never (pt_cmpR op_gt (pv 4) pe_int (nomark _))
        (pss_cons (ps_expr (pe_bm PySem.F.plainAttrs_list PySem.F.slot_list_append PySem.F.type_list_append mt_append (pv 2) (pa_cons (pe_op op_fdivN (pv 3) (pv 4)) pa_nil)))
        (pss_cons (ps_set (i := 5) scFT.nd rfl (.inl rfl) (pe_op op_modN (pv 3) (pv 4)))
        (pss_cons (ps_set (i := 3) scFT.nd rfl (.inl rfl) (pv 4))
        (pss_one (ps_set (i := 4) scFT.nd rfl (.inl rfl) (pv 5)))))))
      (pss_one (ps_ret (pv 2)))))), ?_⟩
    refine ⟨Nat.zero_le _, fun p np => ?_⟩
    refine ⟨_, rfl, _, rfl, ?_⟩
    refine ⟨wFracTerms n d H p, ⟨_, n, d, [], none, rfl, same_upd np, upd_same, FT.start n d hd, Nat.le_refl _, rfl⟩, ?_⟩
    rintro m σ H' ⟨u, l, acc, v, rfl, sm, hp, ft, hl, rfl⟩
    refine ⟨_, rfl, _, _, rfl, rfl, _, rfl, if_dec (fun hc => ?_) (fun hc => ?_)⟩
    · have hl0 : 0 < m := by omega
      refine ⟨fun σ' H'' => ∃ m', m' < m ∧ wFracTerms n d H p m' σ' H'', fun _ _ h => h, ?_⟩
      refine ⟨_, rfl, .inl ⟨rfl, _, SqL.of hp⟩, _, rfl, _, rfl, _, _, rfl, rfl, ⟨by omega, by omega⟩, p, _, _, rfl, rfl, hp, ?_, ?_⟩
      · rw [List.length_map]
        have := ft.len
        show _ < 2 ^ 24
        omega
      · refine ⟨_, rfl, _, rfl, _, _, rfl, rfl, (by omega), ?_⟩
        have e1 : Int.fdiv u (m : Int) = u / (m : Int) := Int.fdiv_eq_ediv_of_nonneg _ (by omega)
        have e2 : Int.fmod u (m : Int) = ((u % (m : Int)).toNat : Int) := by
          rw [Int.fmod_eq_emod_of_nonneg _ (by omega)]
          have := Int.emod_nonneg u (show (m : Int) ≠ 0 by omega)
          omega
        dsimp only
        rw [e1, e2]
        refine ⟨_, rfl, _, rfl, (u % (m : Int)).toNat, ?_, m, _, acc ++ [u / (m : Int)], _, rfl, same_over np sm, ?_, ft.step hl0, ?_, rfl⟩
        · have := Int.emod_lt_of_pos u (show (0 : Int) < m by omega)
          omega
        · rw [upd_same, List.map_append]; rfl
        · have := Int.emod_lt_of_pos u (show (0 : Int) < m by omega)
          omega
    · refine ⟨_, rfl, ?_⟩
      have e := ft.done (by omega)
      subst e
      exact k H' p sm np hp
end
end CT

set_option Elab.async false
set_option maxRecDepth 100000
set_option maxHeartbeats 2000000
namespace CT
open PySem PySem.Spec PyProof.Rows L2
open PySem.W (Codec)
section
variable {P : Program} {w : World} {K : PySem.W.Frag} {mg : Str → Option Value} {base : Heap}

/-! ### terms_fraction -/
theorem drop_step (ns : List Int) (i : Nat) (hi : i < ns.length) : ∃ t, ns[ns.length - 1 - i]? = some t ∧ t ∈ ns ∧
    Re03.value (ns.drop (ns.length - (i + 1))) = (t * (Re03.value (ns.drop (ns.length - i))).1 + (Re03.value (ns.drop (ns.length - i))).2, (Re03.value (ns.drop (ns.length - i))).1) := by
  have hj : ns.length - 1 - i < ns.length := by omega
  refine ⟨ns[ns.length - 1 - i], List.getElem?_eq_getElem hj, List.getElem_mem hj, ?_⟩
  have e : ns.length - (i + 1) = ns.length - 1 - i := by omega
  have e2 : ns.length - i = ns.length - 1 - i + 1 := by omega
  rw [e, e2, List.drop_eq_getElem_cons hj]
  rfl

theorem scTF : FnScope ["row", "upper", "lower", "term", "wider"] ["row"] (defScope sTermsFrac) := ⟨rfl, rfl, rfl, by decide +kernel, rfl, by decide +kernel, by decide +kernel⟩
def spTermsFrac (K : PySem.W.Frag) : Sp := fun vs H Q _ => ∃ (a : Addr) (ns : List Int), vs = [.ref a] ∧ SqL K H a (ns.map V.int) ∧ (∀ x ∈ ns, x.natAbs ≤ 1000001) ∧
  ∀ H' p, Same H H' → H p = none → H' p = some (.lst [.int (Re03.value ns).1, .int (Re03.value ns).2]) → Q (.ref p) H'

theorem ok_termsFrac {f : Addr} {fd : FuncData} (F : Fun K "terms_fraction" "terms_fraction" sTermsFrac f fd) (mr : mg "reversed" = none) : FnOk P w K mg base CX0 1 f fd ["row"] (spTermsFrac K) := by
  refine F.ok scTF (fun vs H Q E h => ?_) (fun cdv A outer s H vs Q E hr h => ?_)
  · obtain ⟨a, ns, rfl, _⟩ := h
    rfl
  · obtain ⟨a, ns, rfl, hS, hb, k⟩ := h
    refine ⟨_, pss_cons (ps_set (i := 1) scTF.nd rfl (.inl rfl) pe_int)
      (pss_cons (ps_set (i := 2) scTF.nd rfl (.inl rfl) pe_int)
      (pss_cons (ps_for PassesOwn.never rfl (pi_reversed (by rfl) mr (pa_cons (pv 0) pa_nil)) (pg_name (i := 3) scTF.nd rfl (.inl rfl))
        (pss_cons (ps_set (i := 4) scTF.nd rfl (.inl rfl) (pe_op op_add (pe_op op_mul (pv 3) (pv 1)) (pv 2)))
        (pss_cons (ps_set (i := 2) scTF.nd rfl (.inl rfl) (pv 1))
        (pss_one (ps_set (i := 1) scTF.nd rfl (.inl rfl) (pv 4))))))
      (pss_one (ps_ret (pe_lst (pa_cons (pv 1) (pa_cons (pv 2) pa_nil))))))), ?_⟩
    refine ⟨_, rfl, a, ns.map V.int, rfl, hS, ?_⟩
    refine RT.for_Itv (K := K) (a := a) (xs := ns.map V.int) (fun i σ H' => ∃ (v v4 : Option V), σ = [some (.ref a), some (.int (Re03.value (ns.drop (ns.length - i))).1), some (.int (Re03.value (ns.drop (ns.length - i))).2), v, v4] ∧ H' = H)
      ⟨none, none, ?_, rfl⟩ (fun i σ H' ⟨_, _, _, e⟩ => by rw [e]; exact hS) ?_ ?_
    · rw [Nat.sub_zero, List.drop_length]; rfl
    · rintro i x σ H' hi hx ⟨v, v4, rfl, rfl⟩
      rw [List.length_map] at hi hx
      obtain ⟨t, ht, hm, hv⟩ := drop_step ns i hi
      rw [List.getElem?_map, ht] at hx
      obtain rfl : V.int t = x := Option.some.inj hx
      have := hb t hm
      refine ⟨_, rfl, _, rfl, _, _, rfl, rfl, .inl ⟨by omega, by omega⟩, _, rfl, _, _, rfl, rfl, ?_⟩
      refine ⟨_, rfl, _, rfl, ?_⟩
      rw [hv]
      exact ⟨_, _, rfl, rfl⟩
    · rintro σ H' ⟨v, v4, rfl, rfl⟩
      rw [List.length_map, Nat.sub_self, List.drop_zero]
      refine ⟨_, rfl, _, rfl, (by show 2 ≤ 2 ^ 24; decide), fun p np => ?_⟩
      exact k _ p (same_upd np) np upd_same
end
end CT

set_option Elab.async false
set_option maxRecDepth 100000
set_option maxHeartbeats 2000000
namespace CT
open PySem PySem.Spec PyProof.Rows L2
open PySem.W (Codec)
section
variable {P : Program} {w : World} {K : PySem.W.Frag} {mg : Str → Option Value} {base : Heap}

/-! ### slices -/
theorem cut_head (xs : List V) (i : Nat) (h : i ≤ xs.length) : cutV xs none (some (i : Int)) = xs.take i := by
  unfold cutV
  rw [HT.sIx_none, HT.sIx_nat, Nat.min_eq_left h, Nat.sub_zero, List.drop_zero]
theorem cut_tail (xs : List V) (i : Nat) (h : i ≤ xs.length) : cutV xs (some (i : Int)) none = xs.drop i := by
  unfold cutV
  rw [HT.sIx_none, HT.sIx_nat, Nat.min_eq_left h]
  apply List.take_of_length_le
  rw [List.length_drop]
  omega

/-! ### ring_terms -/
def keyOf (x : Re03.Surd) : List Key := [Sum.inl x.p, Sum.inl x.q]
theorem keyOf_inj {x y : Re03.Surd} (h : keyOf x = keyOf y) : x = y := by
  cases x; cases y
  simp only [keyOf, List.cons.injEq, Sum.inl.injEq, and_true] at h
  rw [h.1, h.2]
def placesOf (D : Nat) (x : Re03.Surd) (k : Nat) : List (List Key × V) := (List.range k).map fun i => (keyOf (CR.it D x i), V.int (i : Int))
theorem places_succ (D : Nat) (x : Re03.Surd) (k : Nat) : placesOf D x (k + 1) = placesOf D x k ++ [(keyOf (CR.it D x k), V.int (k : Int))] := by
  unfold placesOf
  rw [List.range_succ, List.map_append]
  rfl
theorem places_len (D : Nat) (x : Re03.Surd) (k : Nat) : (placesOf D x k).length = k := by simp [placesOf]
theorem places_none (D : Nat) (x y : Re03.Surd) (k : Nat) (h : ∀ i, i < k → CR.it D x i ≠ y) : valV (placesOf D x k) (keyOf y) = none := by
  unfold valV placesOf
  rw [List.find?_map, List.find?_eq_none.mpr]
  · rfl
  · intro i hi
    rw [List.mem_range] at hi
    simp only [Function.comp, decide_eq_true_eq]
    exact fun e => h i hi (keyOf_inj e)
theorem places_some (D : Nat) (x y : Re03.Surd) (k i : Nat) (hi : i < k) (he : CR.it D x i = y) (h : ∀ a, a < i → CR.it D x a ≠ y) : valV (placesOf D x k) (keyOf y) = some (V.int (i : Int)) := by
  unfold valV placesOf
  rw [List.find?_map, List.find?_range_eq_some.mpr ⟨?_, ?_, ?_⟩]
  · rfl
  · simp [he]
  · simpa using hi
  · intro a ha
    simp only [Function.comp, Bool.not_eq_true', decide_eq_false_iff_not]
    exact fun e => h a ha (keyOf_inj e)

theorem scRT : FnScope ["p", "q", "n", "size", "square", "whole", "upper", "lower", "row", "places", "term", "start"] ["p", "q", "n"] (defScope sRingTerms) := ⟨rfl, rfl, rfl, by decide +kernel, rfl, by decide +kernel, by decide +kernel⟩
def rowOf (D : Nat) (x : Re03.Surd) (k : Nat) : List V := (List.range k).map fun i => V.int ((CR.it D x i).floor D)
theorem row_succ (D : Nat) (x : Re03.Surd) (k : Nat) : rowOf D x (k + 1) = rowOf D x k ++ [V.int ((CR.it D x k).floor D)] := by
  unfold rowOf
  rw [List.range_succ, List.map_append]
  rfl
theorem row_len (D : Nat) (x : Re03.Surd) (k : Nat) : (rowOf D x k).length = k := by simp [rowOf]

def spRingTerms : Sp := fun vs H Q _ => ∃ (p q : Int) (n : Nat), vs = [.int p, .int q, .int n] ∧ n ≤ 1000000 ∧ q.natAbs ≤ 100 ∧ p.natAbs ≤ 100 ∧ CR.RHyp (n * q.natAbs * q.natAbs) ⟨p * q.natAbs, q * q.natAbs⟩ ∧
  ∀ H' t a b, Same H H' → H' t = some (.tup [.ref a, .ref b]) →
    H' a = some (.lst ((Re03.Surd.terms (n * q.natAbs * q.natAbs) ⟨p * q.natAbs, q * q.natAbs⟩).1.map V.int)) →
    H' b = some (.lst ((Re03.Surd.terms (n * q.natAbs * q.natAbs) ⟨p * q.natAbs, q * q.natAbs⟩).2.map V.int)) → Q (.ref t) H'
def wRingTerms (p q n g : Int) (D : Nat) (x : Re03.Surd) (j : Nat) (H : Hp) (r d : Addr) : Nat → L2.St → Hp → Prop := fun m σ H' => ∃ (k : Nat) (v : Option V),
  σ = [some (.int p), some (.int q), some (.int n), some (.int g), some (.int D), some (.int (Re03.root D)), some (.int (CR.it D x k).p), some (.int (CR.it D x k).q), some (.ref r), some (.ref d), v, none] ∧
  Same H H' ∧ H' r = some (.lst (rowOf D x k)) ∧ H' d = some (.dT (placesOf D x k)) ∧ k ≤ j ∧ m = j - k

structure TxtR (mg : Str → Option Value) : Prop where
  abs : mg "abs" = none
  len : mg "len" = none

theorem ok_ringTerms {f : Addr} {fd : FuncData} (F : Fun K "ring_terms" "ring_terms" sRingTerms f fd) (T : TxtR mg)
    (W : Keeps P w K mg base "whole_root" 1 ["n"] spWhole) (L : Keeps P w K mg base "surd_floor" 1 ["upper", "lower", "whole"] spFloor) : FnOk P w K mg base CX0 2 f fd ["p", "q", "n"] spRingTerms := by
  obtain ⟨fW, fdW, mW, kW, bW, GW⟩ := W
  obtain ⟨fL, fdL, mL, kL, bL, GL⟩ := L
  refine F.ok scRT (fun vs H Q E h => ?_) (fun cdv A outer s H vs Q E hr h => ?_)
  · obtain ⟨p, q, n, rfl, _⟩ := h
    rfl
  · obtain ⟨p, q, n, rfl, hn, hq, hp, hR, k⟩ := h
    refine ⟨_, pss_cons (ps_set (i := 3) scRT.nd rfl (.inl rfl) (pe_callB call_abs (by rfl) T.abs (by decide +kernel) (pa_cons (pv 1) pa_nil)))
      (pss_cons (ps_set (i := 4) scRT.nd rfl (.inl rfl) (pe_op op_mul (pe_op op_mul (pv 2) (pv 3)) (pv 3)))
      (pss_cons (ps_set (i := 5) scRT.nd rfl (.inl rfl) (pe_call GW hr rfl mW kW bW .nil pass0 (pa_cons (pv 4) pa_nil)))
      (pss_cons (ps_set (i := 6) scRT.nd rfl (.inl rfl) (pe_op op_mul (pv 0) (pv 3)))
      (pss_cons (ps_set (i := 7) scRT.nd rfl (.inl rfl) (pe_op op_mul (pv 1) (pv 3)))
      (pss_cons (ps_set (i := 8) scRT.nd rfl (.inl rfl) (pe_lst pa_nil))
      (pss_cons (ps_set (i := 9) scRT.nd rfl (.inl rfl) pe_dnewT)
      (pss_cons (ps_while PassesOwn.never (pt_cmp (pc_dnotin (hu_of hr) (pe_tup (pa_cons (pv 6) (pa_cons (pv 7) pa_nil))) (pv 9)))
        (pss_cons (ps_dput (hu_of hr) (pv 9) (pe_tup (pa_cons (pv 6) (pa_cons (pv 7) pa_nil))) (pe_callB call_len_seq (by rfl) T.len PySem.boot_len (pa_cons (pv 8) pa_nil)) rfl)
        (pss_cons (ps_set (i := 10) scRT.nd rfl (.inl rfl) (pe_call GL hr rfl mL kL bL .nil pass0 (pa_cons (pv 6) (pa_cons (pv 7) (pa_cons (pv 5) pa_nil)))))
        (pss_cons (ps_expr (pe_bm PySem.F.plainAttrs_list PySem.F.slot_list_append PySem.F.type_list_append mt_append (pv 8) (pa_cons (pv 10) pa_nil)))
        (pss_cons (ps_set (i := 6) scRT.nd rfl (.inl rfl) (pe_op op_sub (pe_op op_mul (pv 10) (pv 7)) (pv 6)))
        (pss_one (ps_set (i := 7) scRT.nd rfl (.inl rfl) (pe_op op_fdivN (pe_op op_sub (pv 4) (pe_op op_mul (pv 6) (pv 6))) (pv 7)))))))))
      (pss_cons (ps_set (i := 11) scRT.nd rfl (.inl rfl) (pe_dget (hu_of hr) (pv 9) (pe_tup (pa_cons (pv 6) (pa_cons (pv 7) pa_nil))) (fun _ _ => rfl)))
      (pss_one (ps_ret (pe_tup (pa_cons (pe_slice sl_list (pv 8) po_none (po_some (pv 11))) (pa_cons (pe_slice sl_list (pv 8) (po_some (pv 11)) po_none) pa_nil))))))))))))), ?_⟩
    generalize hg : q.natAbs = g at *
    have habs : (if q < 0 then -q else q) = (g : Int) := by split <;> omega
    refine ⟨_, rfl, _, rfl, ?_⟩
    dsimp only; rw [habs]
    have hn2 : n * g ≤ 1000000 * 100 := Nat.mul_le_mul hn hq
    have hD : (n : Int) * (g : Int) * (g : Int) = ((n * g * g : Nat) : Int) := by push_cast; rfl
    have hDle : n * g * g ≤ 1000000 * 100 * 100 := Nat.mul_le_mul hn2 hq
    refine ⟨_, rfl, _, rfl, _, _, rfl, rfl, .inl ⟨by omega, by omega⟩, _, rfl, _, _, rfl, rfl, .inr ⟨by omega, by omega⟩, ?_⟩
    dsimp only; rw [hD]
    generalize hDD : n * g * g = D at *
    refine ⟨_, rfl, D, rfl, by omega, ?_⟩
    refine ⟨_, rfl, _, rfl, _, _, rfl, rfl, .inl ⟨by omega, by omega⟩, ?_⟩
    refine ⟨_, rfl, _, rfl, _, _, rfl, rfl, .inl ⟨by omega, by omega⟩, ?_⟩
    generalize hx : (⟨p * (g : Int), q * (g : Int)⟩ : Re03.Surd) = x at *
    have hxp : p * (g : Int) = x.p := by rw [← hx]
    have hxq : q * (g : Int) = x.q := by rw [← hx]
    refine ⟨Nat.zero_le _, fun r nr => ?_⟩
    intro d nd
    have ndr : d ≠ r := fun e => by rw [e, upd_same] at nd; cases nd
    have nd0 : H d = none := by rw [upd_ne ndr] at nd; exact nd
    obtain ⟨j, i, hj, hij, he, hdis, hring⟩ := hR.closes
    have s0 : Same H (upd (upd H r (.lst [])) d (.dT [])) := (same_upd nr).trans (same_upd nd)
    refine ⟨wRingTerms p q n g D x j H r d, ⟨_, 0, none, ?_, s0, ?_, ?_, Nat.zero_le _, rfl⟩, ?_⟩
    · dsimp only; rw [hxp, hxq]; rfl
    · rw [upd_ne ndr.symm, upd_same]; rfl
    · rw [upd_same]; rfl
    · rintro m σ H' ⟨k', v, rfl, sm, hr', hd', hk, rfl⟩
      by_cases hlt : k' < j
      · have hnone := places_none D x (CR.it D x k') k' (fun a ha => hdis a k' ha hlt)
        refine ⟨_, rfl, _, rfl, (by show 2 ≤ 2 ^ 24; decide), fun t nt => ?_⟩
        have ndt : d ≠ t := ne_of_none hd' nt
        have nrt : r ≠ t := ne_of_none hr' nt
        have sm1 := sm.trans (same_upd (o := .tup [.int (CR.it D x k').p, .int (CR.it D x k').q]) nt)
        refine ⟨_, rfl, d, _, rfl, DGet.t (k := keyOf (CR.it D x k')) (by rw [upd_ne ndt]; exact hd') upd_same, _, rfl, ?_⟩
        rw [hnone]
        refine if_true_of rfl ⟨fun σ' H'' => ∃ m', m' < j - k' ∧ wRingTerms p q n g D x j H r d m' σ' H'', fun _ _ h => h, ?_⟩
        -- places[(upper, lower)] = len(row)
        refine ⟨_, rfl, r, _, rfl, .inl (SqL.of (by rw [upd_ne nrt]; exact hr')), _, rfl, _, rfl, _, rfl, (by show 2 ≤ 2 ^ 24; decide), fun u nu => ?_⟩
        have nut : u ≠ t := fun e => by rw [e, upd_same] at nu; cases nu
        have ndu : d ≠ u := ne_of_none (by rw [upd_ne ndt]; exact hd') nu
        have nru : r ≠ u := ne_of_none (by rw [upd_ne nrt]; exact hr') nu
        have hj' : j < 100000 := hj
        refine ⟨d, _, rfl, DPut.t (k := keyOf (CR.it D x k')) (by rw [upd_ne ndu, upd_ne ndt]; exact hd') upd_same (by rw [places_len]; show _ < 2 ^ 24; omega), ?_⟩
        rw [putK_new _ hnone, row_len, ← places_succ]
        -- term = surd_floor(upper, lower, whole); row.append(term)
        have hrr : upd (upd (upd H' t (.tup [.int (CR.it D x k').p, .int (CR.it D x k').q])) u (.tup [.int (CR.it D x k').p, .int (CR.it D x k').q])) d (.dT (placesOf D x (k' + 1))) r = some (.lst (rowOf D x k')) := by
          rw [upd_ne ndr.symm, upd_ne nru, upd_ne nrt]; exact hr'
        obtain ⟨hq0, hqb⟩ := hR.q k'
        have hpb := hR.p k'
        have hpb1 := hR.p (k' + 1)
        refine ⟨_, rfl, _, rfl, _, rfl, (CR.it D x k').p, (CR.it D x k').q, D, rfl, hq0, hqb, ?_⟩
        refine ⟨_, rfl, .inl ⟨rfl, _, SqL.of hrr⟩, _, rfl, r, _, _, rfl, rfl, hrr, (by rw [row_len]; show _ < 2 ^ 24; omega), ?_⟩
        have ep : Re03.Surd.floor D (CR.it D x k') * (CR.it D x k').q - (CR.it D x k').p = (CR.it D x (k' + 1)).p := rfl
        have eq : Int.fdiv ((D : Int) - (CR.it D x (k' + 1)).p * (CR.it D x (k' + 1)).p) (CR.it D x k').q = (CR.it D x (k' + 1)).q := by
          have hdv : (CR.it D x k').q ∣ (D : Int) - (CR.it D x (k' + 1)).p * (CR.it D x (k' + 1)).p := CR.next_p_dvd D _ (CR.it_V D hR.base x hR.v k')
          rw [Int.fdiv_eq_ediv_of_dvd hdv]
          rfl
        refine ⟨_, rfl, _, rfl, _, _, rfl, rfl, .inr ⟨by omega, by omega⟩, _, rfl, _, _, rfl, rfl, ?_⟩
        dsimp only
        rw [ep]
        refine ⟨_, rfl, _, rfl, _, rfl, _, _, rfl, rfl, .inl ⟨by omega, by omega⟩, _, _, rfl, rfl, _, rfl, _, _, rfl, rfl, ⟨hq0, hqb⟩, ?_⟩
        dsimp only
        rw [eq]
        refine ⟨j - (k' + 1), by omega, k' + 1, _, rfl, ?_, ?_, ?_, by omega, rfl⟩
        · intro b o eb
          have nbr : b ≠ r := ne_of_none eb nr
          have nbd : b ≠ d := ne_of_none eb nd0
          have e1 := sm1 b o eb
          rw [upd_ne nbr, upd_ne nbd, upd_ne (ne_of_none e1 nu)]
          exact e1
        · rw [upd_same, row_succ]
        · rw [upd_ne ndr, upd_same]
      · have ek : k' = j := by omega
        subst ek
        have hsome := places_some D x (CR.it D x k') k' i hij he (fun a ha hc => hdis a i ha hij (hc.trans he.symm))
        refine ⟨_, rfl, _, rfl, (by show 2 ≤ 2 ^ 24; decide), fun t nt => ?_⟩
        have ndt : d ≠ t := ne_of_none hd' nt
        have nrt : r ≠ t := ne_of_none hr' nt
        have sm1 := sm.trans (same_upd (o := .tup [.int (CR.it D x k').p, .int (CR.it D x k').q]) nt)
        refine ⟨_, rfl, d, _, rfl, DGet.t (k := keyOf (CR.it D x k')) (by rw [upd_ne ndt]; exact hd') upd_same, _, rfl, ?_⟩
        rw [hsome]
        refine if_false_of rfl ?_
        -- start = places[(upper, lower)]
        refine ⟨_, rfl, _, rfl, _, rfl, (by show 2 ≤ 2 ^ 24; decide), fun u nu => ?_⟩
        have ndu : d ≠ u := ne_of_none (by rw [upd_ne ndt]; exact hd') nu
        have nru : r ≠ u := ne_of_none (by rw [upd_ne nrt]; exact hr') nu
        have hdg := DGet.t (H := upd (upd H' t (.tup [.int (CR.it D x k').p, .int (CR.it D x k').q])) u (.tup [.int (CR.it D x k').p, .int (CR.it D x k').q])) (a := d) (b := u) (k := keyOf (CR.it D x k')) (kvs := placesOf D x k') (by rw [upd_ne ndu, upd_ne ndt]; exact hd') upd_same
        rw [hsome] at hdg
        refine ⟨d, _, rfl, hdg, ?_⟩
        -- return (row[:start], row[start:])
        have hr2 : upd (upd H' t (.tup [.int (CR.it D x k').p, .int (CR.it D x k').q])) u (.tup [.int (CR.it D x k').p, .int (CR.it D x k').q]) r = some (.lst (rowOf D x k')) := by
          rw [upd_ne nru, upd_ne nrt]; exact hr'
        have sm2 := sm1.trans (same_upd (o := .tup [.int (CR.it D x k').p, .int (CR.it D x k').q]) nu)
        generalize upd (upd H' t (.tup [.int (CR.it D x k').p, .int (CR.it D x k').q])) u (.tup [.int (CR.it D x k').p, .int (CR.it D x k').q]) = H2 at hr2 sm2 ⊢
        refine ⟨_, rfl, _, rfl, _, rfl, r, _, rfl, SqL.of hr2, fun a na => ?_⟩
        have nra : r ≠ a := ne_of_none hr2 na
        refine ⟨_, rfl, _, rfl, _, rfl, r, _, rfl, SqL.of (by rw [upd_ne nra]; exact hr2), fun b nb => ?_⟩
        have nba : a ≠ b := ne_of_none upd_same nb
        refine ⟨by show 2 ≤ 2 ^ 24; decide, fun t2 nt2 => ?_⟩
        have hb : upd (upd H2 a (.lst (cutV (rowOf D x k') none (some (i : Int))))) b (.lst (cutV (rowOf D x k') (some (i : Int)) none)) b = some (.lst (cutV (rowOf D x k') (some (i : Int)) none)) := upd_same
        have ha : upd (upd H2 a (.lst (cutV (rowOf D x k') none (some (i : Int))))) b (.lst (cutV (rowOf D x k') (some (i : Int)) none)) a = some (.lst (cutV (rowOf D x k') none (some (i : Int)))) := by rw [upd_ne nba, upd_same]
        have sm4 := (sm2.trans (same_upd na)).trans (same_upd (o := .lst (cutV (rowOf D x k') (some (i : Int)) none)) nb)
        refine k _ t2 a b (sm4.trans (same_upd nt2)) upd_same ?_ ?_
        · rw [upd_ne (ne_of_none ha nt2), ha, cut_head _ _ (by rw [row_len]; omega), CR.terms_of D x k' i hij hring]
          unfold rowOf
          rw [← List.map_take, List.take_range, Nat.min_eq_left (Nat.le_of_lt hij), List.map_map]
          rfl
        · rw [upd_ne (ne_of_none hb nt2), hb, cut_tail _ _ (by rw [row_len]; omega), CR.terms_of D x k' i hij hring]
          unfold rowOf
          rw [← List.map_drop, List.map_map]
          rfl
end
end CT

set_option Elab.async false
set_option maxRecDepth 100000
set_option maxHeartbeats 2000000
namespace CT
open PySem PySem.Spec PyProof.Rows L2
/-! ### min(xs, default=d): over a list of whole numbers -/
def rMinD (K : PySem.W.Frag) : List V → List V → Hp → VK → Prop := fun vs zs H Q => ∃ (a : Addr) (ns : List Int) (d : Int), vs = [V.ref a] ∧ zs = [V.int d] ∧ SqL K H a (ns.map V.int) ∧
  (ns = [] → Q (.int d) H) ∧ ∀ m, m ∈ ns → (∀ y, y ∈ ns → m ≤ y) → Q (.int m) H
theorem reads_ints {h : Heap} : ∀ {vs : List Value} {ns : List Int}, IntsAre vs ns → ReadsAll h vs (ns.map PyData.int) []
  | _, _, .nil => .nil
  | _, _, .cons n t r => ReadsAll.cons (Reads.int n t) (reads_ints r)
theorem alike_ints (ns : List Int) : PySem.W.AlikeAll (ns.map PyData.int) := by
  constructor
  · intro x hx y hy
    obtain ⟨a, _, rfl⟩ := List.mem_map.mp hx
    obtain ⟨b, _, rfl⟩ := List.mem_map.mp hy
    rfl
  · intro x hx
    obtain ⟨a, _, rfl⟩ := List.mem_map.mp hx
    intro e; cases e
theorem depth_ints : ∀ ns : List Int, PyData.depthAll (ns.map PyData.int) ≤ 1
  | [] => by decide
  | n :: ns => by
    have := depth_ints ns
    show max (PyData.depth (.int n)) (PyData.depthAll (ns.map PyData.int)) ≤ 1
    have e : PyData.depth (.int n) ≤ 1 := by simp [PyData.depth]
    omega
theorem foldl_min (ns : List Int) : ∀ n : Int, (ns.foldl min n ∈ n :: ns) ∧ ∀ y ∈ n :: ns, ns.foldl min n ≤ y := by
  induction ns with
  | nil => intro n; simp
  | cons k r ih =>
    intro n
    obtain ⟨h1, h2⟩ := ih (min n k)
    rw [List.foldl_cons]
    constructor
    · rcases List.mem_cons.mp h1 with h | h
      · rw [h]
        rcases Int.le_total n k with h' | h'
        · rw [Int.min_eq_left h']; simp
        · rw [Int.min_eq_right h']; simp
      · simp [h]
    · intro y hy
      have h3 := h2 (min n k) (by simp)
      rcases List.mem_cons.mp hy with rfl | hy
      · omega
      · rcases List.mem_cons.mp hy with rfl | hy
        · omega
        · exact h2 y (by simp [hy])
theorem cr_minD {X : Cx} (hc : X.calm = true) (hu : X.A.units + 64 < cLine) : CallRK X (.builtin "min") [Str.ofString "default"] (rMinD X.K) := by
  intro pins s σ H vs zs us ws Q I r rz h
  obtain ⟨a, ns, d, rfl, rfl, hs, q0, q1⟩ := h
  obtain rfl := Vals.ref1 r
  obtain ⟨w1, rfl, e1⟩ := vals1 rz
  obtain ⟨its, rv, hl, _⟩ := I.list hs
  have hi := rv.ints
  have hd := depth_ints ns
  refine PySem.W.min_list_default (I.ok.hd hc) hl.isList (reads_ints (by simpa using hi)) (alike_ints ns) (by omega) ?_ ?_
  · intro e h' tk hk
    have e' : ns = [] := List.map_eq_nil_iff.mp e
    exact ⟨.int d, H, I.kept hk, e1, q0 e'⟩
  · intro y ys i v h' tk bs e hv hr hk
    cases ns with
    | nil => cases e
    | cons n r =>
      rw [List.map_cons] at e
      obtain ⟨rfl, rfl⟩ := List.cons.inj e
      rw [PySem.W.minD_ints] at hr
      obtain ⟨m1, m2⟩ := foldl_min r n
      generalize r.foldl min n = m at *
      cases hr with
      | int i t => exact ⟨.int m, H, I.kept hk, ⟨_, rfl⟩, q1 m m1 m2⟩
end CT

set_option Elab.async false
set_option maxRecDepth 100000
set_option maxHeartbeats 2000000
namespace CT
open PySem PySem.Spec PyProof.Rows L2
open PySem.W (Codec)

abbrev sAnsTerms : Stmt := top 25
abbrev sAnsValue : Stmt := top 26
abbrev sAnsRoot : Stmt := top 27
abbrev sAnsRing : Stmt := top 28
abbrev sAnsNear : Stmt := top 29

/-- what is due of one call -/
def due (c : Re03.Call) : List Int := Re03Neutral.out (Re03.step Re03.init c).2

/-- a whole number that the module's top has set -/
def Is (mg : Str → Option Value) (x : Str) (c : Int) : Prop := ∃ t, mg x = some (.int c t)
theorem pe_const {X : Cx} {x : Str} {c : Int} {pos : Pos} (hg : Gl X x) (h : Is X.mg x c) (hd : (x == ("__debug__" : Str)) = false := by decide) : PE X (.Name x pos) (tC (.int c)) := by
  obtain ⟨t, h⟩ := h
  exact pe_glob (v := .int c) hg h ⟨t, rfl⟩ hd
structure Txt (mg : Str → Option Value) : Prop where
  abs : mg "abs" = none
  len : mg "len" = none
  max : mg "max" = none
  min : mg "min" = none
  oob : Is mg "OUT_OF_BOUNDS" (-1)
  nfit : Is mg "NOT_FITTING" (-3)
  frac : Is mg "MOST_FRACTION" 1000000
  mterms : Is mg "MOST_TERMS" 20
  mterm : Is mg "MOST_TERM" 1000
  mroot : Is mg "MOST_ROOT" 1000000
  rpart : Is mg "MOST_RING_PART" 100
  rroot : Is mg "MOST_RING_ROOT" 1000
  below : Is mg "MOST_BELOW" 300
  none6 : Is mg "NONE_THERE" (-6)
  times : Is mg "MOST_TIMES" 1000
  solu : Is mg "MOST_SOLUTION" 5

/-- a list of whole numbers comes back, new -/
def Gives (H : Hp) (Q : VK) (l : List Int) : Prop := ∀ H' p, Same H H' → H p = none → H' p = some (.lst (l.map V.int)) → Q (.ref p) H'
theorem Gives.one {H : Hp} {Q : VK} {z : Int} (k : Gives H Q [z]) {p : Addr} (np : H p = none) : Q (.ref p) (upd H p (.lst [.int z])) := k _ p (same_upd np) np upd_same
theorem Same.none {H H' : Hp} {p : Addr} (s : Same H H') (h : H' p = none) : H p = none := by
  cases e : H p with
  | none => rfl
  | some o => rw [s p o e] at h; cases h

section
variable {P : Program} {w : World} {K : PySem.W.Frag} {mg : Str → Option Value} {base : Heap}

/-! ### answer_terms -/
theorem scAT : FnScope ["n", "d", "row"] ["n", "d"] (defScope sAnsTerms) := ⟨rfl, rfl, rfl, by decide +kernel, rfl, by decide +kernel, by decide +kernel⟩
def spAnsTerms : Sp := fun vs H Q _ => ∃ (n : Int) (d : Nat), vs = [.int n, .int d] ∧ Gives H Q (due (.terms n d))
theorem due_terms_no (n : Int) (d : Nat) (h : d = 0 ∨ 1000000 < d ∨ 1000000 < n.natAbs) : due (.terms n d) = [-1] := by
  unfold due Re03.step
  dsimp only
  rw [if_pos (by exact h)]; rfl
theorem due_terms_yes (n : Int) (d : Nat) (h : ¬ (d = 0 ∨ 1000000 < d ∨ 1000000 < n.natAbs)) : due (.terms n d) = ((Re03.terms (d + 1) n d).length : Int) :: Re03.terms (d + 1) n d := by
  unfold due Re03.step
  dsimp only
  rw [if_neg (by exact h)]; rfl
theorem ok_ansTerms {f : Addr} {fd : FuncData} (F : Fun K "answer_terms" "answer_terms" sAnsTerms f fd) (T : Txt mg)
    (W : Keeps P w K mg base "fraction_terms" 1 ["n", "d"] spFracTerms) : FnOk P w K mg base CX0 2 f fd ["n", "d"] spAnsTerms := by
  obtain ⟨fW, fdW, mW, kW, bW, GW⟩ := W
  refine F.ok scAT (fun vs H Q E h => ?_) (fun cdv A outer s H vs Q E hr h => ?_)
  · obtain ⟨n, d, rfl, _⟩ := h
    rfl
  · obtain ⟨n, d, rfl, k⟩ := h
    refine ⟨_, pss_cons (ps_if (PW.pt (pw_or (pt_cmpR op_eq (pv 1) pe_int (nomark _)) (pw_or (pt_cmpR op_gt (pv 1) (pe_const rfl T.frac) (nomark _)) (pw_or1 (pt_cmpR op_gt (pe_callB call_abs (by rfl) T.abs (by decide +kernel) (pa_cons (pv 0) pa_nil)) (pe_const rfl T.frac) (nomark _))))))
        (pss_one (ps_ret (pe_lst (pa_cons (pe_const rfl T.oob) pa_nil)))) pss_nil)
      (pss_cons (ps_set (i := 2) scAT.nd rfl (.inl rfl) (pe_call GW hr rfl mW kW bW .nil pass0 (pa_cons (pv 0) (pa_cons (pv 1) pa_nil))))
      (pss_one (ps_ret (pe_op op_cat (pe_lst (pa_cons (pe_callB call_len_seq (by rfl) T.len PySem.boot_len (pa_cons (pv 2) pa_nil)) pa_nil)) (pv 2))))), ?_⟩
    have no : (d = 0 ∨ 1000000 < d ∨ 1000000 < n.natAbs) → ∀ p, H p = none → Q (.ref p) (upd H p (.lst [.int (-1)])) := fun h p np => by
      rw [due_terms_no n d h] at k
      exact k.one np
    refine ⟨_, rfl, rfl, _, rfl, if_dec (fun hc => ?_) (fun hc => ?_)⟩
    · have hc' : (d : Int) = 0 := V.int.inj hc
      exact if_true_of rfl ⟨by decide, no (.inl (by omega))⟩
    · have hc' : ¬ (d : Int) = 0 := fun e => hc (congrArg V.int e)
      refine ⟨_, rfl, _, _, rfl, rfl, _, rfl, if_dec (fun hd => ?_) (fun hd => ?_)⟩
      · exact if_true_of rfl ⟨by decide, no (.inr (.inl (by omega)))⟩
      · refine ⟨_, rfl, _, rfl, _, _, rfl, rfl, _, rfl, ?_⟩
        have ha : (if n < 0 then -n else n) = (n.natAbs : Int) := by split <;> omega
        dsimp only
        rw [ha]
        refine if_dec (fun he => ?_) (fun he => ?_)
        · exact ⟨by decide, no (.inr (.inr (by omega)))⟩
        · have hno : ¬ (d = 0 ∨ 1000000 < d ∨ 1000000 < n.natAbs) := by omega
          rw [due_terms_yes n d hno] at k
          refine ⟨_, rfl, _, rfl, n, d, rfl, by omega, by omega, fun H1 r s1 nr hr1 => ?_⟩
          have hlen := terms_len (d + 1) n d
          refine ⟨_, rfl, r, _, rfl, .inl (SqL.of hr1), ?_⟩
          refine ⟨(by show 1 ≤ 2 ^ 24; decide), fun l nl => ?_⟩
          have nrl : r ≠ l := ne_of_none hr1 nl
          refine ⟨_, rfl, l, r, _, _, rfl, rfl, upd_same, (by rw [upd_ne nrl]; exact hr1), ?_, fun p np => ?_⟩
          · rw [List.length_map]
            show 1 + _ ≤ 2 ^ 24
            omega
          · have s2 : Same H1 (upd H1 l (.lst [.int ((List.map V.int (Re03.terms (d + 1) n d)).length : Int)])) := same_upd nl
            have s3 := s1.trans s2
            refine k _ p (s3.trans (same_upd np)) (Same.none s3 np) ?_
            rw [upd_same, List.length_map]
            rfl

/-! ### answer_value -/
theorem scAV : FnScope ["row"] ["row"] (defScope sAnsValue) := ⟨rfl, rfl, rfl, by decide +kernel, rfl, by decide +kernel, by decide +kernel⟩
def spAnsValue (K : PySem.W.Frag) : Sp := fun vs H Q _ => ∃ (a : Addr) (ns : List Int), vs = [.ref a] ∧ SqL K H a (ns.map V.int) ∧ ns.length ≤ 1280 ∧ Gives H Q (due (.value ns))
theorem due_value_no (ns : List Int) (h : ns = [] ∨ 20 < ns.length ∨ ∃ a ∈ ns, 1000 < a.natAbs) : due (.value ns) = [-1] := by
  unfold due Re03.step
  dsimp only
  rw [if_pos]; rfl
  rcases h with h | h | ⟨a, h1, h2⟩
  · exact .inl h
  · exact .inr (.inl h)
  · exact .inr (.inr (List.any_eq_true.mpr ⟨a, h1, decide_eq_true h2⟩))
theorem value_neg {ns : List Int} (h1 : ns ≠ []) (h2 : ns.length ≤ 20) (h3 : ∀ a ∈ ns, a.natAbs ≤ 1000) : ¬ (ns = [] ∨ 20 < ns.length ∨ ns.any (fun a => decide (1000 < a.natAbs)) = true) := by
  rintro (h | h | h)
  · exact h1 h
  · omega
  · obtain ⟨a, k1, k2⟩ := List.any_eq_true.mp h
    have := h3 a k1
    have := of_decide_eq_true k2
    omega
theorem due_value_odd (ns : List Int) (h1 : ns ≠ []) (h2 : ns.length ≤ 20) (h3 : ∀ a ∈ ns, a.natAbs ≤ 1000) (h : ∃ a ∈ ns.drop 1, a < 1) : due (.value ns) = [-3] := by
  unfold due Re03.step
  dsimp only
  rw [if_neg (value_neg h1 h2 h3), if_pos]; rfl
  obtain ⟨a, k1, k2⟩ := h
  exact List.any_eq_true.mpr ⟨a, k1, decide_eq_true k2⟩
theorem due_value_yes (ns : List Int) (h1 : ns ≠ []) (h2 : ns.length ≤ 20) (h3 : ∀ a ∈ ns, a.natAbs ≤ 1000) (h : ∀ a ∈ ns.drop 1, 1 ≤ a) : due (.value ns) = [0, (Re03.value ns).1, (Re03.value ns).2] := by
  unfold due Re03.step
  dsimp only
  rw [if_neg (value_neg h1 h2 h3), if_neg]; rfl
  intro e
  obtain ⟨a, k1, k2⟩ := List.any_eq_true.mp e
  have := h a k1
  have := of_decide_eq_true k2
  omega
theorem ok_ansValue {f : Addr} {fd : FuncData} (F : Fun K "answer_value" "answer_value" sAnsValue f fd) (T : Txt mg)
    (W : Keeps P w K mg base "terms_fraction" 1 ["row"] (spTermsFrac K)) : FnOk P w K mg base CX0 2 f fd ["row"] (spAnsValue K) := by
  obtain ⟨fW, fdW, mW, kW, bW, GW⟩ := W
  refine F.ok scAV (fun vs H Q E h => ?_) (fun cdv A outer s H vs Q E hr h => ?_)
  · obtain ⟨a, ns, rfl, _⟩ := h
    rfl
  · obtain ⟨a, ns, rfl, hS, hl, k⟩ := h
    refine ⟨_, pss_cons (ps_if (PW.pt (pw_or (pt_cmpR op_eq (pe_callB call_len_seq (by rfl) T.len PySem.boot_len (pa_cons (pv 0) pa_nil)) pe_int (nomark _)) (pw_or1 (pt_cmpR op_gt (pe_callB call_len_seq (by rfl) T.len PySem.boot_len (pa_cons (pv 0) pa_nil)) (pe_const rfl T.mterms) (nomark _)))))
        (pss_one (ps_ret (pe_lst (pa_cons (pe_const rfl T.oob) pa_nil)))) pss_nil)
      (pss_cons (ps_if (PW.pt (pw_or (pt_cmpR op_gt (pe_callB (cr_max rfl) (by rfl) T.max (by decide +kernel) (pa_cons (pv 0) pa_nil)) (pe_const rfl T.mterm) (nomark _)) (pw_or1 (pt_cmpR op_lt (pe_callB (cr_min rfl) (by rfl) T.min (by decide +kernel) (pa_cons (pv 0) pa_nil)) (pe_un un_neg (pe_const rfl T.mterm)) (nomark _)))))
        (pss_one (ps_ret (pe_lst (pa_cons (pe_const rfl T.oob) pa_nil)))) pss_nil)
      (pss_cons (ps_if (pt_cmpR op_lt (pe_callBK (cr_minD rfl hr.units) (by rfl) T.min (by decide +kernel) (pa_cons (pe_slice sl_list (pv 0) (po_some pe_int) po_none) pa_nil) (pk_cons pe_int pk_nil)) pe_int (nomark _))
        (pss_one (ps_ret (pe_lst (pa_cons (pe_const rfl T.nfit) pa_nil)))) pss_nil)
      (pss_one (ps_ret (pe_op op_cat (pe_lst (pa_cons pe_int pa_nil)) (pe_call GW hr rfl mW kW bW .nil pass0 (pa_cons (pv 0) pa_nil))))))), ?_⟩
    have no : (ns = [] ∨ 20 < ns.length ∨ ∃ a ∈ ns, 1000 < a.natAbs) → ∀ p, H p = none → Q (.ref p) (upd H p (.lst [.int (-1)])) := fun h p np => by
      rw [due_value_no ns h] at k
      exact k.one np
    refine ⟨_, rfl, a, _, rfl, .inl hS, rfl, _, rfl, if_dec (fun hc => ?_) (fun hc => ?_)⟩
    · have hc' : ((ns.map V.int).length : Int) = 0 := V.int.inj hc
      rw [List.length_map] at hc'
      exact if_true_of rfl ⟨by decide, no (.inl (List.eq_nil_of_length_eq_zero (by omega)))⟩
    · have hc' : ¬ ((ns.map V.int).length : Int) = 0 := fun e => hc (congrArg V.int e)
      rw [List.length_map] at hc'
      have hne : ns ≠ [] := fun e => hc' (by rw [e]; rfl)
      have hpos : 0 < ns.length := by omega
      refine ⟨_, rfl, a, _, rfl, .inl hS, _, _, rfl, rfl, _, rfl, if_dec (fun hd => ?_) (fun hd => ?_)⟩
      · rw [List.length_map] at hd
        exact ⟨by decide, no (.inr (.inl (by omega)))⟩
      · rw [List.length_map] at hd
        refine ⟨_, rfl, a, ns, rfl, hS, hpos, fun m hm hle => ⟨_, _, rfl, rfl, _, rfl, if_dec (fun he => ?_) (fun he => ?_)⟩⟩
        · exact if_true_of rfl ⟨by decide, no (.inr (.inr ⟨m, hm, by omega⟩))⟩
        · refine ⟨_, rfl, a, ns, rfl, hS, hpos, fun m2 hm2 hle2 => ⟨_, rfl, _, _, rfl, rfl, _, rfl, if_dec (fun hg => ?_) (fun hg => ?_)⟩⟩
          · exact ⟨by decide, no (.inr (.inr ⟨m2, hm2, by omega⟩))⟩
          · have hall : ∀ a ∈ ns, a.natAbs ≤ 1000 := fun x hx => by
              have h1 := hle x hx
              have h2 := hle2 x hx
              omega
            refine ⟨_, rfl, _, rfl, a, _, rfl, hS, fun c nc => ?_⟩
            have ec : cutV (ns.map V.int) (some 1) none = (ns.drop 1).map V.int := by
              rw [List.map_drop]
              exact cut_tail (ns.map V.int) 1 (by rw [List.length_map]; omega)
            rw [ec]
            have s1 : Same H (upd H c (.lst ((ns.drop 1).map V.int))) := same_upd nc
            refine ⟨c, ns.drop 1, 1, rfl, rfl, SqL.of upd_same, fun e => ?_, fun m3 hm3 hle3 => ?_⟩
            · refine ⟨_, _, rfl, rfl, _, rfl, if_dec (fun hw => absurd hw (by decide)) (fun hw => ?_)⟩
              have hy : ∀ a ∈ ns.drop 1, 1 ≤ a := fun x hx => by rw [e] at hx; cases hx
              rw [due_value_yes ns hne (by omega) hall hy] at k
              refine ⟨(by show 1 ≤ 2 ^ 24; decide), fun l nl => ?_⟩
              refine ⟨_, rfl, a, ns, rfl, (s1.trans (same_upd nl)).seq hS, (fun x hx => Nat.le_trans (hall x hx) (by decide)), fun H3 r s3 nr hr3 => ?_⟩
              have hl3 : H3 l = some (.lst [.int 0]) := s3 l _ upd_same
              refine ⟨l, r, _, _, rfl, rfl, hl3, hr3, (by show 3 ≤ 2 ^ 24; decide), fun p np => ?_⟩
              have s4 := (s1.trans (same_upd nl)).trans s3
              exact k _ p (s4.trans (same_upd np)) (Same.none s4 np) upd_same
            · refine ⟨_, _, rfl, rfl, _, rfl, if_dec (fun hw => ?_) (fun hw => ?_)⟩
              · rw [due_value_odd ns hne (by omega) hall ⟨m3, hm3, hw⟩] at k
                exact ⟨by decide, fun p np => k _ p (s1.trans (same_upd np)) (Same.none s1 np) upd_same⟩
              · have hy : ∀ a ∈ ns.drop 1, 1 ≤ a := fun x hx => by have := hle3 x hx; omega
                rw [due_value_yes ns hne (by omega) hall hy] at k
                refine ⟨(by show 1 ≤ 2 ^ 24; decide), fun l nl => ?_⟩
                refine ⟨_, rfl, a, ns, rfl, (s1.trans (same_upd nl)).seq hS, (fun x hx => Nat.le_trans (hall x hx) (by decide)), fun H3 r s3 nr hr3 => ?_⟩
                have hl3 : H3 l = some (.lst [.int 0]) := s3 l _ upd_same
                refine ⟨l, r, _, _, rfl, rfl, hl3, hr3, (by show 3 ≤ 2 ^ 24; decide), fun p np => ?_⟩
                have s4 := (s1.trans (same_upd nl)).trans s3
                exact k _ p (s4.trans (same_upd np)) (Same.none s4 np) upd_same
end
end CT

set_option Elab.async false
set_option maxRecDepth 100000
set_option maxHeartbeats 2000000
namespace CT
open PySem PySem.Spec PyProof.Rows L2
open PySem.W (Codec)
theorem terms_short {D : Nat} {x : Re03.Surd} (h : CR.RHyp D x) : (Re03.Surd.terms D x).1.length + (Re03.Surd.terms D x).2.length < 100000 := by
  obtain ⟨j, i, hj, hij, _, _, hr⟩ := h.closes
  rw [CR.terms_of D x j i hij hr]
  simp only [List.length_map, List.length_range, List.length_drop]
  have : j < 100000 := hj
  omega
section
variable {P : Program} {w : World} {K : PySem.W.Frag} {mg : Str → Option Value} {base : Heap}

/-! ### answer_root -/
theorem scAR : FnScope ["n", "parts"] ["n"] (defScope sAnsRoot) := ⟨rfl, rfl, rfl, by decide +kernel, rfl, by decide +kernel, by decide +kernel⟩
def spAnsRoot : Sp := fun vs H Q _ => ∃ (n : Nat), vs = [.int n] ∧ Gives H Q (due (.root n))
theorem due_root_no (n : Nat) (h : n = 0 ∨ 1000000 < n) : due (.root n) = [-1] := by
  unfold due Re03.step
  dsimp only
  rw [if_pos (by exact h)]; rfl
theorem due_root_sq (n : Nat) (h : ¬ (n = 0 ∨ 1000000 < n)) (hs : Re03.square n = true) : due (.root n) = [-3] := by
  unfold due Re03.step
  dsimp only
  rw [if_neg (by exact h), if_pos hs]; rfl
theorem due_root_yes (n : Nat) (h : ¬ (n = 0 ∨ 1000000 < n)) (hs : Re03.square n = false) : due (.root n) = ((Re03.Surd.terms n ⟨0, 1⟩).2.length : Int) :: ((Re03.Surd.terms n ⟨0, 1⟩).1 ++ (Re03.Surd.terms n ⟨0, 1⟩).2) := by
  unfold due Re03.step
  dsimp only
  rw [if_neg (by exact h), if_neg (by rw [hs]; decide)]; rfl
theorem ok_ansRoot {f : Addr} {fd : FuncData} (F : Fun K "answer_root" "answer_root" sAnsRoot f fd) (T : Txt mg)
    (S : Keeps P w K mg base "is_square" 2 ["n"] spIsSq) (W : Keeps P w K mg base "ring_terms" 2 ["p", "q", "n"] spRingTerms) : FnOk P w K mg base CX0 3 f fd ["n"] spAnsRoot := by
  obtain ⟨fW, fdW, mW, kW, bW, GW⟩ := W
  obtain ⟨fS, fdS, mS, kS, bS, GS⟩ := S
  refine F.ok scAR (fun vs H Q E h => ?_) (fun cdv A outer s H vs Q E hr h => ?_)
  · obtain ⟨n, rfl, _⟩ := h
    rfl
  · obtain ⟨n, rfl, k⟩ := h
    refine ⟨_, pss_cons (ps_if (PW.pt (pw_or (pt_cmpR op_eq (pv 0) pe_int (nomark _)) (pw_or1 (pt_cmpR op_gt (pv 0) (pe_const rfl T.mroot) (nomark _)))))
        (pss_one (ps_ret (pe_lst (pa_cons (pe_const rfl T.oob) pa_nil)))) pss_nil)
      (pss_cons (ps_if (pt_val (pe_call GS hr rfl mS kS bS .nil pass0 (pa_cons (pv 0) pa_nil)))
        (pss_one (ps_ret (pe_lst (pa_cons (pe_const rfl T.nfit) pa_nil)))) pss_nil)
      (pss_cons (ps_set (i := 1) scAR.nd rfl (.inl rfl) (pe_call GW hr rfl mW kW bW .nil pass0 (pa_cons pe_int (pa_cons pe_int (pa_cons (pv 0) pa_nil)))))
      (pss_one (ps_ret (pe_op op_cat (pe_op op_cat (pe_lst (pa_cons (pe_callB call_len_seq (by rfl) T.len PySem.boot_len (pa_cons (pe_ix ix_tup (pv 1) pe_int (fun _ _ => rfl)) pa_nil)) pa_nil))
        (pe_ix ix_tup (pv 1) pe_int (fun _ _ => rfl))) (pe_ix ix_tup (pv 1) pe_int (fun _ _ => rfl))))))), ?_⟩
    have no : (n = 0 ∨ 1000000 < n) → ∀ p, H p = none → Q (.ref p) (upd H p (.lst [.int (-1)])) := fun h p np => by
      rw [due_root_no n h] at k
      exact k.one np
    refine ⟨_, rfl, rfl, _, rfl, if_dec (fun hc => ?_) (fun hc => ?_)⟩
    · have hc' : (n : Int) = 0 := V.int.inj hc
      exact if_true_of rfl ⟨by decide, no (.inl (by omega))⟩
    · have hc' : ¬ (n : Int) = 0 := fun e => hc (congrArg V.int e)
      refine ⟨_, rfl, _, _, rfl, rfl, _, rfl, if_dec (fun hd => ?_) (fun hd => ?_)⟩
      · exact ⟨by decide, no (.inr (by omega))⟩
      · have hno : ¬ (n = 0 ∨ 1000000 < n) := by omega
        refine ⟨_, rfl, n, rfl, by omega, _, rfl, ?_⟩
        cases hs : Re03.square n with
        | true =>
          rw [due_root_sq n hno hs] at k
          exact if_true_of rfl ⟨by decide, fun p np => k.one np⟩
        | false =>
          refine if_false_of rfl ?_
          rw [due_root_yes n hno hs] at k
          have hR := CR.rhyp_root n (by omega) hs
          have hlen := terms_short hR
          have e1 : n * (1 : Int).natAbs * (1 : Int).natAbs = n := by simp
          have e2 : (⟨0 * ((1 : Int).natAbs : Int), 1 * ((1 : Int).natAbs : Int)⟩ : Re03.Surd) = ⟨0, 1⟩ := rfl
          refine ⟨_, rfl, 0, 1, n, rfl, by omega, by decide, by decide, ?_, ?_⟩
          · rw [e1, e2]; exact hR
          · rw [e1, e2]
            generalize (Re03.Surd.terms n ⟨0, 1⟩).1 = xs at *
            generalize (Re03.Surd.terms n ⟨0, 1⟩).2 = ys at *
            intro H1 t a b s1 ht ha hb
            refine ⟨_, rfl, t, _, _, _, rfl, rfl, SqT.of ht, rfl, b, _, rfl, .inl (SqL.of hb), (by show 1 ≤ 2 ^ 24; decide), fun l nl => ?_⟩
            have s2 : Same H1 (upd H1 l (.lst [.int ((ys.map V.int).length : Int)])) := same_upd nl
            refine ⟨_, rfl, t, _, _, _, rfl, rfl, SqT.of (s2 t _ ht), rfl, l, a, _, _, rfl, rfl, upd_same, s2 a _ ha, ?_, fun m nm => ?_⟩
            · show 1 + (xs.map V.int).length ≤ 2 ^ 24
              rw [List.length_map]; omega
            have s3 := s2.trans (same_upd (o := .lst ([.int ((ys.map V.int).length : Int)] ++ xs.map V.int)) nm)
            refine ⟨_, rfl, t, _, _, _, rfl, rfl, SqT.of (s3 t _ ht), rfl, m, b, _, _, rfl, rfl, upd_same, s3 b _ hb, ?_, fun p np => ?_⟩
            · rw [List.length_append]
              show 1 + (xs.map V.int).length + (ys.map V.int).length ≤ 2 ^ 24
              rw [List.length_map, List.length_map]; omega
            have s4 := s1.trans s3
            refine k _ p (s4.trans (same_upd np)) (Same.none s4 np) ?_
            rw [upd_same, List.length_map, List.map_cons, List.map_append]
            rfl

/-! ### answer_ring -/
theorem scAG : FnScope ["p", "q", "n", "parts"] ["p", "q", "n"] (defScope sAnsRing) := ⟨rfl, rfl, rfl, by decide +kernel, rfl, by decide +kernel, by decide +kernel⟩
def spAnsRing : Sp := fun vs H Q _ => ∃ (p q : Int) (n : Nat), vs = [.int p, .int q, .int n] ∧ Gives H Q (due (.surd p q n))
theorem due_ring_no (p q : Int) (n : Nat) (h : q = 0 ∨ 100 < q.natAbs ∨ 100 < p.natAbs ∨ n = 0 ∨ 1000 < n) : due (.surd p q n) = [-1] := by
  unfold due Re03.step
  dsimp only
  rw [if_pos (by exact h)]; rfl
theorem due_ring_sq (p q : Int) (n : Nat) (h : ¬ (q = 0 ∨ 100 < q.natAbs ∨ 100 < p.natAbs ∨ n = 0 ∨ 1000 < n)) (hs : Re03.square n = true) : due (.surd p q n) = [-3] := by
  unfold due Re03.step
  dsimp only
  rw [if_neg (by exact h), if_pos hs]; rfl
theorem due_ring_yes (p q : Int) (n : Nat) (h : ¬ (q = 0 ∨ 100 < q.natAbs ∨ 100 < p.natAbs ∨ n = 0 ∨ 1000 < n)) (hs : Re03.square n = false) :
    due (.surd p q n) = ((Re03.Surd.terms (n * q.natAbs * q.natAbs) ⟨p * q.natAbs, q * q.natAbs⟩).1.length : Int) :: ((Re03.Surd.terms (n * q.natAbs * q.natAbs) ⟨p * q.natAbs, q * q.natAbs⟩).1 ++
      ((Re03.Surd.terms (n * q.natAbs * q.natAbs) ⟨p * q.natAbs, q * q.natAbs⟩).2.length : Int) :: (Re03.Surd.terms (n * q.natAbs * q.natAbs) ⟨p * q.natAbs, q * q.natAbs⟩).2) := by
  unfold due Re03.step
  dsimp only
  rw [if_neg (by exact h), if_neg (by rw [hs]; decide)]; rfl
theorem ok_ansRing {f : Addr} {fd : FuncData} (F : Fun K "answer_ring" "answer_ring" sAnsRing f fd) (T : Txt mg)
    (S : Keeps P w K mg base "is_square" 2 ["n"] spIsSq) (W : Keeps P w K mg base "ring_terms" 2 ["p", "q", "n"] spRingTerms) : FnOk P w K mg base CX0 3 f fd ["p", "q", "n"] spAnsRing := by
  obtain ⟨fW, fdW, mW, kW, bW, GW⟩ := W
  obtain ⟨fS, fdS, mS, kS, bS, GS⟩ := S
  refine F.ok scAG (fun vs H Q E h => ?_) (fun cdv A outer s H vs Q E hr h => ?_)
  · obtain ⟨p, q, n, rfl, _⟩ := h
    rfl
  · obtain ⟨p, q, n, rfl, k⟩ := h
    refine ⟨_, pss_cons (ps_if (PW.pt (pw_or (pt_cmpR op_eq (pv 1) pe_int (nomark _)) (pw_or (pt_cmpR op_gt (pe_callB call_abs (by rfl) T.abs (by decide +kernel) (pa_cons (pv 1) pa_nil)) (pe_const rfl T.rpart) (nomark _)) (pw_or1 (pt_cmpR op_gt (pe_callB call_abs (by rfl) T.abs (by decide +kernel) (pa_cons (pv 0) pa_nil)) (pe_const rfl T.rpart) (nomark _))))))
        (pss_one (ps_ret (pe_lst (pa_cons (pe_const rfl T.oob) pa_nil)))) pss_nil)
      (pss_cons (ps_if (PW.pt (pw_or (pt_cmpR op_eq (pv 2) pe_int (nomark _)) (pw_or1 (pt_cmpR op_gt (pv 2) (pe_const rfl T.rroot) (nomark _)))))
        (pss_one (ps_ret (pe_lst (pa_cons (pe_const rfl T.oob) pa_nil)))) pss_nil)
      (pss_cons (ps_if (pt_val (pe_call GS hr rfl mS kS bS .nil pass0 (pa_cons (pv 2) pa_nil)))
        (pss_one (ps_ret (pe_lst (pa_cons (pe_const rfl T.nfit) pa_nil)))) pss_nil)
      (pss_cons (ps_set (i := 3) scAG.nd rfl (.inl rfl) (pe_call GW hr rfl mW kW bW .nil pass0 (pa_cons (pv 0) (pa_cons (pv 1) (pa_cons (pv 2) pa_nil)))))
      (pss_one (ps_ret (pe_op op_cat (pe_op op_cat (pe_op op_cat (pe_lst (pa_cons (pe_callB call_len_seq (by rfl) T.len PySem.boot_len (pa_cons (pe_ix ix_tup (pv 3) pe_int (fun _ _ => rfl)) pa_nil)) pa_nil))
        (pe_ix ix_tup (pv 3) pe_int (fun _ _ => rfl))) (pe_lst (pa_cons (pe_callB call_len_seq (by rfl) T.len PySem.boot_len (pa_cons (pe_ix ix_tup (pv 3) pe_int (fun _ _ => rfl)) pa_nil)) pa_nil))) (pe_ix ix_tup (pv 3) pe_int (fun _ _ => rfl)))))))), ?_⟩
    have no : (q = 0 ∨ 100 < q.natAbs ∨ 100 < p.natAbs ∨ n = 0 ∨ 1000 < n) → ∀ x, H x = none → Q (.ref x) (upd H x (.lst [.int (-1)])) := fun h x nx => by
      rw [due_ring_no p q n h] at k
      exact k.one nx
    have haq : (if q < 0 then -q else q) = (q.natAbs : Int) := by split <;> omega
    have hap : (if p < 0 then -p else p) = (p.natAbs : Int) := by split <;> omega
    refine ⟨_, rfl, rfl, _, rfl, if_dec (fun hc => ?_) (fun hc => ?_)⟩
    · have hc' : q = 0 := V.int.inj hc
      exact if_true_of rfl ⟨by decide, no (.inl hc')⟩
    have hc' : ¬ q = 0 := fun e => hc (congrArg V.int e)
    refine ⟨_, rfl, _, rfl, _, _, rfl, rfl, _, rfl, ?_⟩
    dsimp only
    rw [haq]
    refine if_dec (fun hd => ?_) (fun hd => ?_)
    · exact if_true_of rfl ⟨by decide, no (.inr (.inl (by omega)))⟩
    refine ⟨_, rfl, _, rfl, _, _, rfl, rfl, _, rfl, ?_⟩
    dsimp only
    rw [hap]
    refine if_dec (fun he => ?_) (fun he => ?_)
    · exact ⟨by decide, no (.inr (.inr (.inl (by omega))))⟩
    refine ⟨_, rfl, rfl, _, rfl, if_dec (fun hg => ?_) (fun hg => ?_)⟩
    · have hg' : (n : Int) = 0 := V.int.inj hg
      exact if_true_of rfl ⟨by decide, no (.inr (.inr (.inr (.inl (by omega)))))⟩
    have hg' : ¬ (n : Int) = 0 := fun e => hg (congrArg V.int e)
    refine ⟨_, rfl, _, _, rfl, rfl, _, rfl, if_dec (fun hh => ?_) (fun hh => ?_)⟩
    · exact ⟨by decide, no (.inr (.inr (.inr (.inr (by omega)))))⟩
    have hno : ¬ (q = 0 ∨ 100 < q.natAbs ∨ 100 < p.natAbs ∨ n = 0 ∨ 1000 < n) := by omega
    refine ⟨_, rfl, n, rfl, by omega, _, rfl, ?_⟩
    cases hs : Re03.square n with
    | true =>
      rw [due_ring_sq p q n hno hs] at k
      exact if_true_of rfl ⟨by decide, fun p np => k.one np⟩
    | false =>
      refine if_false_of rfl ?_
      rw [due_ring_yes p q n hno hs] at k
      have hR := CR.rhyp_ring p q n (by omega) (by omega) (by omega) (by omega) hs
      have hlen := terms_short hR
      refine ⟨_, rfl, _, rfl, _, rfl, p, q, n, rfl, by omega, by omega, by omega, hR, ?_⟩
      clear hR
      generalize (Re03.Surd.terms (n * q.natAbs * q.natAbs) ⟨p * q.natAbs, q * q.natAbs⟩).1 = xs at *
      generalize (Re03.Surd.terms (n * q.natAbs * q.natAbs) ⟨p * q.natAbs, q * q.natAbs⟩).2 = ys at *
      intro H1 t a b s1 ht ha hb
      refine ⟨_, rfl, t, _, _, _, rfl, rfl, SqT.of ht, rfl, a, _, rfl, .inl (SqL.of ha), (by show 1 ≤ 2 ^ 24; decide), fun l nl => ?_⟩
      have s2 : Same H1 (upd H1 l (.lst [.int ((xs.map V.int).length : Int)])) := same_upd nl
      refine ⟨_, rfl, t, _, _, _, rfl, rfl, SqT.of (s2 t _ ht), rfl, l, a, _, _, rfl, rfl, upd_same, s2 a _ ha, ?_, fun m nm => ?_⟩
      · show 1 + (xs.map V.int).length ≤ 2 ^ 24
        rw [List.length_map]; omega
      have s3 := s2.trans (same_upd (o := .lst ([.int ((xs.map V.int).length : Int)] ++ xs.map V.int)) nm)
      refine ⟨_, rfl, t, _, _, _, rfl, rfl, SqT.of (s3 t _ ht), rfl, b, _, rfl, .inl (SqL.of (s3 b _ hb)), (by show 1 ≤ 2 ^ 24; decide), fun l2 nl2 => ?_⟩
      have s4 := s3.trans (same_upd (o := .lst [.int ((ys.map V.int).length : Int)]) nl2)
      have nml : m ≠ l2 := ne_of_none upd_same nl2
      refine ⟨m, l2, _, _, rfl, rfl, (by rw [upd_ne nml, upd_same]), upd_same, ?_, fun m2 nm2 => ?_⟩
      · rw [List.length_append]
        show 1 + (xs.map V.int).length + 1 ≤ 2 ^ 24
        rw [List.length_map]; omega
      have s5 := s4.trans (same_upd (o := .lst ([.int ((xs.map V.int).length : Int)] ++ xs.map V.int ++ [.int ((ys.map V.int).length : Int)])) nm2)
      refine ⟨_, rfl, t, _, _, _, rfl, rfl, SqT.of (s5 t _ ht), rfl, m2, b, _, _, rfl, rfl, upd_same, s5 b _ hb, ?_, fun p np => ?_⟩
      · rw [List.length_append, List.length_append]
        show 1 + (xs.map V.int).length + 1 + (ys.map V.int).length ≤ 2 ^ 24
        rw [List.length_map, List.length_map]; omega
      have s6 := s1.trans s5
      refine k _ p (s6.trans (same_upd np)) (Same.none s6 np) ?_
      rw [upd_same, List.length_map, List.length_map, List.map_cons, List.map_append, List.map_cons]
      simp
end
end CT

set_option Elab.async false
set_option maxRecDepth 100000
set_option maxHeartbeats 2000000
namespace CT
open PySem PySem.Spec PyProof.Rows L2
open PySem.W (Codec)
abbrev sAnswers : Stmt := top 22
theorem cut_mid (xs : List V) (i n : Nat) (h : i + n ≤ xs.length) : cutV xs (some (i : Int)) (some ((i : Int) + (n : Int))) = (xs.drop i).take n := by
  have e : ((i : Int) + (n : Int)) = ((i + n : Nat) : Int) := by push_cast; rfl
  unfold cutV
  rw [e, HT.sIx_nat, HT.sIx_nat, Nat.min_eq_left h, Nat.min_eq_left (show i ≤ xs.length by omega)]
  congr 1
  omega
section
variable {P : Program} {w : World} {K : PySem.W.Frag} {mg : Str → Option Value} {base : Heap}

def spCallLen (K : PySem.W.Frag) : Sp := fun vs H Q _ => ∃ (a : Addr) (ns : List Int) (k : Nat) (u t : List Int) (c : List (List Int)), vs = [.ref a, .int k] ∧ SqL K H a (ns.map V.int) ∧ ns.drop k = u ++ t ∧ CF.Parsed u c [] ∧ Q (.int u.length) H
def spAnsCall (K : PySem.W.Frag) : Sp := fun vs H Q _ => ∃ (a : Addr) (u : List Int) (c : List (List Int)), vs = [.ref a] ∧ SqL K H a (u.map V.int) ∧ CF.Parsed u c [] ∧ u.length ≤ 1280 ∧ Re03Neutral.asked1 ((PyRe03.whole c).headD []) = true ∧ Gives H Q (CF.dueRaw c)
def spAnswers (K : PySem.W.Frag) : Sp := fun vs H Q _ => ∃ (a : Addr) (ns : List Int), vs = [.ref a] ∧ SqL K H a (ns.map V.int) ∧ ns.length ≤ 1280 ∧ PyRe03.answers_asked ns = true ∧
  ∀ (H' : Hp) (p : Addr), H' p = some (.lst ((PyRe03.answers ns).map V.int)) → Q (.ref p) H'

theorem scA : FnScope ["calls", "told", "start", "end", "answer"] ["calls"] (defScope sAnswers) := ⟨rfl, rfl, rfl, by decide +kernel, rfl, by decide +kernel, by decide +kernel⟩
def wAnswers (ns : List Int) (cs : List (List (List Int))) (a : Addr) (H : Hp) (r : Addr) : Nat → L2.St → Hp → Prop := fun m σ H' => ∃ (k : Nat) (done rest : List (List (List Int))) (v3 v4 : Option V),
  σ = [some (.ref a), some (.ref r), some (.int k), v3, v4] ∧ Same H H' ∧ H' r = some (.lst ((done.flatMap CF.part).map V.int)) ∧ cs = done ++ rest ∧ CF.Chain (ns.drop k) rest ∧ k ≤ ns.length ∧ m = ns.length - k

theorem ok_answers {f : Addr} {fd : FuncData} {lv : Nat} (F : Fun K "answers" "answers" sAnswers f fd) (T : Txt mg)
    (L : Keeps P w K mg base "call_length" 1 ["calls", "start"] (spCallLen K)) (W : Keeps P w K mg base "answer_call" (lv + 1) ["call"] (spAnsCall K)) : FnOk P w K mg base CX0 (lv + 2) f fd ["calls"] (spAnswers K) := by
  obtain ⟨fW, fdW, mW, kW, bW, GW⟩ := W
  obtain ⟨fL, fdL, mL, kL, bL, GL⟩ := L
  refine F.ok scA (fun vs H Q E h => ?_) (fun cdv A outer s H vs Q E hr h => ?_)
  · obtain ⟨a, ns, rfl, _⟩ := h
    rfl
  · obtain ⟨a, ns, rfl, hS, hl, hask, k⟩ := h
    obtain ⟨cs, hA⟩ := CF.asked hask
    have hr1 : Room 1 _ := hr.mono (by omega)
    refine ⟨_, pss_cons (ps_set (i := 1) scA.nd rfl (.inl rfl) (pe_lst pa_nil))
      (pss_cons (ps_set (i := 2) scA.nd rfl (.inl rfl) pe_int)
      (pss_cons (ps_while PassesOwn.never (pt_cmpR op_lt (pv 2) (pe_callB call_len_seq (by rfl) T.len PySem.boot_len (pa_cons (pv 0) pa_nil)) (nomark _))
        (pss_cons (ps_set (i := 3) scA.nd rfl (.inl rfl) (pe_op op_add (pv 2) (pe_call GL hr1 rfl mL kL bL .nil pass0 (pa_cons (pv 0) (pa_cons (pv 2) pa_nil)))))
        (pss_cons (ps_set (i := 4) scA.nd rfl (.inl rfl) (pe_call GW hr rfl mW kW bW .nil pass0 (pa_cons (pe_slice sl_list (pv 0) (po_some (pv 2)) (po_some (pv 3))) pa_nil)))
        (pss_cons (ps_expr (pe_bm PySem.F.plainAttrs_list PySem.F.slot_list_append PySem.F.type_list_append mt_append (pv 1) (pa_cons (pe_callB call_len_seq (by rfl) T.len PySem.boot_len (pa_cons (pv 4) pa_nil)) pa_nil)))
        (pss_cons (ps_expr (pe_bm PySem.F.plainAttrs_list PySem.F.slot_list_extend PySem.F.type_list_extend mt_extend (pv 1) (pa_cons (pv 4) pa_nil)))
        (pss_one (ps_set (i := 2) scA.nd rfl (.inl rfl) (pv 3))))))))
      (pss_one (ps_ret (pv 1))))), ?_⟩
    refine ⟨Nat.zero_le _, fun r nr => ?_⟩
    refine ⟨wAnswers ns cs a H r, ⟨_, 0, [], cs, none, none, rfl, same_upd nr, upd_same, rfl, hA.chain, Nat.zero_le _, rfl⟩, ?_⟩
    rintro m σ H' ⟨p, done, rest, v3, v4, rfl, sm, hr', hcs, hch, hp, rfl⟩
    refine ⟨_, rfl, _, rfl, a, _, rfl, .inl (sm.seq hS), _, _, rfl, rfl, _, rfl, ?_⟩
    rw [List.length_map]
    refine if_dec (fun hc => ?_) (fun hc => ?_)
    · refine ⟨fun σ' H'' => ∃ m', m' < ns.length - p ∧ wAnswers ns cs a H r m' σ' H'', fun _ _ h => h, ?_⟩
      have hpl : p < ns.length := by omega
      generalize hdr : ns.drop p = l at hch
      cases hch with
      | nil =>
        have := List.drop_eq_nil_iff.mp hdr
        omega
      | cons hpa hch' =>
        rename_i t c rest'
        obtain ⟨u, hu, hpu, hu0⟩ := hpa.split
        subst hu
        have hlen : ns.length - p = u.length + t.length := by
          rw [← List.length_append, ← hdr, List.length_drop]
        -- end = start + call_length(calls, start)
        refine ⟨_, rfl, _, rfl, _, rfl, a, ns, p, u, t, c, rfl, sm.seq hS, hdr, hpu, _, _, rfl, rfl, ?_⟩
        -- answer = answer_call(calls[start:end])
        refine ⟨_, rfl, _, rfl, _, rfl, _, rfl, _, rfl, a, _, rfl, sm.seq hS, fun b nb => ?_⟩
        have ecut : cutV (ns.map V.int) (some (p : Int)) (some ((p : Int) + (u.length : Int))) = u.map V.int := by
          rw [cut_mid _ _ _ (by rw [List.length_map]; omega), ← List.map_drop, ← List.map_take, hdr, List.take_left]
        dsimp only
        rw [ecut]
        have s1 : Same H' (upd H' b (.lst (u.map V.int))) := same_upd nb
        have hmem : c ∈ cs := by rw [hcs]; simp
        refine ⟨b, u, c, rfl, SqL.of upd_same, hpu, by omega, hA.one c hmem, fun H2 q s2 nq hq => ?_⟩
        have sm2 : Same H H2 := (sm.trans s1).trans s2
        have hr2 : H2 r = some (.lst ((done.flatMap CF.part).map V.int)) := s2 r _ (s1 r _ hr')
        have hbig : (done.flatMap CF.part).length + (CF.dueRaw c).length + 1 ≤ 10000000 := by
          have := hA.short
          rw [hA.eq, hcs, List.flatMap_append, List.flatMap_cons, List.length_append, List.length_append] at this
          have e : (CF.part c).length = (CF.dueRaw c).length + 1 := rfl
          omega
        have nqr : r ≠ q := by
          intro e
          rw [← e] at nq
          rw [s1 r _ hr'] at nq
          cases nq
        -- told.append(len(answer))
        refine ⟨_, rfl, .inl ⟨rfl, _, SqL.of hr2⟩, _, rfl, q, _, rfl, .inl (SqL.of hq), r, _, _, rfl, rfl, hr2, ?_, ?_⟩
        · rw [List.length_map]; show _ < 2 ^ 24; omega
        -- told.extend(answer)
        refine ⟨_, rfl, .inl ⟨rfl, _, SqL.of upd_same⟩, _, rfl, r, q, _, _, rfl, rfl, upd_same, (by rw [upd_ne nqr.symm]; exact hq), ?_, ?_⟩
        · rw [List.length_append, List.length_map]
          show _ + 1 + (List.map V.int (CF.dueRaw c)).length ≤ 2 ^ 24
          rw [List.length_map]
          omega
        refine ⟨_, rfl, ns.length - (p + u.length), by omega, p + u.length, done ++ [c], rest', some (.int (p + u.length)), some (.ref q), ?_, ?_, ?_, ?_, ?_, by omega, rfl⟩
        · push_cast
          rfl
        · exact same_over nr (same_over nr sm2)
        · rw [upd_same, List.flatMap_append, List.map_append, List.length_map]
          simp [CF.part]
        · rw [hcs]; simp
        · rw [← List.drop_drop, hdr, List.drop_left]
          exact hch'
    · refine ⟨_, rfl, ?_⟩
      have e : p = ns.length := by omega
      subst e
      rw [List.drop_length] at hch
      cases hch with
      | nil =>
        rw [List.append_nil] at hcs
        subst hcs
        rw [← hA.eq] at hr'
        exact k H' r hr'
      | cons hpa _ => cases hpa
end
end CT

set_option Elab.async false
set_option maxRecDepth 100000
set_option maxHeartbeats 2000000
namespace CT
open PySem PySem.Spec PyProof.Rows L2
open PySem.W (Codec)
/-! ### a dict of the module's top, its keys whole numbers -/
/-- the dict's entries are these -/
def entsAre : List DictEntry → List (Int × Int) → Bool
  | [], [] => true
  | e :: es, (i, c) :: r => (match e.key, e.val with
    | .int k _, .int v _ => decide (k = i) && decide (v = c) && decide (e.hash = hashInt i)
    | _, _ => false) && entsAre es r
  | _, _ => false
theorem ents_keys : ∀ {es : List DictEntry} {l : List (Int × Int)}, entsAre es l = true → ∀ e ∈ es, ∃ k t, e.key = .int k t ∧ e.hash = hashInt k
  | [], _, _, e, he => by cases he
  | e :: es, [], h, _, _ => by cases h
  | e :: es, (i, c) :: r, h, e', he => by
    unfold entsAre at h
    rw [Bool.and_eq_true] at h
    rcases List.mem_cons.mp he with rfl | hm
    · split at h
      · rename_i k t v u e1 e2
        simp only [Bool.and_eq_true, decide_eq_true_eq] at h
        obtain ⟨⟨⟨rfl, _⟩, h3⟩, _⟩ := h
        exact ⟨_, _, e1, h3⟩
      · cases h.1
    · exact ents_keys h.2 e' hm
theorem ents_find : ∀ {es : List DictEntry} {l : List (Int × Int)}, entsAre es l = true → ∀ i c, l.lookup i = some c → ∃ e t, es.find? (fun e => Value.isInt i e.key) = some e ∧ e.val = .int c t
  | [], [], _, _, _, h => by cases h
  | [], _ :: _, h, _, _, _ => by cases h
  | e :: es, [], h, _, _, _ => by cases h
  | e :: es, (j, d) :: r, h, i, c, hl => by
    unfold entsAre at h
    rw [Bool.and_eq_true] at h
    obtain ⟨h1, h2⟩ := h
    split at h1
    · rename_i k t v u e1 e2
      simp only [Bool.and_eq_true, decide_eq_true_eq] at h1
      obtain ⟨⟨rfl, rfl⟩, _⟩ := h1
      rw [List.find?_cons, e1]
      by_cases hc : i = k
      · subst hc
        rw [List.lookup_cons_self] at hl
        obtain rfl := Option.some.inj hl
        have : Value.isInt i (.int i t) = true := by simp [Value.isInt]
        rw [this]
        exact ⟨e, u, rfl, e2⟩
      · have : Value.isInt i (.int k t) = false := by simp [Value.isInt]; exact fun h => hc h.symm
        rw [this]
        have hb : (i == k) = false := by simpa using hc
        rw [List.lookup_cons, hb] at hl
        exact ents_find h2 i c hl
    · cases h1
/-- at a: a written dict from whole numbers to whole numbers -/
def KIntD (K : PySem.W.Frag) (a : Addr) (l : List (Int × Int)) : Prop := ∃ es n, K.lookup a = some ⟨.type "dict", none, .dict es n, #[]⟩ ∧ entsAre es.toList l = true
def rIxI (K : PySem.W.Frag) : R2 := fun x y H Q => ∃ p l i c, x = .ref p ∧ y = .int i ∧ KIntD K p l ∧ l.lookup i = some c ∧ Q (.int c) H
theorem ix_kint {X : Cx} : IxR X (rIxI X.K) := by
  intro value slice pins s σ H x y v u Q I rx ry h hs
  obtain ⟨p, l, i, c, rfl, rfl, ⟨es, n, hl, hk⟩, e, q⟩ := h
  obtain rfl : v = Value.ref p := rx
  obtain ⟨t, rfl⟩ := ry
  have hm : s.heap.MapOf (intKind X.prog X.w) p (fun k => findBy Value.isInt es k) :=
    ⟨_, es, n, I.kIn _ _ hl, ⟨rfl, rfl, rfl⟩, rfl, fun e he => by
      obtain ⟨k, t, e1, e2⟩ := ents_keys hk e (Array.mem_toList_iff.mpr he)
      exact ⟨k, by rw [e1]; exact intKind_is X.prog X.w k t, e2⟩, fun _ => rfl⟩
  obtain ⟨en, tv, f1, f2⟩ := ents_find hk i c e
  have hf : findBy Value.isInt es i = some (.int c tv) := by
    obtain ⟨el⟩ := es
    unfold findBy
    rw [List.find?_toArray]
    have f1' : el.find? (fun e => Value.isInt i e.key) = some en := f1
    rw [f1']
    exact congrArg some f2
  exact tail_any hm.typeIs slot_dict_getitem.lookup (wpAny_getItem_of (intKind_is X.prog X.w i t) hm hf ⟨.int c, H, I.tok _, ⟨_, rfl⟩, q⟩) hs

abbrev sCallLen : Stmt := top 23
abbrev sAnsCall : Stmt := top 24
section
variable {P : Program} {w : World} {K : PySem.W.Frag} {mg : Str → Option Value} {base : Heap}
theorem at_drop {ns u t : List Int} {k : Nat} (h : ns.drop k = u ++ t) (j : Nat) (x : Int) (hx : u[j]? = some x) : (ns.map V.int)[k + j]? = some (.int x) := by
  have h1 : (ns.drop k)[j]? = some x := by
    rw [h, List.getElem?_append_left (List.getElem?_eq_some_iff.mp hx).1]; exact hx
  rw [List.getElem?_drop] at h1
  rw [List.getElem?_map, h1]; rfl
def lens : List (Int × Int) := [(0, 3), (1, 2), (2, 2), (3, 4), (4, 4), (5, 3), (6, 5), (7, 3), (8, 2)]
theorem len_of {u : List Int} {c : List (List Int)} (h : CF.Parsed u c []) : ∃ i l, u[0]? = some i ∧ lens.lookup i = some l ∧
    ((i ≠ 1 ∧ (u.length : Int) = l) ∨ (i = 1 ∧ ∃ x, u[1]? = some x ∧ (u.length : Int) = l + x)) := by
  cases h with
  | terms n d => exact ⟨0, 3, rfl, rfl, .inl ⟨by decide, rfl⟩⟩
  | value r =>
    refine ⟨1, 2, rfl, rfl, .inr ⟨rfl, r.length, rfl, ?_⟩⟩
    rw [List.append_nil, List.length_cons, List.length_cons]
    omega
  | root n => exact ⟨2, 2, rfl, rfl, .inl ⟨by decide, rfl⟩⟩
  | ring p q n => exact ⟨3, 4, rfl, rfl, .inl ⟨by decide, rfl⟩⟩
  | near n d m => exact ⟨4, 4, rfl, rfl, .inl ⟨by decide, rfl⟩⟩
  | nearRoot n m => exact ⟨5, 3, rfl, rfl, .inl ⟨by decide, rfl⟩⟩
  | between a b c d => exact ⟨6, 5, rfl, rfl, .inl ⟨by decide, rfl⟩⟩
  | one n k => exact ⟨7, 3, rfl, rfl, .inl ⟨by decide, rfl⟩⟩
  | minus n => exact ⟨8, 2, rfl, rfl, .inl ⟨by decide, rfl⟩⟩
theorem scCL : FnScope ["calls", "start", "length"] ["calls", "start"] (defScope sCallLen) := ⟨rfl, rfl, rfl, by decide +kernel, rfl, by decide +kernel, by decide +kernel⟩
theorem ok_callLen {f d : Addr} {fd : FuncData} (F : Fun K "call_length" "call_length" sCallLen f fd) (gD : mg "CALL_LENGTHS" = some (.ref d)) (hD : KIntD K d lens) (gV : Is mg "VALUE" 1) : FnOk P w K mg base CX0 1 f fd ["calls", "start"] (spCallLen K) := by
  refine F.ok scCL (fun vs H Q E h => ?_) (fun cdv A outer s H vs Q E hr h => ?_)
  · obtain ⟨a, ns, k, u, t, c, rfl, _⟩ := h
    rfl
  · obtain ⟨a, ns, k, u, t, c, rfl, hS, hdr, hp, q⟩ := h
    refine ⟨_, pss_cons (ps_set (i := 2) scCL.nd rfl (.inl rfl) (pe_ix ix_kint (pe_glob (v := .ref d) rfl gD rfl) (pe_ix ix_list (pv 0) (pv 1) (fun _ _ => rfl)) (fun _ _ => rfl)))
      (pss_cons (ps_if (pt_cmpR op_eq (pe_ix ix_list (pv 0) (pv 1) (fun _ _ => rfl)) (pe_const rfl gV) (nomark _))
        (pss_one (ps_ret (pe_op op_add (pv 2) (pe_ix ix_list (pv 0) (pe_op op_add (pv 1) pe_int) (fun _ _ => rfl))))) pss_nil)
      (pss_one (ps_ret (pv 2)))), ?_⟩
    obtain ⟨i, l, h0, hlook, hcase⟩ := len_of hp
    have g0 : atI (ns.map V.int) (k : Int) = some (.int i) := atI_nat (at_drop hdr 0 i h0)
    refine ⟨_, rfl, _, rfl, a, _, _, _, rfl, rfl, hS, g0, d, lens, i, l, rfl, rfl, hD, hlook, ?_⟩
    refine ⟨_, rfl, _, rfl, a, _, _, _, rfl, rfl, hS, g0, rfl, _, rfl, if_dec (fun hc => ?_) (fun hc => ?_)⟩
    · have hc' : i = 1 := V.int.inj hc
      rcases hcase with ⟨h1, _⟩ | ⟨_, x, hx, hl⟩
      · exact absurd hc' h1
      have g1 : atI (ns.map V.int) ((k : Int) + 1) = some (.int x) := by
        have : ((k : Int) + 1) = ((k + 1 : Nat) : Int) := by push_cast; rfl
        rw [this]
        exact atI_nat (at_drop hdr 1 x hx)
      refine ⟨_, rfl, _, rfl, _, rfl, _, _, rfl, rfl, a, _, _, _, rfl, rfl, hS, g1, _, _, rfl, rfl, ?_⟩
      rw [hl] at q
      exact q
    · have hc' : ¬ i = 1 := fun e => hc (congrArg V.int e)
      rcases hcase with ⟨_, hl⟩ | ⟨h1, _⟩
      · refine ⟨_, rfl, ?_⟩
        rw [hl] at q
        exact q
      · exact absurd h1 hc'
end
end CT

set_option Elab.async false
set_option maxRecDepth 100000
set_option maxHeartbeats 2000000
namespace CT
open PySem PySem.Spec PyProof.Rows L2
open PySem.W (Codec)
section
variable {P : Program} {w : World} {K : PySem.W.Frag} {mg : Str → Option Value} {base : Heap}

/-! ### nearest_fraction -/
theorem scNF : FnScope ["n", "d", "m", "best_upper", "best_lower", "best_apart", "lower", "floor", "upper", "apart"] ["n", "d", "m"] (defScope sNearest) := ⟨rfl, rfl, rfl, by decide +kernel, rfl, by decide +kernel, by decide +kernel⟩
def spNearest : Sp := fun vs H Q _ => ∃ (n : Int) (d m : Nat), vs = [.int n, .int d, .int m] ∧ n.natAbs ≤ 1000000 ∧ 0 < d ∧ d ≤ 1000000 ∧ m ≤ 300 ∧
  Gives H Q [(CN.nfold n d m).1, ((CN.nfold n d m).2 : Int)]
/-- the slots of the search -/
def nfSt (n : Int) (d m : Nat) (b : Int × Nat) (r : List (Option V)) : L2.St := [some (.int n), some (.int d), some (.int m), some (.int b.1), some (.int b.2), some (.int (CN.far n d b.1 b.2))] ++ r
/-- behind j of the two -/
def nfIn (n : Int) (d : Nat) (b : Int × Nat) (l : Nat) : Nat → Int × Nat
  | 0 => b
  | 1 => CN.nst n d b (CN.fl n d l) l
  | _ => CN.nst n d (CN.nst n d b (CN.fl n d l) l) (CN.fl n d l + 1) l
theorem nst_le {n : Int} {d : Nat} {b : Int × Nat} {u : Int} {l c : Nat} (h : b.2 ≤ c) (hl : l ≤ c) : (CN.nst n d b u l).2 ≤ c := by
  unfold CN.nst
  split
  · exact hl
  · exact h
theorem nf_le (n : Int) (d : Nat) : ∀ i, (CN.nfold n d i).2 ≤ i + 1
  | 0 => Nat.le_refl _
  | i + 1 => nst_le (nst_le (Nat.le_succ_of_le (nf_le n d i)) (by omega)) (by omega)
theorem far_int (n : Int) (d : Nat) (u : Int) (l : Nat) : (if n * (l : Int) - u * (d : Int) < 0 then -(n * (l : Int) - u * (d : Int)) else n * (l : Int) - u * (d : Int)) = (CN.far n d u l : Int) := by
  unfold CN.far
  split <;> omega
theorem ok_nearest {f : Addr} {fd : FuncData} (F : Fun K "nearest_fraction" "nearest_fraction" sNearest f fd) (mr : mg "range" = none) (ma : mg "abs" = none) : FnOk P w K mg base CX0 1 f fd ["n", "d", "m"] spNearest := by
  refine F.ok scNF (fun vs H Q E h => ?_) (fun cdv A outer s H vs Q E hr h => ?_)
  · obtain ⟨n, d, m, rfl, _⟩ := h
    rfl
  · obtain ⟨n, d, m, rfl, hn, hd0, hd, hm, k⟩ := h
    refine ⟨_, pss_cons (ps_set (i := 3) scNF.nd rfl (.inl rfl) (pe_op op_fdivN (pv 0) (pv 1)))
      (pss_cons (ps_set (i := 4) scNF.nd rfl (.inl rfl) pe_int)
      (pss_cons (ps_set (i := 5) scNF.nd rfl (.inl rfl) (pe_op op_modN (pv 0) (pv 1)))
      (pss_cons (ps_for PassesOwn.never rfl (pi_range2 (by rfl) mr (pa_cons pe_int (pa_cons (pe_op op_add (pv 2) pe_int) pa_nil))) (pg_name (i := 6) scNF.nd rfl (.inl rfl))
        (pss_cons (ps_set (i := 7) scNF.nd rfl (.inl rfl) (pe_op op_fdivN (pe_op op_mul (pv 0) (pv 6)) (pv 1)))
        (pss_one (ps_for PassesOwn.never rfl (pi_tup (pe_tup (pa_cons (pv 7) (pa_cons (pe_op op_add (pv 7) pe_int) pa_nil)))) (pg_name (i := 8) scNF.nd rfl (.inl rfl))
          (pss_cons (ps_set (i := 9) scNF.nd rfl (.inl rfl) (pe_callB call_abs (by rfl) ma (by decide +kernel) (pa_cons (pe_op op_sub (pe_op op_mul (pv 0) (pv 6)) (pe_op op_mul (pv 8) (pv 1))) pa_nil)))
          (pss_one (ps_if (pt_cmpR op_lt (pe_op op_mul (pv 9) (pv 4)) (pe_op op_mul (pv 5) (pv 6)) (nomark _))
            (pss_cons (ps_set (i := 3) scNF.nd rfl (.inl rfl) (pv 8))
            (pss_cons (ps_set (i := 4) scNF.nd rfl (.inl rfl) (pv 6))
            (pss_one (ps_set (i := 5) scNF.nd rfl (.inl rfl) (pv 9))))) pss_nil)))))))
      (pss_one (ps_ret (pe_lst (pa_cons (pv 3) (pa_cons (pv 4) pa_nil)))))))), ?_⟩
    refine ⟨_, rfl, _, rfl, _, _, rfl, rfl, ⟨by omega, by omega⟩, ?_⟩
    refine ⟨_, rfl, _, rfl, _, _, rfl, rfl, (by omega), ?_⟩
    have hd' : (0 : Int) < d := by omega
    have e1 : Int.fdiv n (d : Int) = n / (d : Int) := Int.fdiv_eq_ediv_of_nonneg _ (by omega)
    have e2 : Int.fmod n (d : Int) = (CN.far n d (n / (d : Int)) 1 : Int) := by
      rw [Int.fmod_eq_emod_of_nonneg _ (by omega)]
      unfold CN.far
      have h1 := Int.mul_ediv_add_emod n d
      have h2 := Int.emod_nonneg n (show (d : Int) ≠ 0 by omega)
      rw [Int.mul_comm] at h1
      simp only [Int.natCast_one, Int.mul_one]
      omega
    dsimp only
    rw [e1, e2]
    refine ⟨_, rfl, _, _, rfl, rfl, 1, (m : Int) + 1, rfl, ⟨by omega, by omega, by omega, by omega⟩, ?_⟩
    have em : ((m : Int) + 1 - 1).toNat = m := by omega
    rw [em]
    refine for_range (lo := 1) (n := m) (fun i σ H' => ∃ v6 v7 v8 v9 : Option V, σ = nfSt n d m (CN.nfold n d i) [v6, v7, v8, v9] ∧ Same H H') ⟨none, none, none, none, rfl, fun _ _ e => e⟩ ?_ ?_
    · rintro i σ H' hi ⟨v6, v7, v8, v9, rfl, sm⟩
      have hle := nf_le n d i
      have el : (1 : Int) + (i : Int) = ((i + 1 : Nat) : Int) := by push_cast; omega
      rw [el]
      have en : CN.nfold n d (i + 1) = nfIn n d (CN.nfold n d i) (i + 1) 2 := rfl
      generalize CN.nfold n d i = b at *
      refine ⟨_, rfl, _, rfl, _, _, rfl, rfl, .inl ⟨by omega, by omega⟩, _, rfl, _, _, rfl, rfl, ⟨by omega, by omega⟩, ?_⟩
      have e3 : Int.fdiv (n * ((i + 1 : Nat) : Int)) (d : Int) = CN.fl n d (i + 1) := Int.fdiv_eq_ediv_of_nonneg _ (by omega)
      dsimp only
      rw [e3]
      refine ⟨_, rfl, _, rfl, _, _, rfl, rfl, (by show 2 ≤ 2 ^ 24; decide), fun t nt => ?_⟩
      refine ⟨t, rfl, ⟨_, SqT.of upd_same⟩, ?_⟩
      refine for_tup (K := K) (a := t) (xs := [.int (CN.fl n d (i + 1)), .int (CN.fl n d (i + 1) + 1)]) (fun j σ H2 => ∃ v8 v9 : Option V, σ = nfSt n d m (nfIn n d b (i + 1) j) [some (.int ((i + 1 : Nat) : Int)), some (.int (CN.fl n d (i + 1))), v8, v9] ∧ Same H H2 ∧ SqT K H2 t [.int (CN.fl n d (i + 1)), .int (CN.fl n d (i + 1) + 1)])
        ⟨v8, v9, rfl, sm.trans (same_upd nt), SqT.of upd_same⟩ (fun _ _ _ _ ⟨_, _, _, _, h⟩ => h) ?_ ?_
      · rintro j x σ H2 hx ⟨w8, w9, rfl, sm2, ht⟩
        obtain ⟨u, rfl, hnx⟩ : ∃ u, x = V.int u ∧ nfIn n d b (i + 1) (j + 1) = CN.nst n d (nfIn n d b (i + 1) j) u (i + 1) := by
          match j, hx with
          | 0, hx => exact ⟨_, (Option.some.inj hx).symm, rfl⟩
          | 1, hx => exact ⟨_, (Option.some.inj hx).symm, rfl⟩
          | j + 2, hx => simp at hx
        have hb2 : (nfIn n d b (i + 1) j).2 ≤ 302 := by
          match j with
          | 0 => show b.2 ≤ 302; omega
          | 1 => exact nst_le (by omega) (by omega)
          | j + 2 => exact nst_le (nst_le (by omega) (by omega)) (by omega)
        rw [hnx]
        generalize nfIn n d b (i + 1) j = c at *
        refine ⟨_, rfl, _, rfl, _, _, rfl, rfl, .inl ⟨by omega, by omega⟩, _, rfl, _, rfl, _, _, rfl, rfl, .inr ⟨by omega, by omega⟩, _, _, rfl, rfl, _, rfl, ?_⟩
        dsimp only
        rw [far_int]
        refine ⟨_, rfl, _, rfl, _, _, rfl, rfl, .inr ⟨by omega, by omega⟩, _, rfl, _, rfl, _, _, rfl, rfl, .inr ⟨by omega, by omega⟩, _, _, rfl, rfl, _, rfl, if_dec (fun hc => ?_) (fun hc => ?_)⟩
        · have hc' : CN.far n d u (i + 1) * c.2 < CN.far n d c.1 c.2 * (i + 1) := by exact_mod_cast hc
          have e4 : CN.nst n d c u (i + 1) = (u, i + 1) := if_pos hc'
          rw [e4]
          refine ⟨_, rfl, _, rfl, _, rfl, ?_⟩
          exact ⟨_, _, rfl, sm2, ht⟩
        · have hc' : ¬ CN.far n d u (i + 1) * c.2 < CN.far n d c.1 c.2 * (i + 1) := fun h => hc (by exact_mod_cast h)
          have e4 : CN.nst n d c u (i + 1) = c := if_neg hc'
          rw [e4]
          exact ⟨_, _, rfl, sm2, ht⟩
      · rintro σ H2 ⟨w8, w9, rfl, sm2, ht⟩
        rw [en]
        exact ⟨_, _, _, _, rfl, sm2⟩
    · rintro σ H' ⟨v6, v7, v8, v9, rfl, sm⟩
      refine ⟨_, rfl, _, rfl, (by show 2 ≤ 2 ^ 24; decide), fun p np => ?_⟩
      exact k _ p (sm.trans (same_upd np)) (Same.none sm np) upd_same

/-! ### answer_near -/
theorem scAN : FnScope ["n", "d", "m"] ["n", "d", "m"] (defScope sAnsNear) := ⟨rfl, rfl, rfl, by decide +kernel, rfl, by decide +kernel, by decide +kernel⟩
def spAnsNear : Sp := fun vs H Q _ => ∃ (n : Int) (d m : Nat), vs = [.int n, .int d, .int m] ∧ Gives H Q (due (.near n d m))
theorem due_near_no (n : Int) (d m : Nat) (h : d = 0 ∨ 1000000 < d ∨ n < 0 ∨ 1000000 < n.natAbs ∨ m = 0 ∨ 300 < m) : due (.near n d m) = [-1] := by
  unfold due Re03.step
  dsimp only
  rw [if_pos (by exact h)]; rfl
theorem due_near_yes (n : Int) (d m : Nat) (h : ¬ (d = 0 ∨ 1000000 < d ∨ n < 0 ∨ 1000000 < n.natAbs ∨ m = 0 ∨ 300 < m)) : due (.near n d m) = [0, (CN.nfold n d m).1, ((CN.nfold n d m).2 : Int)] := by
  unfold due Re03.step
  dsimp only
  rw [if_neg (by exact h), CN.near_frac n d m (by omega)]; rfl
theorem ok_ansNear {f : Addr} {fd : FuncData} (F : Fun K "answer_near" "answer_near" sAnsNear f fd) (T : Txt mg)
    (W : Keeps P w K mg base "nearest_fraction" 1 ["n", "d", "m"] spNearest) : FnOk P w K mg base CX0 2 f fd ["n", "d", "m"] spAnsNear := by
  obtain ⟨fW, fdW, mW, kW, bW, GW⟩ := W
  refine F.ok scAN (fun vs H Q E h => ?_) (fun cdv A outer s H vs Q E hr h => ?_)
  · obtain ⟨n, d, m, rfl, _⟩ := h
    rfl
  · obtain ⟨n, d, m, rfl, k⟩ := h
    refine ⟨_, pss_cons (ps_if (PW.pt (pw_or (pt_cmpR op_eq (pv 1) pe_int (nomark _)) (pw_or (pt_cmpR op_gt (pv 1) (pe_const rfl T.frac) (nomark _)) (pw_or (pt_cmpR op_lt (pv 0) pe_int (nomark _)) (pw_or1 (pt_cmpR op_gt (pv 0) (pe_const rfl T.frac) (nomark _)))))))
        (pss_one (ps_ret (pe_lst (pa_cons (pe_const rfl T.oob) pa_nil)))) pss_nil)
      (pss_cons (ps_if (PW.pt (pw_or (pt_cmpR op_eq (pv 2) pe_int (nomark _)) (pw_or1 (pt_cmpR op_gt (pv 2) (pe_const rfl T.below) (nomark _)))))
        (pss_one (ps_ret (pe_lst (pa_cons (pe_const rfl T.oob) pa_nil)))) pss_nil)
      (pss_one (ps_ret (pe_op op_cat (pe_lst (pa_cons pe_int pa_nil)) (pe_call GW hr rfl mW kW bW .nil pass0 (pa_cons (pv 0) (pa_cons (pv 1) (pa_cons (pv 2) pa_nil)))))))), ?_⟩
    have no : (d = 0 ∨ 1000000 < d ∨ n < 0 ∨ 1000000 < n.natAbs ∨ m = 0 ∨ 300 < m) → ∀ p, H p = none → Q (.ref p) (upd H p (.lst [.int (-1)])) := fun h p np => by
      rw [due_near_no n d m h] at k
      exact k.one np
    refine ⟨_, rfl, rfl, _, rfl, if_dec (fun hc => ?_) (fun hc => ?_)⟩
    · have hc' : (d : Int) = 0 := V.int.inj hc
      exact if_true_of rfl ⟨by decide, no (.inl (by omega))⟩
    have hc' : ¬ (d : Int) = 0 := fun e => hc (congrArg V.int e)
    refine ⟨_, rfl, _, _, rfl, rfl, _, rfl, if_dec (fun h1 => ?_) (fun h1 => ?_)⟩
    · exact if_true_of rfl ⟨by decide, no (.inr (.inl (by omega)))⟩
    refine ⟨_, rfl, _, _, rfl, rfl, _, rfl, if_dec (fun h2 => ?_) (fun h2 => ?_)⟩
    · exact if_true_of rfl ⟨by decide, no (.inr (.inr (.inl (by omega))))⟩
    refine ⟨_, rfl, _, _, rfl, rfl, _, rfl, if_dec (fun h3 => ?_) (fun h3 => ?_)⟩
    · exact ⟨by decide, no (.inr (.inr (.inr (.inl (by omega)))))⟩
    refine ⟨_, rfl, rfl, _, rfl, if_dec (fun h4 => ?_) (fun h4 => ?_)⟩
    · have h4' : (m : Int) = 0 := V.int.inj h4
      exact if_true_of rfl ⟨by decide, no (.inr (.inr (.inr (.inr (.inl (by omega))))))⟩
    have h4' : ¬ (m : Int) = 0 := fun e => h4 (congrArg V.int e)
    refine ⟨_, rfl, _, _, rfl, rfl, _, rfl, if_dec (fun h5 => ?_) (fun h5 => ?_)⟩
    · exact ⟨by decide, no (.inr (.inr (.inr (.inr (.inr (by omega))))))⟩
    rw [due_near_yes n d m (by omega)] at k
    refine ⟨(by show 1 ≤ 2 ^ 24; decide), fun l nl => ?_⟩
    refine ⟨_, rfl, _, rfl, _, rfl, n, d, m, rfl, by omega, by omega, by omega, by omega, fun H3 r s3 nr hr3 => ?_⟩
    have hl3 : H3 l = some (.lst [.int 0]) := s3 l _ upd_same
    refine ⟨l, r, _, _, rfl, rfl, hl3, hr3, (by show 3 ≤ 2 ^ 24; decide), fun p np => ?_⟩
    have s4 := (same_upd (o := .lst [.int 0]) nl).trans s3
    exact k _ p (s4.trans (same_upd np)) (Same.none s4 np) upd_same
end
end CT

set_option Elab.async false
set_option maxRecDepth 100000
set_option maxHeartbeats 2000000
namespace CT
open PySem PySem.Spec PyProof.Rows L2
open PySem.W (Codec)
section
variable {P : Program} {w : World} {K : PySem.W.Frag} {mg : Str → Option Value} {base : Heap}

/-! ### is_nearer_to_root -/
theorem scIN : FnScope ["n", "upper", "lower", "other_upper", "other_lower", "first", "second", "both", "twice_below", "middle_above"] ["n", "upper", "lower", "other_upper", "other_lower"] (defScope sIsNearer) := ⟨rfl, rfl, rfl, by decide +kernel, rfl, by decide +kernel, by decide +kernel⟩
def spIsNearer : Sp := fun vs H Q _ => ∃ (n : Nat) (u : Int) (l : Nat) (b : Int × Nat), vs = [.int n, .int u, .int l, .int b.1, .int b.2] ∧ n ≤ 1000000 ∧ l ≤ 400 ∧ b.2 ≤ 400 ∧ 0 ≤ u ∧ u ≤ 400000 ∧ 0 ≤ b.1 ∧ b.1 ≤ 400000 ∧
  (CN.rn n u l b → Q (.bl true) H) ∧ (¬ CN.rn n u l b → Q (.bl false) H)
theorem ok_isNearer {f : Addr} {fd : FuncData} (F : Fun K "is_nearer_to_root" "is_nearer_to_root" sIsNearer f fd) : FnOk P w K mg base CX0 1 f fd ["n", "upper", "lower", "other_upper", "other_lower"] spIsNearer := by
  refine F.ok scIN (fun vs H Q E h => ?_) (fun cdv A outer s H vs Q E hr h => ?_)
  · obtain ⟨n, u, l, b, rfl, _⟩ := h
    rfl
  · obtain ⟨n, u, l, b, rfl, hn, hl, hb2, hu0, hu, hb0, hb, k1, k2⟩ := h
    refine ⟨_, pss_cons (ps_set (i := 5) scIN.nd rfl (.inl rfl) (pe_op op_mul (pv 1) (pv 4)))
      (pss_cons (ps_set (i := 6) scIN.nd rfl (.inl rfl) (pe_op op_mul (pv 3) (pv 2)))
      (pss_cons (ps_set (i := 7) scIN.nd rfl (.inl rfl) (pe_op op_add (pv 5) (pv 6)))
      (pss_cons (ps_set (i := 8) scIN.nd rfl (.inl rfl) (pe_op op_mul (pe_op op_mul pe_int (pv 2)) (pv 4)))
      (pss_cons (ps_set (i := 9) scIN.nd rfl (.inl rfl) (pe_op op_sub (pe_op op_mul (pv 7) (pv 7)) (pe_op op_mul (pe_op op_mul (pv 0) (pv 8)) (pv 8))))
      (pss_one (ps_ret (pe_cmpR op_lt (pe_op op_mul (pe_op op_sub (pv 5) (pv 6)) (pv 9)) pe_int (nomark _)))))))), ?_⟩
    have b1 : u * (b.2 : Int) ≤ 400000 * 400 := Int.mul_le_mul hu (by omega) (by omega) (by omega)
    have b2 : b.1 * (l : Int) ≤ 400000 * 400 := Int.mul_le_mul hb (by omega) (by omega) (by omega)
    have b3 : 0 ≤ u * (b.2 : Int) := Int.mul_nonneg hu0 (by omega)
    have b4 : 0 ≤ b.1 * (l : Int) := Int.mul_nonneg hb0 (by omega)
    have b5 : 2 * (l : Int) * (b.2 : Int) ≤ 800 * 400 := Int.mul_le_mul (by omega) (by omega) (by omega) (by omega)
    have b6 : 0 ≤ 2 * (l : Int) * (b.2 : Int) := Int.mul_nonneg (by omega) (by omega)
    refine ⟨_, rfl, _, rfl, _, _, rfl, rfl, .inl ⟨by omega, by omega⟩, ?_⟩
    refine ⟨_, rfl, _, rfl, _, _, rfl, rfl, .inl ⟨by omega, by omega⟩, ?_⟩
    refine ⟨_, rfl, _, rfl, _, _, rfl, rfl, ?_⟩
    refine ⟨_, rfl, _, _, rfl, rfl, .inl ⟨by decide, by decide⟩, _, rfl, _, _, rfl, rfl, .inr ⟨by omega, by omega⟩, ?_⟩
    refine ⟨_, rfl, _, rfl, _, _, rfl, rfl, .inl ⟨by omega, by omega⟩, _, rfl, _, rfl, _, _, rfl, rfl, .inl ⟨by omega, by omega⟩, _, rfl, _, _, rfl, rfl, .inr ⟨by omega, by omega⟩, _, _, rfl, rfl, ?_⟩
    refine ⟨_, rfl, _, rfl, _, _, rfl, rfl, _, rfl, _, _, rfl, rfl, .inl ⟨by omega, by omega⟩, _, _, rfl, rfl, ?_⟩
    have e := CN.rn_iff n u l b
    by_cases c : CN.rn n u l b
    · dsimp only
      rw [decide_eq_true (e.mpr c)]
      exact k1 c
    · dsimp only
      rw [decide_eq_false (fun h => c (e.mp h))]
      exact k2 c

/-! ### nearest_to_root -/
theorem rfl_le (n l : Nat) (hn : n ≤ 1000000) : CN.rfl' n l ≤ 1000 * l := by
  obtain ⟨h1, _⟩ := CN.rfl_spec n l
  have h0 := CN.rfl_nn n l
  apply (CN.sq_le h0 (by omega)).mp
  have e : (1000 * (l : Int)) * (1000 * l) = 1000000 * (l * l) := by grind
  have e2 : (n : Int) * l * l = n * (l * l) := Int.mul_assoc ..
  have : (n : Int) * ((l : Int) * l) ≤ 1000000 * (l * l) := Int.mul_le_mul_of_nonneg_right (by omega) (Int.mul_nonneg (by omega) (by omega))
  omega
structure RB (b : Int × Nat) (c : Nat) : Prop where
  nn : 0 ≤ b.1
  hi : b.1 ≤ 1000 * c + 1
  lo : b.2 ≤ c
theorem rst_b {n : Nat} {b : Int × Nat} {u : Int} {l c : Nat} (h : RB b c) (hu : 0 ≤ u) (hu2 : u ≤ 1000 * c + 1) (hl : l ≤ c) : RB (CN.rst n b u l) c := by
  unfold CN.rst
  split
  · exact ⟨hu, hu2, hl⟩
  · exact h
theorem RB.mono {b : Int × Nat} {c d : Nat} (h : RB b c) (hd : c ≤ d) : RB b d := ⟨h.nn, by have := h.hi; omega, Nat.le_trans h.lo hd⟩
theorem rf_b (n : Nat) (hn : n ≤ 1000000) : ∀ i, RB (CN.rfold n i) (i + 1)
  | 0 => by
    refine ⟨Int.natCast_nonneg _, ?_, Nat.le_refl _⟩
    have h := rfl_le n 1 hn
    have e : CN.rfl' n 1 = (Re03.root n : Int) := by unfold CN.rfl'; rw [Nat.mul_one, Nat.mul_one]
    rw [e] at h
    show (Re03.root n : Int) ≤ 1000 * ((0 + 1 : Nat) : Int) + 1
    omega
  | i + 1 => by
    have h := rfl_le n (i + 1) hn
    have h0 := CN.rfl_nn n (i + 1)
    have ih := (rf_b n hn i).mono (show i + 1 ≤ i + 1 + 1 by omega)
    exact rst_b (rst_b ih h0 (by omega) (by omega)) (by omega) (by omega) (by omega)

theorem scNR : FnScope ["n", "m", "best_upper", "best_lower", "lower", "floor", "upper"] ["n", "m"] (defScope sNearestRoot) := ⟨rfl, rfl, rfl, by decide +kernel, rfl, by decide +kernel, by decide +kernel⟩
def spNearestRoot : Sp := fun vs H Q _ => ∃ (n m : Nat), vs = [.int n, .int m] ∧ n ≤ 1000000 ∧ m ≤ 300 ∧
  Gives H Q [(CN.rfold n m).1, ((CN.rfold n m).2 : Int)]
def nrSt (n m : Nat) (b : Int × Nat) (r : List (Option V)) : L2.St := [some (.int n), some (.int m), some (.int b.1), some (.int b.2)] ++ r
noncomputable def nrIn (n : Nat) (b : Int × Nat) (l : Nat) : Nat → Int × Nat
  | 0 => b
  | 1 => CN.rst n b (CN.rfl' n l) l
  | _ => CN.rst n (CN.rst n b (CN.rfl' n l) l) (CN.rfl' n l + 1) l
theorem ok_nearestRoot {f : Addr} {fd : FuncData} (F : Fun K "nearest_to_root" "nearest_to_root" sNearestRoot f fd) (mr : mg "range" = none)
    (W : Keeps P w K mg base "whole_root" 1 ["n"] spWhole) (C : Keeps P w K mg base "is_nearer_to_root" 1 ["n", "upper", "lower", "other_upper", "other_lower"] spIsNearer) : FnOk P w K mg base CX0 2 f fd ["n", "m"] spNearestRoot := by
  obtain ⟨fW, fdW, mW, kW, bW, GW⟩ := W
  obtain ⟨fC, fdC, mC, kC, bC, GC⟩ := C
  refine F.ok scNR (fun vs H Q E h => ?_) (fun cdv A outer s H vs Q E hr h => ?_)
  · obtain ⟨n, m, rfl, _⟩ := h
    rfl
  · obtain ⟨n, m, rfl, hn, hm, k⟩ := h
    refine ⟨_, pss_cons (ps_set (i := 2) scNR.nd rfl (.inl rfl) (pe_call GW hr rfl mW kW bW .nil pass0 (pa_cons (pv 0) pa_nil)))
      (pss_cons (ps_set (i := 3) scNR.nd rfl (.inl rfl) pe_int)
      (pss_cons (ps_for PassesOwn.never rfl (pi_range2 (by rfl) mr (pa_cons pe_int (pa_cons (pe_op op_add (pv 1) pe_int) pa_nil))) (pg_name (i := 4) scNR.nd rfl (.inl rfl))
        (pss_cons (ps_set (i := 5) scNR.nd rfl (.inl rfl) (pe_call GW hr rfl mW kW bW .nil pass0 (pa_cons (pe_op op_mul (pe_op op_mul (pv 0) (pv 4)) (pv 4)) pa_nil)))
        (pss_one (ps_for PassesOwn.never rfl (pi_tup (pe_tup (pa_cons (pv 5) (pa_cons (pe_op op_add (pv 5) pe_int) pa_nil)))) (pg_name (i := 6) scNR.nd rfl (.inl rfl))
          (pss_one (ps_if (pt_val (pe_call GC hr rfl mC kC bC .nil pass0 (pa_cons (pv 0) (pa_cons (pv 6) (pa_cons (pv 4) (pa_cons (pv 2) (pa_cons (pv 3) pa_nil)))))))
            (pss_cons (ps_set (i := 2) scNR.nd rfl (.inl rfl) (pv 6))
            (pss_one (ps_set (i := 3) scNR.nd rfl (.inl rfl) (pv 4)))) pss_nil))))))
      (pss_one (ps_ret (pe_lst (pa_cons (pv 2) (pa_cons (pv 3) pa_nil))))))), ?_⟩
    refine ⟨_, rfl, n, rfl, by omega, ?_⟩
    refine ⟨_, rfl, _, _, rfl, rfl, 1, (m : Int) + 1, rfl, ⟨by omega, by omega, by omega, by omega⟩, ?_⟩
    have em : ((m : Int) + 1 - 1).toNat = m := by omega
    rw [em]
    refine for_range (lo := 1) (n := m) (fun i σ H' => ∃ v4 v5 v6 : Option V, σ = nrSt n m (CN.rfold n i) [v4, v5, v6] ∧ Same H H') ⟨none, none, none, rfl, fun _ _ e => e⟩ ?_ ?_
    · rintro i σ H' hi ⟨v4, v5, v6, rfl, sm⟩
      have hRB := (rf_b n hn i).mono (show i + 1 ≤ 300 by omega)
      have el : (1 : Int) + (i : Int) = ((i + 1 : Nat) : Int) := by push_cast; omega
      rw [el]
      have en : CN.rfold n (i + 1) = nrIn n (CN.rfold n i) (i + 1) 2 := rfl
      have hfl := rfl_le n (i + 1) hn
      have hfl0 := CN.rfl_nn n (i + 1)
      generalize CN.rfold n i = b at *
      have hp1 : n * (i + 1) ≤ 1000000 * 300 := Nat.mul_le_mul hn (by omega)
      have hp2 : n * (i + 1) * (i + 1) ≤ 1000000 * 300 * 300 := Nat.mul_le_mul hp1 (by omega)
      have e3 : (n : Int) * ((i + 1 : Nat) : Int) * ((i + 1 : Nat) : Int) = ((n * (i + 1) * (i + 1) : Nat) : Int) := by push_cast; rfl
      refine ⟨_, rfl, _, rfl, _, _, rfl, rfl, .inl ⟨by omega, by omega⟩, _, rfl, _, _, rfl, rfl, .inr ⟨by omega, by omega⟩, ?_⟩
      dsimp only
      rw [e3]
      refine ⟨n * (i + 1) * (i + 1), rfl, by omega, ?_⟩
      have e4 : (Re03.root (n * (i + 1) * (i + 1)) : Int) = CN.rfl' n (i + 1) := rfl
      rw [e4]
      refine ⟨_, rfl, _, rfl, _, _, rfl, rfl, (by show 2 ≤ 2 ^ 24; decide), fun t nt => ?_⟩
      refine ⟨t, rfl, ⟨_, SqT.of upd_same⟩, ?_⟩
      refine for_tup (K := K) (a := t) (xs := [.int (CN.rfl' n (i + 1)), .int (CN.rfl' n (i + 1) + 1)]) (fun j σ H2 => ∃ v6 : Option V, σ = nrSt n m (nrIn n b (i + 1) j) [some (.int ((i + 1 : Nat) : Int)), some (.int (CN.rfl' n (i + 1))), v6] ∧ Same H H2 ∧ SqT K H2 t [.int (CN.rfl' n (i + 1)), .int (CN.rfl' n (i + 1) + 1)])
        ⟨v6, rfl, sm.trans (same_upd nt), SqT.of upd_same⟩ (fun _ _ _ _ ⟨_, _, _, h⟩ => h) ?_ ?_
      · rintro j x σ H2 hx ⟨w6, rfl, sm2, ht⟩
        obtain ⟨u, rfl, hnx, hu0, hu1⟩ : ∃ u, x = V.int u ∧ nrIn n b (i + 1) (j + 1) = CN.rst n (nrIn n b (i + 1) j) u (i + 1) ∧ 0 ≤ u ∧ u ≤ 300001 := by
          match j, hx with
          | 0, hx => exact ⟨_, (Option.some.inj hx).symm, rfl, hfl0, by omega⟩
          | 1, hx => exact ⟨_, (Option.some.inj hx).symm, rfl, by omega, by omega⟩
          | j + 2, hx => simp at hx
        have hb2 : RB (nrIn n b (i + 1) j) 300 := by
          match j with
          | 0 => exact hRB
          | 1 => exact rst_b hRB hfl0 (by omega) (by omega)
          | j + 2 => exact rst_b (rst_b hRB hfl0 (by omega) (by omega)) (by omega) (by omega) (by omega)
        rw [hnx]
        generalize nrIn n b (i + 1) j = c at *
        have hc1 := hb2.nn
        have hc2 := hb2.hi
        have hc3 := hb2.lo
        refine ⟨_, rfl, _, rfl, _, rfl, _, rfl, _, rfl, n, u, i + 1, c, rfl, hn, by omega, by omega, hu0, by omega, hc1, by omega, fun hr1 => ?_, fun hr1 => ?_⟩
        · have e5 : CN.rst n c u (i + 1) = (u, i + 1) := if_pos hr1
          rw [e5]
          refine ⟨_, rfl, if_true_of rfl ?_⟩
          refine ⟨_, rfl, _, rfl, ?_⟩
          exact ⟨_, rfl, sm2, ht⟩
        · have e5 : CN.rst n c u (i + 1) = c := if_neg hr1
          rw [e5]
          refine ⟨_, rfl, if_false_of rfl ?_⟩
          exact ⟨_, rfl, sm2, ht⟩
      · rintro σ H2 ⟨w6, rfl, sm2, ht⟩
        rw [en]
        exact ⟨_, _, _, rfl, sm2⟩
    · rintro σ H' ⟨v4, v5, v6, rfl, sm⟩
      refine ⟨_, rfl, _, rfl, (by show 2 ≤ 2 ^ 24; decide), fun p np => ?_⟩
      exact k _ p (sm.trans (same_upd np)) (Same.none sm np) upd_same

/-! ### answer_near_root -/
theorem scANR : FnScope ["n", "m"] ["n", "m"] (defScope sAnsNearRoot) := ⟨rfl, rfl, rfl, by decide +kernel, rfl, by decide +kernel, by decide +kernel⟩
def spAnsNearRoot : Sp := fun vs H Q _ => ∃ (n m : Nat), vs = [.int n, .int m] ∧ Gives H Q (due (.nearRoot n m))
theorem due_nearRoot_no (n m : Nat) (h : n = 0 ∨ 1000000 < n ∨ m = 0 ∨ 300 < m) : due (.nearRoot n m) = [-1] := by
  unfold due Re03.step
  dsimp only
  rw [if_pos (by exact h)]; rfl
theorem due_nearRoot_yes (n m : Nat) (h : ¬ (n = 0 ∨ 1000000 < n ∨ m = 0 ∨ 300 < m)) : due (.nearRoot n m) = [0, (CN.rfold n m).1, ((CN.rfold n m).2 : Int)] := by
  unfold due Re03.step
  dsimp only
  rw [if_neg (by exact h), CN.near_root n m]; rfl
theorem ok_ansNearRoot {f : Addr} {fd : FuncData} (F : Fun K "answer_near_root" "answer_near_root" sAnsNearRoot f fd) (T : Txt mg)
    (W : Keeps P w K mg base "nearest_to_root" 2 ["n", "m"] spNearestRoot) : FnOk P w K mg base CX0 3 f fd ["n", "m"] spAnsNearRoot := by
  obtain ⟨fW, fdW, mW, kW, bW, GW⟩ := W
  refine F.ok scANR (fun vs H Q E h => ?_) (fun cdv A outer s H vs Q E hr h => ?_)
  · obtain ⟨n, m, rfl, _⟩ := h
    rfl
  · obtain ⟨n, m, rfl, k⟩ := h
    refine ⟨_, pss_cons (ps_if (PW.pt (pw_or (pt_cmpR op_eq (pv 0) pe_int (nomark _)) (pw_or (pt_cmpR op_gt (pv 0) (pe_const rfl T.mroot) (nomark _)) (pw_or (pt_cmpR op_eq (pv 1) pe_int (nomark _)) (pw_or1 (pt_cmpR op_gt (pv 1) (pe_const rfl T.below) (nomark _)))))))
        (pss_one (ps_ret (pe_lst (pa_cons (pe_const rfl T.oob) pa_nil)))) pss_nil)
      (pss_one (ps_ret (pe_op op_cat (pe_lst (pa_cons pe_int pa_nil)) (pe_call GW hr rfl mW kW bW .nil pass0 (pa_cons (pv 0) (pa_cons (pv 1) pa_nil)))))), ?_⟩
    have no : (n = 0 ∨ 1000000 < n ∨ m = 0 ∨ 300 < m) → ∀ p, H p = none → Q (.ref p) (upd H p (.lst [.int (-1)])) := fun h p np => by
      rw [due_nearRoot_no n m h] at k
      exact k.one np
    refine ⟨_, rfl, rfl, _, rfl, if_dec (fun hc => ?_) (fun hc => ?_)⟩
    · have hc' : (n : Int) = 0 := V.int.inj hc
      exact if_true_of rfl ⟨by decide, no (.inl (by omega))⟩
    have hc' : ¬ (n : Int) = 0 := fun e => hc (congrArg V.int e)
    refine ⟨_, rfl, _, _, rfl, rfl, _, rfl, if_dec (fun h1 => ?_) (fun h1 => ?_)⟩
    · exact if_true_of rfl ⟨by decide, no (.inr (.inl (by omega)))⟩
    refine ⟨_, rfl, rfl, _, rfl, if_dec (fun h4 => ?_) (fun h4 => ?_)⟩
    · have h4' : (m : Int) = 0 := V.int.inj h4
      exact if_true_of rfl ⟨by decide, no (.inr (.inr (.inl (by omega))))⟩
    have h4' : ¬ (m : Int) = 0 := fun e => h4 (congrArg V.int e)
    refine ⟨_, rfl, _, _, rfl, rfl, _, rfl, if_dec (fun h5 => ?_) (fun h5 => ?_)⟩
    · exact ⟨by decide, no (.inr (.inr (.inr (by omega))))⟩
    rw [due_nearRoot_yes n m (by omega)] at k
    refine ⟨(by show 1 ≤ 2 ^ 24; decide), fun l nl => ?_⟩
    refine ⟨_, rfl, _, rfl, n, m, rfl, by omega, by omega, fun H3 r s3 nr hr3 => ?_⟩
    have hl3 : H3 l = some (.lst [.int 0]) := s3 l _ upd_same
    refine ⟨l, r, _, _, rfl, rfl, hl3, hr3, (by show 3 ≤ 2 ^ 24; decide), fun p np => ?_⟩
    have s4 := (same_upd (o := .lst [.int 0]) nl).trans s3
    exact k _ p (s4.trans (same_upd np)) (Same.none s4 np) upd_same
end
end CT

set_option Elab.async false
set_option maxRecDepth 100000
set_option maxHeartbeats 2000000
namespace CT
open PySem PySem.Spec PyProof.Rows L2
open PySem.W (Codec)
section
variable {P : Program} {w : World} {K : PySem.W.Frag} {mg : Str → Option Value} {base : Heap}

/-! ### between_terms -/
theorem scBT : FnScope ["a", "b", "c", "d", "row", "low_upper", "low_lower", "high_upper", "high_lower", "whole", "low_rest", "high_rest"] ["a", "b", "c", "d"] (defScope sBetTerms) := ⟨rfl, rfl, rfl, by decide +kernel, rfl, by decide +kernel, by decide +kernel⟩
def spBetTerms : Sp := fun vs H Q _ => ∃ (f : Nat) (a b c d : Int), vs = [.int a, .int b, .int c, .int d] ∧ CB.Ok a b c d ∧ b + d < f ∧ f ≤ 3000000 ∧ Gives H Q (CB.bt f a b c d)
def wBetTerms (a b c d : Int) (R : List Int) (H : Hp) (r : Addr) : Nat → L2.St → Hp → Prop := fun m σ H' => ∃ (lu ll hu hl : Int) (acc : List Int) (v10 v11 : Option V),
  σ = [some (.int a), some (.int b), some (.int c), some (.int d), some (.ref r), some (.int lu), some (.int ll), some (.int hu), some (.int hl), some (.int (lu / ll)), v10, v11] ∧
  Same H H' ∧ H' r = some (.lst (acc.map V.int)) ∧ CB.Ok lu ll hu hl ∧ ll + hl < m ∧ acc.length + m ≤ 3000000 ∧ acc ++ CB.bt m lu ll hu hl = R
theorem ok_betTerms {f : Addr} {fd : FuncData} (F : Fun K "between_terms" "between_terms" sBetTerms f fd) : FnOk P w K mg base CX0 1 f fd ["a", "b", "c", "d"] spBetTerms := by
  refine F.ok scBT (fun vs H Q E h => ?_) (fun cdv A outer s H vs Q E hr h => ?_)
  · obtain ⟨f, a, b, c, d, rfl, _⟩ := h
    rfl
  · obtain ⟨f, a, b, c, d, rfl, hok, hf, hf2, k⟩ := h
    refine ⟨_, pss_cons (ps_set (i := 4) scBT.nd rfl (.inl rfl) (pe_lst pa_nil))
      (pss_cons (ps_set (i := 5) scBT.nd rfl (.inl rfl) (pv 0))
      (pss_cons (ps_set (i := 6) scBT.nd rfl (.inl rfl) (pv 1))
      (pss_cons (ps_set (i := 7) scBT.nd rfl (.inl rfl) (pv 2))
      (pss_cons (ps_set (i := 8) scBT.nd rfl (.inl rfl) (pv 3))
      (pss_cons (ps_set (i := 9) scBT.nd rfl (.inl rfl) (pe_op op_fdivN (pv 5) (pv 6)))
      (pss_cons (ps_while PassesOwn.never (pt_cmpR op_ge (pe_op op_mul (pe_op op_add (pv 9) pe_int) (pv 8)) (pv 7) (nomark _))
        (pss_cons (ps_expr (pe_bm PySem.F.plainAttrs_list PySem.F.slot_list_append PySem.F.type_list_append mt_append (pv 4) (pa_cons (pv 9) pa_nil)))
        (pss_cons (ps_set (i := 10) scBT.nd rfl (.inl rfl) (pe_op op_sub (pv 5) (pe_op op_mul (pv 9) (pv 6))))
        (pss_cons (ps_set (i := 11) scBT.nd rfl (.inl rfl) (pe_op op_sub (pv 7) (pe_op op_mul (pv 9) (pv 8))))
        (pss_cons (ps_set (i := 7) scBT.nd rfl (.inl rfl) (pv 6))
        (pss_cons (ps_set (i := 5) scBT.nd rfl (.inl rfl) (pv 8))
        (pss_cons (ps_set (i := 6) scBT.nd rfl (.inl rfl) (pv 11))
        (pss_cons (ps_set (i := 8) scBT.nd rfl (.inl rfl) (pv 10))
        (pss_one (ps_set (i := 9) scBT.nd rfl (.inl rfl) (pe_op op_fdivN (pv 5) (pv 6))))))))))))
      (pss_cons (ps_expr (pe_bm PySem.F.plainAttrs_list PySem.F.slot_list_append PySem.F.type_list_append mt_append (pv 4) (pa_cons (pe_op op_add (pv 9) pe_int) pa_nil)))
      (pss_one (ps_ret (pv 4)))))))))), ?_⟩
    have hb0 := hok.b0
    have hbM := hok.bM
    have e0 : Int.fdiv a b = a / b := Int.fdiv_eq_ediv_of_nonneg _ (by omega)
    refine ⟨Nat.zero_le _, fun r nr => ?_⟩
    refine ⟨_, rfl, _, rfl, _, rfl, _, rfl, _, rfl, _, rfl, _, _, rfl, rfl, ⟨by omega, by omega⟩, ?_⟩
    dsimp only
    rw [e0]
    refine ⟨wBetTerms a b c d (CB.bt f a b c d) H r, ⟨f, a, b, c, d, [], none, none, rfl, same_upd nr, upd_same, hok, hf, by simpa using hf2, rfl⟩, ?_⟩
    rintro m σ H' ⟨lu, ll, hu, hl, acc, v10, v11, rfl, sm, hr', ho, hm, hlen, hR⟩
    obtain ⟨q1, q2, q3, q4⟩ := ho.q
    have o1 := ho.b0
    have o2 := ho.bM
    have o3 := ho.d0
    have o4 := ho.dM
    obtain ⟨g, rfl⟩ : ∃ g, m = g + 1 := ⟨m - 1, by omega⟩
    rw [CB.bt] at hR
    refine ⟨_, rfl, _, _, rfl, rfl, _, rfl, _, _, rfl, rfl, .inl ⟨by omega, by omega⟩, _, rfl, _, _, rfl, rfl, _, rfl, if_dec (fun hc => ?_) (fun hc => ?_)⟩
    · have hc' : ¬ (lu / ll + 1) * hl < hu := by omega
      rw [if_neg hc'] at hR
      obtain ⟨hn, hlt⟩ := ho.next hc'
      refine ⟨fun σ' H'' => ∃ m', m' < g + 1 ∧ wBetTerms a b c d (CB.bt f a b c d) H r m' σ' H'', fun _ _ h => h, ?_⟩
      refine ⟨_, rfl, .inl ⟨rfl, _, SqL.of hr'⟩, _, rfl, r, _, _, rfl, rfl, hr', ?_, ?_⟩
      · rw [List.length_map]
        show _ < 2 ^ 24
        omega
      refine ⟨_, rfl, _, rfl, _, rfl, _, _, rfl, rfl, .inl ⟨by omega, by omega⟩, _, _, rfl, rfl, ?_⟩
      refine ⟨_, rfl, _, rfl, _, rfl, _, _, rfl, rfl, .inl ⟨by omega, by omega⟩, _, _, rfl, rfl, ?_⟩
      have n1 := hn.b0
      have n2 := hn.bM
      have e1 : Int.fdiv hl (hu - lu / ll * hl) = hl / (hu - lu / ll * hl) := Int.fdiv_eq_ediv_of_nonneg _ (by omega)
      refine ⟨_, rfl, _, rfl, _, rfl, _, rfl, _, rfl, _, rfl, _, _, rfl, rfl, ⟨by omega, by omega⟩, ?_⟩
      dsimp only
      rw [e1]
      refine ⟨g, by omega, hl, hu - lu / ll * hl, ll, lu - lu / ll * ll, acc ++ [lu / ll], _, _, rfl, same_over nr sm, ?_, hn, by omega, ?_, ?_⟩
      · rw [upd_same, List.map_append]; rfl
      · rw [List.length_append]
        show acc.length + 1 + g ≤ _
        omega
      · rw [List.append_assoc]; exact hR
    · have hc' : (lu / ll + 1) * hl < hu := by omega
      rw [if_pos hc'] at hR
      refine ⟨_, rfl, .inl ⟨rfl, _, SqL.of hr'⟩, _, rfl, _, _, rfl, rfl, r, _, _, rfl, rfl, hr', ?_, ?_⟩
      · rw [List.length_map]
        show _ < 2 ^ 24
        omega
      refine ⟨_, rfl, ?_⟩
      refine k _ r (same_over nr sm) nr ?_
      rw [upd_same, ← hR, List.map_append]
      rfl

/-! ### answer_between -/
theorem scAB : FnScope ["a", "b", "c", "d"] ["a", "b", "c", "d"] (defScope sAnsBetween) := ⟨rfl, rfl, rfl, by decide +kernel, rfl, by decide +kernel, by decide +kernel⟩
def spAnsBetween : Sp := fun vs H Q _ => ∃ (a : Int) (b : Nat) (c : Int) (d : Nat), vs = [.int a, .int b, .int c, .int d] ∧ Gives H Q (due (.between a b c d))
abbrev noB (a : Int) (b : Nat) (c : Int) (d : Nat) : Prop := b = 0 ∨ d = 0 ∨ 1000000 < b ∨ 1000000 < d ∨ a < 0 ∨ 1000000 < a.natAbs ∨ 1000000 < c.natAbs
theorem due_between_no (a : Int) (b : Nat) (c : Int) (d : Nat) (h : noB a b c d) : due (.between a b c d) = [-1] := by
  unfold due Re03.step
  dsimp only
  rw [if_pos (by exact h)]; rfl
theorem due_between_odd (a : Int) (b : Nat) (c : Int) (d : Nat) (h : ¬ noB a b c d) (h2 : c * b ≤ a * d) : due (.between a b c d) = [-3] := by
  unfold due Re03.step
  dsimp only
  rw [if_neg (by exact h), if_pos h2]; rfl
theorem bt_ok (a : Int) (b : Nat) (c : Int) (d : Nat) (h : ¬ noB a b c d) (h2 : ¬ c * b ≤ a * d) : CB.Ok a b c d := by
  unfold noB at h
  exact ⟨by omega, by omega, by omega, by omega, by omega, by omega, by omega, by omega⟩
theorem due_between_yes (a : Int) (b : Nat) (c : Int) (d : Nat) (h : ¬ noB a b c d) (h2 : ¬ c * b ≤ a * d) :
    due (.between a b c d) = [0, (Re03.value (CB.bt (b + d + 2) a b c d)).1, (Re03.value (CB.bt (b + d + 2) a b c d)).2] := by
  rw [(CB.bt_spec (b + d + 2) a b c d (bt_ok a b c d h h2) (by omega)).1]
  unfold due Re03.step
  dsimp only
  rw [if_neg (by exact h), if_neg h2]; rfl
theorem ok_ansBetween {f : Addr} {fd : FuncData} (F : Fun K "answer_between" "answer_between" sAnsBetween f fd) (T : Txt mg)
    (W : Keeps P w K mg base "between_terms" 1 ["a", "b", "c", "d"] spBetTerms) (V : Keeps P w K mg base "terms_fraction" 1 ["row"] (spTermsFrac K)) : FnOk P w K mg base CX0 2 f fd ["a", "b", "c", "d"] spAnsBetween := by
  obtain ⟨fW, fdW, mW, kW, bW, GW⟩ := W
  obtain ⟨fV, fdV, mV, kV, bV, GV⟩ := V
  refine F.ok scAB (fun vs H Q E h => ?_) (fun cdv A outer s H vs Q E hr h => ?_)
  · obtain ⟨a, b, c, d, rfl, _⟩ := h
    rfl
  · obtain ⟨a, b, c, d, rfl, k⟩ := h
    refine ⟨_, pss_cons (ps_if (PW.pt (pw_or (pt_cmpR op_eq (pv 1) pe_int (nomark _)) (pw_or (pt_cmpR op_gt (pv 1) (pe_const rfl T.frac) (nomark _)) (pw_or (pt_cmpR op_eq (pv 3) pe_int (nomark _)) (pw_or1 (pt_cmpR op_gt (pv 3) (pe_const rfl T.frac) (nomark _)))))))
        (pss_one (ps_ret (pe_lst (pa_cons (pe_const rfl T.oob) pa_nil)))) pss_nil)
      (pss_cons (ps_if (PW.pt (pw_or (pt_cmpR op_lt (pv 0) pe_int (nomark _)) (pw_or (pt_cmpR op_gt (pv 0) (pe_const rfl T.frac) (nomark _)) (pw_or1 (pt_cmpR op_gt (pe_callB call_abs (by rfl) T.abs (by decide +kernel) (pa_cons (pv 2) pa_nil)) (pe_const rfl T.frac) (nomark _))))))
        (pss_one (ps_ret (pe_lst (pa_cons (pe_const rfl T.oob) pa_nil)))) pss_nil)
      (pss_cons (ps_if (pt_cmpR op_le (pe_op op_mul (pv 2) (pv 1)) (pe_op op_mul (pv 0) (pv 3)) (nomark _))
        (pss_one (ps_ret (pe_lst (pa_cons (pe_const rfl T.nfit) pa_nil)))) pss_nil)
      (pss_one (ps_ret (pe_op op_cat (pe_lst (pa_cons pe_int pa_nil)) (pe_call GV hr rfl mV kV bV .nil pass0 (pa_cons (pe_call GW hr rfl mW kW bW .nil pass0 (pa_cons (pv 0) (pa_cons (pv 1) (pa_cons (pv 2) (pa_cons (pv 3) pa_nil))))) pa_nil))))))), ?_⟩
    have no : noB a b c d → ∀ p, H p = none → Q (.ref p) (upd H p (.lst [.int (-1)])) := fun h p np => by
      rw [due_between_no a b c d h] at k
      exact k.one np
    have hac : (if c < 0 then -c else c) = (c.natAbs : Int) := by split <;> omega
    refine ⟨_, rfl, rfl, _, rfl, if_dec (fun h1 => ?_) (fun h1 => ?_)⟩
    · have h1' : (b : Int) = 0 := V.int.inj h1
      exact if_true_of rfl ⟨by decide, no (by unfold noB; omega)⟩
    have h1' : ¬ (b : Int) = 0 := fun e => h1 (congrArg V.int e)
    refine ⟨_, rfl, _, _, rfl, rfl, _, rfl, if_dec (fun h2 => ?_) (fun h2 => ?_)⟩
    · exact if_true_of rfl ⟨by decide, no (by unfold noB; omega)⟩
    refine ⟨_, rfl, rfl, _, rfl, if_dec (fun h3 => ?_) (fun h3 => ?_)⟩
    · have h3' : (d : Int) = 0 := V.int.inj h3
      exact if_true_of rfl ⟨by decide, no (by unfold noB; omega)⟩
    have h3' : ¬ (d : Int) = 0 := fun e => h3 (congrArg V.int e)
    refine ⟨_, rfl, _, _, rfl, rfl, _, rfl, if_dec (fun h4 => ?_) (fun h4 => ?_)⟩
    · exact ⟨by decide, no (by unfold noB; omega)⟩
    refine ⟨_, rfl, _, _, rfl, rfl, _, rfl, if_dec (fun h5 => ?_) (fun h5 => ?_)⟩
    · exact if_true_of rfl ⟨by decide, no (by unfold noB; omega)⟩
    refine ⟨_, rfl, _, _, rfl, rfl, _, rfl, if_dec (fun h6 => ?_) (fun h6 => ?_)⟩
    · exact if_true_of rfl ⟨by decide, no (by unfold noB; omega)⟩
    refine ⟨_, rfl, _, rfl, _, _, rfl, rfl, _, rfl, ?_⟩
    dsimp only
    rw [hac]
    refine if_dec (fun h7 => ?_) (fun h7 => ?_)
    · exact ⟨by decide, no (by unfold noB; omega)⟩
    have hno : ¬ noB a b c d := by unfold noB; omega
    refine ⟨_, rfl, _, rfl, _, _, rfl, rfl, .inl ⟨by omega, by omega⟩, _, rfl, _, rfl, _, _, rfl, rfl, .inl ⟨by omega, by omega⟩, _, _, rfl, rfl, _, rfl, if_dec (fun h8 => ?_) (fun h8 => ?_)⟩
    · rw [due_between_odd a b c d hno h8] at k
      exact ⟨by decide, fun p np => k.one np⟩
    have hok := bt_ok a b c d hno h8
    rw [due_between_yes a b c d hno h8] at k
    refine ⟨(by show 1 ≤ 2 ^ 24; decide), fun l nl => ?_⟩
    refine ⟨_, rfl, _, rfl, _, rfl, _, rfl, b + d + 2, a, b, c, d, rfl, hok, by omega, by omega, fun H2 t s2 nt ht => ?_⟩
    refine ⟨t, _, rfl, SqL.of ht, CB.bt_mem _ _ _ _ _ hok, fun H3 r s3 nr hr3 => ?_⟩
    have hl3 : H3 l = some (.lst [.int 0]) := s3 l _ (s2 l _ upd_same)
    refine ⟨l, r, _, _, rfl, rfl, hl3, hr3, (by show 3 ≤ 2 ^ 24; decide), fun p np => ?_⟩
    have s4 := ((same_upd (o := .lst [.int 0]) nl).trans s2).trans s3
    exact k _ p (s4.trans (same_upd np)) (Same.none s4 np) upd_same
end
end CT

set_option Elab.async false
set_option maxRecDepth 100000
set_option maxHeartbeats 2000000
namespace CT
open PySem PySem.Spec PyProof.Rows L2
open PySem.W (Codec)
/-- a pair of numbers from 0 on, not too great -/
def Small (a : Int × Int) (A : Nat) : Prop := 0 ≤ a.1 ∧ 0 ≤ a.2 ∧ a.1 < 2 ^ A ∧ a.2 < 2 ^ A
theorem abs_lt {z : Int} {A : Nat} (h0 : 0 ≤ z) (h : z < 2 ^ A) : z.natAbs < 2 ^ A := by
  have h1 : ((z.natAbs : Nat) : Int) < ((2 ^ A : Nat) : Int) := by
    rw [Int.natAbs_of_nonneg h0]
    push_cast
    exact h
  exact_mod_cast h1
theorem abs_mul_lt {n : Nat} {z : Int} {A : Nat} (hn : n ≤ 1000) (h : z.natAbs < 2 ^ A) : ((n : Int) * z).natAbs < 2 ^ (A + 10) := by
  rw [Int.natAbs_mul, Nat.pow_add, Nat.mul_comm]
  have e : ((n : Int)).natAbs = n := by omega
  rw [e]
  exact Nat.mul_lt_mul'' h (by show n < 1024; omega)
theorem Small.mono {a : Int × Int} {A B : Nat} (h : Small a A) (hAB : A ≤ B) : Small a B := by
  obtain ⟨h1, h2, h3, h4⟩ := h
  have : (2 : Int) ^ A ≤ 2 ^ B := by
    have h5 : 2 ^ A ≤ 2 ^ B := Nat.pow_le_pow_right (by decide) hAB
    exact_mod_cast h5
  exact ⟨h1, h2, Int.lt_of_lt_of_le h3 this, Int.lt_of_lt_of_le h4 this⟩
theorem Small.together {n : Nat} (hn : n ≤ 1000) {a b : Int × Int} {A B : Nat} (ha : Small a A) (hb : Small b B) : Small (Re03.together n a b) (A + B + 10) := CR.together_small hn ha hb
section
variable {P : Program} {w : World} {K : PySem.W.Frag} {mg : Str → Option Value} {base : Heap}

/-! ### pair_apart -/
theorem scPA : FnScope ["pair", "n"] ["pair", "n"] (defScope sApart) := ⟨rfl, rfl, rfl, by decide +kernel, rfl, by decide +kernel, by decide +kernel⟩
def spApart (K : PySem.W.Frag) : Sp := fun vs H Q _ => ∃ (a : Addr) (x : Int × Int) (n A : Nat), vs = [.ref a, .int n] ∧ SqL K H a [.int x.1, .int x.2] ∧ n ≤ 1000 ∧ Small x A ∧ 0 < A ∧ A ≤ 400000 ∧ Q (.int (x.1 * x.1 - n * x.2 * x.2)) H
theorem ok_apart {f : Addr} {fd : FuncData} (F : Fun K "pair_apart" "pair_apart" sApart f fd) : FnOk P w K mg base CX0 1 f fd ["pair", "n"] (spApart K) := by
  refine F.ok scPA (fun vs H Q E h => ?_) (fun cdv A outer s H vs Q E hr h => ?_)
  · obtain ⟨a, x, n, A, rfl, _⟩ := h
    rfl
  · obtain ⟨a, x, n, A, rfl, hS, hn, ⟨x0, y0, xA, yA⟩, hA0, hA, k⟩ := h
    refine ⟨_, pss_one (ps_ret (pe_op op_sub (pe_op op_mulW (pe_ix ix_list (pv 0) pe_int (fun _ _ => rfl)) (pe_ix ix_list (pv 0) pe_int (fun _ _ => rfl)))
      (pe_op op_mulW (pe_op op_mul (pv 1) (pe_ix ix_list (pv 0) pe_int (fun _ _ => rfl))) (pe_ix ix_list (pv 0) pe_int (fun _ _ => rfl))))), ?_⟩
    have hx := abs_lt x0 xA
    have hy := abs_lt y0 yA
    have hny := abs_mul_lt hn hy
    refine ⟨_, rfl, a, _, _, _, rfl, rfl, hS, rfl, _, rfl, a, _, _, _, rfl, rfl, hS, rfl, _, _, rfl, rfl, wide_mul hx hx hA0 hA0 (by omega), ?_⟩
    refine ⟨_, rfl, _, rfl, a, _, _, _, rfl, rfl, hS, rfl, _, _, rfl, rfl, .inl ⟨by omega, by omega⟩, ?_⟩
    refine ⟨_, rfl, a, _, _, _, rfl, rfl, hS, rfl, _, _, rfl, rfl, wide_mul hny hy (by omega) hA0 (by omega), _, _, rfl, rfl, ?_⟩
    exact k

/-! ### pair_product -/
theorem scPP : FnScope ["first", "second", "n", "x", "y"] ["first", "second", "n"] (defScope sProd) := ⟨rfl, rfl, rfl, by decide +kernel, rfl, by decide +kernel, by decide +kernel⟩
def spProd (K : PySem.W.Frag) : Sp := fun vs H Q _ => ∃ (a b : Addr) (x u : Int × Int) (n A B : Nat), vs = [.ref a, .ref b, .int n] ∧ SqL K H a [.int x.1, .int x.2] ∧ SqL K H b [.int u.1, .int u.2] ∧ n ≤ 1000 ∧ Small x A ∧ Small u B ∧ 0 < A ∧ 0 < B ∧ A + B ≤ 800000 ∧
  Gives H Q [(Re03.together n x u).1, (Re03.together n x u).2]
theorem ok_prod {f : Addr} {fd : FuncData} (F : Fun K "pair_product" "pair_product" sProd f fd) : FnOk P w K mg base CX0 1 f fd ["first", "second", "n"] (spProd K) := by
  refine F.ok scPP (fun vs H Q E h => ?_) (fun cdv A outer s H vs Q E hr h => ?_)
  · obtain ⟨a, b, x, u, n, A, B, rfl, _⟩ := h
    rfl
  · obtain ⟨a, b, x, u, n, A, B, rfl, hS, hS2, hn, ⟨x0, y0, xA, yA⟩, ⟨u0, v0, uB, vB⟩, hA0, hB0, hAB, k⟩ := h
    refine ⟨_, pss_cons (ps_set (i := 3) scPP.nd rfl (.inl rfl) (pe_op op_add (pe_op op_mulW (pe_ix ix_list (pv 0) pe_int (fun _ _ => rfl)) (pe_ix ix_list (pv 1) pe_int (fun _ _ => rfl)))
        (pe_op op_mulW (pe_op op_mul (pv 2) (pe_ix ix_list (pv 0) pe_int (fun _ _ => rfl))) (pe_ix ix_list (pv 1) pe_int (fun _ _ => rfl)))))
      (pss_cons (ps_set (i := 4) scPP.nd rfl (.inl rfl) (pe_op op_add (pe_op op_mulW (pe_ix ix_list (pv 0) pe_int (fun _ _ => rfl)) (pe_ix ix_list (pv 1) pe_int (fun _ _ => rfl)))
        (pe_op op_mulW (pe_ix ix_list (pv 0) pe_int (fun _ _ => rfl)) (pe_ix ix_list (pv 1) pe_int (fun _ _ => rfl)))))
      (pss_one (ps_ret (pe_lst (pa_cons (pv 3) (pa_cons (pv 4) pa_nil)))))), ?_⟩
    have hx := abs_lt x0 xA
    have hy := abs_lt y0 yA
    have hu := abs_lt u0 uB
    have hv := abs_lt v0 vB
    have hny := abs_mul_lt hn hy
    refine ⟨_, rfl, a, _, _, _, rfl, rfl, hS, rfl, _, rfl, b, _, _, _, rfl, rfl, hS2, rfl, _, _, rfl, rfl, wide_mul hx hu hA0 hB0 (by omega), ?_⟩
    refine ⟨_, rfl, _, rfl, a, _, _, _, rfl, rfl, hS, rfl, _, _, rfl, rfl, .inl ⟨by omega, by omega⟩, ?_⟩
    refine ⟨_, rfl, b, _, _, _, rfl, rfl, hS2, rfl, _, _, rfl, rfl, wide_mul hny hv (by omega) hB0 (by omega), _, _, rfl, rfl, ?_⟩
    refine ⟨_, rfl, a, _, _, _, rfl, rfl, hS, rfl, _, rfl, b, _, _, _, rfl, rfl, hS2, rfl, _, _, rfl, rfl, wide_mul hx hv hA0 hB0 (by omega), ?_⟩
    refine ⟨_, rfl, a, _, _, _, rfl, rfl, hS, rfl, _, rfl, b, _, _, _, rfl, rfl, hS2, rfl, _, _, rfl, rfl, wide_mul hy hu hA0 hB0 (by omega), _, _, rfl, rfl, ?_⟩
    refine ⟨_, rfl, _, rfl, (by show 2 ≤ 2 ^ 24; decide), fun p np => ?_⟩
    exact k _ p (same_upd np) np upd_same

/-! ### least_pair -/
theorem cut_last (xs : List V) : cutV xs none (some (-1)) = xs.take (xs.length - 1) := by
  unfold cutV
  rw [HT.sIx_none, Nat.sub_zero, List.drop_zero]
  have e : HT.sIx xs.length xs.length (some (-1)) = xs.length - 1 := by
    unfold HT.sIx
    dsimp only
    rw [if_pos (by decide)]
    omega
  rw [e]
theorem lead_parts {n l : Nat} (h : CR.Ring n l) : (Re03.Surd.terms n ⟨0, 1⟩).1 ++ (Re03.Surd.terms n ⟨0, 1⟩).2.take (l - 1) = CR.lead n l := by
  have hl := h.pos
  obtain ⟨m, rfl⟩ : ∃ m, l = m + 1 := ⟨l - 1, by omega⟩
  rw [h.terms]
  dsimp only
  rw [Nat.add_sub_cancel, ← List.map_take, List.take_range, Nat.min_eq_left (by omega)]
  unfold CR.lead
  rw [List.range_succ_eq_map, List.map_cons, List.map_map]
  rfl
theorem scLP : FnScope ["n", "parts"] ["n"] (defScope sLeast) := ⟨rfl, rfl, rfl, by decide +kernel, rfl, by decide +kernel, by decide +kernel⟩
def spLeast : Sp := fun vs H Q _ => ∃ (n l : Nat), vs = [.int n] ∧ n ≤ 1000 ∧ Re03.square n = false ∧ CR.Ring n l ∧ Gives H Q [(Re03.value (CR.lead n l)).1, (Re03.value (CR.lead n l)).2]
theorem ok_least {f : Addr} {fd : FuncData} (F : Fun K "least_pair" "least_pair" sLeast f fd)
    (W : Keeps P w K mg base "ring_terms" 2 ["p", "q", "n"] spRingTerms) (V : Keeps P w K mg base "terms_fraction" 1 ["row"] (spTermsFrac K)) : FnOk P w K mg base CX0 3 f fd ["n"] spLeast := by
  obtain ⟨fW, fdW, mW, kW, bW, GW⟩ := W
  obtain ⟨fV, fdV, mV, kV, bV, GV⟩ := V
  refine F.ok scLP (fun vs H Q E h => ?_) (fun cdv A outer s H vs Q E hr h => ?_)
  · obtain ⟨n, l, rfl, _⟩ := h
    rfl
  · obtain ⟨n, l, rfl, hn, hs, hR, k⟩ := h
    have hr1 : Room 1 _ := hr.mono (by decide)
    refine ⟨_, pss_cons (ps_set (i := 1) scLP.nd rfl (.inl rfl) (pe_call GW hr rfl mW kW bW .nil pass0 (pa_cons pe_int (pa_cons pe_int (pa_cons (pv 0) pa_nil)))))
      (pss_one (ps_ret (pe_call GV hr1 rfl mV kV bV .nil pass0 (pa_cons (pe_op op_cat (pe_ix ix_tup (pv 1) pe_int (fun _ _ => rfl)) (pe_slice sl_list (pe_ix ix_tup (pv 1) pe_int (fun _ _ => rfl)) po_none (po_some (pe_un un_neg pe_int)))) pa_nil)))), ?_⟩
    have hH := CR.rhyp_root n (by omega) hs
    have hlen := terms_short hH
    have e1 : n * (1 : Int).natAbs * (1 : Int).natAbs = n := by simp
    have e2 : (⟨0 * ((1 : Int).natAbs : Int), 1 * ((1 : Int).natAbs : Int)⟩ : Re03.Surd) = ⟨0, 1⟩ := rfl
    refine ⟨_, rfl, 0, 1, n, rfl, by omega, by decide, by decide, ?_, ?_⟩
    · rw [e1, e2]; exact hH
    · rw [e1, e2]
      have hlp := lead_parts hR
      have hll := hR.len
      have hsm := CR.lead_small n hR.base hn l
      generalize (Re03.Surd.terms n ⟨0, 1⟩).1 = xs at *
      generalize (Re03.Surd.terms n ⟨0, 1⟩).2 = ys at *
      intro H1 t a b s1 ht ha hb
      have ec : cutV (ys.map V.int) none (some (-1)) = (ys.take (l - 1)).map V.int := by
        rw [cut_last, List.length_map, hll, List.map_take]
      refine ⟨_, rfl, t, _, _, _, rfl, rfl, SqT.of ht, rfl, _, rfl, t, _, _, _, rfl, rfl, SqT.of ht, rfl, _, rfl, _, rfl, b, _, rfl, SqL.of hb, fun c nc => ?_⟩
      dsimp only
      have ec' : cutV (ys.map V.int) none (some (-(1 : Int))) = (ys.take (l - 1)).map V.int := ec
      rw [ec']
      have s2 := s1.trans (same_upd (o := .lst ((ys.take (l - 1)).map V.int)) nc)
      have nac : a ≠ c := ne_of_none ha nc
      refine ⟨a, c, _, _, rfl, rfl, (by rw [upd_ne nac]; exact ha), upd_same, ?_, fun m nm => ?_⟩
      · rw [List.length_map, List.length_map, List.length_take]
        show _ ≤ 2 ^ 24
        omega
      have s3 := s2.trans (same_upd (o := .lst (xs.map V.int ++ (ys.take (l - 1)).map V.int)) nm)
      refine ⟨m, CR.lead n l, rfl, SqL.of (by rw [upd_same, ← hlp, List.map_append]), fun x hx => ?_, fun H3 r s4 nr hr3 => ?_⟩
      · have := hsm x hx
        omega
      · have s5 := s3.trans s4
        exact k _ r s5 (Same.none s3 nr) hr3

/-! ### answer_minus_one -/
theorem scAM : FnScope ["n", "least"] ["n"] (defScope sAnsMinus) := ⟨rfl, rfl, rfl, by decide +kernel, rfl, by decide +kernel, by decide +kernel⟩
def spAnsMinus : Sp := fun vs H Q _ => ∃ (n : Nat), vs = [.int n] ∧ Gives H Q (due (.minus n))
theorem due_minus_no (n : Nat) (h : n = 0 ∨ 1000 < n) : due (.minus n) = [-1] := by
  unfold due Re03.step
  dsimp only
  rw [if_pos (by exact h)]; rfl
theorem due_minus_sq (n : Nat) (h : ¬ (n = 0 ∨ 1000 < n)) (hs : Re03.square n = true) : due (.minus n) = [-3] := by
  unfold due Re03.step
  dsimp only
  rw [if_neg (by exact h), if_pos hs]; rfl
theorem due_minus_none (n l : Nat) (h : ¬ (n = 0 ∨ 1000 < n)) (hs : Re03.square n = false) (hR : CR.Ring n l) (hl : l % 2 = 0) : due (.minus n) = [-6] := by
  unfold due Re03.step
  dsimp only
  rw [if_neg (by exact h), if_neg (by rw [hs]; decide), hR.minus, if_pos hl]; rfl
theorem due_minus_some (n l : Nat) (h : ¬ (n = 0 ∨ 1000 < n)) (hs : Re03.square n = false) (hR : CR.Ring n l) (hl : ¬ l % 2 = 0) : due (.minus n) = [0, (Re03.value (CR.lead n l)).1, (Re03.value (CR.lead n l)).2] := by
  unfold due Re03.step
  dsimp only
  rw [if_neg (by exact h), if_neg (by rw [hs]; decide), hR.minus, if_neg hl]; rfl
theorem sign_even {l : Nat} (h : l % 2 = 0) : CR.sign l = 1 := if_pos h
theorem sign_odd {l : Nat} (h : ¬ l % 2 = 0) : CR.sign l = -1 := if_neg h
theorem ok_ansMinus {f : Addr} {fd : FuncData} (F : Fun K "answer_minus_one" "answer_minus_one" sAnsMinus f fd) (T : Txt mg)
    (S : Keeps P w K mg base "is_square" 2 ["n"] spIsSq) (W : Keeps P w K mg base "least_pair" 3 ["n"] spLeast) (A : Keeps P w K mg base "pair_apart" 1 ["pair", "n"] (spApart K)) : FnOk P w K mg base CX0 4 f fd ["n"] spAnsMinus := by
  obtain ⟨fW, fdW, mW, kW, bW, GW⟩ := W
  obtain ⟨fS, fdS, mS, kS, bS, GS⟩ := S
  obtain ⟨fA, fdA, mA, kA, bA, GA⟩ := A
  refine F.ok scAM (fun vs H Q E h => ?_) (fun cdv A outer s H vs Q E hr h => ?_)
  · obtain ⟨n, rfl, _⟩ := h
    rfl
  · obtain ⟨n, rfl, k⟩ := h
    have hr1 : Room 1 _ := hr.mono (by decide)
    have hr2 : Room 2 _ := hr.mono (by decide)
    refine ⟨_, pss_cons (ps_if (PW.pt (pw_or (pt_cmpR op_eq (pv 0) pe_int (nomark _)) (pw_or1 (pt_cmpR op_gt (pv 0) (pe_const rfl T.times) (nomark _)))))
        (pss_one (ps_ret (pe_lst (pa_cons (pe_const rfl T.oob) pa_nil)))) pss_nil)
      (pss_cons (ps_if (pt_val (pe_call GS hr2 rfl mS kS bS .nil pass0 (pa_cons (pv 0) pa_nil)))
        (pss_one (ps_ret (pe_lst (pa_cons (pe_const rfl T.nfit) pa_nil)))) pss_nil)
      (pss_cons (ps_set (i := 1) scAM.nd rfl (.inl rfl) (pe_call GW hr rfl mW kW bW .nil pass0 (pa_cons (pv 0) pa_nil)))
      (pss_cons (ps_if (pt_cmpR op_eq (pe_call GA hr1 rfl mA kA bA .nil pass0 (pa_cons (pv 1) (pa_cons (pv 0) pa_nil))) pe_int (nomark _))
        (pss_one (ps_ret (pe_lst (pa_cons (pe_const rfl T.none6) pa_nil)))) pss_nil)
      (pss_one (ps_ret (pe_op op_cat (pe_lst (pa_cons pe_int pa_nil)) (pv 1))))))), ?_⟩
    have no : (n = 0 ∨ 1000 < n) → ∀ p, H p = none → Q (.ref p) (upd H p (.lst [.int (-1)])) := fun h p np => by
      rw [due_minus_no n h] at k
      exact k.one np
    refine ⟨_, rfl, rfl, _, rfl, if_dec (fun hc => ?_) (fun hc => ?_)⟩
    · have hc' : (n : Int) = 0 := V.int.inj hc
      exact if_true_of rfl ⟨by decide, no (.inl (by omega))⟩
    have hc' : ¬ (n : Int) = 0 := fun e => hc (congrArg V.int e)
    refine ⟨_, rfl, _, _, rfl, rfl, _, rfl, if_dec (fun hd => ?_) (fun hd => ?_)⟩
    · exact ⟨by decide, no (.inr (by omega))⟩
    have hno : ¬ (n = 0 ∨ 1000 < n) := by omega
    refine ⟨_, rfl, n, rfl, by omega, _, rfl, ?_⟩
    cases hs : Re03.square n with
    | true =>
      rw [due_minus_sq n hno hs] at k
      exact if_true_of rfl ⟨by decide, fun p np => k.one np⟩
    | false =>
      refine if_false_of rfl ?_
      obtain ⟨l, hR⟩ := CR.ring_of n (by omega) hs
      have hap := hR.apart
      obtain ⟨A, hA0, hA1, hsm'⟩ := hR.small (by omega)
      have hsm : Small (Re03.value (CR.lead n l)) A := hsm'
      refine ⟨_, rfl, n, l, rfl, by omega, hs, hR, fun H1 p s1 np hp => ?_⟩
      refine ⟨_, rfl, _, rfl, p, Re03.value (CR.lead n l), n, A, rfl, SqL.of hp, by omega, hsm, hA0, by omega, ?_⟩
      rw [hap]
      by_cases hl : l % 2 = 0
      · rw [sign_even hl]
        rw [due_minus_none n l hno hs hR hl] at k
        refine ⟨rfl, _, rfl, if_true_of (by decide) ⟨by decide, fun q nq => ?_⟩⟩
        exact k _ q (s1.trans (same_upd nq)) (Same.none s1 nq) upd_same
      · rw [sign_odd hl]
        rw [due_minus_some n l hno hs hR hl] at k
        refine ⟨rfl, _, rfl, if_false_of (by decide) ⟨by decide, fun q nq => ?_⟩⟩
        have nqp : p ≠ q := ne_of_none hp nq
        refine ⟨_, rfl, q, p, _, _, rfl, rfl, upd_same, (by rw [upd_ne nqp]; exact hp), (by show 3 ≤ 2 ^ 24; decide), fun r nr => ?_⟩
        have s2 := s1.trans (same_upd (o := .lst [.int 0]) nq)
        exact k _ r (s2.trans (same_upd nr)) (Same.none s2 nr) upd_same

/-! ### answer_one -/
theorem scAO : FnScope ["n", "k", "least", "pair", "step"] ["n", "k"] (defScope sAnsOne) := ⟨rfl, rfl, rfl, by decide +kernel, rfl, by decide +kernel, by decide +kernel⟩
def spAnsOne : Sp := fun vs H Q _ => ∃ (n k : Nat), vs = [.int n, .int k] ∧ Gives H Q (due (.pell n k))
theorem due_one_no (n k : Nat) (h : n = 0 ∨ 1000 < n ∨ k = 0 ∨ 5 < k) : due (.pell n k) = [-1] := by
  unfold due Re03.step
  dsimp only
  rw [if_pos (by exact h)]; rfl
theorem due_one_sq (n k : Nat) (h : ¬ (n = 0 ∨ 1000 < n ∨ k = 0 ∨ 5 < k)) (hs : Re03.square n = true) : due (.pell n k) = [-3] := by
  unfold due Re03.step
  dsimp only
  rw [if_neg (by exact h), if_pos hs]; rfl
theorem due_one_yes (n k : Nat) (h : ¬ (n = 0 ∨ 1000 < n ∨ k = 0 ∨ 5 < k)) (hs : Re03.square n = false) : due (.pell n k) = [0, (Re03.solution n k).1, (Re03.solution n k).2] := by
  unfold due Re03.step
  dsimp only
  rw [if_neg (by exact h), if_neg (by rw [hs]; decide)]; rfl
theorem sol_small {n : Nat} (hn : n ≤ 1000) {B : Nat} (h : Small (Re03.pell n) B) : ∀ i, Small (Re03.solution n (i + 1)) ((B + 10) * (i + 1))
  | 0 => by rw [CR.solution_one]; exact h.mono (by omega)
  | i + 1 => by
    have := Small.together hn (sol_small hn h i) h
    refine Small.mono this ?_
    rw [Nat.mul_add (B + 10) (i + 1) 1]
    omega
def wOne (n k : Nat) (H : Hp) (p : Addr) (i : Nat) (σ : L2.St) (H' : Hp) : Prop := ∃ (q : Addr) (v : Option V), σ = [some (.int n), some (.int k), some (.ref p), some (.ref q), v] ∧ Same H H' ∧
  H' p = some (.lst [.int (Re03.pell n).1, .int (Re03.pell n).2]) ∧ H' q = some (.lst [.int (Re03.solution n (i + 1)).1, .int (Re03.solution n (i + 1)).2])
theorem ok_ansOne {f : Addr} {fd : FuncData} (F : Fun K "answer_one" "answer_one" sAnsOne f fd) (T : Txt mg) (mr : mg "range" = none)
    (S : Keeps P w K mg base "is_square" 2 ["n"] spIsSq) (W : Keeps P w K mg base "least_pair" 3 ["n"] spLeast) (A : Keeps P w K mg base "pair_apart" 1 ["pair", "n"] (spApart K))
    (B : Keeps P w K mg base "pair_product" 1 ["first", "second", "n"] (spProd K)) : FnOk P w K mg base CX0 4 f fd ["n", "k"] spAnsOne := by
  obtain ⟨fW, fdW, mW, kW, bW, GW⟩ := W
  obtain ⟨fS, fdS, mS, kS, bS, GS⟩ := S
  obtain ⟨fA, fdA, mA, kA, bA, GA⟩ := A
  obtain ⟨fB, fdB, mB, kB, bB, GB⟩ := B
  refine F.ok scAO (fun vs H Q E h => ?_) (fun cdv A outer s H vs Q E hr h => ?_)
  · obtain ⟨n, k, rfl, _⟩ := h
    rfl
  · obtain ⟨n, kk, rfl, k⟩ := h
    have hr1 : Room 1 _ := hr.mono (by decide)
    have hr2 : Room 2 _ := hr.mono (by decide)
    refine ⟨_, pss_cons (ps_if (PW.pt (pw_or (pt_cmpR op_eq (pv 0) pe_int (nomark _)) (pw_or (pt_cmpR op_gt (pv 0) (pe_const rfl T.times) (nomark _)) (pw_or (pt_cmpR op_eq (pv 1) pe_int (nomark _)) (pw_or1 (pt_cmpR op_gt (pv 1) (pe_const rfl T.solu) (nomark _)))))))
        (pss_one (ps_ret (pe_lst (pa_cons (pe_const rfl T.oob) pa_nil)))) pss_nil)
      (pss_cons (ps_if (pt_val (pe_call GS hr2 rfl mS kS bS .nil pass0 (pa_cons (pv 0) pa_nil)))
        (pss_one (ps_ret (pe_lst (pa_cons (pe_const rfl T.nfit) pa_nil)))) pss_nil)
      (pss_cons (ps_set (i := 2) scAO.nd rfl (.inl rfl) (pe_call GW hr rfl mW kW bW .nil pass0 (pa_cons (pv 0) pa_nil)))
      (pss_cons (ps_if (pt_cmpR op_eq (pe_call GA hr1 rfl mA kA bA .nil pass0 (pa_cons (pv 2) (pa_cons (pv 0) pa_nil))) (pe_un un_neg pe_int) (nomark _))
        (pss_one (ps_set (i := 2) scAO.nd rfl (.inl rfl) (pe_call GB hr1 rfl mB kB bB .nil pass0 (pa_cons (pv 2) (pa_cons (pv 2) (pa_cons (pv 0) pa_nil)))))) pss_nil)
      (pss_cons (ps_set (i := 3) scAO.nd rfl (.inl rfl) (pv 2))
      (pss_cons (ps_for PassesOwn.never rfl (pi_range2 (by rfl) mr (pa_cons pe_int (pa_cons (pv 1) pa_nil))) (pg_name (i := 4) scAO.nd rfl (.inl rfl))
        (pss_one (ps_set (i := 3) scAO.nd rfl (.inl rfl) (pe_call GB hr1 rfl mB kB bB .nil pass0 (pa_cons (pv 3) (pa_cons (pv 2) (pa_cons (pv 0) pa_nil)))))))
      (pss_one (ps_ret (pe_op op_cat (pe_lst (pa_cons pe_int pa_nil)) (pv 3))))))))), ?_⟩
    have no : (n = 0 ∨ 1000 < n ∨ kk = 0 ∨ 5 < kk) → ∀ p, H p = none → Q (.ref p) (upd H p (.lst [.int (-1)])) := fun h p np => by
      rw [due_one_no n kk h] at k
      exact k.one np
    refine ⟨_, rfl, rfl, _, rfl, if_dec (fun hc => ?_) (fun hc => ?_)⟩
    · have hc' : (n : Int) = 0 := V.int.inj hc
      exact if_true_of rfl ⟨by decide, no (.inl (by omega))⟩
    have hc' : ¬ (n : Int) = 0 := fun e => hc (congrArg V.int e)
    refine ⟨_, rfl, _, _, rfl, rfl, _, rfl, if_dec (fun hd => ?_) (fun hd => ?_)⟩
    · exact if_true_of rfl ⟨by decide, no (.inr (.inl (by omega)))⟩
    refine ⟨_, rfl, rfl, _, rfl, if_dec (fun he => ?_) (fun he => ?_)⟩
    · have he' : (kk : Int) = 0 := V.int.inj he
      exact if_true_of rfl ⟨by decide, no (.inr (.inr (.inl (by omega))))⟩
    have he' : ¬ (kk : Int) = 0 := fun e => he (congrArg V.int e)
    refine ⟨_, rfl, _, _, rfl, rfl, _, rfl, if_dec (fun hg => ?_) (fun hg => ?_)⟩
    · exact ⟨by decide, no (.inr (.inr (.inr (by omega))))⟩
    have hno : ¬ (n = 0 ∨ 1000 < n ∨ kk = 0 ∨ 5 < kk) := by omega
    refine ⟨_, rfl, n, rfl, by omega, _, rfl, ?_⟩
    cases hs : Re03.square n with
    | true =>
      rw [due_one_sq n kk hno hs] at k
      exact if_true_of rfl ⟨by decide, fun p np => k.one np⟩
    | false =>
      refine if_false_of rfl ?_
      rw [due_one_yes n kk hno hs] at k
      obtain ⟨l, hR⟩ := CR.ring_of n (by omega) hs
      have hap := hR.apart
      obtain ⟨A, hA0, hA1, hsm'⟩ := hR.small (by omega)
      have hsm : Small (Re03.value (CR.lead n l)) A := hsm'
      have hpl := hR.pell
      obtain ⟨B, hB0, hB1, hpsm⟩ : ∃ B, 0 < B ∧ B ≤ 24700 ∧ Small (Re03.pell n) B := by
        rw [hpl]
        split
        · exact ⟨A, hA0, by omega, hsm⟩
        · exact ⟨A + A + 10, by omega, by omega, Small.together (by omega) hsm hsm⟩
      have em : ((kk : Int) - 1).toNat = kk - 1 := by omega
      have ek : kk - 1 + 1 = kk := by omega
      refine ⟨_, rfl, n, l, rfl, by omega, hs, hR, fun H1 p s1 np hp => ?_⟩
      refine ⟨_, rfl, _, rfl, p, Re03.value (CR.lead n l), n, A, rfl, SqL.of hp, by omega, hsm, hA0, by omega, ?_⟩
      rw [hap]
      by_cases hl : l % 2 = 0
      · rw [sign_even hl]
        rw [if_pos hl] at hpl
        refine ⟨_, rfl, rfl, _, rfl, if_false_of (by decide) ?_⟩
        have hq0 : H1 p = some (.lst [.int (Re03.pell n).1, .int (Re03.pell n).2]) := by rw [hpl]; exact hp
        have s9 := s1
        generalize p = q0 at *
        · refine ⟨_, rfl, _, rfl, 1, (kk : Int), rfl, ⟨by omega, by omega, by omega, by omega⟩, ?_⟩
          rw [em]
          refine for_range (lo := 1) (n := kk - 1) (wOne n kk H q0) ⟨q0, none, rfl, s9, hq0, by rw [CR.solution_one]; exact hq0⟩ ?_ ?_
          · rintro i σ H' hi ⟨q', v, rfl, sm, hp', hq'⟩
            have hi5 : (B + 10) * (i + 1) ≤ (B + 10) * 5 := Nat.mul_le_mul_left _ (by omega)
            refine ⟨_, rfl, _, rfl, _, rfl, q', q0, Re03.solution n (i + 1), Re03.pell n, n, (B + 10) * (i + 1), B, rfl, SqL.of hq', SqL.of hp', by omega, sol_small (by omega) hpsm i, hpsm, Nat.mul_pos (by omega) (by omega), hB0, by omega, fun H3 r s3 nr hr3 => ?_⟩
            exact ⟨r, _, rfl, sm.trans s3, s3 _ _ hp', hr3⟩
          · rintro σ H' ⟨q', v, rfl, sm, hp', hq'⟩
            rw [ek] at hq'
            refine ⟨(by show 1 ≤ 2 ^ 24; decide), fun q nq => ?_⟩
            have nqp : q' ≠ q := ne_of_none hq' nq
            refine ⟨_, rfl, q, q', _, _, rfl, rfl, upd_same, (by rw [upd_ne nqp]; exact hq'), (by show 3 ≤ 2 ^ 24; decide), fun r nr => ?_⟩
            have s2 := sm.trans (same_upd (o := .lst [.int 0]) nq)
            exact k _ r (s2.trans (same_upd nr)) (Same.none s2 nr) upd_same
      · rw [sign_odd hl]
        rw [if_neg hl] at hpl
        refine ⟨_, rfl, rfl, _, rfl, if_true_of (by decide) ?_⟩
        refine ⟨_, rfl, _, rfl, _, rfl, p, p, Re03.value (CR.lead n l), Re03.value (CR.lead n l), n, A, A, rfl, SqL.of hp, SqL.of hp, by omega, hsm, hsm, hA0, hA0, by omega, fun H2 q0 s2 nq0 hq2 => ?_⟩
        have hq0 : H2 q0 = some (.lst [.int (Re03.pell n).1, .int (Re03.pell n).2]) := by rw [hpl]; exact hq2
        have s9 := s1.trans s2
        · refine ⟨_, rfl, _, rfl, 1, (kk : Int), rfl, ⟨by omega, by omega, by omega, by omega⟩, ?_⟩
          rw [em]
          refine for_range (lo := 1) (n := kk - 1) (wOne n kk H q0) ⟨q0, none, rfl, s9, hq0, by rw [CR.solution_one]; exact hq0⟩ ?_ ?_
          · rintro i σ H' hi ⟨q', v, rfl, sm, hp', hq'⟩
            have hi5 : (B + 10) * (i + 1) ≤ (B + 10) * 5 := Nat.mul_le_mul_left _ (by omega)
            refine ⟨_, rfl, _, rfl, _, rfl, q', q0, Re03.solution n (i + 1), Re03.pell n, n, (B + 10) * (i + 1), B, rfl, SqL.of hq', SqL.of hp', by omega, sol_small (by omega) hpsm i, hpsm, Nat.mul_pos (by omega) (by omega), hB0, by omega, fun H3 r s3 nr hr3 => ?_⟩
            exact ⟨r, _, rfl, sm.trans s3, s3 _ _ hp', hr3⟩
          · rintro σ H' ⟨q', v, rfl, sm, hp', hq'⟩
            rw [ek] at hq'
            refine ⟨(by show 1 ≤ 2 ^ 24; decide), fun q nq => ?_⟩
            have nqp : q' ≠ q := ne_of_none hq' nq
            refine ⟨_, rfl, q, q', _, _, rfl, rfl, upd_same, (by rw [upd_ne nqp]; exact hq'), (by show 3 ≤ 2 ^ 24; decide), fun r nr => ?_⟩
            have s2 := sm.trans (same_upd (o := .lst [.int 0]) nq)
            exact k _ r (s2.trans (same_upd nr)) (Same.none s2 nr) upd_same
end
end CT

set_option Elab.async false
set_option maxRecDepth 100000
set_option maxHeartbeats 2000000
namespace CT
open PySem PySem.Spec PyProof.Rows L2
open PySem.W (Codec)
theorem Gives.up {H H' : Hp} {Q : VK} {l : List Int} (k : Gives H Q l) (s : Same H H') : Gives H' Q l := fun H2 p s2 np h => k H2 p (s.trans s2) (Same.none s np) h
/-- the calls' numbers -/
structure TxtC (mg : Str → Option Value) : Prop where
  c0 : Is mg "TERMS" 0
  c1 : Is mg "VALUE" 1
  c2 : Is mg "ROOT" 2
  c3 : Is mg "RING" 3
  c4 : Is mg "NEAR" 4
  c5 : Is mg "NEAR_ROOT" 5
  c6 : Is mg "BETWEEN" 6
  c7 : Is mg "ONE" 7
section
variable {P : Program} {w : World} {K : PySem.W.Frag} {mg : Str → Option Value} {base : Heap}
theorem scAC : FnScope ["call"] ["call"] (defScope sAnsCall) := ⟨rfl, rfl, rfl, by decide +kernel, rfl, by decide +kernel, by decide +kernel⟩
theorem ok_ansCall {f : Addr} {fd : FuncData} (F : Fun K "answer_call" "answer_call" sAnsCall f fd) (T : TxtC mg)
    (W0 : Keeps P w K mg base "answer_terms" 2 ["n", "d"] spAnsTerms)
    (W1 : Keeps P w K mg base "answer_value" 2 ["row"] (spAnsValue K))
    (W2 : Keeps P w K mg base "answer_root" 3 ["n"] spAnsRoot)
    (W3 : Keeps P w K mg base "answer_ring" 3 ["p", "q", "n"] spAnsRing)
    (W4 : Keeps P w K mg base "answer_near" 2 ["n", "d", "m"] spAnsNear)
    (W5 : Keeps P w K mg base "answer_near_root" 3 ["n", "m"] spAnsNearRoot)
    (W6 : Keeps P w K mg base "answer_between" 2 ["a", "b", "c", "d"] spAnsBetween)
    (W7 : Keeps P w K mg base "answer_one" 4 ["n", "k"] spAnsOne)
    (W8 : Keeps P w K mg base "answer_minus_one" 4 ["n"] spAnsMinus) : FnOk P w K mg base CX0 5 f fd ["call"] (spAnsCall K) := by
  obtain ⟨f0, fd0, m0, k0, b0, G0⟩ := W0
  obtain ⟨f1, fd1, m1, k1, b1, G1⟩ := W1
  obtain ⟨f2, fd2, m2, k2, b2, G2⟩ := W2
  obtain ⟨f3, fd3, m3, k3, b3, G3⟩ := W3
  obtain ⟨f4, fd4, m4, k4, b4, G4⟩ := W4
  obtain ⟨f5, fd5, m5, k5, b5, G5⟩ := W5
  obtain ⟨f6, fd6, m6, k6, b6, G6⟩ := W6
  obtain ⟨f7, fd7, m7, k7, b7, G7⟩ := W7
  obtain ⟨f8, fd8, m8, k8, b8, G8⟩ := W8
  refine F.ok scAC (fun vs H Q E h => ?_) (fun cdv A outer s H vs Q E hr h => ?_)
  · obtain ⟨a, u, c, rfl, _⟩ := h
    rfl
  · obtain ⟨ad, u, c, rfl, hS, hpu, hul, hask, kq⟩ := h
    have hr2 : Room 2 _ := hr.mono (by decide)
    have hr3 : Room 3 _ := hr.mono (by decide)
    refine ⟨_, (pss_cons (ps_if (pt_cmpR op_eq (pe_ix ix_list (pv 0) pe_int (fun _ _ => rfl)) (pe_const rfl T.c0) (nomark _)) (pss_one (ps_ret (pe_call G0 hr2 rfl m0 k0 b0 .nil pass0 (pa_cons (pe_ix ix_list (pv 0) pe_int (fun _ _ => rfl)) (pa_cons (pe_ix ix_list (pv 0) pe_int (fun _ _ => rfl)) pa_nil))))) pss_nil)
      (pss_cons (ps_if (pt_cmpR op_eq (pe_ix ix_list (pv 0) pe_int (fun _ _ => rfl)) (pe_const rfl T.c1) (nomark _)) (pss_one (ps_ret (pe_call G1 hr2 rfl m1 k1 b1 .nil pass0 (pa_cons (pe_slice sl_list (pv 0) (po_some pe_int) po_none) pa_nil)))) pss_nil)
      (pss_cons (ps_if (pt_cmpR op_eq (pe_ix ix_list (pv 0) pe_int (fun _ _ => rfl)) (pe_const rfl T.c2) (nomark _)) (pss_one (ps_ret (pe_call G2 hr3 rfl m2 k2 b2 .nil pass0 (pa_cons (pe_ix ix_list (pv 0) pe_int (fun _ _ => rfl)) pa_nil)))) pss_nil)
      (pss_cons (ps_if (pt_cmpR op_eq (pe_ix ix_list (pv 0) pe_int (fun _ _ => rfl)) (pe_const rfl T.c3) (nomark _)) (pss_one (ps_ret (pe_call G3 hr3 rfl m3 k3 b3 .nil pass0 (pa_cons (pe_ix ix_list (pv 0) pe_int (fun _ _ => rfl)) (pa_cons (pe_ix ix_list (pv 0) pe_int (fun _ _ => rfl)) (pa_cons (pe_ix ix_list (pv 0) pe_int (fun _ _ => rfl)) pa_nil)))))) pss_nil)
      (pss_cons (ps_if (pt_cmpR op_eq (pe_ix ix_list (pv 0) pe_int (fun _ _ => rfl)) (pe_const rfl T.c4) (nomark _)) (pss_one (ps_ret (pe_call G4 hr2 rfl m4 k4 b4 .nil pass0 (pa_cons (pe_ix ix_list (pv 0) pe_int (fun _ _ => rfl)) (pa_cons (pe_ix ix_list (pv 0) pe_int (fun _ _ => rfl)) (pa_cons (pe_ix ix_list (pv 0) pe_int (fun _ _ => rfl)) pa_nil)))))) pss_nil)
      (pss_cons (ps_if (pt_cmpR op_eq (pe_ix ix_list (pv 0) pe_int (fun _ _ => rfl)) (pe_const rfl T.c5) (nomark _)) (pss_one (ps_ret (pe_call G5 hr3 rfl m5 k5 b5 .nil pass0 (pa_cons (pe_ix ix_list (pv 0) pe_int (fun _ _ => rfl)) (pa_cons (pe_ix ix_list (pv 0) pe_int (fun _ _ => rfl)) pa_nil))))) pss_nil)
      (pss_cons (ps_if (pt_cmpR op_eq (pe_ix ix_list (pv 0) pe_int (fun _ _ => rfl)) (pe_const rfl T.c6) (nomark _)) (pss_one (ps_ret (pe_call G6 hr2 rfl m6 k6 b6 .nil pass0 (pa_cons (pe_ix ix_list (pv 0) pe_int (fun _ _ => rfl)) (pa_cons (pe_ix ix_list (pv 0) pe_int (fun _ _ => rfl)) (pa_cons (pe_ix ix_list (pv 0) pe_int (fun _ _ => rfl)) (pa_cons (pe_ix ix_list (pv 0) pe_int (fun _ _ => rfl)) pa_nil))))))) pss_nil)
      (pss_cons (ps_if (pt_cmpR op_eq (pe_ix ix_list (pv 0) pe_int (fun _ _ => rfl)) (pe_const rfl T.c7) (nomark _)) (pss_one (ps_ret (pe_call G7 hr rfl m7 k7 b7 .nil pass0 (pa_cons (pe_ix ix_list (pv 0) pe_int (fun _ _ => rfl)) (pa_cons (pe_ix ix_list (pv 0) pe_int (fun _ _ => rfl)) pa_nil))))) pss_nil)
      (pss_one (ps_ret (pe_call G8 hr rfl m8 k8 b8 .nil pass0 (pa_cons (pe_ix ix_list (pv 0) pe_int (fun _ _ => rfl)) pa_nil)))))))))))), ?_⟩
    obtain ⟨x, hx, hdue⟩ := CF.due_call hask
    rw [hdue] at kq
    clear hdue
    cases hpu with
    | terms n d =>
      change (if 0 ≤ d then some (Re03.Call.terms n d.toNat) else none) = some x at hx
      split at hx
      · rename_i hcond
        cases hx
        obtain ⟨d', rfl⟩ : ∃ d' : Nat, d = d' := ⟨d.toNat, by omega⟩
        simp only [Int.toNat_natCast] at kq
        refine ⟨_, rfl, ad, _, _, _, rfl, rfl, hS, rfl, rfl, _, rfl, if_true_of (by decide) ?_⟩
        refine ⟨_, rfl, ad, _, _, _, rfl, rfl, hS, rfl, _, rfl, ad, _, _, _, rfl, rfl, hS, rfl, n, d', rfl, kq⟩
      · cases hx
    | value r =>
      change (if r.length ≤ 30 then some (Re03.Call.value r) else none) = some x at hx
      split at hx
      · cases hx
        rw [List.append_nil] at hS hul
        have g0 : atI (List.map V.int (1 :: (r.length : Int) :: r)) 0 = some (.int 1) := atI_nat (j := 0) rfl
        refine ⟨_, rfl, ad, _, _, _, rfl, rfl, hS, g0, rfl, _, rfl, if_false_of (by decide) ?_⟩
        refine ⟨_, rfl, ad, _, _, _, rfl, rfl, hS, g0, rfl, _, rfl, if_true_of (by decide) ?_⟩
        refine ⟨_, rfl, _, rfl, ad, _, rfl, hS, fun b nb => ?_⟩
        have ec : cutV (List.map V.int (1 :: (r.length : Int) :: r)) (some 2) none = r.map V.int := cut_tail (List.map V.int (1 :: (r.length : Int) :: r)) 2 (by simp)
        rw [ec]
        refine ⟨b, r, rfl, SqL.of upd_same, ?_, Gives.up kq (same_upd nb)⟩
        simp only [List.length_cons] at hul
        omega
      · cases hx
    | root n =>
      change (if 0 ≤ n then some (Re03.Call.root n.toNat) else none) = some x at hx
      split at hx
      · rename_i hcond
        cases hx
        obtain ⟨n', rfl⟩ : ∃ n' : Nat, n = n' := ⟨n.toNat, by omega⟩
        simp only [Int.toNat_natCast] at kq
        refine ⟨_, rfl, ad, _, _, _, rfl, rfl, hS, rfl, rfl, _, rfl, if_false_of (by decide) ?_⟩
        refine ⟨_, rfl, ad, _, _, _, rfl, rfl, hS, rfl, rfl, _, rfl, if_false_of (by decide) ?_⟩
        refine ⟨_, rfl, ad, _, _, _, rfl, rfl, hS, rfl, rfl, _, rfl, if_true_of (by decide) ?_⟩
        refine ⟨_, rfl, ad, _, _, _, rfl, rfl, hS, rfl, n', rfl, kq⟩
      · cases hx
    | ring p q n =>
      change (if 0 ≤ n then some (Re03.Call.surd p q n.toNat) else none) = some x at hx
      split at hx
      · rename_i hcond
        cases hx
        obtain ⟨n', rfl⟩ : ∃ n' : Nat, n = n' := ⟨n.toNat, by omega⟩
        simp only [Int.toNat_natCast] at kq
        refine ⟨_, rfl, ad, _, _, _, rfl, rfl, hS, rfl, rfl, _, rfl, if_false_of (by decide) ?_⟩
        refine ⟨_, rfl, ad, _, _, _, rfl, rfl, hS, rfl, rfl, _, rfl, if_false_of (by decide) ?_⟩
        refine ⟨_, rfl, ad, _, _, _, rfl, rfl, hS, rfl, rfl, _, rfl, if_false_of (by decide) ?_⟩
        refine ⟨_, rfl, ad, _, _, _, rfl, rfl, hS, rfl, rfl, _, rfl, if_true_of (by decide) ?_⟩
        refine ⟨_, rfl, ad, _, _, _, rfl, rfl, hS, rfl, _, rfl, ad, _, _, _, rfl, rfl, hS, rfl, _, rfl, ad, _, _, _, rfl, rfl, hS, rfl, p, q, n', rfl, kq⟩
      · cases hx
    | near n d m =>
      change (if 0 ≤ d ∧ 0 ≤ m then some (Re03.Call.near n d.toNat m.toNat) else none) = some x at hx
      split at hx
      · rename_i hcond
        cases hx
        obtain ⟨d', rfl⟩ : ∃ d' : Nat, d = d' := ⟨d.toNat, by omega⟩
        obtain ⟨m', rfl⟩ : ∃ m' : Nat, m = m' := ⟨m.toNat, by omega⟩
        simp only [Int.toNat_natCast] at kq
        refine ⟨_, rfl, ad, _, _, _, rfl, rfl, hS, rfl, rfl, _, rfl, if_false_of (by decide) ?_⟩
        refine ⟨_, rfl, ad, _, _, _, rfl, rfl, hS, rfl, rfl, _, rfl, if_false_of (by decide) ?_⟩
        refine ⟨_, rfl, ad, _, _, _, rfl, rfl, hS, rfl, rfl, _, rfl, if_false_of (by decide) ?_⟩
        refine ⟨_, rfl, ad, _, _, _, rfl, rfl, hS, rfl, rfl, _, rfl, if_false_of (by decide) ?_⟩
        refine ⟨_, rfl, ad, _, _, _, rfl, rfl, hS, rfl, rfl, _, rfl, if_true_of (by decide) ?_⟩
        refine ⟨_, rfl, ad, _, _, _, rfl, rfl, hS, rfl, _, rfl, ad, _, _, _, rfl, rfl, hS, rfl, _, rfl, ad, _, _, _, rfl, rfl, hS, rfl, n, d', m', rfl, kq⟩
      · cases hx
    | nearRoot n m =>
      change (if 0 ≤ n ∧ 0 ≤ m then some (Re03.Call.nearRoot n.toNat m.toNat) else none) = some x at hx
      split at hx
      · rename_i hcond
        cases hx
        obtain ⟨n', rfl⟩ : ∃ n' : Nat, n = n' := ⟨n.toNat, by omega⟩
        obtain ⟨m', rfl⟩ : ∃ m' : Nat, m = m' := ⟨m.toNat, by omega⟩
        simp only [Int.toNat_natCast] at kq
        refine ⟨_, rfl, ad, _, _, _, rfl, rfl, hS, rfl, rfl, _, rfl, if_false_of (by decide) ?_⟩
        refine ⟨_, rfl, ad, _, _, _, rfl, rfl, hS, rfl, rfl, _, rfl, if_false_of (by decide) ?_⟩
        refine ⟨_, rfl, ad, _, _, _, rfl, rfl, hS, rfl, rfl, _, rfl, if_false_of (by decide) ?_⟩
        refine ⟨_, rfl, ad, _, _, _, rfl, rfl, hS, rfl, rfl, _, rfl, if_false_of (by decide) ?_⟩
        refine ⟨_, rfl, ad, _, _, _, rfl, rfl, hS, rfl, rfl, _, rfl, if_false_of (by decide) ?_⟩
        refine ⟨_, rfl, ad, _, _, _, rfl, rfl, hS, rfl, rfl, _, rfl, if_true_of (by decide) ?_⟩
        refine ⟨_, rfl, ad, _, _, _, rfl, rfl, hS, rfl, _, rfl, ad, _, _, _, rfl, rfl, hS, rfl, n', m', rfl, kq⟩
      · cases hx
    | between a b c d =>
      change (if 0 ≤ b ∧ 0 ≤ d then some (Re03.Call.between a b.toNat c d.toNat) else none) = some x at hx
      split at hx
      · rename_i hcond
        cases hx
        obtain ⟨b', rfl⟩ : ∃ b' : Nat, b = b' := ⟨b.toNat, by omega⟩
        obtain ⟨d', rfl⟩ : ∃ d' : Nat, d = d' := ⟨d.toNat, by omega⟩
        simp only [Int.toNat_natCast] at kq
        refine ⟨_, rfl, ad, _, _, _, rfl, rfl, hS, rfl, rfl, _, rfl, if_false_of (by decide) ?_⟩
        refine ⟨_, rfl, ad, _, _, _, rfl, rfl, hS, rfl, rfl, _, rfl, if_false_of (by decide) ?_⟩
        refine ⟨_, rfl, ad, _, _, _, rfl, rfl, hS, rfl, rfl, _, rfl, if_false_of (by decide) ?_⟩
        refine ⟨_, rfl, ad, _, _, _, rfl, rfl, hS, rfl, rfl, _, rfl, if_false_of (by decide) ?_⟩
        refine ⟨_, rfl, ad, _, _, _, rfl, rfl, hS, rfl, rfl, _, rfl, if_false_of (by decide) ?_⟩
        refine ⟨_, rfl, ad, _, _, _, rfl, rfl, hS, rfl, rfl, _, rfl, if_false_of (by decide) ?_⟩
        refine ⟨_, rfl, ad, _, _, _, rfl, rfl, hS, rfl, rfl, _, rfl, if_true_of (by decide) ?_⟩
        refine ⟨_, rfl, ad, _, _, _, rfl, rfl, hS, rfl, _, rfl, ad, _, _, _, rfl, rfl, hS, rfl, _, rfl, ad, _, _, _, rfl, rfl, hS, rfl, _, rfl, ad, _, _, _, rfl, rfl, hS, rfl, a, b', c, d', rfl, kq⟩
      · cases hx
    | one n k =>
      change (if 0 ≤ n ∧ 0 ≤ k then some (Re03.Call.pell n.toNat k.toNat) else none) = some x at hx
      split at hx
      · rename_i hcond
        cases hx
        obtain ⟨n', rfl⟩ : ∃ n' : Nat, n = n' := ⟨n.toNat, by omega⟩
        obtain ⟨k', rfl⟩ : ∃ k' : Nat, k = k' := ⟨k.toNat, by omega⟩
        simp only [Int.toNat_natCast] at kq
        refine ⟨_, rfl, ad, _, _, _, rfl, rfl, hS, rfl, rfl, _, rfl, if_false_of (by decide) ?_⟩
        refine ⟨_, rfl, ad, _, _, _, rfl, rfl, hS, rfl, rfl, _, rfl, if_false_of (by decide) ?_⟩
        refine ⟨_, rfl, ad, _, _, _, rfl, rfl, hS, rfl, rfl, _, rfl, if_false_of (by decide) ?_⟩
        refine ⟨_, rfl, ad, _, _, _, rfl, rfl, hS, rfl, rfl, _, rfl, if_false_of (by decide) ?_⟩
        refine ⟨_, rfl, ad, _, _, _, rfl, rfl, hS, rfl, rfl, _, rfl, if_false_of (by decide) ?_⟩
        refine ⟨_, rfl, ad, _, _, _, rfl, rfl, hS, rfl, rfl, _, rfl, if_false_of (by decide) ?_⟩
        refine ⟨_, rfl, ad, _, _, _, rfl, rfl, hS, rfl, rfl, _, rfl, if_false_of (by decide) ?_⟩
        refine ⟨_, rfl, ad, _, _, _, rfl, rfl, hS, rfl, rfl, _, rfl, if_true_of (by decide) ?_⟩
        refine ⟨_, rfl, ad, _, _, _, rfl, rfl, hS, rfl, _, rfl, ad, _, _, _, rfl, rfl, hS, rfl, n', k', rfl, kq⟩
      · cases hx
    | minus n =>
      change (if 0 ≤ n then some (Re03.Call.minus n.toNat) else none) = some x at hx
      split at hx
      · rename_i hcond
        cases hx
        obtain ⟨n', rfl⟩ : ∃ n' : Nat, n = n' := ⟨n.toNat, by omega⟩
        simp only [Int.toNat_natCast] at kq
        refine ⟨_, rfl, ad, _, _, _, rfl, rfl, hS, rfl, rfl, _, rfl, if_false_of (by decide) ?_⟩
        refine ⟨_, rfl, ad, _, _, _, rfl, rfl, hS, rfl, rfl, _, rfl, if_false_of (by decide) ?_⟩
        refine ⟨_, rfl, ad, _, _, _, rfl, rfl, hS, rfl, rfl, _, rfl, if_false_of (by decide) ?_⟩
        refine ⟨_, rfl, ad, _, _, _, rfl, rfl, hS, rfl, rfl, _, rfl, if_false_of (by decide) ?_⟩
        refine ⟨_, rfl, ad, _, _, _, rfl, rfl, hS, rfl, rfl, _, rfl, if_false_of (by decide) ?_⟩
        refine ⟨_, rfl, ad, _, _, _, rfl, rfl, hS, rfl, rfl, _, rfl, if_false_of (by decide) ?_⟩
        refine ⟨_, rfl, ad, _, _, _, rfl, rfl, hS, rfl, rfl, _, rfl, if_false_of (by decide) ?_⟩
        refine ⟨_, rfl, ad, _, _, _, rfl, rfl, hS, rfl, rfl, _, rfl, if_false_of (by decide) ?_⟩
        refine ⟨_, rfl, ad, _, _, _, rfl, rfl, hS, rfl, n', rfl, kq⟩
      · cases hx
end
end CT

set_option Elab.async false
set_option maxRecDepth 100000
set_option maxHeartbeats 2000000
namespace CT
open PySem PySem.Spec PyProof.Rows L2
open PySem.W (Codec)
/-! ### what the top has written -/
theorem keeps_mk {P : Program} {w : World} {K : PySem.W.Frag} {mg : Str → Option Value} {base : Heap} {x : Str} {k : Nat} {ps : List Str} {sp : Sp} {f : Addr} {fd : FuncData} (g : mg x = some (.ref f)) (kp : PySem.W.keepIn K (.ref f) = true) (b : Binds K fd ps []) (G : FnOk P w K mg base CX0 k f fd ps sp) : Keeps P w K mg base x k ps sp := ⟨f, fd, g, kp, b, G⟩
theorem all_mk {P : Program} {w : World} {K : PySem.W.Frag} {h : Heap} {mg : Str → Option Value} {fa dD : Addr} {f0 f1 f2 f3 f4 f5 f6 f7 f8 f9 f10 f11 f12 f13 f14 f15 f16 f17 f18 f19 f20 f21 f22 f23 f24 : Addr} (X : K.In h) (G : h.Ns mainGlobals mg) (hfa : mg "answers" = some (.ref fa))
    {es : Array DictEntry} {nD : Nat} {od0 an0 od1 an1 od2 an2 od3 an3 od4 an4 od5 an5 od6 an6 od7 an7 od8 an8 od9 an9 od10 an10 od11 an11 od12 an12 od13 an13 od14 an14 od15 an15 od16 an16 od17 an17 od18 an18 od19 an19 od20 an20 od21 an21 od22 an22 od23 an23 od24 an24 : Option Addr} {sl0 sl1 sl2 sl3 sl4 sl5 sl6 sl7 sl8 sl9 sl10 sl11 sl12 sl13 sl14 sl15 sl16 sl17 sl18 sl19 sl20 sl21 sl22 sl23 sl24 : Array (Option Value)} {oc0 kV0 dc0 pm0 cd0 ct0 oc1 kV1 dc1 pm1 cd1 ct1 oc2 kV2 dc2 pm2 cd2 ct2 oc3 kV3 dc3 pm3 cd3 ct3 oc4 kV4 dc4 pm4 cd4 ct4 oc5 kV5 dc5 pm5 cd5 ct5 oc6 kV6 dc6 pm6 cd6 ct6 oc7 kV7 dc7 pm7 cd7 ct7 oc8 kV8 dc8 pm8 cd8 ct8 oc9 kV9 dc9 pm9 cd9 ct9 oc10 kV10 dc10 pm10 cd10 ct10 oc11 kV11 dc11 pm11 cd11 ct11 oc12 kV12 dc12 pm12 cd12 ct12 oc13 kV13 dc13 pm13 cd13 ct13 oc14 kV14 dc14 pm14 cd14 ct14 oc15 kV15 dc15 pm15 cd15 ct15 oc16 kV16 dc16 pm16 cd16 ct16 oc17 kV17 dc17 pm17 cd17 ct17 oc18 kV18 dc18 pm18 cd18 ct18 oc19 kV19 dc19 pm19 cd19 ct19 oc20 kV20 dc20 pm20 cd20 ct20 oc21 kV21 dc21 pm21 cd21 ct21 oc22 kV22 dc22 pm22 cd22 ct22 oc23 kV23 dc23 pm23 cd23 ct23 oc24 kV24 dc24 pm24 cd24 ct24 : Value} {t0 t1 t2 t3 t4 t5 t6 t7 t8 t9 t10 t11 t12 t13 t14 t15 t16 t17 t18 t19 : Tok}
    (a0 : PySem.W.nsIn K mainGlobals "answers" = some (some (.ref f0)))
    (l0 : K.lookup f0 = some ⟨oc0, od0, .func (PySem.W.fnOf "answers" "answers" (defArgs sAnswers) (defBody sAnswers) (defScope sAnswers) .none kV0 dc0 pm0 an0 cd0 ct0), sl0⟩)
    (c0 : PySem.W.codeIn K cd0 "answers" = true)
    (k0 : PySem.W.keepIn K (.ref f0) = true)
    (a1 : PySem.W.nsIn K mainGlobals "call_length" = some (some (.ref f1)))
    (l1 : K.lookup f1 = some ⟨oc1, od1, .func (PySem.W.fnOf "call_length" "call_length" (defArgs sCallLen) (defBody sCallLen) (defScope sCallLen) .none kV1 dc1 pm1 an1 cd1 ct1), sl1⟩)
    (c1 : PySem.W.codeIn K cd1 "call_length" = true)
    (k1 : PySem.W.keepIn K (.ref f1) = true)
    (a2 : PySem.W.nsIn K mainGlobals "answer_call" = some (some (.ref f2)))
    (l2 : K.lookup f2 = some ⟨oc2, od2, .func (PySem.W.fnOf "answer_call" "answer_call" (defArgs sAnsCall) (defBody sAnsCall) (defScope sAnsCall) .none kV2 dc2 pm2 an2 cd2 ct2), sl2⟩)
    (c2 : PySem.W.codeIn K cd2 "answer_call" = true)
    (k2 : PySem.W.keepIn K (.ref f2) = true)
    (a3 : PySem.W.nsIn K mainGlobals "answer_terms" = some (some (.ref f3)))
    (l3 : K.lookup f3 = some ⟨oc3, od3, .func (PySem.W.fnOf "answer_terms" "answer_terms" (defArgs sAnsTerms) (defBody sAnsTerms) (defScope sAnsTerms) .none kV3 dc3 pm3 an3 cd3 ct3), sl3⟩)
    (c3 : PySem.W.codeIn K cd3 "answer_terms" = true)
    (k3 : PySem.W.keepIn K (.ref f3) = true)
    (a4 : PySem.W.nsIn K mainGlobals "answer_value" = some (some (.ref f4)))
    (l4 : K.lookup f4 = some ⟨oc4, od4, .func (PySem.W.fnOf "answer_value" "answer_value" (defArgs sAnsValue) (defBody sAnsValue) (defScope sAnsValue) .none kV4 dc4 pm4 an4 cd4 ct4), sl4⟩)
    (c4 : PySem.W.codeIn K cd4 "answer_value" = true)
    (k4 : PySem.W.keepIn K (.ref f4) = true)
    (a5 : PySem.W.nsIn K mainGlobals "answer_root" = some (some (.ref f5)))
    (l5 : K.lookup f5 = some ⟨oc5, od5, .func (PySem.W.fnOf "answer_root" "answer_root" (defArgs sAnsRoot) (defBody sAnsRoot) (defScope sAnsRoot) .none kV5 dc5 pm5 an5 cd5 ct5), sl5⟩)
    (c5 : PySem.W.codeIn K cd5 "answer_root" = true)
    (k5 : PySem.W.keepIn K (.ref f5) = true)
    (a6 : PySem.W.nsIn K mainGlobals "answer_ring" = some (some (.ref f6)))
    (l6 : K.lookup f6 = some ⟨oc6, od6, .func (PySem.W.fnOf "answer_ring" "answer_ring" (defArgs sAnsRing) (defBody sAnsRing) (defScope sAnsRing) .none kV6 dc6 pm6 an6 cd6 ct6), sl6⟩)
    (c6 : PySem.W.codeIn K cd6 "answer_ring" = true)
    (k6 : PySem.W.keepIn K (.ref f6) = true)
    (a7 : PySem.W.nsIn K mainGlobals "answer_near" = some (some (.ref f7)))
    (l7 : K.lookup f7 = some ⟨oc7, od7, .func (PySem.W.fnOf "answer_near" "answer_near" (defArgs sAnsNear) (defBody sAnsNear) (defScope sAnsNear) .none kV7 dc7 pm7 an7 cd7 ct7), sl7⟩)
    (c7 : PySem.W.codeIn K cd7 "answer_near" = true)
    (k7 : PySem.W.keepIn K (.ref f7) = true)
    (a8 : PySem.W.nsIn K mainGlobals "answer_near_root" = some (some (.ref f8)))
    (l8 : K.lookup f8 = some ⟨oc8, od8, .func (PySem.W.fnOf "answer_near_root" "answer_near_root" (defArgs sAnsNearRoot) (defBody sAnsNearRoot) (defScope sAnsNearRoot) .none kV8 dc8 pm8 an8 cd8 ct8), sl8⟩)
    (c8 : PySem.W.codeIn K cd8 "answer_near_root" = true)
    (k8 : PySem.W.keepIn K (.ref f8) = true)
    (a9 : PySem.W.nsIn K mainGlobals "answer_between" = some (some (.ref f9)))
    (l9 : K.lookup f9 = some ⟨oc9, od9, .func (PySem.W.fnOf "answer_between" "answer_between" (defArgs sAnsBetween) (defBody sAnsBetween) (defScope sAnsBetween) .none kV9 dc9 pm9 an9 cd9 ct9), sl9⟩)
    (c9 : PySem.W.codeIn K cd9 "answer_between" = true)
    (k9 : PySem.W.keepIn K (.ref f9) = true)
    (a10 : PySem.W.nsIn K mainGlobals "answer_one" = some (some (.ref f10)))
    (l10 : K.lookup f10 = some ⟨oc10, od10, .func (PySem.W.fnOf "answer_one" "answer_one" (defArgs sAnsOne) (defBody sAnsOne) (defScope sAnsOne) .none kV10 dc10 pm10 an10 cd10 ct10), sl10⟩)
    (c10 : PySem.W.codeIn K cd10 "answer_one" = true)
    (k10 : PySem.W.keepIn K (.ref f10) = true)
    (a11 : PySem.W.nsIn K mainGlobals "answer_minus_one" = some (some (.ref f11)))
    (l11 : K.lookup f11 = some ⟨oc11, od11, .func (PySem.W.fnOf "answer_minus_one" "answer_minus_one" (defArgs sAnsMinus) (defBody sAnsMinus) (defScope sAnsMinus) .none kV11 dc11 pm11 an11 cd11 ct11), sl11⟩)
    (c11 : PySem.W.codeIn K cd11 "answer_minus_one" = true)
    (k11 : PySem.W.keepIn K (.ref f11) = true)
    (a12 : PySem.W.nsIn K mainGlobals "fraction_terms" = some (some (.ref f12)))
    (l12 : K.lookup f12 = some ⟨oc12, od12, .func (PySem.W.fnOf "fraction_terms" "fraction_terms" (defArgs sFracTerms) (defBody sFracTerms) (defScope sFracTerms) .none kV12 dc12 pm12 an12 cd12 ct12), sl12⟩)
    (c12 : PySem.W.codeIn K cd12 "fraction_terms" = true)
    (k12 : PySem.W.keepIn K (.ref f12) = true)
    (a13 : PySem.W.nsIn K mainGlobals "terms_fraction" = some (some (.ref f13)))
    (l13 : K.lookup f13 = some ⟨oc13, od13, .func (PySem.W.fnOf "terms_fraction" "terms_fraction" (defArgs sTermsFrac) (defBody sTermsFrac) (defScope sTermsFrac) .none kV13 dc13 pm13 an13 cd13 ct13), sl13⟩)
    (c13 : PySem.W.codeIn K cd13 "terms_fraction" = true)
    (k13 : PySem.W.keepIn K (.ref f13) = true)
    (a14 : PySem.W.nsIn K mainGlobals "whole_root" = some (some (.ref f14)))
    (l14 : K.lookup f14 = some ⟨oc14, od14, .func (PySem.W.fnOf "whole_root" "whole_root" (defArgs sWhole) (defBody sWhole) (defScope sWhole) .none kV14 dc14 pm14 an14 cd14 ct14), sl14⟩)
    (c14 : PySem.W.codeIn K cd14 "whole_root" = true)
    (k14 : PySem.W.keepIn K (.ref f14) = true)
    (a15 : PySem.W.nsIn K mainGlobals "is_square" = some (some (.ref f15)))
    (l15 : K.lookup f15 = some ⟨oc15, od15, .func (PySem.W.fnOf "is_square" "is_square" (defArgs sIsSq) (defBody sIsSq) (defScope sIsSq) .none kV15 dc15 pm15 an15 cd15 ct15), sl15⟩)
    (c15 : PySem.W.codeIn K cd15 "is_square" = true)
    (k15 : PySem.W.keepIn K (.ref f15) = true)
    (a16 : PySem.W.nsIn K mainGlobals "ring_terms" = some (some (.ref f16)))
    (l16 : K.lookup f16 = some ⟨oc16, od16, .func (PySem.W.fnOf "ring_terms" "ring_terms" (defArgs sRingTerms) (defBody sRingTerms) (defScope sRingTerms) .none kV16 dc16 pm16 an16 cd16 ct16), sl16⟩)
    (c16 : PySem.W.codeIn K cd16 "ring_terms" = true)
    (k16 : PySem.W.keepIn K (.ref f16) = true)
    (a17 : PySem.W.nsIn K mainGlobals "surd_floor" = some (some (.ref f17)))
    (l17 : K.lookup f17 = some ⟨oc17, od17, .func (PySem.W.fnOf "surd_floor" "surd_floor" (defArgs sFloor) (defBody sFloor) (defScope sFloor) .none kV17 dc17 pm17 an17 cd17 ct17), sl17⟩)
    (c17 : PySem.W.codeIn K cd17 "surd_floor" = true)
    (k17 : PySem.W.keepIn K (.ref f17) = true)
    (a18 : PySem.W.nsIn K mainGlobals "nearest_fraction" = some (some (.ref f18)))
    (l18 : K.lookup f18 = some ⟨oc18, od18, .func (PySem.W.fnOf "nearest_fraction" "nearest_fraction" (defArgs sNearest) (defBody sNearest) (defScope sNearest) .none kV18 dc18 pm18 an18 cd18 ct18), sl18⟩)
    (c18 : PySem.W.codeIn K cd18 "nearest_fraction" = true)
    (k18 : PySem.W.keepIn K (.ref f18) = true)
    (a19 : PySem.W.nsIn K mainGlobals "nearest_to_root" = some (some (.ref f19)))
    (l19 : K.lookup f19 = some ⟨oc19, od19, .func (PySem.W.fnOf "nearest_to_root" "nearest_to_root" (defArgs sNearestRoot) (defBody sNearestRoot) (defScope sNearestRoot) .none kV19 dc19 pm19 an19 cd19 ct19), sl19⟩)
    (c19 : PySem.W.codeIn K cd19 "nearest_to_root" = true)
    (k19 : PySem.W.keepIn K (.ref f19) = true)
    (a20 : PySem.W.nsIn K mainGlobals "is_nearer_to_root" = some (some (.ref f20)))
    (l20 : K.lookup f20 = some ⟨oc20, od20, .func (PySem.W.fnOf "is_nearer_to_root" "is_nearer_to_root" (defArgs sIsNearer) (defBody sIsNearer) (defScope sIsNearer) .none kV20 dc20 pm20 an20 cd20 ct20), sl20⟩)
    (c20 : PySem.W.codeIn K cd20 "is_nearer_to_root" = true)
    (k20 : PySem.W.keepIn K (.ref f20) = true)
    (a21 : PySem.W.nsIn K mainGlobals "between_terms" = some (some (.ref f21)))
    (l21 : K.lookup f21 = some ⟨oc21, od21, .func (PySem.W.fnOf "between_terms" "between_terms" (defArgs sBetTerms) (defBody sBetTerms) (defScope sBetTerms) .none kV21 dc21 pm21 an21 cd21 ct21), sl21⟩)
    (c21 : PySem.W.codeIn K cd21 "between_terms" = true)
    (k21 : PySem.W.keepIn K (.ref f21) = true)
    (a22 : PySem.W.nsIn K mainGlobals "least_pair" = some (some (.ref f22)))
    (l22 : K.lookup f22 = some ⟨oc22, od22, .func (PySem.W.fnOf "least_pair" "least_pair" (defArgs sLeast) (defBody sLeast) (defScope sLeast) .none kV22 dc22 pm22 an22 cd22 ct22), sl22⟩)
    (c22 : PySem.W.codeIn K cd22 "least_pair" = true)
    (k22 : PySem.W.keepIn K (.ref f22) = true)
    (a23 : PySem.W.nsIn K mainGlobals "pair_apart" = some (some (.ref f23)))
    (l23 : K.lookup f23 = some ⟨oc23, od23, .func (PySem.W.fnOf "pair_apart" "pair_apart" (defArgs sApart) (defBody sApart) (defScope sApart) .none kV23 dc23 pm23 an23 cd23 ct23), sl23⟩)
    (c23 : PySem.W.codeIn K cd23 "pair_apart" = true)
    (k23 : PySem.W.keepIn K (.ref f23) = true)
    (a24 : PySem.W.nsIn K mainGlobals "pair_product" = some (some (.ref f24)))
    (l24 : K.lookup f24 = some ⟨oc24, od24, .func (PySem.W.fnOf "pair_product" "pair_product" (defArgs sProd) (defBody sProd) (defScope sProd) .none kV24 dc24 pm24 an24 cd24 ct24), sl24⟩)
    (c24 : PySem.W.codeIn K cd24 "pair_product" = true)
    (k24 : PySem.W.keepIn K (.ref f24) = true)
    (u0 : PySem.W.nsIn K mainGlobals "TERMS" = some (some (.int (0) t0)))
    (u1 : PySem.W.nsIn K mainGlobals "VALUE" = some (some (.int (1) t1)))
    (u2 : PySem.W.nsIn K mainGlobals "ROOT" = some (some (.int (2) t2)))
    (u3 : PySem.W.nsIn K mainGlobals "RING" = some (some (.int (3) t3)))
    (u4 : PySem.W.nsIn K mainGlobals "NEAR" = some (some (.int (4) t4)))
    (u5 : PySem.W.nsIn K mainGlobals "NEAR_ROOT" = some (some (.int (5) t5)))
    (u6 : PySem.W.nsIn K mainGlobals "BETWEEN" = some (some (.int (6) t6)))
    (u7 : PySem.W.nsIn K mainGlobals "ONE" = some (some (.int (7) t7)))
    (u8 : PySem.W.nsIn K mainGlobals "OUT_OF_BOUNDS" = some (some (.int (-1) t8)))
    (u9 : PySem.W.nsIn K mainGlobals "NOT_FITTING" = some (some (.int (-3) t9)))
    (u10 : PySem.W.nsIn K mainGlobals "NONE_THERE" = some (some (.int (-6) t10)))
    (u11 : PySem.W.nsIn K mainGlobals "MOST_FRACTION" = some (some (.int (1000000) t11)))
    (u12 : PySem.W.nsIn K mainGlobals "MOST_TERMS" = some (some (.int (20) t12)))
    (u13 : PySem.W.nsIn K mainGlobals "MOST_TERM" = some (some (.int (1000) t13)))
    (u14 : PySem.W.nsIn K mainGlobals "MOST_ROOT" = some (some (.int (1000000) t14)))
    (u15 : PySem.W.nsIn K mainGlobals "MOST_RING_PART" = some (some (.int (100) t15)))
    (u16 : PySem.W.nsIn K mainGlobals "MOST_RING_ROOT" = some (some (.int (1000) t16)))
    (u17 : PySem.W.nsIn K mainGlobals "MOST_BELOW" = some (some (.int (300) t17)))
    (u18 : PySem.W.nsIn K mainGlobals "MOST_TIMES" = some (some (.int (1000) t18)))
    (u19 : PySem.W.nsIn K mainGlobals "MOST_SOLUTION" = some (some (.int (5) t19)))
    (z0 : PySem.W.nsIn K mainGlobals "abs" = some none)
    (z1 : PySem.W.nsIn K mainGlobals "len" = some none)
    (z2 : PySem.W.nsIn K mainGlobals "max" = some none)
    (z3 : PySem.W.nsIn K mainGlobals "min" = some none)
    (z4 : PySem.W.nsIn K mainGlobals "reversed" = some none)
    (z5 : PySem.W.nsIn K mainGlobals "range" = some none)
    (aD : PySem.W.nsIn K mainGlobals "CALL_LENGTHS" = some (some (.ref dD)))
    (lD : K.lookup dD = some ⟨.type "dict", none, .dict es nD, #[]⟩)
    (eD : entsAre es.toList lens = true) :
    ∃ fd : FuncData, (∀ (s : Shared) (us : List Value), us.length = (["calls"] : List Str).length → BindsTo s fd ⟨us, []⟩ ((["calls"] : List Str).zip us)) ∧ ∀ base : Heap, K.In base → base.Ns mainGlobals mg → FnOk P w K mg base CX0 6 fa fd ["calls"] (spAnswers K) := by
  have e := hfa.symm.trans (PySem.W.mg_of X G a0)
  cases e
  have Zabs : mg "abs" = none := PySem.W.mg_none_of X G z0
  have Zlen : mg "len" = none := PySem.W.mg_none_of X G z1
  have Zmax : mg "max" = none := PySem.W.mg_none_of X G z2
  have Zmin : mg "min" = none := PySem.W.mg_none_of X G z3
  have Zreversed : mg "reversed" = none := PySem.W.mg_none_of X G z4
  have Zrange : mg "range" = none := PySem.W.mg_none_of X G z5
  have T : Txt mg := ⟨Zabs, Zlen, Zmax, Zmin, ⟨_, PySem.W.mg_of X G u8⟩, ⟨_, PySem.W.mg_of X G u9⟩, ⟨_, PySem.W.mg_of X G u11⟩, ⟨_, PySem.W.mg_of X G u12⟩, ⟨_, PySem.W.mg_of X G u13⟩, ⟨_, PySem.W.mg_of X G u14⟩, ⟨_, PySem.W.mg_of X G u15⟩, ⟨_, PySem.W.mg_of X G u16⟩, ⟨_, PySem.W.mg_of X G u17⟩, ⟨_, PySem.W.mg_of X G u10⟩, ⟨_, PySem.W.mg_of X G u18⟩, ⟨_, PySem.W.mg_of X G u19⟩⟩
  have TC : TxtC mg := ⟨⟨_, PySem.W.mg_of X G u0⟩, ⟨_, PySem.W.mg_of X G u1⟩, ⟨_, PySem.W.mg_of X G u2⟩, ⟨_, PySem.W.mg_of X G u3⟩, ⟨_, PySem.W.mg_of X G u4⟩, ⟨_, PySem.W.mg_of X G u5⟩, ⟨_, PySem.W.mg_of X G u6⟩, ⟨_, PySem.W.mg_of X G u7⟩⟩
  have F0 := fun_mk (st := sAnswers) l0 c0 k0
  have F1 := fun_mk (st := sCallLen) l1 c1 k1
  have b1 := F1.binds (ps := ["calls", "start"]) fun _ _ _ _ _ _ us hl => match us, hl with | [_, _], _ => rfl
  have F2 := fun_mk (st := sAnsCall) l2 c2 k2
  have b2 := F2.binds (ps := ["call"]) fun _ _ _ _ _ _ us hl => match us, hl with | [_], _ => rfl
  have F3 := fun_mk (st := sAnsTerms) l3 c3 k3
  have b3 := F3.binds (ps := ["n", "d"]) fun _ _ _ _ _ _ us hl => match us, hl with | [_, _], _ => rfl
  have F4 := fun_mk (st := sAnsValue) l4 c4 k4
  have b4 := F4.binds (ps := ["row"]) fun _ _ _ _ _ _ us hl => match us, hl with | [_], _ => rfl
  have F5 := fun_mk (st := sAnsRoot) l5 c5 k5
  have b5 := F5.binds (ps := ["n"]) fun _ _ _ _ _ _ us hl => match us, hl with | [_], _ => rfl
  have F6 := fun_mk (st := sAnsRing) l6 c6 k6
  have b6 := F6.binds (ps := ["p", "q", "n"]) fun _ _ _ _ _ _ us hl => match us, hl with | [_, _, _], _ => rfl
  have F7 := fun_mk (st := sAnsNear) l7 c7 k7
  have b7 := F7.binds (ps := ["n", "d", "m"]) fun _ _ _ _ _ _ us hl => match us, hl with | [_, _, _], _ => rfl
  have F8 := fun_mk (st := sAnsNearRoot) l8 c8 k8
  have b8 := F8.binds (ps := ["n", "m"]) fun _ _ _ _ _ _ us hl => match us, hl with | [_, _], _ => rfl
  have F9 := fun_mk (st := sAnsBetween) l9 c9 k9
  have b9 := F9.binds (ps := ["a", "b", "c", "d"]) fun _ _ _ _ _ _ us hl => match us, hl with | [_, _, _, _], _ => rfl
  have F10 := fun_mk (st := sAnsOne) l10 c10 k10
  have b10 := F10.binds (ps := ["n", "k"]) fun _ _ _ _ _ _ us hl => match us, hl with | [_, _], _ => rfl
  have F11 := fun_mk (st := sAnsMinus) l11 c11 k11
  have b11 := F11.binds (ps := ["n"]) fun _ _ _ _ _ _ us hl => match us, hl with | [_], _ => rfl
  have F12 := fun_mk (st := sFracTerms) l12 c12 k12
  have b12 := F12.binds (ps := ["n", "d"]) fun _ _ _ _ _ _ us hl => match us, hl with | [_, _], _ => rfl
  have F13 := fun_mk (st := sTermsFrac) l13 c13 k13
  have b13 := F13.binds (ps := ["row"]) fun _ _ _ _ _ _ us hl => match us, hl with | [_], _ => rfl
  have F14 := fun_mk (st := sWhole) l14 c14 k14
  have b14 := F14.binds (ps := ["n"]) fun _ _ _ _ _ _ us hl => match us, hl with | [_], _ => rfl
  have F15 := fun_mk (st := sIsSq) l15 c15 k15
  have b15 := F15.binds (ps := ["n"]) fun _ _ _ _ _ _ us hl => match us, hl with | [_], _ => rfl
  have F16 := fun_mk (st := sRingTerms) l16 c16 k16
  have b16 := F16.binds (ps := ["p", "q", "n"]) fun _ _ _ _ _ _ us hl => match us, hl with | [_, _, _], _ => rfl
  have F17 := fun_mk (st := sFloor) l17 c17 k17
  have b17 := F17.binds (ps := ["upper", "lower", "whole"]) fun _ _ _ _ _ _ us hl => match us, hl with | [_, _, _], _ => rfl
  have F18 := fun_mk (st := sNearest) l18 c18 k18
  have b18 := F18.binds (ps := ["n", "d", "m"]) fun _ _ _ _ _ _ us hl => match us, hl with | [_, _, _], _ => rfl
  have F19 := fun_mk (st := sNearestRoot) l19 c19 k19
  have b19 := F19.binds (ps := ["n", "m"]) fun _ _ _ _ _ _ us hl => match us, hl with | [_, _], _ => rfl
  have F20 := fun_mk (st := sIsNearer) l20 c20 k20
  have b20 := F20.binds (ps := ["n", "upper", "lower", "other_upper", "other_lower"]) fun _ _ _ _ _ _ us hl => match us, hl with | [_, _, _, _, _], _ => rfl
  have F21 := fun_mk (st := sBetTerms) l21 c21 k21
  have b21 := F21.binds (ps := ["a", "b", "c", "d"]) fun _ _ _ _ _ _ us hl => match us, hl with | [_, _, _, _], _ => rfl
  have F22 := fun_mk (st := sLeast) l22 c22 k22
  have b22 := F22.binds (ps := ["n"]) fun _ _ _ _ _ _ us hl => match us, hl with | [_], _ => rfl
  have F23 := fun_mk (st := sApart) l23 c23 k23
  have b23 := F23.binds (ps := ["pair", "n"]) fun _ _ _ _ _ _ us hl => match us, hl with | [_, _], _ => rfl
  have F24 := fun_mk (st := sProd) l24 c24 k24
  have b24 := F24.binds (ps := ["first", "second", "n"]) fun _ _ _ _ _ _ us hl => match us, hl with | [_, _, _], _ => rfl
  refine ⟨PySem.W.fnOf "answers" "answers" (defArgs sAnswers) (defBody sAnswers) (defScope sAnswers) .none kV0 dc0 pm0 an0 cd0 ct0, fun s us hu => match us, hu with | [_], _ => .of_eq rfl, fun base _ _ => ?_⟩
  have W_whole_root : Keeps P w K mg base "whole_root" 1 ["n"] spWhole := keeps_mk (PySem.W.mg_of X G a14) k14 b14 (ok_whole F14)
  have W_surd_floor : Keeps P w K mg base "surd_floor" 1 ["upper", "lower", "whole"] spFloor := keeps_mk (PySem.W.mg_of X G a17) k17 b17 (ok_floor F17)
  have W_is_square : Keeps P w K mg base "is_square" 2 ["n"] spIsSq := keeps_mk (PySem.W.mg_of X G a15) k15 b15 (ok_isSq F15 W_whole_root)
  have W_fraction_terms : Keeps P w K mg base "fraction_terms" 1 ["n", "d"] spFracTerms := keeps_mk (PySem.W.mg_of X G a12) k12 b12 (ok_fracTerms F12)
  have W_terms_fraction : Keeps P w K mg base "terms_fraction" 1 ["row"] (spTermsFrac K) := keeps_mk (PySem.W.mg_of X G a13) k13 b13 (ok_termsFrac F13 Zreversed)
  have W_ring_terms : Keeps P w K mg base "ring_terms" 2 ["p", "q", "n"] spRingTerms := keeps_mk (PySem.W.mg_of X G a16) k16 b16 (ok_ringTerms F16 ⟨Zabs, Zlen⟩ W_whole_root W_surd_floor)
  have W_nearest_fraction : Keeps P w K mg base "nearest_fraction" 1 ["n", "d", "m"] spNearest := keeps_mk (PySem.W.mg_of X G a18) k18 b18 (ok_nearest F18 Zrange Zabs)
  have W_is_nearer_to_root : Keeps P w K mg base "is_nearer_to_root" 1 ["n", "upper", "lower", "other_upper", "other_lower"] spIsNearer := keeps_mk (PySem.W.mg_of X G a20) k20 b20 (ok_isNearer F20)
  have W_nearest_to_root : Keeps P w K mg base "nearest_to_root" 2 ["n", "m"] spNearestRoot := keeps_mk (PySem.W.mg_of X G a19) k19 b19 (ok_nearestRoot F19 Zrange W_whole_root W_is_nearer_to_root)
  have W_between_terms : Keeps P w K mg base "between_terms" 1 ["a", "b", "c", "d"] spBetTerms := keeps_mk (PySem.W.mg_of X G a21) k21 b21 (ok_betTerms F21)
  have W_least_pair : Keeps P w K mg base "least_pair" 3 ["n"] spLeast := keeps_mk (PySem.W.mg_of X G a22) k22 b22 (ok_least F22 W_ring_terms W_terms_fraction)
  have W_pair_apart : Keeps P w K mg base "pair_apart" 1 ["pair", "n"] (spApart K) := keeps_mk (PySem.W.mg_of X G a23) k23 b23 (ok_apart F23)
  have W_pair_product : Keeps P w K mg base "pair_product" 1 ["first", "second", "n"] (spProd K) := keeps_mk (PySem.W.mg_of X G a24) k24 b24 (ok_prod F24)
  have W_answer_terms : Keeps P w K mg base "answer_terms" 2 ["n", "d"] spAnsTerms := keeps_mk (PySem.W.mg_of X G a3) k3 b3 (ok_ansTerms F3 T W_fraction_terms)
  have W_answer_value : Keeps P w K mg base "answer_value" 2 ["row"] (spAnsValue K) := keeps_mk (PySem.W.mg_of X G a4) k4 b4 (ok_ansValue F4 T W_terms_fraction)
  have W_answer_root : Keeps P w K mg base "answer_root" 3 ["n"] spAnsRoot := keeps_mk (PySem.W.mg_of X G a5) k5 b5 (ok_ansRoot F5 T W_is_square W_ring_terms)
  have W_answer_ring : Keeps P w K mg base "answer_ring" 3 ["p", "q", "n"] spAnsRing := keeps_mk (PySem.W.mg_of X G a6) k6 b6 (ok_ansRing F6 T W_is_square W_ring_terms)
  have W_answer_near : Keeps P w K mg base "answer_near" 2 ["n", "d", "m"] spAnsNear := keeps_mk (PySem.W.mg_of X G a7) k7 b7 (ok_ansNear F7 T W_nearest_fraction)
  have W_answer_near_root : Keeps P w K mg base "answer_near_root" 3 ["n", "m"] spAnsNearRoot := keeps_mk (PySem.W.mg_of X G a8) k8 b8 (ok_ansNearRoot F8 T W_nearest_to_root)
  have W_answer_between : Keeps P w K mg base "answer_between" 2 ["a", "b", "c", "d"] spAnsBetween := keeps_mk (PySem.W.mg_of X G a9) k9 b9 (ok_ansBetween F9 T W_between_terms W_terms_fraction)
  have W_answer_one : Keeps P w K mg base "answer_one" 4 ["n", "k"] spAnsOne := keeps_mk (PySem.W.mg_of X G a10) k10 b10 (ok_ansOne F10 T Zrange W_is_square W_least_pair W_pair_apart W_pair_product)
  have W_answer_minus_one : Keeps P w K mg base "answer_minus_one" 4 ["n"] spAnsMinus := keeps_mk (PySem.W.mg_of X G a11) k11 b11 (ok_ansMinus F11 T W_is_square W_least_pair W_pair_apart)
  have W_call_length : Keeps P w K mg base "call_length" 1 ["calls", "start"] (spCallLen K) := keeps_mk (PySem.W.mg_of X G a1) k1 b1 (ok_callLen F1 (PySem.W.mg_of X G aD) ⟨_, _, lD, eD⟩ TC.c1)
  have W_answer_call : Keeps P w K mg base "answer_call" 5 ["call"] (spAnsCall K) := keeps_mk (PySem.W.mg_of X G a2) k2 b2 (ok_ansCall F2 TC W_answer_terms W_answer_value W_answer_root W_answer_ring W_answer_near W_answer_near_root W_answer_between W_answer_one W_answer_minus_one)
  exact ok_answers (lv := 4) F0 T W_call_length W_answer_call
end CT
open PySem PySem.W PyProof.Rows
set_option maxRecDepth 100000 in
set_option maxHeartbeats 8000000 in
theorem PySem.Challenge.cw_cogterms_s01_answers_holds : PySem.Challenge.rw_cogterms_s01_answers.Holds := by
  w_on; k_headS; (case hw => exact ⟨[.list [.int 0, .int 0, .int 1]], by decide +kernel, by decide +kernel⟩)
  k_fillS
  refine L2.walk_specK (r := PySem.Challenge.rw_cogterms_s01_answers) (k := 6) (CX := L2.CX0) (ps := ["calls"]) (sp := CT.spAnswers) (by decide +kernel) rfl rfl ⟨rfl, by decide, by decide⟩ (fun w h Y => PySem.W.kIn_of Y) ?F ?S (fun _ _ _ _ z => z)
  case F =>
    intro w mg fa h Y KX G hmg
    refine' CT.all_mk KX G hmg ?a0 ?l0 ?c0 ?k0 ?a1 ?l1 ?c1 ?k1 ?a2 ?l2 ?c2 ?k2 ?a3 ?l3 ?c3 ?k3 ?a4 ?l4 ?c4 ?k4 ?a5 ?l5 ?c5 ?k5 ?a6 ?l6 ?c6 ?k6 ?a7 ?l7 ?c7 ?k7 ?a8 ?l8 ?c8 ?k8 ?a9 ?l9 ?c9 ?k9 ?a10 ?l10 ?c10 ?k10 ?a11 ?l11 ?c11 ?k11 ?a12 ?l12 ?c12 ?k12 ?a13 ?l13 ?c13 ?k13 ?a14 ?l14 ?c14 ?k14 ?a15 ?l15 ?c15 ?k15 ?a16 ?l16 ?c16 ?k16 ?a17 ?l17 ?c17 ?k17 ?a18 ?l18 ?c18 ?k18 ?a19 ?l19 ?c19 ?k19 ?a20 ?l20 ?c20 ?k20 ?a21 ?l21 ?c21 ?k21 ?a22 ?l22 ?c22 ?k22 ?a23 ?l23 ?c23 ?k23 ?a24 ?l24 ?c24 ?k24 ?u0 ?u1 ?u2 ?u3 ?u4 ?u5 ?u6 ?u7 ?u8 ?u9 ?u10 ?u11 ?u12 ?u13 ?u14 ?u15 ?u16 ?u17 ?u18 ?u19 ?z0 ?z1 ?z2 ?z3 ?z4 ?z5 ?aD ?lD ?eD
    (case a0 => k_is)
    (case l0 => k_is)
    (case c0 => k_is)
    (case k0 => k_is)
    (case a1 => k_is)
    (case l1 => k_is)
    (case c1 => k_is)
    (case k1 => k_is)
    (case a2 => k_is)
    (case l2 => k_is)
    (case c2 => k_is)
    (case k2 => k_is)
    (case a3 => k_is)
    (case l3 => k_is)
    (case c3 => k_is)
    (case k3 => k_is)
    (case a4 => k_is)
    (case l4 => k_is)
    (case c4 => k_is)
    (case k4 => k_is)
    (case a5 => k_is)
    (case l5 => k_is)
    (case c5 => k_is)
    (case k5 => k_is)
    (case a6 => k_is)
    (case l6 => k_is)
    (case c6 => k_is)
    (case k6 => k_is)
    (case a7 => k_is)
    (case l7 => k_is)
    (case c7 => k_is)
    (case k7 => k_is)
    (case a8 => k_is)
    (case l8 => k_is)
    (case c8 => k_is)
    (case k8 => k_is)
    (case a9 => k_is)
    (case l9 => k_is)
    (case c9 => k_is)
    (case k9 => k_is)
    (case a10 => k_is)
    (case l10 => k_is)
    (case c10 => k_is)
    (case k10 => k_is)
    (case a11 => k_is)
    (case l11 => k_is)
    (case c11 => k_is)
    (case k11 => k_is)
    (case a12 => k_is)
    (case l12 => k_is)
    (case c12 => k_is)
    (case k12 => k_is)
    (case a13 => k_is)
    (case l13 => k_is)
    (case c13 => k_is)
    (case k13 => k_is)
    (case a14 => k_is)
    (case l14 => k_is)
    (case c14 => k_is)
    (case k14 => k_is)
    (case a15 => k_is)
    (case l15 => k_is)
    (case c15 => k_is)
    (case k15 => k_is)
    (case a16 => k_is)
    (case l16 => k_is)
    (case c16 => k_is)
    (case k16 => k_is)
    (case a17 => k_is)
    (case l17 => k_is)
    (case c17 => k_is)
    (case k17 => k_is)
    (case a18 => k_is)
    (case l18 => k_is)
    (case c18 => k_is)
    (case k18 => k_is)
    (case a19 => k_is)
    (case l19 => k_is)
    (case c19 => k_is)
    (case k19 => k_is)
    (case a20 => k_is)
    (case l20 => k_is)
    (case c20 => k_is)
    (case k20 => k_is)
    (case a21 => k_is)
    (case l21 => k_is)
    (case c21 => k_is)
    (case k21 => k_is)
    (case a22 => k_is)
    (case l22 => k_is)
    (case c22 => k_is)
    (case k22 => k_is)
    (case a23 => k_is)
    (case l23 => k_is)
    (case c23 => k_is)
    (case k23 => k_is)
    (case a24 => k_is)
    (case l24 => k_is)
    (case c24 => k_is)
    (case k24 => k_is)
    (case u0 => k_is)
    (case u1 => k_is)
    (case u2 => k_is)
    (case u3 => k_is)
    (case u4 => k_is)
    (case u5 => k_is)
    (case u6 => k_is)
    (case u7 => k_is)
    (case u8 => k_is)
    (case u9 => k_is)
    (case u10 => k_is)
    (case u11 => k_is)
    (case u12 => k_is)
    (case u13 => k_is)
    (case u14 => k_is)
    (case u15 => k_is)
    (case u16 => k_is)
    (case u17 => k_is)
    (case u18 => k_is)
    (case u19 => k_is)
    (case z0 => k_is)
    (case z1 => k_is)
    (case z2 => k_is)
    (case z3 => k_is)
    (case z4 => k_is)
    (case z5 => k_is)
    (case aD => k_is)
    (case lD => k_is)
    (case eD => rfl)
  case S =>
    intro K H xs a hO hwi hask hx
    cases hx with
    | cons h1 h2 =>
      cases h2
      cases h1 with
      | lst hs ha =>
        have e := L2.ints_dw a.1 _ ha
        subst e
        have q : ((Codec.inLen 0 1280 a.1 && a.1.all (Codec.inInt (-9007199254740992) 9007199254740992)) && true) = true := hwi
        rw [Bool.and_eq_true, Bool.and_eq_true] at q
        exact ⟨_, a.1, rfl, hs, (Codec.inNat_iff.mp q.1.1).2, hask, fun H' p hp => .lst (L2.SqL.of hp) (L2.dw_ints _)⟩

