import PyProof.Rows.All
import Wide.All
import OpenK.AllK
import Wide.FinOn
import Open.SpecLaws
import KE.OsGo
import HandS.ForSpec
import HandS.ForMost
import PySem.Challenge.RW_conesails_s01_answers
set_option Elab.async false
set_option maxRecDepth 100000
set_option maxHeartbeats 2000000
/-! # Cones and sails: the program against the specification, at every list of calls.
First the mathematics over the specification alone (least points, fractions, told, sail, kinds, the parsing), then each def by hand, then the end. -/
section
open Sq69
namespace My
theorem lin (u w x : Point) : det u w * x.1 = det x w * u.1 + det u x * w.1 ∧ det u w * x.2 = det x w * u.2 + det u x * w.2 := by
  unfold det
  constructor <;> grind
theorem mul_gt {k n : Int} (hk : 1 ≤ k) (hn : 0 < n) : n ≤ k * n := by
  have := Int.mul_le_mul_of_nonneg_right hk (Int.le_of_lt hn)
  omega
/-- w is the second one of the least points from u to v -/
structure Sec (u v w : Point) : Prop where
  one : det u w = 1
  lo : 0 ≤ det w v
  hi : det w v < det u v
theorem Sec.unique {u v w w' : Point} (s : Sec u v w) (t : Sec u v w') : w = w' := by
  obtain ⟨h1, a, b⟩ := s
  obtain ⟨h1', a', b'⟩ := t
  have e := lin u w w'
  rw [h1, h1'] at e
  have k0 : det w' w = 0 := by
    have e2 : det w' v = det w v + det w' w * det u v := by
      have h3 : w'.1 = det w' w * u.1 + w.1 := by have := e.1; omega
      have h4 : w'.2 = det w' w * u.2 + w.2 := by have := e.2; omega
      generalize det w' w = k at *
      unfold det
      rw [h3, h4]
      grind
    have hn : 0 < det u v := by omega
    rcases Int.lt_trichotomy (det w' w) 0 with h | h | h
    · have := mul_gt (k := - det w' w) (n := det u v) (by omega) hn
      have : - det w' w * det u v = -(det w' w * det u v) := Int.neg_mul _ _
      omega
    · exact h
    · have := mul_gt (k := det w' w) (n := det u v) (by omega) hn
      omega
  rw [k0] at e
  ext
  · have := e.1; omega
  · have := e.2; omega
/-- any point beside u, moved along u -/
theorem sec_of {u v w : Point} (h1 : det u w = 1) (hn : 0 < det u v) : Sec u v (w.1 - det w v / det u v * u.1, w.2 - det w v / det u v * u.2) := by
  have key : ∀ k : Int, det u (w.1 - k * u.1, w.2 - k * u.2) = det u w ∧ det (w.1 - k * u.1, w.2 - k * u.2) v = det w v - k * det u v := by
    intro k
    unfold det
    constructor <;> grind
  have k2 := key (det w v / det u v)
  have h3 := Int.emod_nonneg (det w v) (b := det u v) (by omega)
  have h4 := Int.emod_lt_of_pos (det w v) hn
  have h5 := Int.emod_def (det w v) (det u v)
  have h6 : det w v / det u v * det u v = det u v * (det w v / det u v) := Int.mul_comm _ _
  exact ⟨by rw [k2.1, h1], by rw [k2.2]; omega, by rw [k2.2]; omega⟩
/-! the specification's own second -/
theorem bezout_gcd : ∀ (f : Nat) (x y : Int), y.natAbs < f → x * (bezout f x y).1 + y * (bezout f x y).2 = (Nat.gcd x.natAbs y.natAbs : Nat)
  | 0, x, y, h => by omega
  | f + 1, x, y, h => by
    unfold bezout
    by_cases c : y = 0
    · rw [if_pos c]
      subst c
      by_cases d : 0 ≤ x
      · simp only [if_pos d]; simp; omega
      · simp only [if_neg d]; simp; omega
    · rw [if_neg c]
      have hm := Int.emod_nonneg x c
      have hm2 := Int.emod_lt x c
      have ih := bezout_gcd f y (x % y) (by omega)
      have hg : Nat.gcd y.natAbs (x % y).natAbs = Nat.gcd x.natAbs y.natAbs := by
        have a1 : (Int.gcd y (x % y) : Int) ∣ y := Int.gcd_dvd_left _ _
        have a2 : (Int.gcd y (x % y) : Int) ∣ x % y := Int.gcd_dvd_right _ _
        have b1 : (Int.gcd x y : Int) ∣ x := Int.gcd_dvd_left _ _
        have b2 : (Int.gcd x y : Int) ∣ y := Int.gcd_dvd_right _ _
        have hd := Int.emod_def x y
        have a3 : (Int.gcd y (x % y) : Int) ∣ x := by
          have t := Int.dvd_add a2 (Int.dvd_trans a1 (Int.dvd_mul_right y (x / y)))
          have e3 : x % y + y * (x / y) = x := by omega
          rw [e3] at t
          exact t
        have b3 : (Int.gcd x y : Int) ∣ x % y := by
          rw [hd]
          exact Int.dvd_sub b1 (Int.dvd_trans b2 (Int.dvd_mul_right _ _))
        exact Nat.dvd_antisymm (Nat.dvd_gcd (Int.ofNat_dvd_left.mp a3) (Int.ofNat_dvd_left.mp a1)) (Nat.dvd_gcd (Int.ofNat_dvd_left.mp b2) (Int.ofNat_dvd_left.mp b3))
      rw [hg] at ih
      simp only
      generalize bezout f y (x % y) = z at *
      rw [← ih]
      have h5 := Int.emod_def x y
      rw [h5]
      grind
theorem bz {u : Point} (h : single u = true) : det u (-(bezout (u.1.natAbs + u.2.natAbs + 2) u.1 u.2).2, (bezout (u.1.natAbs + u.2.natAbs + 2) u.1 u.2).1) = 1 := by
  have h2 := bezout_gcd (u.1.natAbs + u.2.natAbs + 2) u.1 u.2 (by omega)
  have h3 : Nat.gcd u.1.natAbs u.2.natAbs = 1 := by
    unfold single at h
    simpa using h
  rw [h3] at h2
  unfold det
  simp only
  generalize bezout (u.1.natAbs + u.2.natAbs + 2) u.1 u.2 = z at *
  grind
theorem second_sec {u v : Point} (h : single u = true) (hn : 0 < det u v) : Sec u v (Cone.second ⟨u, v⟩) := by
  have := sec_of (bz h) hn
  exact this


/-! the chain -/
theorem single_of_det {a b : Point} (h : det a b = 1) : single a = true ∧ single b = true := by
  have key : ∀ x y s t : Int, x * s + y * t = 1 → Nat.gcd x.natAbs y.natAbs = 1 := by
    intro x y s t e
    have h1 : ((Nat.gcd x.natAbs y.natAbs : Nat) : Int) ∣ 1 := by
      rw [← e]
      have d1 : ((Nat.gcd x.natAbs y.natAbs : Nat) : Int) ∣ x := Int.ofNat_dvd_left.mpr (Nat.gcd_dvd_left _ _)
      have d2 : ((Nat.gcd x.natAbs y.natAbs : Nat) : Int) ∣ y := Int.ofNat_dvd_left.mpr (Nat.gcd_dvd_right _ _)
      exact Int.dvd_add (Int.dvd_trans d1 (Int.dvd_mul_right _ _)) (Int.dvd_trans d2 (Int.dvd_mul_right _ _))
    have h2 := Int.ofNat_dvd_left.mp h1
    simpa using h2
  unfold det at h
  unfold single
  constructor
  · have := key a.1 a.2 b.2 (-b.1) (by grind)
    simpa using this
  · have := key b.1 b.2 (-a.2) a.1 (by grind)
    simpa using this
theorem Sec.sg {u v w : Point} (s : Sec u v w) : single w = true := (single_of_det s.one).2
theorem up_spec (m n : Int) (hn : 0 < n) : 0 ≤ up m n * n - m ∧ up m n * n - m < n := by
  unfold up
  have h3 := Int.emod_nonneg (-m) (b := n) (by omega)
  have h4 := Int.emod_lt_of_pos (-m) hn
  have h5 := Int.emod_def (-m) n
  have h6 : -(-m / n) * n = -(n * (-m / n)) := by grind
  omega
theorem next_sec {a b v : Point} (h1 : det a b = 1) (hb : 0 < det b v) : Sec b v (sub (scale (up (det a v) (det b v)) b) a) := by
  have h := up_spec (det a v) (det b v) hb
  generalize up (det a v) (det b v) = k at *
  have e1 : det b (sub (scale k b) a) = det a b := by unfold det sub scale; grind
  have e2 : det (sub (scale k b) a) v = k * det b v - det a v := by unfold det sub scale; grind
  exact ⟨by rw [e1, h1], by rw [e2]; exact h.1, by rw [e2]; exact h.2⟩
theorem at_end {a b v : Point} (h1 : det a b = 1) (hb : det b v = 0) (ha : 0 < det a v) (sv : single v = true) : b = v := by
  have e := lin a b v
  have e0 : det v b = 0 := by
    have : det v b = - det b v := by unfold det; grind
    omega
  rw [h1, e0] at e
  have e1 : v.1 = det a v * b.1 := by have := e.1; omega
  have e2 : v.2 = det a v * b.2 := by have := e.2; omega
  have hd : (det a v).natAbs ∣ Nat.gcd v.1.natAbs v.2.natAbs := by
    apply Nat.dvd_gcd
    · exact Int.natAbs_dvd_natAbs.mpr ⟨b.1, e1⟩
    · exact Int.natAbs_dvd_natAbs.mpr ⟨b.2, e2⟩
  have hg : Nat.gcd v.1.natAbs v.2.natAbs = 1 := by
    unfold single at sv
    simpa using sv
  rw [hg] at hd
  have h1' : (det a v).natAbs = 1 := Nat.dvd_one.mp hd
  have h2' : det a v = 1 := by omega
  rw [h2'] at e1 e2
  ext <;> omega
/-- the least points from p on to v -/
def R (v p : Point) : List Point := if p = v then [v] else Cone.least ⟨p, v⟩
theorem R_v (v : Point) : R v v = [v] := if_pos rfl
theorem on_R {v : Point} (sv : single v = true) : ∀ (m f : Nat) (a b : Point), (det b v).toNat < m → (det b v).toNat < f → det a b = 1 → 0 ≤ det b v → 0 < det a v → on_ v f a b = R v b
  | 0, _, _, _, h, _, _, _, _ => by omega
  | m + 1, 0, _, _, _, h, _, _, _ => by omega
  | m + 1, f + 1, a, b, hm, hf, h1, hb, ha => by
    unfold on_
    by_cases c : b = v
    · rw [if_pos c, c, R_v]
    · rw [if_neg c]
      have hp : 0 < det b v := by
        rcases Int.lt_or_eq_of_le hb with h | h
        · exact h
        · exact absurd (at_end h1 h.symm ha sv) c
      have sb := (single_of_det h1).2
      have nx := next_sec (a := a) (v := v) h1 hp
      have s2 := second_sec sb hp
      have hs := s2.unique nx
      have hl := nx.lo
      have hh := nx.hi
      unfold R
      rw [if_neg c]
      unfold Cone.least
      simp only
      rw [hs]
      rw [on_R sv m f b _ (by omega) (by omega) nx.one nx.lo hp, on_R sv m _ b _ (by omega) (by omega) nx.one nx.lo hp]
theorem R_step {v p : Point} (sv : single v = true) (sp : single p = true) (hp : 0 < det p v) (c : ¬ p = v) : R v p = p :: R v (Cone.second ⟨p, v⟩) := by
  have s2 := second_sec sp hp
  have hl := s2.lo
  have hh := s2.hi
  rw [R, if_neg c]
  unfold Cone.least
  simp only
  rw [on_R sv (det p v).toNat _ p _ (by omega) (by omega) s2.one s2.lo hp]
theorem det_self (v : Point) : det v v = 0 := by unfold det; grind
theorem ne_of_pos {v p : Point} (h : 0 < det p v) : ¬ p = v := by
  intro e
  rw [e, det_self] at h
  omega
theorem R_least {u v : Point} (h : 0 < det u v) : R v u = Cone.least ⟨u, v⟩ := if_neg (ne_of_pos h)
theorem sec_end {p v w : Point} (sv : single v = true) (hp : 0 < det p v) (s : Sec p v w) : w = v ∨ 0 < det w v := by
  rcases Int.lt_or_eq_of_le s.lo with h | h
  · exact .inr h
  · exact .inl (at_end s.one h.symm hp sv)
/-- by one step at a time -/
theorem R_ind {v : Point} (sv : single v = true) (P : Point → List Point → Prop) (h0 : P v [v])
    (hs : ∀ p w l, single p = true → 0 < det p v → Sec p v w → P w (w :: l) → P p (p :: w :: l)) :
    ∀ (m : Nat) (p : Point), (det p v).toNat < m → single p = true → (p = v ∨ 0 < det p v) → ∃ l, R v p = p :: l ∧ P p (p :: l)
  | 0, _, h, _, _ => by omega
  | m + 1, p, hm, sp, hp => by
    by_cases c : p = v
    · subst c
      exact ⟨[], R_v p, h0⟩
    · have hp' : 0 < det p v := hp.resolve_left c
      have s2 := second_sec sp hp'
      have hl := s2.lo
      have hh := s2.hi
      obtain ⟨l, e, q⟩ := R_ind sv P h0 hs m (Cone.second ⟨p, v⟩) (by omega) s2.sg (sec_end sv hp' s2)
      exact ⟨_, by rw [R_step sv sp hp' c, e], hs p _ l sp hp' s2 q⟩
/-- neighbours -/
def Nbs : List Point → Prop
  | a :: b :: l => det a b = 1 ∧ Nbs (b :: l)
  | _ => True
theorem R_nbs {v p : Point} (sv : single v = true) (sp : single p = true) (hp : p = v ∨ 0 < det p v) : Nbs (R v p) := by
  obtain ⟨l, e, q⟩ := R_ind sv (fun _ l => Nbs l) trivial (fun p w l _ _ s q => ⟨s.one, q⟩) ((det p v).toNat + 1) p (by omega) sp hp
  rw [e]
  exact q
/-- x1 y2 less x2 y1 of the one ahead and the one behind -/
def crosses : List Point → List Int
  | a :: b :: d :: l => det a d :: crosses (b :: d :: l)
  | _ => []
theorem numbers_eq : ∀ l : List Point, Nbs l → numbers l = crosses l
  | [], _ => rfl
  | [_], _ => rfl
  | [_, _], _ => rfl
  | a :: b :: d :: l, h => by
    have ih := numbers_eq (b :: d :: l) h.2
    unfold numbers crosses
    rw [ih]
    congr 1
    have e := lin a d b
    have h1 := h.1
    have h2 : det b d = 1 := h.2.1
    rw [h1, h2] at e
    have e1 : a.1 + d.1 = det a d * b.1 := by have := e.1; omega
    have e2 : a.2 + d.2 = det a d * b.2 := by have := e.2; omega
    by_cases c : b.1 ≠ 0
    · rw [if_pos c, e1, Int.mul_ediv_cancel _ c]
    · rw [if_neg c, e2, Int.mul_ediv_cancel]
      intro z
      have c' : b.1 = 0 := by omega
      unfold det at h1
      rw [c', z] at h1
      simp at h1
theorem numbers_R {v p : Point} (sv : single v = true) (sp : single p = true) (hp : p = v ∨ 0 < det p v) : numbers (R v p) = crosses (R v p) := numbers_eq _ (R_nbs sv sp hp)
/-! how far the points lie -/
theorem plucker (u v p s : Point) : det u v * det p s = det p v * det u s - det u p * det s v := by
  unfold det
  grind
structure In (u v p : Point) : Prop where
  a0 : 0 ≤ det u p
  an : det u p ≤ det u v
  b0 : 0 ≤ det p v
  bn : det p v ≤ det u v
theorem In.next {u v p s : Point} (h : In u v p) (hn : 0 < det u v) (hp : 0 < det p v) (c : Sec p v s) : In u v s := by
  obtain ⟨a0, an, b0, bn⟩ := h
  obtain ⟨s1, s2, s3⟩ := c
  have e := plucker u v p s
  rw [s1] at e
  have m1 : 0 ≤ det u p * det s v := Int.mul_nonneg a0 s2
  have m2 : det u p * det s v ≤ det u v * (det p v - 1) :=
    Int.le_trans (Int.mul_le_mul_of_nonneg_left (show det s v ≤ det p v - 1 by omega) a0) (Int.mul_le_mul_of_nonneg_right an (by omega))
  have m3 : det u v * (det p v - 1) = det u v * det p v - det u v := by grind
  have m4 : det p v * det u s ≤ det p v * det u v := by
    have : det u v * det p v = det p v * det u v := Int.mul_comm _ _
    omega
  refine ⟨?_, Int.le_of_mul_le_mul_left m4 hp, s2, by omega⟩
  have m5 : det p v * 0 ≤ det p v * det u s := by
    rw [Int.mul_zero]
    omega
  exact Int.le_of_mul_le_mul_left m5 hp
theorem In.self {u v : Point} (hn : 0 < det u v) : In u v u := ⟨by rw [det_self]; omega, by rw [det_self]; omega, by omega, by omega⟩
theorem abs_of {n a b x y p : Int} {A B : Int} (hn : 0 < n) (e : n * p = a * x + b * y) (a0 : 0 ≤ a) (an : a ≤ n) (b0 : 0 ≤ b) (bn : b ≤ n) (hx : -A ≤ x ∧ x ≤ A) (hy : -B ≤ y ∧ y ≤ B) : -(A + B) ≤ p ∧ p ≤ A + B := by
  have hA : 0 ≤ A := by omega
  have hB : 0 ≤ B := by omega
  have x1 : a * x ≤ n * A := Int.le_trans (Int.mul_le_mul_of_nonneg_left hx.2 a0) (Int.mul_le_mul_of_nonneg_right an hA)
  have x2 : n * (-A) ≤ a * x := by
    have h1 : a * (-A) ≤ a * x := Int.mul_le_mul_of_nonneg_left hx.1 a0
    have h2 : a * A ≤ n * A := Int.mul_le_mul_of_nonneg_right an hA
    have h3 : a * (-A) = -(a * A) := Int.mul_neg _ _
    have h4 : n * (-A) = -(n * A) := Int.mul_neg _ _
    omega
  have y1 : b * y ≤ n * B := Int.le_trans (Int.mul_le_mul_of_nonneg_left hy.2 b0) (Int.mul_le_mul_of_nonneg_right bn hB)
  have y2 : n * (-B) ≤ b * y := by
    have h1 : b * (-B) ≤ b * y := Int.mul_le_mul_of_nonneg_left hy.1 b0
    have h2 : b * B ≤ n * B := Int.mul_le_mul_of_nonneg_right bn hB
    have h3 : b * (-B) = -(b * B) := Int.mul_neg _ _
    have h4 : n * (-B) = -(n * B) := Int.mul_neg _ _
    omega
  constructor
  · refine Int.le_of_mul_le_mul_left (a := n) ?_ hn
    have : n * (-(A + B)) = n * (-A) + n * (-B) := by grind
    omega
  · refine Int.le_of_mul_le_mul_left (a := n) ?_ hn
    have : n * (A + B) = n * A + n * B := by grind
    omega
/-- within so much on either side -/
def Near (k : Int) (p : Point) : Prop := (-k ≤ p.1 ∧ p.1 ≤ k) ∧ (-k ≤ p.2 ∧ p.2 ≤ k)
theorem In.near {u v p : Point} {k : Int} (hn : 0 < det u v) (h : In u v p) (hu : Near k u) (hv : Near k v) : Near (k + k) p := by
  have e := lin u v p
  exact ⟨abs_of hn e.1 h.b0 h.bn h.a0 h.an hu.1 hv.1, abs_of hn e.2 h.b0 h.bn h.a0 h.an hu.2 hv.2⟩
theorem R_in {u v p : Point} (sv : single v = true) (hn : 0 < det u v) (sp : single p = true) (hp : p = v ∨ 0 < det p v) (hi : In u v p) : ∀ x ∈ R v p, In u v x := by
  obtain ⟨l, e, q⟩ := R_ind sv (fun p l => In u v p → ∀ x ∈ l, In u v x) (fun hi x hx => by rw [List.mem_singleton.mp hx]; exact hi)
    (fun p w l _ hp s q hi x hx => by
      rcases List.mem_cons.mp hx with h | h
      · rw [h]; exact hi
      · exact q (hi.next hn hp s) x h) ((det p v).toNat + 1) p (by omega) sp hp
  rw [e]
  exact q hi
theorem R_len {v p : Point} (sv : single v = true) (sp : single p = true) (hp : p = v ∨ 0 < det p v) : (R v p).length ≤ (det p v).toNat + 1 := by
  obtain ⟨l, e, q⟩ := R_ind sv (fun p l => l.length ≤ (det p v).toNat + 1) (by simp)
    (fun p w l _ hp s q => by
      have := s.lo
      have := s.hi
      simp only [List.length_cons] at q ⊢
      omega) ((det p v).toNat + 1) p (by omega) sp hp
  rw [e]
  exact q
/-! kinds -/
def swap (p : Point) : Point := (p.2, p.1)
theorem det_swap (p r : Point) : det (swap p) (swap r) = det r p := by unfold det swap; grind
theorem single_swap {p : Point} (h : single p = true) : single (swap p) = true := by
  unfold single swap at *
  rw [Nat.gcd_comm]
  exact h
/-- q times the other q leaves 1 -/
theorem inv_q {u v w s : Point} (hw : Sec u v w) (hs : Sec (swap v) (swap u) s) : ∃ k, det w v * det s (swap u) = 1 + k * det u v := by
  have e1 : det (swap v) s = 1 := hs.one
  have e2 : det u w = 1 := hw.one
  refine ⟨- det (swap s) w, ?_⟩
  unfold det swap at *
  grind
theorem q_unique {n q r x y : Int} (hn : 0 < n) (hq : 0 ≤ q ∧ q < n) (hr : 0 ≤ r ∧ r < n) (hx : ∃ k, q * x = 1 + k * n) (hy : ∃ k, r * y = 1 + k * n) (e : x = y) : q = r := by
  obtain ⟨k, hk⟩ := hx
  obtain ⟨j, hj⟩ := hy
  subst e
  -- q = q * (r x - j n) = r (q x) - q j n = r + (k r - q j) n
  have h1 : q - r = (k * r - q * j) * n := by grind
  generalize k * r - q * j = m at h1
  rcases Int.lt_trichotomy m 0 with h | h | h
  · have := mul_gt (k := -m) (n := n) (by omega) hn
    have : -m * n = -(m * n) := Int.neg_mul _ _
    omega
  · subst h; simp at h1; omega
  · have := mul_gt (k := m) (n := n) (by omega) hn
    omega
end My
end
section
open Sq69
namespace My
theorem less_iff {a b : Frac} : less a b = true ↔ a.1 * b.2 < b.1 * a.2 := by
  unfold less
  exact decide_eq_true_iff
theorem less_not {a b : Frac} : less a b = false ↔ ¬ a.1 * b.2 < b.1 * a.2 := by
  unfold less
  exact decide_eq_false_iff_not
theorem mid_low {a1 a2 b1 b2 l1 l2 : Nat} (l0 : 0 < l2) (ab : a1 * b2 < b1 * a2) (la : l1 * a2 ≤ a1 * l2) : l1 * (a2 + b2) < (a1 + b1) * l2 := by
  refine Nat.lt_of_not_le fun h => ?_
  have h1 : (a1 + b1) * l2 * a2 ≤ l1 * (a2 + b2) * a2 := Nat.mul_le_mul_right a2 h
  have h2 : l1 * a2 * (a2 + b2) ≤ a1 * l2 * (a2 + b2) := Nat.mul_le_mul_right _ la
  have h3 : a1 * b2 * l2 < b1 * a2 * l2 := Nat.mul_lt_mul_of_pos_right ab l0
  have e1 : (a1 + b1) * l2 * a2 = a1 * l2 * a2 + b1 * a2 * l2 := by grind
  have e2 : l1 * (a2 + b2) * a2 = l1 * a2 * (a2 + b2) := by grind
  have e3 : a1 * l2 * (a2 + b2) = a1 * l2 * a2 + a1 * b2 * l2 := by grind
  omega
theorem mid_high {a1 a2 b1 b2 h1 h2 : Nat} (a0 : 0 < a2) (h0 : 0 < h1) (ab : a1 * b2 < b1 * a2) (hb : b1 * h2 ≤ h1 * b2) : (a1 + b1) * h2 < h1 * (a2 + b2) := by
  by_cases c : h2 = 0
  · subst c
    have : 0 < h1 * (a2 + b2) := Nat.mul_pos h0 (by omega)
    omega
  · refine Nat.lt_of_not_le fun h => ?_
    have k1 : h1 * (a2 + b2) * b2 ≤ (a1 + b1) * h2 * b2 := Nat.mul_le_mul_right b2 h
    have k2 : b1 * h2 * (a2 + b2) ≤ h1 * b2 * (a2 + b2) := Nat.mul_le_mul_right _ hb
    have k3 : a1 * b2 * h2 < b1 * a2 * h2 := Nat.mul_lt_mul_of_pos_right ab (by omega)
    have e1 : (a1 + b1) * h2 * b2 = a1 * b2 * h2 + b1 * h2 * b2 := by grind
    have e2 : h1 * (a2 + b2) * b2 = h1 * b2 * (a2 + b2) := by grind
    have e3 : b1 * h2 * (a2 + b2) = b1 * a2 * h2 + b1 * h2 * b2 := by grind
    omega
/-- x by y between two neighbours: both numbers are those of these together at least -/
theorem inside {x y l1 l2 h1 h2 : Nat} (nb : h1 * l2 = l1 * h2 + 1) (lo : l1 * y < x * l2) (hi : x * h2 < h1 * y) : l1 + h1 ≤ x ∧ l2 + h2 ≤ y := by
  obtain ⟨t, ht⟩ : ∃ t, x * l2 = l1 * y + 1 + t := ⟨x * l2 - (l1 * y + 1), by omega⟩
  obtain ⟨s, hs⟩ : ∃ s, h1 * y = x * h2 + 1 + s := ⟨h1 * y - (x * h2 + 1), by omega⟩
  have ex : x = (1 + s) * l1 + (1 + t) * h1 := by
    have q1 : x * (h1 * l2) = x * (l1 * h2 + 1) := by rw [nb]
    have q2 : h1 * (x * l2) = h1 * (l1 * y + 1 + t) := by rw [ht]
    have q3 : l1 * (h1 * y) = l1 * (x * h2 + 1 + s) := by rw [hs]
    grind
  have ey : y = (1 + s) * l2 + (1 + t) * h2 := by
    have q1 : y * (h1 * l2) = y * (l1 * h2 + 1) := by rw [nb]
    have q2 : l2 * (h1 * y) = l2 * (x * h2 + 1 + s) := by rw [hs]
    have q3 : h2 * (x * l2) = h2 * (l1 * y + 1 + t) := by rw [ht]
    grind
  have m1 : (1 + s) * l1 = l1 + s * l1 := by grind
  have m2 : (1 + t) * h1 = h1 + t * h1 := by grind
  have m3 : (1 + s) * l2 = l2 + s * l2 := by grind
  have m4 : (1 + t) * h2 = h2 + t * h2 := by grind
  constructor
  · have := Nat.zero_le (s * l1)
    have := Nat.zero_le (t * h1)
    omega
  · have := Nat.zero_le (s * l2)
    have := Nat.zero_le (t * h2)
    omega
/-- lo and hi stand round what is sought: neighbours, lo not above a, hi not below b; f steps are enough -/
structure Brk (a b lo hi : Frac) (f : Nat) : Prop where
  nb : hi.1 * lo.2 = lo.1 * hi.2 + 1
  la : lo.1 * a.2 ≤ a.1 * lo.2
  hb : b.1 * hi.2 ≤ hi.1 * b.2
  room : a.1 + a.2 + b.1 + b.2 + 1 ≤ lo.1 + lo.2 + hi.1 + hi.2 + f
theorem nb_pos {l1 l2 h1 h2 : Nat} (nb : h1 * l2 = l1 * h2 + 1) : 0 < h1 ∧ 0 < l2 := by
  have : 0 < h1 * l2 := by omega
  exact ⟨Nat.pos_of_mul_pos_right this, Nat.pos_of_mul_pos_left this⟩
theorem Brk.small {a b lo hi : Frac} {f : Nat} (h : Brk a b lo hi f) (a0 : 0 < a.2) (ab : a.1 * b.2 < b.1 * a.2) : lo.1 + hi.1 ≤ a.1 + b.1 ∧ lo.2 + hi.2 ≤ a.2 + b.2 ∧ 1 ≤ f := by
  obtain ⟨nb, la, hb, room⟩ := h
  have p := nb_pos nb
  have q := inside nb (mid_low p.2 ab la) (mid_high a0 p.1 ab hb)
  omega
theorem Brk.start (a b : Frac) : Brk a b (0, 1) (1, 0) (a.1 + a.2 + b.1 + b.2 + 2) := ⟨by simp, by simp, by simp, by simp; omega⟩
theorem Brk.right {a b lo hi : Frac} {f : Nat} (h : Brk a b lo hi (f + 1)) (c : less a (lo.1 + hi.1, lo.2 + hi.2) = false) : Brk a b (lo.1 + hi.1, lo.2 + hi.2) hi f := by
  obtain ⟨nb, la, hb, room⟩ := h
  have c' := less_not.mp c
  have p := nb_pos nb
  refine ⟨?_, ?_, hb, ?_⟩
  · show hi.1 * (lo.2 + hi.2) = (lo.1 + hi.1) * hi.2 + 1
    grind
  · show (lo.1 + hi.1) * a.2 ≤ a.1 * (lo.2 + hi.2)
    exact Nat.le_of_not_lt c'
  · show _ ≤ lo.1 + hi.1 + (lo.2 + hi.2) + hi.1 + hi.2 + f
    omega
theorem Brk.left {a b lo hi : Frac} {f : Nat} (h : Brk a b lo hi (f + 1)) (c : less (lo.1 + hi.1, lo.2 + hi.2) b = false) : Brk a b lo (lo.1 + hi.1, lo.2 + hi.2) f := by
  obtain ⟨nb, la, hb, room⟩ := h
  have c' := less_not.mp c
  have p := nb_pos nb
  refine ⟨?_, la, ?_, ?_⟩
  · show (lo.1 + hi.1) * lo.2 = lo.1 * (lo.2 + hi.2) + 1
    grind
  · show b.1 * (lo.2 + hi.2) ≤ (lo.1 + hi.1) * b.2
    exact Nat.le_of_not_lt c'
  · show _ ≤ lo.1 + lo.2 + (lo.1 + hi.1) + (lo.2 + hi.2) + f
    omega
theorem between_step (a b lo hi : Frac) (f : Nat) (w : List Nat) : between a b (f + 1) lo hi w =
    if less a (lo.1 + hi.1, lo.2 + hi.2) = false then between a b f (lo.1 + hi.1, lo.2 + hi.2) hi (w ++ [1])
    else if less (lo.1 + hi.1, lo.2 + hi.2) b = false then between a b f lo (lo.1 + hi.1, lo.2 + hi.2) (w ++ [0])
    else ((lo.1 + hi.1, lo.2 + hi.2), w) := rfl
/-! the way to one itself -/
structure Bra (a lo hi : Frac) (f : Nat) : Prop where
  nb : hi.1 * lo.2 = lo.1 * hi.2 + 1
  la : lo.1 * a.2 < a.1 * lo.2
  hb : a.1 * hi.2 < hi.1 * a.2
  room : a.1 + a.2 + 1 ≤ lo.1 + lo.2 + hi.1 + hi.2 + f
theorem Bra.small {a lo hi : Frac} {f : Nat} (h : Bra a lo hi f) : lo.1 + hi.1 ≤ a.1 ∧ lo.2 + hi.2 ≤ a.2 ∧ 1 ≤ f := by
  obtain ⟨nb, la, hb, room⟩ := h
  have q := inside nb la hb
  omega
theorem Bra.start {a : Frac} (h1 : 0 < a.1) (h2 : 0 < a.2) : Bra a (0, 1) (1, 0) (a.1 + a.2 + 1) := ⟨by simp, by simp; omega, by simp; omega, by show _ ≤ 0 + 1 + 1 + 0 + (a.1 + a.2 + 1); omega⟩
theorem Bra.right {a lo hi : Frac} {f : Nat} (h : Bra a lo hi (f + 1)) (c : less (lo.1 + hi.1, lo.2 + hi.2) a = true) : Bra a (lo.1 + hi.1, lo.2 + hi.2) hi f := by
  obtain ⟨nb, la, hb, room⟩ := h
  have p := nb_pos nb
  refine ⟨?_, less_iff.mp c, hb, ?_⟩
  · show hi.1 * (lo.2 + hi.2) = (lo.1 + hi.1) * hi.2 + 1
    grind
  · show _ ≤ lo.1 + hi.1 + (lo.2 + hi.2) + hi.1 + hi.2 + f
    omega
theorem Bra.left {a lo hi : Frac} {f : Nat} (h : Bra a lo hi (f + 1)) (c : less a (lo.1 + hi.1, lo.2 + hi.2) = true) : Bra a lo (lo.1 + hi.1, lo.2 + hi.2) f := by
  obtain ⟨nb, la, hb, room⟩ := h
  have p := nb_pos nb
  refine ⟨?_, la, less_iff.mp c, ?_⟩
  · show (lo.1 + hi.1) * lo.2 = lo.1 * (lo.2 + hi.2) + 1
    grind
  · show _ ≤ lo.1 + lo.2 + (lo.1 + hi.1) + (lo.2 + hi.2) + f
    omega
theorem wayTo_step (a lo hi : Frac) (f : Nat) : wayTo a (f + 1) lo hi =
    if less (lo.1 + hi.1, lo.2 + hi.2) a = true then 1 :: wayTo a f (lo.1 + hi.1, lo.2 + hi.2) hi
    else if less a (lo.1 + hi.1, lo.2 + hi.2) = true then 0 :: wayTo a f lo (lo.1 + hi.1, lo.2 + hi.2) else [] := rfl
end My
end
section
open Sq69
namespace My
/-- a cone that the program may hold -/
structure Good (c : Cone) : Prop where
  su : single c.u = true
  sv : single c.v = true
  pos : 0 < det c.u c.v
  nu : Near 40 c.u
  nv : Near 40 c.v
theorem Good.least {c : Cone} (g : Good c) : Cone.least c = R c.v c.u := (R_least g.pos).symm
theorem mul_le_of {a b A B : Int} (ha : -A ≤ a ∧ a ≤ A) (hb : -B ≤ b ∧ b ≤ B) : -(A * B) ≤ a * b ∧ a * b ≤ A * B := by
  have hA : 0 ≤ A := by omega
  have h1 : (a * b).natAbs ≤ (A * B).natAbs := by
    rw [Int.natAbs_mul, Int.natAbs_mul]
    exact Nat.mul_le_mul (by omega) (by omega)
  have h2 : 0 ≤ A * B := Int.mul_nonneg hA (by omega)
  omega
theorem det_le {p r : Point} {A B : Int} (hp : Near A p) (hr : Near B r) : -(A * B + A * B) ≤ det p r ∧ det p r ≤ A * B + A * B := by
  have h1 := mul_le_of hp.1 hr.2
  have h2 := mul_le_of hp.2 hr.1
  unfold det
  omega
theorem Good.nle {c : Cone} (g : Good c) : det c.u c.v ≤ 3200 := by
  have := (det_le g.nu g.nv).2
  omega
theorem R_head {v p : Point} (sv : single v = true) (sp : single p = true) (hp : p = v ∨ 0 < det p v) : ∃ l, R v p = p :: l := by
  obtain ⟨l, e, _⟩ := R_ind sv (fun _ _ => True) trivial (fun _ _ _ _ _ _ _ => trivial) ((det p v).toNat + 1) p (by omega) sp hp
  exact ⟨l, e⟩
theorem R_last {v p : Point} (sv : single v = true) (sp : single p = true) (hp : p = v ∨ 0 < det p v) : ∃ l, R v p = l ++ [v] := by
  obtain ⟨l, e, q⟩ := R_ind sv (fun _ l => ∃ m, l = m ++ [v]) ⟨[], rfl⟩ (fun p w l _ _ _ ⟨m, q⟩ => ⟨p :: m, by rw [q]; rfl⟩) ((det p v).toNat + 1) p (by omega) sp hp
  rw [e]
  exact q
theorem R_two {v p : Point} (sv : single v = true) (sp : single p = true) (hp : 0 < det p v) : 2 ≤ (R v p).length := by
  have s2 := second_sec sp hp
  obtain ⟨l, e⟩ := R_head sv s2.sg (sec_end sv hp s2)
  rw [R_step sv sp hp (ne_of_pos hp), e]
  simp
/-- the points of a list, as the program sees them -/
structure Row (u v : Point) (ps : List Point) : Prop where
  nb : Nbs ps
  inn : ∀ x ∈ ps, In u v x
  near : ∀ x ∈ ps, Near 80 x
  len : ps.length ≤ 3201
  two : 2 ≤ ps.length
theorem Good.row {c : Cone} (g : Good c) : Row c.u c.v (R c.v c.u) := by
  have hi := R_in g.sv g.pos g.su (.inr g.pos) (In.self g.pos)
  refine ⟨R_nbs g.sv g.su (.inr g.pos), hi, fun x hx => In.near g.pos (hi x hx) g.nu g.nv, ?_, R_two g.sv g.su g.pos⟩
  have h1 := R_len g.sv g.su (.inr g.pos)
  have h2 := g.nle
  have h3 := g.pos
  omega
theorem Nbs.at : ∀ {l : List Point} {i : Nat} {x y : Point}, Nbs l → l[i]? = some x → l[i + 1]? = some y → det x y = 1
  | [], i, x, y, _, h, _ => by simp at h
  | [_], 0, x, y, _, _, h => by simp at h
  | [_], i + 1, x, y, _, h, _ => by simp at h
  | a :: b :: l, 0, x, y, h, e1, e2 => by
    have q1 : a = x := Option.some.inj e1
    have q2 : b = y := Option.some.inj e2
    rw [← q1, ← q2]
    exact h.1
  | a :: b :: l, i + 1, x, y, h, e1, e2 => Nbs.at (l := b :: l) (i := i) h.2 e1 e2
/-! told -/
def NoHit (ps : List Point) (p : Point) (i : Nat) : Prop := ∀ j x y, j < i → ps[j]? = some x → ps[j + 1]? = some y → ¬ (0 ≤ det x p ∧ 0 ≤ det p y)
theorem NoHit.zero {ps : List Point} {p : Point} : NoHit ps p 0 := fun j _ _ h => absurd h (Nat.not_lt_zero j)
theorem NoHit.succ {ps : List Point} {p x y : Point} {i : Nat} (h : NoHit ps p i) (hx : ps[i]? = some x) (hy : ps[i + 1]? = some y) (n : ¬ (0 ≤ det x p ∧ 0 ≤ det p y)) : NoHit ps p (i + 1) := by
  intro j a b hj ha hb
  by_cases c : j = i
  · subst c
    rw [hx] at ha
    rw [hy] at hb
    cases ha
    cases hb
    exact n
  · exact h j a b (by omega) ha hb
def ToldIs (ps : List Point) (p : Point) (r : List Int) : Prop := (r = [] ∧ NoHit ps p (ps.length - 1)) ∨
  ∃ i x y, ps[i]? = some x ∧ ps[i + 1]? = some y ∧ 0 ≤ det x p ∧ 0 ≤ det p y ∧ NoHit ps p i ∧ r = [(i : Int), det p y, det x p]
theorem find_range {f : Nat → Bool} : ∀ {n i : Nat}, i < n → f i = true → (∀ j, j < i → f j = false) → (List.range n).find? f = some i := by
  intro n
  induction n with
  | zero => intro i h; omega
  | succ n ih =>
    intro i hi hf hn
    rw [List.range_succ, List.find?_append]
    by_cases c : i = n
    · subst c
      have e : (List.range i).find? f = none := List.find?_eq_none.mpr fun x hx => by rw [hn x (List.mem_range.mp hx)]; simp
      rw [e]
      simp [hf]
    · rw [ih (by omega) hf hn]
      rfl
theorem told_is {c : Cone} {p : Point} {r : List Int} (g : Good c) (h : ToldIs (R c.v c.u) p r) :
    (if c.has p = false then [0] else match c.told p with | none => [0] | some z => [1, (z.1 : Int), z.2.1, z.2.2] : List Int) = (if r = [] then [0] else 1 :: r) := by
  have row := g.row
  rcases h with ⟨rfl, nh⟩ | ⟨i, x, y, hx, hy, h1, h2, nh, rfl⟩
  · have e : c.told p = none := by
      unfold Cone.told
      rw [g.least]
      simp only
      rw [Option.map_eq_none_iff, List.find?_eq_none]
      intro j hj
      have hj' := List.mem_range.mp hj
      have a1 : (R c.v c.u)[j]? = some ((R c.v c.u)[j]'(by omega)) := List.getElem?_eq_getElem (by omega)
      have a2 : (R c.v c.u)[j + 1]? = some ((R c.v c.u)[j + 1]'(by omega)) := List.getElem?_eq_getElem (by omega)
      rw [a1, a2]
      have := nh j _ _ hj' a1 a2
      simp only [Option.getD_some, Bool.and_eq_true, decide_eq_true_eq]
      exact this
    rw [e]
    by_cases q : c.has p = false
    · simp [q]
    · simp [q]
  · have hl : i + 1 < (R c.v c.u).length := (List.getElem?_eq_some_iff.mp hy).1
    have e : c.told p = some (i, (det p y, det x p)) := by
      unfold Cone.told
      rw [g.least]
      simp only
      rw [find_range (i := i) (by omega)]
      · simp only [Option.map_some, hx, hy, Option.getD_some]
      · rw [hx, hy]
        simp only [Option.getD_some, Bool.and_eq_true, decide_eq_true_eq]
        exact ⟨h1, h2⟩
      · intro j hj
        have a1 : (R c.v c.u)[j]? = some ((R c.v c.u)[j]'(by omega)) := List.getElem?_eq_getElem (by omega)
        have a2 : (R c.v c.u)[j + 1]? = some ((R c.v c.u)[j + 1]'(by omega)) := List.getElem?_eq_getElem (by omega)
        rw [a1, a2]
        have := nh j _ _ hj a1 a2
        simp only [Option.getD_some, Bool.and_eq_false_iff, decide_eq_false_iff_not]
        exact Decidable.not_and_iff_or_not.mp this
    have hs : c.has p = true := by
      have ix := row.inn x (List.mem_of_getElem? hx)
      have iy := row.inn y (List.mem_of_getElem? hy)
      have d1 := row.nb.at hx hy
      have l := lin x y p
      rw [d1] at l
      have k1 : det c.u p = det p y * det c.u x + det x p * det c.u y := by
        have := plucker x y c.u p
        unfold det at *
        grind
      have k2 : det p c.v = det p y * det x c.v + det x p * det y c.v := by
        unfold det at *
        grind
      unfold Cone.has
      rw [Bool.and_eq_true, decide_eq_true_eq, decide_eq_true_eq, k1, k2]
      exact ⟨Int.add_nonneg (Int.mul_nonneg h2 ix.a0) (Int.mul_nonneg h1 iy.a0), Int.add_nonneg (Int.mul_nonneg h2 ix.b0) (Int.mul_nonneg h1 iy.b0)⟩
    rw [hs, e]
    simp
/-! the sail -/
def inner (ps : List Point) (ns : List Int) : List Point := ((((ps.drop 1).zip ns).filter fun x => decide (2 < x.2)).map fun x => x.1)
def innerTo (ps : List Point) (ns : List Int) (i : Nat) : List Point := (((((ps.drop 1).zip ns).take i).filter fun x => decide (2 < x.2)).map fun x => x.1)
theorem innerTo_zero (ps : List Point) (ns : List Int) : innerTo ps ns 0 = [] := rfl
theorem take_more {α : Type} {l : List α} {i : Nat} {x : α} (h : l[i]? = some x) : l.take (i + 1) = l.take i ++ [x] := by
  rw [List.take_add_one, h]
  rfl
theorem innerTo_more {ps : List Point} {ns : List Int} {i : Nat} {p : Point} {n : Int} (hp : ps[i + 1]? = some p) (hn : ns[i]? = some n) :
    innerTo ps ns (i + 1) = if 2 < n then innerTo ps ns i ++ [p] else innerTo ps ns i := by
  have h : ((ps.drop 1).zip ns)[i]? = some (p, n) := by
    rw [List.getElem?_zip_eq_some]
    refine ⟨?_, hn⟩
    rw [List.getElem?_drop, Nat.add_comm]
    exact hp
  unfold innerTo
  rw [take_more h, List.filter_append, List.map_append]
  by_cases c : 2 < n
  · rw [if_pos c]
    simp [c]
  · rw [if_neg c]
    simp [c]
theorem innerTo_all {ps : List Point} {ns : List Int} : innerTo ps ns ns.length = inner ps ns := by
  unfold innerTo inner
  rw [List.take_of_length_le]
  rw [List.length_zip]
  exact Nat.min_le_right _ _
theorem innerTo_len (ps : List Point) (ns : List Int) (i : Nat) : (innerTo ps ns i).length ≤ ps.length := by
  unfold innerTo
  rw [List.length_map]
  refine Nat.le_trans (List.length_filter_le _ _) ?_
  rw [List.length_take, List.length_zip, List.length_drop]
  omega
theorem crosses_len : ∀ l : List Point, (crosses l).length = l.length - 2
  | [] => rfl
  | [_] => rfl
  | [_, _] => rfl
  | a :: b :: d :: l => by
    have ih := crosses_len (b :: d :: l)
    unfold crosses
    rw [List.length_cons, ih]
    simp
theorem crosses_at : ∀ {l : List Point} {i : Nat} {a d : Point}, l[i]? = some a → l[i + 2]? = some d → (crosses l)[i]? = some (det a d)
  | [], i, a, d, h, _ => by simp at h
  | [_], i, a, d, _, h => by simp at h
  | [_, _], i, a, d, _, h => by simp at h
  | x :: y :: z :: l, 0, a, d, h1, h2 => by
    have q1 : x = a := Option.some.inj h1
    have q2 : z = d := Option.some.inj h2
    rw [← q1, ← q2]
    rfl
  | x :: y :: z :: l, i + 1, a, d, h1, h2 => crosses_at (l := y :: z :: l) (i := i) h1 h2
theorem sail_is {c : Cone} (g : Good c) : Cone.sail c = c.u :: inner (R c.v c.u) (crosses (R c.v c.u)) ++ [c.v] := by
  unfold Cone.sail inner
  simp only
  rw [g.least, numbers_R g.sv g.su (.inr g.pos)]
/-! kinds -/
theorem Good.turn {c : Cone} (g : Good c) : single (swap c.v) = true ∧ single (swap c.u) = true ∧ 0 < det (swap c.v) (swap c.u) ∧ Near 40 (swap c.v) ∧ Near 40 (swap c.u) :=
  ⟨single_swap g.sv, single_swap g.su, by rw [det_swap]; exact g.pos, ⟨g.nv.2, g.nv.1⟩, ⟨g.nu.2, g.nu.1⟩⟩
def q1 (c : Cone) : Int := det (Cone.second ⟨c.u, c.v⟩) c.v
def q2 (c : Cone) : Int := det (Cone.second ⟨swap c.v, swap c.u⟩) (swap c.u)
theorem kind_is (c : Cone) : Cone.kind c = (det c.u c.v, q1 c) := rfl
theorem kind2_is (c : Cone) : Cone.kind (Cone.turned c) = (det c.u c.v, q2 c) := by
  have : Cone.kind (Cone.turned c) = (det (swap c.v) (swap c.u), q2 c) := rfl
  rw [this, det_swap]
theorem alike_is {c d : Cone} (g : Good c) (k : Good d) : alike c d = (decide (det c.u c.v = det d.u d.v) && (decide (q1 c = q1 d) || decide (q1 c = q2 d))) := by
  have e : ∀ x y z w : Int, ((x, y) == (z, w)) = (decide (x = z) && decide (y = w)) := by
    intro x y z w
    rw [Bool.eq_iff_iff]
    simp
  unfold alike
  rw [kind2_is, kind_is, kind_is, e, e]
  by_cases n : det c.u c.v = det d.u d.v
  · have hc := second_sec g.su g.pos
    have hd := second_sec k.su k.pos
    have tc := g.turn
    have td := k.turn
    have sc := second_sec tc.1 tc.2.2.1
    have sd := second_sec td.1 td.2.2.1
    have i1 : ∃ j, q1 c * q2 c = 1 + j * det c.u c.v := inv_q hc sc
    have i2 : ∃ j, q1 d * q2 d = 1 + j * det d.u d.v := inv_q hd sd
    rw [← n] at i2
    have i1' : ∃ j, q2 c * q1 c = 1 + j * det c.u c.v := by
      rw [Int.mul_comm]
      exact i1
    have i2' : ∃ j, q2 d * q1 d = 1 + j * det c.u c.v := by
      rw [Int.mul_comm]
      exact i2
    have b1 : 0 ≤ q1 c ∧ q1 c < det c.u c.v := ⟨hc.lo, hc.hi⟩
    have b2 : 0 ≤ q2 c ∧ q2 c < det c.u c.v := ⟨sc.lo, by have := sc.hi; rw [det_swap] at this; exact this⟩
    have b3 : 0 ≤ q1 d ∧ q1 d < det c.u c.v := ⟨hd.lo, by rw [n]; exact hd.hi⟩
    have b4 : 0 ≤ q2 d ∧ q2 d < det c.u c.v := ⟨sd.lo, by have := sd.hi; rw [det_swap] at this; rw [n]; exact this⟩
    have key : q2 c = q1 d ↔ q1 c = q2 d :=
      ⟨fun e => q_unique g.pos b1 b4 i1 i2' e, fun e => q_unique g.pos b2 b3 i1' i2 e⟩
    have key2 : decide (q2 c = q1 d) = decide (q1 c = q2 d) := decide_eq_decide.mpr key
    rw [key2, decide_eq_true n, Bool.true_and, Bool.true_and, Bool.true_and]
  · rw [decide_eq_false n, Bool.false_and, Bool.false_and, Bool.false_and, Bool.false_or]
end My
end
section
open Sq69
namespace My
/-! the list of calls -/
theorem shape_cases {p : Int} {n k : Nat} (h : PySq69.shape p = some (n, k)) :
    (p = 1 ∧ n = 0 ∧ k = 2) ∨ (p = 2 ∧ n = 0 ∧ k = 0) ∨ (p = 3 ∧ n = 0 ∧ k = 0) ∨ (p = 4 ∧ n = 0 ∧ k = 0) ∨ (p = 5 ∧ n = 0 ∧ k = 2) ∨ (p = 6 ∧ n = 0 ∧ k = 0) ∨ (p = 7 ∧ n = 0 ∧ k = 2) ∨ (p = 8 ∧ n = 4 ∧ k = 0) ∨ (p = 9 ∧ n = 2 ∧ k = 0) := by
  unfold PySq69.shape at h
  repeat' split at h
  all_goals first | (cases h; done) | skip
  all_goals injection h with h; injection h with h1 h2; omega
theorem drop_some {l : List Int} {i : Nat} {n : Int} {r : List Int} (h : l.drop i = n :: r) : i < l.length ∧ l[i]? = some n ∧ r = l.drop (i + 1) := by
  have hi : i < l.length := by
    refine Nat.lt_of_not_le fun q => ?_
    rw [List.drop_eq_nil_of_le q] at h
    cases h
  rw [List.drop_eq_getElem_cons hi] at h
  injection h with h1 h2
  exact ⟨hi, by rw [List.getElem?_eq_getElem hi, h1], h2.symm⟩
theorem rows_step {k : Nat} {l t : List Int} {xs : List (List Int)} {i : Nat} (h : PyFlat.rows (k + 1) (l.drop i) = some (xs, t)) :
    ∃ (n : Nat) (ys : List (List Int)), l[i]? = some (n : Int) ∧ i + 1 + n ≤ l.length ∧ xs = (l.drop (i + 1)).take n :: ys ∧ ((l.drop (i + 1)).take n).length = n ∧ PyFlat.rows k (l.drop (i + 1 + n)) = some (ys, t) := by
  unfold PyFlat.rows at h
  cases e : l.drop i with
  | nil =>
    rw [e] at h
    simp [PyFlat.row] at h
  | cons m r =>
    obtain ⟨hi, h1, h2⟩ := drop_some e
    rw [e] at h
    unfold PyFlat.row at h
    by_cases c : 0 ≤ m ∧ m.toNat ≤ r.length
    · simp only [if_pos c] at h
      cases e2 : PyFlat.rows k (r.drop m.toNat) with
      | none =>
        rw [e2] at h
        cases h
      | some z =>
        rw [e2] at h
        obtain ⟨ys, u⟩ := z
        simp only [Option.some.injEq, Prod.mk.injEq] at h
        obtain ⟨h3, h4⟩ := h
        have hl : r.length = l.length - (i + 1) := by rw [h2, List.length_drop]
        refine ⟨m.toNat, ys, by rw [h1, Int.toNat_of_nonneg c.1], by omega, by rw [← h3, h2], ?_, ?_⟩
        · rw [← h2, List.length_take]
          omega
        · rw [h2, List.drop_drop] at e2
          rw [e2, h4]
    · simp only [if_neg c] at h
      cases h
theorem rows_zero {l t : List Int} {xs : List (List Int)} {i : Nat} (h : PyFlat.rows 0 (l.drop i) = some (xs, t)) : xs = [] ∧ t = l.drop i := by
  unfold PyFlat.rows at h
  simp only [Option.some.injEq, Prod.mk.injEq] at h
  exact ⟨h.1.symm, h.2.symm⟩
/-- how far some rows reach -/
def past : List (List Int) → Nat
  | [] => 0
  | x :: r => 1 + x.length + past r
theorem past_append : ∀ (a b : List (List Int)), past (a ++ b) = past a + past b
  | [], b => by simp [past]
  | x :: a, b => by
    have ih := past_append a b
    show 1 + x.length + past (a ++ b) = 1 + x.length + past a + past b
    omega
theorem past_more {xs : List (List Int)} {i : Nat} {x : List Int} (h : xs[i]? = some x) : past (xs.take (i + 1)) = past (xs.take i) + 1 + x.length := by
  rw [take_more h, past_append]
  simp [past]
  omega
theorem rows_end : ∀ {k : Nat} {l t : List Int} {xs : List (List Int)} {i : Nat}, i ≤ l.length → PyFlat.rows k (l.drop i) = some (xs, t) → t = l.drop (i + past xs) ∧ i + past xs ≤ l.length ∧ xs.length = k ∧ ∀ x ∈ xs, ∀ z ∈ x, z ∈ l
  | 0, l, t, xs, i, hi, h => by
    obtain ⟨h1, h2⟩ := rows_zero h
    subst h1
    exact ⟨by rw [h2]; rfl, hi, rfl, fun x hx => by cases hx⟩
  | k + 1, l, t, xs, i, hi, h => by
    obtain ⟨n, ys, h1, h2, h3, h4, h5⟩ := rows_step h
    obtain ⟨a, b, c, d⟩ := rows_end h2 h5
    have e : past xs = 1 + n + past ys := by
      rw [h3]
      show 1 + ((l.drop (i + 1)).take n).length + past ys = _
      rw [h4]
    refine ⟨by rw [a, e]; congr 1; omega, by omega, by rw [h3, List.length_cons, c], fun x hx z hz => ?_⟩
    rw [h3] at hx
    rcases List.mem_cons.mp hx with q | q
    · rw [q] at hz
      exact List.mem_of_mem_drop (List.mem_of_mem_take hz)
    · exact d x q z hz
/-- one call ahead of the rest -/
structure CallAt (l : List Int) (i : Nat) (p : Int) (n k : Nat) (ns : List Int) (xs : List (List Int)) (t : List Int) : Prop where
  at_ : l[i]? = some p
  sh : PySq69.shape p = some (n, k)
  room : i + 1 + n ≤ l.length
  num : ns = (l.drop (i + 1)).take n
  len : ns.length = n
  row : PyFlat.rows k (l.drop (i + 1 + n)) = some (xs, t)
theorem call_at {l : List Int} {i : Nat} {c : List (List Int)} {t : List Int} (hi : i < l.length) (h : PyFlat.call PySq69.shape (l.drop i) = some (c, t)) :
    ∃ p n k ns xs, CallAt l i p n k ns xs t ∧ c = (p :: ns) :: xs := by
  cases e : l.drop i with
  | nil =>
    have := List.length_drop (l := l) (i := i)
    rw [e, List.length_nil] at this
    omega
  | cons p r =>
    obtain ⟨_, h1, h2⟩ := drop_some e
    rw [e] at h
    unfold PyFlat.call at h
    cases e1 : PySq69.shape p with
    | none =>
      simp only [e1] at h
      cases h
    | some z =>
      obtain ⟨n, k⟩ := z
      simp only [e1] at h
      by_cases c1 : r.length < n
      · simp only [if_pos c1] at h
        cases h
      · simp only [if_neg c1] at h
        cases e2 : PyFlat.rows k (r.drop n) with
        | none =>
          simp only [e2] at h
          cases h
        | some y =>
          obtain ⟨xs, u⟩ := y
          simp only [e2, Option.some.injEq, Prod.mk.injEq] at h
          obtain ⟨h3, h4⟩ := h
          have hl : r.length = l.length - (i + 1) := by rw [h2, List.length_drop]
          refine ⟨p, n, k, r.take n, xs, ⟨h1, e1, by omega, by rw [h2], by rw [List.length_take]; omega, ?_⟩, h3.symm⟩
          rw [h2, List.drop_drop] at e2
          rw [e2, h4]
/-- what is due for the rest -/
def rest (s : Sq69.House) (cs : List (List (List Int))) : List Int := PyFlat.told (PyFlat.played Sq69Neutral.step s (cs.map PySq69.whole))
theorem rest_nil (s : Sq69.House) : rest s [] = [] := rfl
theorem rest_cons (s : Sq69.House) (c : List (List Int)) (cs : List (List (List Int))) :
    rest s (c :: cs) = (((Sq69Neutral.step s (PySq69.whole c)).2.length : Int) :: (Sq69Neutral.step s (PySq69.whole c)).2) ++ rest (Sq69Neutral.step s (PySq69.whole c)).1 cs := rfl
theorem calls_step {f : Nat} {l : List Int} {i : Nat} {cs : List (List (List Int))} (hi : i < l.length) (h : PyFlat.calls PySq69.shape f (l.drop i) = some cs) :
    ∃ g c t ds, f = g + 1 ∧ PyFlat.call PySq69.shape (l.drop i) = some (c, t) ∧ PyFlat.calls PySq69.shape g t = some ds ∧ cs = c :: ds := by
  cases e : l.drop i with
  | nil =>
    have := List.length_drop (l := l) (i := i)
    rw [e, List.length_nil] at this
    omega
  | cons p r =>
    rw [e] at h
    cases f with
    | zero => cases h
    | succ g =>
      unfold PyFlat.calls at h
      cases e1 : PyFlat.call PySq69.shape (p :: r) with
      | none =>
        simp only [e1] at h
        cases h
      | some z =>
        obtain ⟨c, t⟩ := z
        simp only [e1] at h
        cases e2 : PyFlat.calls PySq69.shape g t with
        | none =>
          simp only [e2] at h
          cases h
        | some ds =>
          simp only [e2, Option.some.injEq] at h
          exact ⟨g, c, t, ds, rfl, rfl, e2, h.symm⟩
theorem calls_nil {f : Nat} {l : List Int} {i : Nat} {cs : List (List (List Int))} (hi : l.length ≤ i) (h : PyFlat.calls PySq69.shape f (l.drop i) = some cs) : cs = [] := by
  rw [List.drop_eq_nil_of_le hi] at h
  cases f with
  | zero => cases h; rfl
  | succ g => cases h; rfl
/-! points of lists -/
def pAt (a b : List Int) (i : Nat) : Point := (a.getD i 0 - b.getD i 0, a.getD (i + 1) 0 - b.getD (i + 1) 0)
def far (k : Int) (p : Point) : Bool := decide (k < (if (if p.2 < 0 then -p.2 else p.2) > (if p.1 < 0 then -p.1 else p.1) then (if p.2 < 0 then -p.2 else p.2) else (if p.1 < 0 then -p.1 else p.1)))
theorem far_iff (k : Nat) (p : Point) : far k p = (decide (k < p.1.natAbs) || decide (k < p.2.natAbs)) := by
  unfold far
  rw [Bool.eq_iff_iff, decide_eq_true_eq, Bool.or_eq_true, decide_eq_true_eq, decide_eq_true_eq]
  repeat' split
  all_goals omega
theorem far_not {k : Nat} {p : Point} (h : far k p = false) : Near k p := by
  rw [far_iff] at h
  simp only [Bool.or_eq_false_iff, decide_eq_false_iff_not] at h
  unfold Near
  omega
def gcdI (p : Point) : Int := (Nat.gcd p.1.natAbs p.2.natAbs : Nat)
def refuse (a b : List Int) : Int :=
  if a.length ≠ 4 ∨ b.length ≠ 4 then -3
  else if far 40 (pAt a b 0) = true ∨ far 40 (pAt a b 2) = true then -1
  else if gcdI (pAt a b 0) ≠ 1 ∨ gcdI (pAt a b 2) ≠ 1 ∨ det (pAt a b 0) (pAt a b 2) ≤ 0 then -4 else 0
def refuseP (a b : List Int) : Int :=
  if a.length ≠ 2 ∨ b.length ≠ 2 then -3 else if far 1600 (pAt a b 0) = true then -1 else 0
theorem len_four : ∀ {α : Type} {a : List α}, a.length = 4 → ∃ x y z w, a = [x, y, z, w]
  | _, [x, y, z, w], _ => ⟨x, y, z, w, rfl⟩
theorem len_two : ∀ {α : Type} {a : List α}, a.length = 2 → ∃ x y, a = [x, y]
  | _, [x, y], _ => ⟨x, y, rfl⟩
theorem zip_len {a b : List Nat} (h : ¬ a.length ≠ b.length) : ((a.zip b).map fun x => (x.1 : Int) - x.2).length = a.length := by
  rw [List.length_map, List.length_zip]
  omega
theorem given_four {a b : List Nat} {x y z w : Int} (h : given a b = some [x, y, z, w]) : a.length = 4 ∧ b.length = 4 := by
  unfold given at h
  split at h
  · cases h
  · rename_i c
    have q := zip_len c
    rw [Option.some.inj h] at q
    simp at q c
    omega
theorem given_two {a b : List Nat} {x y : Int} (h : given a b = some [x, y]) : a.length = 2 ∧ b.length = 2 := by
  unfold given at h
  split at h
  · cases h
  · rename_i c
    have q := zip_len c
    rw [Option.some.inj h] at q
    simp at q c
    omega
def natsOf (a : List Int) : List Nat := a.map fun (z : Int) => z.toNat
theorem single_gcd (p : Point) : single p = decide (gcdI p = 1) := by
  unfold single gcdI
  rw [Bool.eq_iff_iff]
  simp
  omega
theorem read_is {a b : List Int} (ha : ∀ z ∈ a, 0 ≤ z) (hb : ∀ z ∈ b, 0 ≤ z) :
    (refuse a b < 0 ∧ Sq69.read (natsOf a) (natsOf b) = .error (refuse a b)) ∨ (refuse a b = 0 ∧ Sq69.read (natsOf a) (natsOf b) = .ok ⟨pAt a b 0, pAt a b 2⟩ ∧ Good ⟨pAt a b 0, pAt a b 2⟩) := by
  by_cases h4 : a.length ≠ 4 ∨ b.length ≠ 4
  · left
    have e : refuse a b = -3 := by unfold refuse; rw [if_pos h4]
    rw [e]
    refine ⟨by omega, ?_⟩
    unfold Sq69.read
    split
    · rename_i x y z w q
      have := given_four q
      unfold natsOf at this
      rw [List.length_map, List.length_map] at this
      omega
    · rfl
  · obtain ⟨a0, a1, a2, a3, rfl⟩ := len_four (a := a) (by omega)
    obtain ⟨b0, b1, b2, b3, rfl⟩ := len_four (a := b) (by omega)
    have e1 : given (natsOf [a0, a1, a2, a3]) (natsOf [b0, b1, b2, b3]) = some [a0 - b0, a1 - b1, a2 - b2, a3 - b3] := by
      unfold given natsOf
      have p0 := ha a0 (by simp)
      have p1 := ha a1 (by simp)
      have p2 := ha a2 (by simp)
      have p3 := ha a3 (by simp)
      have r0 := hb b0 (by simp)
      have r1 := hb b1 (by simp)
      have r2 := hb b2 (by simp)
      have r3 := hb b3 (by simp)
      simp
      omega
    have e2 : pAt [a0, a1, a2, a3] [b0, b1, b2, b3] 0 = (a0 - b0, a1 - b1) := rfl
    have e3 : pAt [a0, a1, a2, a3] [b0, b1, b2, b3] 2 = (a2 - b2, a3 - b3) := rfl
    unfold refuse Sq69.read
    rw [if_neg h4, e1, e2, e3]
    generalize a0 - b0 = x
    generalize a1 - b1 = y
    generalize a2 - b2 = z
    generalize a3 - b3 = w
    have ef : (far 40 (x, y) = true ∨ far 40 (z, w) = true) ↔ ([x, y, z, w].any fun k => decide (PLACE < k.natAbs)) = true := by
      have f1 := far_iff 40 (x, y)
      have f2 := far_iff 40 (z, w)
      have f1' : far 40 (x, y) = (decide (40 < x.natAbs) || decide (40 < y.natAbs)) := f1
      have f2' : far 40 (z, w) = (decide (40 < z.natAbs) || decide (40 < w.natAbs)) := f2
      rw [f1', f2']
      unfold PLACE
      simp
      omega
    by_cases c1 : far 40 (x, y) = true ∨ far 40 (z, w) = true
    · left
      rw [if_pos c1]
      refine ⟨by omega, ?_⟩
      simp only
      rw [if_pos (ef.mp c1)]
    · rw [if_neg c1]
      simp only
      rw [if_neg fun q => c1 (ef.mpr q), single_gcd, single_gcd]
      by_cases c2 : gcdI (x, y) ≠ 1 ∨ gcdI (z, w) ≠ 1 ∨ det (x, y) (z, w) ≤ 0
      · left
        rw [if_pos c2]
        refine ⟨by omega, ?_⟩
        rw [if_pos]
        simp only [Bool.and_eq_false_iff, decide_eq_false_iff_not]
        omega
      · right
        rw [if_neg c2]
        have k1 : gcdI (x, y) = 1 := by omega
        have k2 : gcdI (z, w) = 1 := by omega
        have k3 : 0 < det (x, y) (z, w) := by omega
        refine ⟨rfl, ?_, ?_⟩
        · rw [if_neg]
          rw [k1, k2, decide_eq_true k3]
          simp
        · have n1 : far 40 (x, y) = false := by simpa using fun q => c1 (.inl q)
          have n2 : far 40 (z, w) = false := by simpa using fun q => c1 (.inr q)
          exact ⟨by rw [single_gcd, k1]; simp, by rw [single_gcd, k2]; simp, k3, far_not (k := 40) n1, far_not (k := 40) n2⟩
/-! what a call answers, as a list -/
theorem hs_begin (h : House) (a b : List Nat) : House.step h (.begin_ a b) = match Sq69.read a b with
    | .error e => (h, says e)
    | .ok c => (c, says (det c.u c.v)) := rfl
theorem hs_like (h : House) (a b : List Nat) : House.step h (.like a b) = match Sq69.read a b with
    | .error e => (h, says e)
    | .ok c => (h, says (if alike h c = true then 1 else 0)) := rfl
theorem hs_told (h : House) (a b : List Nat) : House.step h (.told a b) = match given a b with
    | some [x, y] => if PLACE * PLACE < x.natAbs ∨ PLACE * PLACE < y.natAbs then (h, says (-1)) else if Cone.has h (x, y) = false then (h, says 0) else match Cone.told h (x, y) with
      | none => (h, says 0)
      | some z => (h, ⟨1, [(z.1 : Int), z.2.1, z.2.2]⟩)
    | _ => (h, says (-3)) := rfl
theorem hs_simplest (h : House) (a b c d : Nat) : House.step h (.simplest a b c d) = if ([a, b, c, d].any fun k => decide (200 < k)) = true ∨ b = 0 then (h, says (-1)) else if less (a, b) (c, d) = false then (h, says (-4)) else
    (h, ⟨(Sq69.simplest (a, b) (c, d)).1.1, Sq69.ints ((Sq69.simplest (a, b) (c, d)).1.2 :: (Sq69.simplest (a, b) (c, d)).2.length :: (Sq69.simplest (a, b) (c, d)).2)⟩) := rfl
theorem hs_way (h : House) (a b : Nat) : House.step h (.way a b) = if a = 0 ∨ b = 0 ∨ 200 < a ∨ 200 < b then (h, says (-1)) else
    (h, ⟨(wayTo (a, b) (a + b + 1) (0, 1) (1, 0)).length, Sq69.ints (wayTo (a, b) (a + b + 1) (0, 1) (1, 0))⟩) := rfl
def ans (o : Out) : List Int := o.value :: o.out
theorem step_1 (s : House) (a b : List Int) : Sq69Neutral.step s [[1], a, b] = ((House.step s (.begin_ (natsOf a) (natsOf b))).1, ans (House.step s (.begin_ (natsOf a) (natsOf b))).2) := rfl
theorem begin_is (s : House) {a b : List Int} (ha : ∀ z ∈ a, 0 ≤ z) (hb : ∀ z ∈ b, 0 ≤ z) :
    (refuse a b < 0 ∧ Sq69Neutral.step s [[1], a, b] = (s, [refuse a b])) ∨
    (refuse a b = 0 ∧ Sq69Neutral.step s [[1], a, b] = (⟨pAt a b 0, pAt a b 2⟩, [det (pAt a b 0) (pAt a b 2)]) ∧ Good ⟨pAt a b 0, pAt a b 2⟩) := by
  rw [step_1]
  rw [hs_begin]
  rcases read_is ha hb with ⟨h, e⟩ | ⟨h, e, g⟩
  · rw [e]
    exact .inl ⟨h, rfl⟩
  · rw [e]
    exact .inr ⟨h, rfl, g⟩
theorem like_is (s : House) {a b : List Int} (gs : Good s) (ha : ∀ z ∈ a, 0 ≤ z) (hb : ∀ z ∈ b, 0 ≤ z) :
    (refuse a b < 0 ∧ Sq69Neutral.step s [[5], a, b] = (s, [refuse a b])) ∨
    (refuse a b = 0 ∧ Good ⟨pAt a b 0, pAt a b 2⟩ ∧ Sq69Neutral.step s [[5], a, b] =
      (s, [if det s.u s.v = det (pAt a b 0) (pAt a b 2) ∧ (q1 s = q1 ⟨pAt a b 0, pAt a b 2⟩ ∨ q1 s = q2 ⟨pAt a b 0, pAt a b 2⟩) then 1 else 0])) := by
  have e0 : Sq69Neutral.step s [[5], a, b] = ((House.step s (.like (natsOf a) (natsOf b))).1, ans (House.step s (.like (natsOf a) (natsOf b))).2) := rfl
  rw [e0]
  rw [hs_like]
  rcases read_is ha hb with ⟨h, e⟩ | ⟨h, e, g⟩
  · rw [e]
    exact .inl ⟨h, rfl⟩
  · rw [e]
    refine .inr ⟨h, g, ?_⟩
    simp only
    rw [alike_is gs g]
    unfold ans says
    simp only
    congr 2
    by_cases c : det s.u s.v = det (pAt a b 0) (pAt a b 2) ∧ (q1 s = q1 ⟨pAt a b 0, pAt a b 2⟩ ∨ q1 s = q2 ⟨pAt a b 0, pAt a b 2⟩)
    · rw [if_pos c, if_pos]
      rw [Bool.and_eq_true, Bool.or_eq_true, decide_eq_true_eq, decide_eq_true_eq, decide_eq_true_eq]
      exact c
    · rw [if_neg c, if_neg]
      rw [Bool.and_eq_true, Bool.or_eq_true, decide_eq_true_eq, decide_eq_true_eq, decide_eq_true_eq]
      exact c
def toldOf (r : List Int) : List Int := if r = [] then [0] else 1 :: r
theorem tell_is (s : House) {a b : List Int} (gs : Good s) (ha : ∀ z ∈ a, 0 ≤ z) (hb : ∀ z ∈ b, 0 ≤ z) :
    (refuseP a b < 0 ∧ Sq69Neutral.step s [[7], a, b] = (s, [refuseP a b])) ∨
    (refuseP a b = 0 ∧ Near 1600 (pAt a b 0) ∧ a.length = 2 ∧ b.length = 2 ∧ ∀ r, ToldIs (R s.v s.u) (pAt a b 0) r → Sq69Neutral.step s [[7], a, b] = (s, toldOf r)) := by
  have e0 : Sq69Neutral.step s [[7], a, b] = ((House.step s (.told (natsOf a) (natsOf b))).1, ans (House.step s (.told (natsOf a) (natsOf b))).2) := rfl
  rw [e0]
  rw [hs_told]
  by_cases h2 : a.length ≠ 2 ∨ b.length ≠ 2
  · left
    have e : refuseP a b = -3 := by unfold refuseP; rw [if_pos h2]
    rw [e]
    refine ⟨by omega, ?_⟩
    split
    · rename_i x y q
      have := given_two q
      unfold natsOf at this
      rw [List.length_map, List.length_map] at this
      omega
    · rfl
  · obtain ⟨a0, a1, rfl⟩ := len_two (a := a) (by omega)
    obtain ⟨b0, b1, rfl⟩ := len_two (a := b) (by omega)
    have e1 : given (natsOf [a0, a1]) (natsOf [b0, b1]) = some [a0 - b0, a1 - b1] := by
      unfold given natsOf
      have p0 := ha a0 (by simp)
      have p1 := ha a1 (by simp)
      have r0 := hb b0 (by simp)
      have r1 := hb b1 (by simp)
      simp
      omega
    have e2 : pAt [a0, a1] [b0, b1] 0 = (a0 - b0, a1 - b1) := rfl
    unfold refuseP
    rw [if_neg h2, e1, e2]
    generalize a0 - b0 = x
    generalize a1 - b1 = y
    have f1 : far 1600 (x, y) = (decide (1600 < x.natAbs) || decide (1600 < y.natAbs)) := far_iff 1600 (x, y)
    have ef : far 1600 (x, y) = true ↔ (PLACE * PLACE < x.natAbs ∨ PLACE * PLACE < y.natAbs) := by
      rw [f1]
      unfold PLACE
      simp
    by_cases c1 : far 1600 (x, y) = true
    · left
      rw [if_pos c1]
      refine ⟨by omega, ?_⟩
      simp only
      rw [if_pos (ef.mp c1)]
      rfl
    · right
      rw [if_neg c1]
      refine ⟨rfl, far_not (k := 1600) (by simpa using c1), rfl, rfl, fun r hr => ?_⟩
      simp only
      rw [if_neg fun q => c1 (ef.mpr q)]
      have t := told_is gs hr
      unfold toldOf
      rw [← t]
      by_cases q : Cone.has s (x, y) = false
      · rw [if_pos q, if_pos q]
        rfl
      · rw [if_neg q, if_neg q]
        cases Cone.told s (x, y) <;> rfl
/-! the calls without rows -/
def leastAns (c : Cone) : List Int := ((R c.v c.u).length : Int) :: (listed (R c.v c.u) ++ crosses (R c.v c.u))
theorem least_is {s : House} (g : Good s) : Sq69Neutral.step s [[2]] = (s, leastAns s) := by
  have e0 : Sq69Neutral.step s [[2]] = (s, ((Cone.least s).length : Int) :: (listed (Cone.least s) ++ numbers (Cone.least s))) := rfl
  rw [e0, g.least, numbers_R g.sv g.su (.inr g.pos)]
  rfl
theorem Good.dual {s : Cone} (g : Good s) : Good (Cone.dual s) := by
  obtain ⟨su, sv, p, nu, nv⟩ := g
  refine ⟨?_, ?_, ?_, ?_, ?_⟩
  · unfold single at *
    unfold Cone.dual
    simp only [Int.natAbs_neg]
    rw [Nat.gcd_comm]
    exact sv
  · unfold single at *
    unfold Cone.dual
    simp only [Int.natAbs_neg]
    rw [Nat.gcd_comm]
    exact su
  · unfold Cone.dual det at *
    simp only
    grind
  · unfold Near Cone.dual at *
    simp only
    omega
  · unfold Near Cone.dual at *
    simp only
    omega
theorem dual_is {s : House} (g : Good s) : Sq69Neutral.step s [[6]] = (s, leastAns (Cone.dual s)) := by
  have e0 : Sq69Neutral.step s [[6]] = (s, ((Cone.least (Cone.dual s)).length : Int) :: (listed (Cone.least (Cone.dual s)) ++ numbers (Cone.least (Cone.dual s)))) := rfl
  rw [e0, g.dual.least, numbers_R g.dual.sv g.dual.su (.inr g.dual.pos)]
  rfl
def sailOf (c : Cone) : List Point := c.u :: innerTo (R c.v c.u) (crosses (R c.v c.u)) (crosses (R c.v c.u)).length ++ [c.v]
theorem sail_ans {s : House} (g : Good s) : Sq69Neutral.step s [[3]] = (s, ((sailOf s).length : Int) :: listed (sailOf s)) := by
  have e0 : Sq69Neutral.step s [[3]] = (s, ((Cone.sail s).length : Int) :: listed (Cone.sail s)) := rfl
  rw [e0, sail_is g]
  unfold sailOf
  rw [innerTo_all]
theorem kind_ans (s : House) : Sq69Neutral.step s [[4]] = (s, [det s.u s.v, q1 s, q2 s]) := by
  have e0 : Sq69Neutral.step s [[4]] = (s, [(Cone.kind s).1, (Cone.kind s).2, (Cone.kind (Cone.turned s)).2]) := rfl
  rw [e0, kind2_is]
  rfl
/-! fractions -/
def simpAns (a b c d : Nat) : List Int :=
  if (200 < a ∨ 200 < b ∨ 200 < c ∨ 200 < d) ∨ b = 0 then [-1] else if less (a, b) (c, d) = false then [-4] else
    ((simplest (a, b) (c, d)).1.1 : Int) :: ((simplest (a, b) (c, d)).1.2 : Int) :: ((simplest (a, b) (c, d)).2.length : Int) :: Sq69.ints (simplest (a, b) (c, d)).2
theorem simp_is (s : House) (a b c d : Nat) : Sq69Neutral.step s [[8, (a : Int), (b : Int), (c : Int), (d : Int)]] = (s, simpAns a b c d) := by
  have e0 : Sq69Neutral.step s [[8, (a : Int), (b : Int), (c : Int), (d : Int)]] = ((House.step s (.simplest a b c d)).1, ans (House.step s (.simplest a b c d)).2) := rfl
  rw [e0]
  rw [hs_simplest]
  unfold simpAns
  have ef : (([a, b, c, d].any fun k => decide (200 < k)) = true ∨ b = 0) ↔ ((200 < a ∨ 200 < b ∨ 200 < c ∨ 200 < d) ∨ b = 0) := by simp
  by_cases h : (200 < a ∨ 200 < b ∨ 200 < c ∨ 200 < d) ∨ b = 0
  · rw [if_pos (ef.mpr h), if_pos h]
    rfl
  · rw [if_neg fun q => h (ef.mp q), if_neg h]
    by_cases k : less (a, b) (c, d) = false
    · rw [if_pos k, if_pos k]
      rfl
    · rw [if_neg k, if_neg k]
      rfl
def wayAns (a b : Nat) : List Int :=
  if a = 0 ∨ b = 0 ∨ 200 < a ∨ 200 < b then [-1] else ((wayTo (a, b) (a + b + 1) (0, 1) (1, 0)).length : Int) :: Sq69.ints (wayTo (a, b) (a + b + 1) (0, 1) (1, 0))
theorem way_is (s : House) (a b : Nat) : Sq69Neutral.step s [[9, (a : Int), (b : Int)]] = (s, wayAns a b) := by
  have e0 : Sq69Neutral.step s [[9, (a : Int), (b : Int)]] = ((House.step s (.way a b)).1, ans (House.step s (.way a b)).2) := rfl
  rw [e0]
  rw [hs_way]
  unfold wayAns
  by_cases h : a = 0 ∨ b = 0 ∨ 200 < a ∨ 200 < b
  · rw [if_pos h, if_pos h]
    rfl
  · rw [if_neg h, if_neg h]
    rfl
end My
end
namespace My
open PySem PySem.Spec PyProof.Rows L2
open Sq69 (Point det)
abbrev top (i : Nat) : Stmt := PySem.Challenge.pw_conesails_s01_answers.main.body.getD i (.Pass ⟨0, 0, 0, 0⟩)
/-! ### heaps -/
def pt (p : Point) : List V := [.int p.1, .int p.2]
def Pt (H : Hp) (a : Addr) (p : Point) : Prop := H a = some (.tup (pt p))
def Ints (H : Hp) (l : Addr) (ns : List Int) : Prop := H l = some (.lst (ns.map V.int))
def Ats (H : Hp) : List Addr → List Point → Prop
  | [], [] => True
  | a :: as, p :: ps => Pt H a p ∧ Ats H as ps
  | _, _ => False
def Pts (H : Hp) (l : Addr) (ps : List Point) : Prop := ∃ as : List Addr, H l = some (.lst (as.map V.ref)) ∧ Ats H as ps
theorem Ats.len : ∀ {H : Hp} {as : List Addr} {ps : List Point}, Ats H as ps → as.length = ps.length
  | _, [], [], _ => rfl
  | _, _ :: _, _ :: _, h => congrArg (· + 1) h.2.len
  | _, [], _ :: _, h => h.elim
  | _, _ :: _, [], h => h.elim
theorem Ats.get : ∀ {H : Hp} {as : List Addr} {ps : List Point} {i : Nat} {p : Point}, Ats H as ps → ps[i]? = some p → ∃ a, as[i]? = some a ∧ Pt H a p
  | _, [], [], i, p, _, e => by simp at e
  | _, a :: _, q :: _, 0, p, h, e => ⟨a, rfl, by have e' : q = p := Option.some.inj e; rw [← e']; exact h.1⟩
  | _, _ :: as, _ :: ps, i + 1, p, h, e => Ats.get (as := as) (ps := ps) (i := i) h.2 e
  | _, [], _ :: _, _, _, h, _ => h.elim
  | _, _ :: _, [], _, _, h, _ => h.elim
theorem Ats.app : ∀ {H : Hp} {as bs : List Addr} {ps qs : List Point}, Ats H as ps → Ats H bs qs → Ats H (as ++ bs) (ps ++ qs)
  | _, [], _, [], _, _, k => k
  | _, _ :: _, _, _ :: _, _, h, k => ⟨h.1, Ats.app h.2 k⟩
  | _, [], _, _ :: _, _, h, _ => h.elim
  | _, _ :: _, _, [], _, h, _ => h.elim
theorem Ats.imp : ∀ {H H' : Hp} {as : List Addr} {ps : List Point}, (∀ a p, Pt H a p → Pt H' a p) → Ats H as ps → Ats H' as ps
  | _, _, [], [], _, _ => trivial
  | _, _, _ :: _, _ :: _, f, h => ⟨f _ _ h.1, Ats.imp f h.2⟩
  | _, _, [], _ :: _, _, h => h.elim
  | _, _, _ :: _, [], _, h => h.elim
theorem Pt.same {H H' : Hp} {a : Addr} {p : Point} (s : Same H H') (h : Pt H a p) : Pt H' a p := s _ _ h
theorem Ints.same {H H' : Hp} {a : Addr} {p : List Int} (s : Same H H') (h : Ints H a p) : Ints H' a p := s _ _ h
theorem Ats.same {H H' : Hp} {as : List Addr} {ps : List Point} (s : Same H H') (h : Ats H as ps) : Ats H' as ps := h.imp fun _ _ q => q.same s
theorem Pts.same {H H' : Hp} {l : Addr} {ps : List Point} (s : Same H H') (h : Pts H l ps) : Pts H' l ps := by
  obtain ⟨as, e, k⟩ := h
  exact ⟨as, s _ _ e, k.same s⟩
/-- a tuple is no list: a store to a list leaves it -/
theorem Pt.upd {H : Hp} {a l : Addr} {p : Point} {xs : List V} {o : HO} (h : Pt H a p) (hl : H l = some (.lst xs)) : Pt (upd H l o) a p := by
  unfold Pt at *
  rw [upd_ne (ne_of h hl (by intro z; cases z))]
  exact h
theorem Ats.upd {H : Hp} {as : List Addr} {ps : List Point} {l : Addr} {xs : List V} {o : HO} (h : Ats H as ps) (hl : H l = some (.lst xs)) : Ats (upd H l o) as ps := h.imp fun _ _ q => q.upd hl
theorem same_new {H : Hp} {p : Addr} {o : HO} (n : H p = none) : Same H (upd H p o) := fun b u e => by
  rw [upd_ne (ne_of_none e n)]
  exact e
/-- all but at l -/
def But (l : Addr) (H H' : Hp) : Prop := ∀ b o, b ≠ l → H b = some o → H' b = some o
theorem But.refl (l : Addr) (H : Hp) : But l H H := fun _ _ _ h => h
theorem But.upd {l : Addr} {H H' : Hp} {o : HO} (h : But l H H') : But l H (L2.upd H' l o) := fun b u n e => by
  rw [upd_ne n]
  exact h b u n e
theorem But.same {l : Addr} {H H' H2 : Hp} (h : But l H H') (s : Same H' H2) : But l H H2 := fun b u n e => s _ _ (h b u n e)
/-- what was not tracked ahead may change -/
theorem But.new {l : Addr} {H H' : Hp} (h : But l H H') (n : H l = none) : Same H H' := fun b u e => h b u (ne_of_none e n) e
/-- small enough to be multiplied -/
def Fits (p : Point) : Prop := (-(2 ^ 64) < p.1 ∧ p.1 < 2 ^ 64) ∧ (-(2 ^ 64) < p.2 ∧ p.2 < 2 ^ 64)
theorem Near.fits {k : Int} {p : Point} (h : Near k p) (hk : k ≤ 100000) : Fits p := by
  unfold Near at h
  unfold Fits
  omega
theorem Near.mono {k j : Int} {p : Point} (h : Near k p) (hk : k ≤ j) : Near j p := by
  unfold Near at *
  omega
/-! ### a def that may be called by its name -/
structure Cal (P : Program) (w : World) (K : PySem.W.Frag) (mg : Str → Option Value) (base : Heap) (k : Nat) (x : Str) (sp : Sp) : Prop where
  ex : ∃ (f : Addr) (fd : FuncData) (ps : List Str), FnOk P w K mg base CX0 k f fd ps sp ∧ mg x = some (.ref f) ∧ PySem.W.keepIn K (.ref f) = true ∧ Binds K fd ps []
/-- what the end finds of a def of the module -/
structure Dfn (K : PySem.W.Frag) (mg : Str → Option Value) (x : Str) (st : Stmt) (ps : List Str) : Prop where
  ex : ∃ (f : Addr) (fd : FuncData), Fun K x x st f fd ∧ mg x = some (.ref f) ∧ PySem.W.keepIn K (.ref f) = true ∧ Binds K fd ps []
theorem Dfn.cal {P : Program} {w : World} {K : PySem.W.Frag} {mg : Str → Option Value} {base : Heap} {k : Nat} {x : Str} {st : Stmt} {ps : List Str} {sp : Sp} (D : Dfn K mg x st ps)
    (h : ∀ f fd, Fun K x x st f fd → FnOk P w K mg base CX0 k f fd ps sp) : Cal P w K mg base k x sp := by
  obtain ⟨f, fd, F, m, q, b⟩ := D.ex
  exact ⟨f, fd, ps, h f fd F, m, q, b⟩
section
variable {X : Cx} {k j : Nat} {x : Str} {sp : Sp} {p pos : Pos} {e : Expr} {es : List Expr} {t : TA}
theorem pe_c (c : Cal X.prog X.w X.K X.mg X.base k x sp) (hr : Room j X.A) (ha : PA X (e :: es) t) (hk : k ≤ j := by decide) (hg : Gl X x := by rfl)
    (hdb : (x == ("__debug__" : Str)) = false := by decide) (he : starEach (e :: es) X.env = (false, eval e X.env) :: starEach es X.env := by rfl) (hpl : (backTo pos (starEach es X.env)).any (·.1) = false := by rfl) :
    PE X (.Call (.Name x p) (e :: es) [] pos) (tCall sp [] E0 t) := by
  obtain ⟨f, fd, ps, F, hm, kp, b⟩ := c.ex
  exact pe_call F (hr.mono hk) hg hm kp b .nil pass0 ha hdb he hpl
end
theorem ne_int (x y : Int) : (!decide (V.int x = V.int y)) = !decide (x = y) := by
  have : decide (V.int x = V.int y) = decide (x = y) := decide_eq_decide.mpr ⟨fun h => by injection h, fun h => by rw [h]⟩
  rw [this]
theorem eq_int (x y : Int) : decide (V.int x = V.int y) = decide (x = y) := decide_eq_decide.mpr ⟨fun h => by injection h, fun h => by rw [h]⟩
theorem ifT {c : Bool} {A B : Prop} (hc : c = true) (h : A) : if c = true then A else B := by
  rw [if_pos hc]
  exact h
theorem ifF {c : Bool} {A B : Prop} (hc : c = false) (h : B) : if c = true then A else B := by
  rw [hc, if_neg Bool.false_ne_true]
  exact h
theorem if2 {c : Bool} {A B : Prop} (h1 : c = true → A) (h2 : c = false → B) : if c = true then A else B := by
  cases c with
  | true => exact ifT rfl (h1 rfl)
  | false => exact ifF rfl (h2 rfl)
/-- what the top leaves unbound -/
structure Bui (mg : Str → Option Value) : Prop where
  len : mg "len" = none
  abs : mg "abs" = none
  range : mg "range" = none
  max : mg "max" = none
  min : mg "min" = none
end My
namespace My
open PySem PySem.Spec PyProof.Rows L2
open Sq69 (Point det single)
abbrev sCross : Stmt := top 1
abbrev sGcd : Stmt := top 2
abbrev sBeside : Stmt := top 3
abbrev sSecond : Stmt := top 4
def spCross : Sp := fun vs H Q _ => ∃ (a b : Addr) (p r : Point), vs = [.ref a, .ref b] ∧ Pt H a p ∧ Pt H b r ∧ (Fits p ∨ Fits r) ∧ Q (.int (det p r)) H
def spGcd : Sp := fun vs H Q _ => ∃ (a : Addr) (p : Point), vs = [.ref a] ∧ Pt H a p ∧ Q (.int (gcdI p)) H
def spBeside : Sp := fun vs H Q _ => ∃ (a : Addr) (u : Point), vs = [.ref a] ∧ Pt H a u ∧ single u = true ∧ Near 1000 u ∧ ∀ H' p w, Same H H' → Pt H' p w → det u w = 1 → Q (.ref p) H'
def spSecond : Sp := fun vs H Q _ => ∃ (a b : Addr) (u v : Point), vs = [.ref a, .ref b] ∧ Pt H a u ∧ Pt H b v ∧ single u = true ∧ 0 < det u v ∧ Near 1000 u ∧ Near 1000 v ∧
  ∀ H' p, Same H H' → Pt H' p (Sq69.Cone.second ⟨u, v⟩) → Q (.ref p) H'
theorem beside_end {u : Point} (h : single u = true) : u.1 ≠ 0 → ∃ x : Nat, (1 + u.2 * (x : Int)).fmod u.1 = 0 := by
  intro h0
  have b := bz h
  generalize (Sq69.bezout (u.1.natAbs + u.2.natAbs + 2) u.1 u.2).1 = s at b
  generalize (Sq69.bezout (u.1.natAbs + u.2.natAbs + 2) u.1 u.2).2 = t at b
  have b' : u.1 * s + u.2 * t = 1 := by
    unfold det at b
    grind
  refine ⟨((-t) % u.1).toNat, ?_⟩
  have hm := Int.emod_nonneg (-t) h0
  rw [Int.toNat_of_nonneg hm]
  have hd := Int.emod_def (-t) u.1
  have e : 1 + u.2 * ((-t) % u.1) = u.1 * (s - u.2 * ((-t) / u.1)) := by
    rw [hd]
    grind
  rw [e]
  exact Int.mul_fmod_right _ _
section
variable {P : Program} {w : World} {K : PySem.W.Frag} {mg : Str → Option Value} {base : Heap}
theorem scCross : FnScope ["p", "r"] ["p", "r"] (defScope sCross) := ⟨rfl, rfl, rfl, by decide +kernel, rfl, by decide +kernel, by decide +kernel⟩
theorem c_cross (D : Dfn K mg "cross" sCross ["p", "r"]) : Cal P w K mg base 1 "cross" spCross := by
  refine D.cal fun f fd F => F.ok scCross (fun vs H Q E h => ?_) (fun cdv A outer s H vs Q E hr h => ⟨_, pss_one (ps_ret (pe_op op_sub (pe_op op_mul (pe_ix ix_tup (pv 0) pe_int (fun _ _ => rfl)) (pe_ix ix_tup (pv 1) pe_int (fun _ _ => rfl))) (pe_op op_mul (pe_ix ix_tup (pv 0) pe_int (fun _ _ => rfl)) (pe_ix ix_tup (pv 1) pe_int (fun _ _ => rfl))))), ?_⟩)
  · obtain ⟨a, b, p, r, rfl, _⟩ := h
    rfl
  · obtain ⟨a, b, p, r, rfl, h1, h2, h3, k⟩ := h
    refine ⟨_, rfl, a, _, _, _, rfl, rfl, SqT.of h1, rfl, _, rfl, b, _, _, _, rfl, rfl, SqT.of h2, rfl, _, _, rfl, rfl, h3.elim (fun q => .inl q.1) (fun q => .inr q.2), ?_⟩
    refine ⟨_, rfl, a, _, _, _, rfl, rfl, SqT.of h1, rfl, _, rfl, b, _, _, _, rfl, rfl, SqT.of h2, rfl, _, _, rfl, rfl, h3.elim (fun q => .inl q.2) (fun q => .inr q.1), _, _, rfl, rfl, ?_⟩
    exact k
theorem scGcd : FnScope ["point", "greater", "lesser", "rest"] ["point"] (defScope sGcd) := ⟨rfl, rfl, rfl, by decide +kernel, rfl, by decide +kernel, by decide +kernel⟩
theorem c_gcd (D : Dfn K mg "common_divisor" sGcd ["point"]) (B : Bui mg) : Cal P w K mg base 1 "common_divisor" spGcd := by
  refine D.cal fun f fd F => F.ok scGcd (fun vs H Q E h => ?_) (fun cdv A outer s H vs Q E hr h => ⟨_,
    pss_cons (ps_set (i := 1) scGcd.nd rfl (.inl rfl) (pe_callB call_abs (by rfl) B.abs (by decide +kernel) (pa_cons (pe_ix ix_tup (pv 0) pe_int (fun _ _ => rfl)) pa_nil)))
    (pss_cons (ps_set (i := 2) scGcd.nd rfl (.inl rfl) (pe_callB call_abs (by rfl) B.abs (by decide +kernel) (pa_cons (pe_ix ix_tup (pv 0) pe_int (fun _ _ => rfl)) pa_nil)))
    (pss_cons (ps_while PassesOwn.never (pt_cmpR op_ne (pv 2) pe_int (nomark _))
      (pss_cons (ps_set (i := 3) scGcd.nd rfl (.inl rfl) (pe_op op_modN (pv 1) (pv 2)))
      (pss_cons (ps_set (i := 1) scGcd.nd rfl (.inl rfl) (pv 2))
      (pss_one (ps_set (i := 2) scGcd.nd rfl (.inl rfl) (pv 3))))))
    (pss_one (ps_ret (pv 1))))), ?_⟩)
  · obtain ⟨a, p, rfl, _⟩ := h
    rfl
  · obtain ⟨a, p, rfl, h1, k⟩ := h
    refine ⟨_, rfl, a, _, _, _, rfl, rfl, SqT.of h1, rfl, _, rfl, ?_⟩
    refine ⟨_, rfl, a, _, _, _, rfl, rfl, SqT.of h1, rfl, _, rfl, ?_⟩
    refine ⟨fun m σ H' => ∃ (x y : Int) (r : Option V), σ = [some (.ref a), some (.int x), some (.int y), r] ∧ H' = H ∧ 0 ≤ x ∧ 0 ≤ y ∧ ((Nat.gcd x.natAbs y.natAbs : Nat) : Int) = gcdI p ∧ m = y.toNat, ⟨_, _, _, none, rfl, rfl, ?_, ?_, ?_, rfl⟩, ?_⟩
    · split <;> omega
    · split <;> omega
    · unfold gcdI
      congr 2
      · split <;> omega
      · split <;> omega
    · rintro m σ H' ⟨x, y, r, rfl, rfl, hx, hy, hg, rfl⟩
      refine ⟨_, rfl, rfl, _, rfl, ?_⟩
      rw [ne_int]
      refine if2 (fun q => ?_) (fun q => ?_)
      · have hy0 : y ≠ 0 := by simpa using q
        refine ⟨fun σ' H2 => ∃ m', m' < y.toNat ∧ ∃ (x y : Int) (r : Option V), σ' = [some (.ref a), some (.int x), some (.int y), r] ∧ H2 = H' ∧ 0 ≤ x ∧ 0 ≤ y ∧ ((Nat.gcd x.natAbs y.natAbs : Nat) : Int) = gcdI p ∧ m' = y.toNat, fun _ _ z => z, ?_⟩
        refine ⟨_, rfl, _, rfl, _, _, rfl, rfl, hy0, ?_⟩
        refine ⟨_, rfl, _, rfl, ?_⟩
        have e : x.fmod y = x % y := Int.fmod_eq_emod_of_nonneg x hy
        have m1 := Int.emod_nonneg x hy0
        have m2 := Int.emod_lt_of_pos x (b := y) (by omega)
        refine ⟨(x.fmod y).toNat, by rw [e]; omega, y, x.fmod y, _, rfl, rfl, hy, by rw [e]; exact m1, ?_, rfl⟩
        rw [e, ← hg]
        congr 1
        rw [Int.natAbs_emod_of_nonneg hx, Nat.gcd_comm, ← Nat.gcd_rec, Nat.gcd_comm]
      · have hy0 : y = 0 := by simpa using q
        refine ⟨_, rfl, ?_⟩
        subst hy0
        have e : x = gcdI p := by
          rw [← hg]
          simp
          omega
        rw [e]
        exact k
theorem scBeside : FnScope ["u", "x"] ["u"] (defScope sBeside) := ⟨rfl, rfl, rfl, by decide +kernel, rfl, by decide +kernel, by decide +kernel⟩
theorem c_beside (D : Dfn K mg "beside" sBeside ["u"]) : Cal P w K mg base 1 "beside" spBeside := by
  refine D.cal fun f fd F => F.ok scBeside (fun vs H Q E h => ?_) (fun cdv A outer s H vs Q E hr h => ⟨_,
    pss_cons (ps_if (pt_cmpR op_eq (pe_ix ix_tup (pv 0) pe_int (fun _ _ => rfl)) pe_int (nomark _)) (pss_one (ps_ret (pe_tup (pa_cons (pe_un un_neg (pe_ix ix_tup (pv 0) pe_int (fun _ _ => rfl))) (pa_cons pe_int pa_nil))))) pss_nil)
    (pss_cons (ps_set (i := 1) scBeside.nd rfl (.inl rfl) pe_int)
    (pss_cons (ps_while PassesOwn.never (pt_cmpR op_ne (pe_op op_modN (pe_op op_add pe_int (pe_op op_mul (pe_ix ix_tup (pv 0) pe_int (fun _ _ => rfl)) (pv 1))) (pe_ix ix_tup (pv 0) pe_int (fun _ _ => rfl))) pe_int (nomark _))
      (pss_one (ps_set (i := 1) scBeside.nd rfl (.inl rfl) (pe_op op_add (pv 1) pe_int))))
    (pss_one (ps_ret (pe_tup (pa_cons (pv 1) (pa_cons (pe_op op_fdivN (pe_op op_add pe_int (pe_op op_mul (pe_ix ix_tup (pv 0) pe_int (fun _ _ => rfl)) (pv 1))) (pe_ix ix_tup (pv 0) pe_int (fun _ _ => rfl))) pa_nil))))))), ?_⟩)
  · obtain ⟨a, p, rfl, _⟩ := h
    rfl
  · obtain ⟨a, u, rfl, h1, sg, nr, k⟩ := h
    refine ⟨_, rfl, a, _, _, _, rfl, rfl, SqT.of h1, rfl, rfl, _, rfl, ?_⟩
    rw [eq_int]
    refine if2 (fun q => ?_) (fun q => ?_)
    · have h0 : u.1 = 0 := by simpa using q
      refine ⟨_, rfl, a, _, _, _, rfl, rfl, SqT.of h1, rfl, _, rfl, (by show 2 ≤ sizeLine; decide), fun p hp => ?_⟩
      refine k _ p (-u.2, 0) (same_new hp) upd_same ?_
      have hg : u.2.natAbs = 1 := by
        unfold single at sg
        rw [h0] at sg
        simpa using sg
      have h2 : u.2 = 1 ∨ u.2 = -1 := by omega
      show u.1 * 0 - u.2 * (-u.2) = 1
      rcases h2 with e | e <;> rw [e] <;> simp
    · have h0 : u.1 ≠ 0 := by simpa using q
      obtain ⟨X0, hX⟩ := beside_end sg h0
      have nf : -(2 ^ 64) < u.2 ∧ u.2 < 2 ^ 64 := (nr.fits (by decide)).2
      refine ⟨fun m σ H' => ∃ x : Nat, σ = [some (.ref a), some (.int (x : Int))] ∧ H' = H ∧ x ≤ X0 ∧ m = X0 - x, ⟨_, 0, rfl, rfl, Nat.zero_le _, rfl⟩, ?_⟩
      rintro m σ H' ⟨x, rfl, rfl, hx, rfl⟩
      refine ⟨_, rfl, a, _, _, _, rfl, rfl, SqT.of h1, rfl, _, rfl, _, _, rfl, rfl, .inl nf, _, _, rfl, rfl, _, rfl, a, _, _, _, rfl, rfl, SqT.of h1, rfl, _, _, rfl, rfl, h0, rfl, _, rfl, ?_⟩
      rw [ne_int]
      refine if2 (fun q => ?_) (fun q => ?_)
      · have hne : (1 + u.2 * (x : Int)).fmod u.1 ≠ 0 := by simpa using q
        refine ⟨fun σ' H2 => ∃ m', m' < X0 - x ∧ ∃ x : Nat, σ' = [some (.ref a), some (.int (x : Int))] ∧ H2 = H' ∧ x ≤ X0 ∧ m' = X0 - x, fun _ _ z => z, ?_⟩
        have hlt : x < X0 := by
          rcases Nat.lt_or_eq_of_le hx with z | z
          · exact z
          · rw [z] at hne
            exact absurd hX hne
        refine ⟨_, rfl, _, _, rfl, rfl, ?_⟩
        exact ⟨X0 - (x + 1), by omega, x + 1, rfl, rfl, hlt, rfl⟩
      · have he : (1 + u.2 * (x : Int)).fmod u.1 = 0 := by simpa using q
        have nb : u.1.natAbs < 1073741824 := by
          unfold Near at nr
          omega
        refine ⟨_, rfl, _, rfl, a, _, _, _, rfl, rfl, SqT.of h1, rfl, _, rfl, _, _, rfl, rfl, .inl nf, _, _, rfl, rfl, _, rfl, a, _, _, _, rfl, rfl, SqT.of h1, rfl, _, _, rfl, rfl, ⟨h0, nb⟩, (by show 2 ≤ sizeLine; decide), fun p hp => ?_⟩
        refine k _ p ((x : Int), (1 + u.2 * (x : Int)).fdiv u.1) (same_new hp) upd_same ?_
        have hd := Int.mul_fdiv_add_fmod (1 + u.2 * (x : Int)) u.1
        rw [he] at hd
        show u.1 * (1 + u.2 * (x : Int)).fdiv u.1 - u.2 * (x : Int) = 1
        omega
theorem scSecond : FnScope ["u", "v", "w", "times"] ["u", "v"] (defScope sSecond) := ⟨rfl, rfl, rfl, by decide +kernel, rfl, by decide +kernel, by decide +kernel⟩
theorem c_second (D : Dfn K mg "second_point" sSecond ["u", "v"]) (cc : Cal P w K mg base 1 "cross" spCross) (cb : Cal P w K mg base 1 "beside" spBeside) : Cal P w K mg base 2 "second_point" spSecond := by
  refine D.cal fun f fd F => F.ok scSecond (fun vs H Q E h => ?_) (fun cdv A outer s H vs Q E hr h => ⟨_,
    pss_cons (ps_set (i := 2) scSecond.nd rfl (.inl rfl) (pe_c cb hr (pa_cons (pv 0) pa_nil)))
    (pss_cons (ps_set (i := 3) scSecond.nd rfl (.inl rfl) (pe_op op_fdivN (pe_c cc hr (pa_cons (pv 2) (pa_cons (pv 1) pa_nil))) (pe_c cc hr (pa_cons (pv 0) (pa_cons (pv 1) pa_nil)))))
    (pss_one (ps_ret (pe_tup (pa_cons (pe_op op_sub (pe_ix ix_tup (pv 2) pe_int (fun _ _ => rfl)) (pe_op op_mul (pv 3) (pe_ix ix_tup (pv 0) pe_int (fun _ _ => rfl)))) (pa_cons (pe_op op_sub (pe_ix ix_tup (pv 2) pe_int (fun _ _ => rfl)) (pe_op op_mul (pv 3) (pe_ix ix_tup (pv 0) pe_int (fun _ _ => rfl)))) pa_nil)))))), ?_⟩)
  · obtain ⟨a, b, p, r, rfl, _⟩ := h
    rfl
  · obtain ⟨a, b, u, v, rfl, h1, h2, sg, pos, nu, nv, k⟩ := h
    refine ⟨_, rfl, a, u, rfl, h1, sg, nu, fun H1 p w' s1 h3 d1 => ?_⟩
    have fu := nu.fits (by decide)
    have fv := nv.fits (by decide)
    have g1 := h1.same s1
    have g2 := h2.same s1
    refine ⟨_, rfl, _, rfl, p, b, w', v, rfl, h3, g2, .inr fv, _, rfl, _, rfl, a, b, u, v, rfl, g1, g2, .inr fv, _, _, rfl, rfl, ⟨by omega, ?_⟩, ?_⟩
    · have := (det_le nu nv).2
      omega
    · refine ⟨_, rfl, p, _, _, _, rfl, rfl, SqT.of h3, rfl, _, rfl, _, rfl, a, _, _, _, rfl, rfl, SqT.of g1, rfl, _, _, rfl, rfl, .inr fu.1, _, _, rfl, rfl, ?_⟩
      refine ⟨_, rfl, p, _, _, _, rfl, rfl, SqT.of h3, rfl, _, rfl, _, rfl, a, _, _, _, rfl, rfl, SqT.of g1, rfl, _, _, rfl, rfl, .inr fu.2, _, _, rfl, rfl, (by show 2 ≤ sizeLine; decide), fun z hz => ?_⟩
      have e : (det w' v).fdiv (det u v) = det w' v / det u v := Int.fdiv_eq_ediv_of_nonneg _ (Int.le_of_lt pos)
      have q := (second_sec sg pos).unique (sec_of d1 pos)
      refine k _ z (s1.trans (same_new hz)) ?_
      rw [q, ← e]
      exact upd_same
end
end My
namespace My
open PySem PySem.Spec PyProof.Rows L2
open Sq69 (Point det single)
abbrev sLeastPts : Stmt := top 5
abbrev sNumbers : Stmt := top 6
abbrev sToldBy : Stmt := top 7
abbrev sCorners : Stmt := top 8
abbrev sDualEnds : Stmt := top 9
abbrev sQOf : Stmt := top 10
abbrev sChanged : Stmt := top 11
abbrev sKindOf : Stmt := top 12
def spLeastPts : Sp := fun vs H Q _ => ∃ (a b : Addr) (c : Sq69.Cone), vs = [.ref a, .ref b] ∧ Pt H a c.u ∧ Pt H b c.v ∧ Good c ∧ ∀ H' l, Same H H' → Pts H' l (R c.v c.u) → Q (.ref l) H'
/-- what is asked of a list of points -/
structure Row2 (ps : List Point) : Prop where
  near : ∀ x ∈ ps, Near 80 x
  len : ps.length ≤ 3201
  two : 2 ≤ ps.length
theorem Row.two' {u v : Point} {ps : List Point} (r : Row u v ps) : Row2 ps := ⟨r.near, r.len, r.two⟩
def spNumbers : Sp := fun vs H Q _ => ∃ (l : Addr) (ps : List Point), vs = [.ref l] ∧ Pts H l ps ∧ Row2 ps ∧ ∀ H' r, Same H H' → Ints H' r (crosses ps) → Q (.ref r) H'
def spToldBy : Sp := fun vs H Q _ => ∃ (l a : Addr) (ps : List Point) (p : Point), vs = [.ref l, .ref a] ∧ Pts H l ps ∧ Pt H a p ∧ Row2 ps ∧ ∀ H' r out, Same H H' → ToldIs ps p out → Ints H' r out → Q (.ref r) H'
def spCorners : Sp := fun vs H Q _ => ∃ (l : Addr) (ps qs : List Point) (u v : Point), vs = [.ref l] ∧ Pts H l ps ∧ Row2 ps ∧ ps[0]? = some u ∧ ps = qs ++ [v] ∧
  ∀ H' r, Same H H' → Pts H' r (u :: innerTo ps (crosses ps) (crosses ps).length ++ [v]) → Q (.ref r) H'
def spDualEnds : Sp := fun vs H Q _ => ∃ (a b : Addr) (c : Sq69.Cone), vs = [.ref a, .ref b] ∧ Pt H a c.u ∧ Pt H b c.v ∧ ∀ H' l x y, Same H H' → H' l = some (.lst [.ref x, .ref y]) → Pt H' x (Sq69.Cone.dual c).u → Pt H' y (Sq69.Cone.dual c).v → Q (.ref l) H'
def spQOf : Sp := fun vs H Q _ => ∃ (a b : Addr) (u v : Point), vs = [.ref a, .ref b] ∧ Pt H a u ∧ Pt H b v ∧ single u = true ∧ 0 < det u v ∧ Near 1000 u ∧ Near 1000 v ∧
  ∀ H', Same H H' → Q (.int (det (Sq69.Cone.second ⟨u, v⟩) v)) H'
def spChanged : Sp := fun vs H Q _ => ∃ (a : Addr) (p : Point), vs = [.ref a] ∧ Pt H a p ∧ ∀ H' b, Same H H' → Pt H' b (swap p) → Q (.ref b) H'
def spKindOf : Sp := fun vs H Q _ => ∃ (a b : Addr) (c : Sq69.Cone), vs = [.ref a, .ref b] ∧ Pt H a c.u ∧ Pt H b c.v ∧ Good c ∧ ∀ H' l, Same H H' → H l = none → Ints H' l [det c.u c.v, q1 c, q2 c] → Q (.ref l) H'
theorem at_ref {as : List Addr} {j : Nat} {a : Addr} {i : Int} (h : as[j]? = some a) (e : i = (j : Int)) : atI (as.map V.ref) i = some (.ref a) := by
  rw [e]
  refine atI_nat ?_
  rw [List.getElem?_map, h]
  rfl
theorem at_int {ns : List Int} {j : Nat} {n : Int} {i : Int} (h : ns[j]? = some n) (e : i = (j : Int)) : atI (ns.map V.int) i = some (.int n) := by
  rw [e]
  refine atI_nat ?_
  rw [List.getElem?_map, h]
  rfl
theorem line_big : (100000 : Nat) < sizeLine := by decide
theorem get_some {α : Type} {l : List α} {i : Nat} (h : i < l.length) : ∃ x, l[i]? = some x := ⟨l[i], List.getElem?_eq_getElem h⟩
section
variable {P : Program} {w : World} {K : PySem.W.Frag} {mg : Str → Option Value} {base : Heap}
theorem dp_pt {H : Hp} {a : Addr} {p : Point} (h : Pt H a p) : Dp K H (.ref a) (.tuple [.int p.1, .int p.2]) := .tup (SqT.of h) (.cons (.int _) (.cons (.int _) .nil))
theorem eqv_pt (p r : Point) : PyData.eqv (.tuple [.int p.1, .int p.2]) (.tuple [.int r.1, .int r.2]) = decide (p = r) := by
  rw [Bool.eq_iff_iff]
  simp [PyData.eqv, PyData.eqvAll, Prod.ext_iff]
theorem scLeastPts : FnScope ["u", "v", "points"] ["u", "v"] (defScope sLeastPts) := ⟨rfl, rfl, rfl, by decide +kernel, rfl, by decide +kernel, by decide +kernel⟩
theorem c_leastPts (D : Dfn K mg "least_points" sLeastPts ["u", "v"]) (cs : Cal P w K mg base 2 "second_point" spSecond) : Cal P w K mg base 3 "least_points" spLeastPts := by
  refine D.cal fun f fd F => F.ok scLeastPts (fun vs H Q E h => ?_) (fun cdv A outer s H vs Q E hr h => ⟨_,
    pss_cons (ps_set (i := 2) scLeastPts.nd rfl (.inl rfl) (pe_lst (pa_cons (pv 0) pa_nil)))
    (pss_cons (ps_while PassesOwn.never (pt_cmpR (op_neD hr.units) (pe_ix ix_list (pv 2) (pe_un un_neg pe_int) (fun _ _ => rfl)) (pv 1) (nomark _))
      (pss_one (ps_expr (pe_bm PySem.F.plainAttrs_list PySem.F.slot_list_append PySem.F.type_list_append mt_append (pv 2)
        (pa_cons (pe_c cs hr (pa_cons (pe_ix ix_list (pv 2) (pe_un un_neg pe_int) (fun _ _ => rfl)) (pa_cons (pv 1) pa_nil))) pa_nil)))))
    (pss_one (ps_ret (pv 2)))), ?_⟩)
  · obtain ⟨a, b, c, rfl, _⟩ := h
    rfl
  · obtain ⟨a, b, c, rfl, h1, h2, g, k⟩ := h
    refine ⟨_, rfl, (by show 1 ≤ sizeLine; decide), fun l hl => ?_⟩
    have row := g.row
    refine ⟨fun m σ H' => ∃ (as : List Addr) (ca : Addr) (pre : List Point) (cur : Point), σ = [some (.ref a), some (.ref b), some (.ref l)] ∧ Same H H' ∧ H' l = some (.lst (as.map V.ref ++ [V.ref ca])) ∧ Ats H' as pre ∧ Pt H' ca cur ∧
      pre ++ R c.v cur = R c.v c.u ∧ single cur = true ∧ (cur = c.v ∨ 0 < det cur c.v) ∧ In c.u c.v cur ∧ m = (det cur c.v).toNat,
      ⟨_, [], a, [], c.u, rfl, same_new hl, upd_same, trivial, h1.same (same_new hl), rfl, g.su, .inr g.pos, In.self g.pos, rfl⟩, ?_⟩
    rintro m σ H' ⟨as, ca, pre, cur, rfl, sm, hL, hA, hC, eR, sc, hp, hi, rfl⟩
    have hb : Pt H' b c.v := h2.same sm
    refine ⟨_, rfl, _, rfl, l, _, _, _, rfl, rfl, SqL.of hL, atI_last _ _, _, rfl, _, _, dp_pt hC, dp_pt hb, rfl, rfl, _, rfl, ?_⟩
    rw [eqv_pt]
    refine if2 (fun q => ?_) (fun q => ?_)
    · have ne : ¬ cur = c.v := by simpa using q
      have pos : 0 < det cur c.v := hp.resolve_left ne
      refine ⟨_, fun _ _ z => z, ?_⟩
      refine ⟨_, rfl, .inl ⟨rfl, _, SqL.of hL⟩, _, rfl, _, rfl, l, _, _, _, rfl, rfl, SqL.of hL, atI_last _ _, _, rfl, ca, b, cur, c.v, rfl, hC, hb, sc, pos, (hi.near g.pos g.nu g.nv).mono (by decide), g.nv.mono (by decide), fun H2 p s2 hP => ?_⟩
      have s2' := second_sec sc pos
      have hl2 := s2'.lo
      have hh2 := s2'.hi
      have eR2 : pre ++ [cur] ++ R c.v (Sq69.Cone.second ⟨cur, c.v⟩) = R c.v c.u := by
        rw [← eR, R_step g.sv sc pos ne]
        simp
      have lp : pre.length ≤ 3201 := by
        have := row.len
        rw [← eR, List.length_append] at this
        omega
      refine ⟨l, _, _, rfl, rfl, s2 _ _ hL, ?_, ?_⟩
      · rw [List.length_append, List.length_map, hA.len]
        exact Nat.lt_of_le_of_lt (Nat.add_le_add lp (Nat.le_refl 1)) (by decide)
      · have hL2 := s2 _ _ hL
        refine ⟨(det (Sq69.Cone.second ⟨cur, c.v⟩) c.v).toNat, ?_, as ++ [ca], p, pre ++ [cur], Sq69.Cone.second ⟨cur, c.v⟩, rfl, ?_, ?_, ?_, hP.upd hL2, eR2, s2'.sg, sec_end g.sv pos s2', hi.next g.pos pos s2', rfl⟩
        · omega
        · exact But.new (But.upd (l := l) (H := H) (H' := H2) fun b o n e => s2 _ _ (sm b o e)) hl
        · rw [upd_same, List.map_append]
          rfl
        · exact ((hA.same s2).app (show Ats H2 [ca] [cur] from ⟨hC.same s2, trivial⟩)).upd hL2
    · have e : cur = c.v := by simpa using q
      refine ⟨_, rfl, k _ l sm ⟨as ++ [ca], ?_, ?_⟩⟩
      · rw [hL, List.map_append]
        rfl
      · rw [← eR, e, R_v]
        rw [e] at hC
        exact hA.app ⟨hC, trivial⟩
theorem scNumbers : FnScope ["points", "i"] ["points"] (defScope sNumbers) := ⟨rfl, rfl, rfl, by decide +kernel, rfl, by decide +kernel, by decide +kernel⟩
theorem c_numbers (D : Dfn K mg "numbers_of" sNumbers ["points"]) (B : Bui mg) (cc : Cal P w K mg base 1 "cross" spCross) : Cal P w K mg base 2 "numbers_of" spNumbers := by
  refine D.cal fun f fd F => F.ok scNumbers (fun vs H Q E h => ?_) (fun cdv A outer s H vs Q E hr h => ⟨_,
    pss_one (ps_ret (pe_lc (own := [("i", 1)]) (g := gName 1) (tt := tYes) rfl scNumbers.nd
      (pi_range2 (by rfl) B.range (pa_cons pe_int (pa_cons (pe_op op_sub (pe_callB call_len_seq (by rfl) B.len PySem.boot_len (pa_cons (pv 0) pa_nil)) pe_int) pa_nil)))
      (blkOk_by (own := [("i", 1)]) (N := ["points", "i"]) (sc := defScope sNumbers) (by decide +kernel))
      (fun _ _ _ _ _ => pg_name (i := 1) scNumbers.nd rfl (Or.inl rfl)) (fun _ _ _ _ _ => pts_nil)
      (fun _ _ _ _ _ => pe_c cc hr (pa_cons (pe_ix (show IxR _ (rIxL K) from ix_list) (pv 0) (pe_op op_sub (pv 1) pe_int) (fun _ _ => rfl)) (pa_cons (pe_ix (show IxR _ (rIxL K) from ix_list) (pv 0) (pe_op op_add (pv 1) pe_int) (fun _ _ => rfl)) pa_nil))))), ?_⟩)
  · obtain ⟨a, c, rfl, _⟩ := h
    rfl
  · obtain ⟨l, ps, rfl, ⟨as, hL, hA⟩, row, k⟩ := h
    have hlen := hA.len
    have h2 := row.two
    have h3 := row.len
    refine ⟨_, rfl, l, _, rfl, .inl (SqL.of hL), _, _, rfl, rfl, _, _, rfl, ⟨by omega, by omega, ?_, ?_⟩, fun D hD => ?_⟩
    · rw [List.length_map, hlen]; omega
    · rw [List.length_map, hlen]; omega
    have en : (((as.map V.ref).length : Int) - 1 - 1).toNat = ps.length - 2 := by
      rw [List.length_map, hlen]
      omega
    rw [en]
    refine lc_range (lo := 1) (n := ps.length - 2) (fun i H' => Same H H' ∧ H' D = some (.lst (((crosses ps).take i).map V.int))) ⟨same_new hD, upd_same⟩ ?_ ?_
    · rintro i H' hi ⟨sm, hd⟩
      obtain ⟨x, hx⟩ := get_some (l := ps) (i := i) (by omega)
      obtain ⟨z, hz⟩ := get_some (l := ps) (i := i + 2) (by omega)
      obtain ⟨xa, ha, hpx⟩ := hA.get hx
      obtain ⟨za, hb, hpz⟩ := hA.get hz
      refine ⟨rfl, iteT (B := Same H H' ∧ H' D = some (HO.lst (List.map V.int (List.take (i + 1) (crosses ps))))) ?_⟩
      refine ⟨_, rfl, _, rfl, _, _, rfl, rfl, l, _, _, _, rfl, rfl, SqL.of (sm _ _ hL), at_ref ha (by omega), ?_⟩
      refine ⟨_, rfl, _, rfl, _, _, rfl, rfl, l, _, _, _, rfl, rfl, SqL.of (sm _ _ hL), at_ref hb (by omega), ?_⟩
      refine ⟨xa, za, x, z, rfl, hpx.same sm, hpz.same sm, .inl ((row.near x (List.mem_of_getElem? hx)).fits (by decide)), ?_⟩
      have nx : (crosses ps)[i]? = some (det x z) := crosses_at hx hz
      refine ⟨_, hd, ?_, ?_, ?_⟩
      · rw [List.length_map, List.length_take]
        exact Nat.lt_of_le_of_lt (Nat.le_trans (Nat.min_le_left _ _) (show i ≤ 100000 by omega)) line_big
      · exact But.new (But.upd (l := D) (H := H) (H' := H') fun b o n e => sm b o e) hD
      · rw [upd_same, take_more nx, List.map_append]
        rfl
    · rintro H' ⟨sm, hd⟩
      refine k _ D sm ?_
      rw [List.take_of_length_le (by rw [crosses_len]; exact Nat.le_refl _)] at hd
      exact hd
theorem scToldBy : FnScope ["points", "point", "i", "first", "second"] ["points", "point"] (defScope sToldBy) := ⟨rfl, rfl, rfl, by decide +kernel, rfl, by decide +kernel, by decide +kernel⟩
theorem c_toldBy (D : Dfn K mg "told_by" sToldBy ["points", "point"]) (B : Bui mg) (cc : Cal P w K mg base 1 "cross" spCross) : Cal P w K mg base 2 "told_by" spToldBy := by
  refine D.cal fun f fd F => F.ok scToldBy (fun vs H Q E h => ?_) (fun cdv A outer s H vs Q E hr h => ⟨_,
    pss_cons (ps_for PassesOwn.never rfl (pi_range1 (by rfl) B.range (pa_cons (pe_op op_sub (pe_callB call_len_seq (by rfl) B.len PySem.boot_len (pa_cons (pv 0) pa_nil)) pe_int) pa_nil)) (pg_name (i := 2) scToldBy.nd rfl (.inl rfl))
      (pss_cons (ps_set (i := 3) scToldBy.nd rfl (.inl rfl) (pe_c cc hr (pa_cons (pv 1) (pa_cons (pe_ix ix_list (pv 0) (pe_op op_add (pv 2) pe_int) (fun _ _ => rfl)) pa_nil))))
      (pss_cons (ps_set (i := 4) scToldBy.nd rfl (.inl rfl) (pe_c cc hr (pa_cons (pe_ix ix_list (pv 0) (pv 2) (fun _ _ => rfl)) (pa_cons (pv 1) pa_nil))))
      (pss_one (ps_if (PW.pt (pw_and (pt_cmpR op_ge (pv 3) pe_int (nomark _)) (pw_and1 (pt_cmpR op_ge (pv 4) pe_int (nomark _)))))
        (pss_one (ps_ret (pe_lst (pa_cons (pv 2) (pa_cons (pv 3) (pa_cons (pv 4) pa_nil)))))) pss_nil)))))
    (pss_one (ps_ret (pe_lst pa_nil))), ?_⟩)
  · obtain ⟨a, c, _, _, rfl, _⟩ := h
    rfl
  · obtain ⟨l, a, ps, p, rfl, ⟨as, hL, hA⟩, hP, row, k⟩ := h
    have hlen := hA.len
    have h2 := row.two
    have h3 := row.len
    refine ⟨_, rfl, l, _, rfl, .inl (SqL.of hL), _, _, rfl, rfl, _, rfl, ?_, ?_, ?_⟩
    · rw [List.length_map, hlen]; omega
    · rw [List.length_map, hlen]; omega
    have en : (((as.map V.ref).length : Int) - 1).toNat = ps.length - 1 := by
      rw [List.length_map, hlen]
      omega
    rw [en]
    refine for_range (lo := 0) (n := ps.length - 1) (fun i σ H' => ∃ (v1 v2 v3 : Option V), σ = [some (.ref l), some (.ref a), v1, v2, v3] ∧ H' = H ∧ NoHit ps p i) ⟨none, none, none, rfl, rfl, NoHit.zero⟩ ?_ ?_
    · rintro i σ H' hi ⟨v1, v2, v3, rfl, rfl, nh⟩
      obtain ⟨x, hx⟩ := get_some (l := ps) (i := i) (by omega)
      obtain ⟨y, hy⟩ := get_some (l := ps) (i := i + 1) (by omega)
      obtain ⟨xa, ha, hpx⟩ := hA.get hx
      obtain ⟨ya, hb, hpy⟩ := hA.get hy
      have fx := (row.near x (List.mem_of_getElem? hx)).fits (by decide)
      have fy := (row.near y (List.mem_of_getElem? hy)).fits (by decide)
      refine ⟨_, rfl, _, rfl, _, rfl, _, _, rfl, rfl, l, _, _, _, rfl, rfl, SqL.of hL, at_ref hb (by omega), a, ya, p, y, rfl, hP, hpy, .inr fy, ?_⟩
      refine ⟨_, rfl, _, rfl, l, _, _, _, rfl, rfl, SqL.of hL, at_ref ha (by omega), _, rfl, xa, a, x, p, rfl, hpx, hP, .inl fx, ?_⟩
      refine ⟨_, rfl, _, _, rfl, rfl, _, rfl, ?_⟩
      refine if2 (fun q1 => ?_) (fun q1 => ?_)
      · have c1 : 0 ≤ det p y := of_decide_eq_true q1
        refine ⟨_, rfl, _, _, rfl, rfl, _, rfl, ?_⟩
        refine if2 (fun q2 => ?_) (fun q2 => ?_)
        · have c2 : 0 ≤ det x p := of_decide_eq_true q2
          refine ⟨_, rfl, _, rfl, _, rfl, (by show 3 ≤ sizeLine; decide), fun r hr' => ?_⟩
          refine k _ r [(i : Int), det p y, det x p] (same_new hr') (.inr ⟨i, x, y, hx, hy, c2, c1, nh, rfl⟩) ?_
          have e0 : (0 : Int) + (i : Int) = (i : Int) := by omega
          rw [e0]
          exact upd_same
        · have c2 : ¬ 0 ≤ det x p := of_decide_eq_false q2
          exact ⟨_, _, _, rfl, rfl, nh.succ hx hy fun z => c2 z.1⟩
      · have c1 : ¬ 0 ≤ det p y := of_decide_eq_false q1
        exact iteF ⟨_, _, _, rfl, rfl, nh.succ hx hy fun z => c1 z.2⟩
    · rintro σ H' ⟨v1, v2, v3, rfl, rfl, nh⟩
      refine ⟨Nat.zero_le _, fun r hr' => ?_⟩
      exact k _ r [] (same_new hr') (.inl ⟨rfl, nh⟩) upd_same
theorem scCorners : FnScope ["points", "numbers", "corners", "i"] ["points"] (defScope sCorners) := ⟨rfl, rfl, rfl, by decide +kernel, rfl, by decide +kernel, by decide +kernel⟩
theorem c_corners (D : Dfn K mg "corners_of" sCorners ["points"]) (B : Bui mg) (cn : Cal P w K mg base 2 "numbers_of" spNumbers) : Cal P w K mg base 3 "corners_of" spCorners := by
  refine D.cal fun f fd F => F.ok scCorners (fun vs H Q E h => ?_) (fun cdv A outer s H vs Q E hr h => ⟨_,
    pss_cons (ps_set (i := 1) scCorners.nd rfl (.inl rfl) (pe_c cn hr (pa_cons (pv 0) pa_nil)))
    (pss_cons (ps_set (i := 2) scCorners.nd rfl (.inl rfl) (pe_lst (pa_cons (pe_ix ix_list (pv 0) pe_int (fun _ _ => rfl)) pa_nil)))
    (pss_cons (ps_for PassesOwn.never rfl (pi_range1 (by rfl) B.range (pa_cons (pe_callB call_len_seq (by rfl) B.len PySem.boot_len (pa_cons (pv 1) pa_nil)) pa_nil)) (pg_name (i := 3) scCorners.nd rfl (.inl rfl))
      (pss_one (ps_if (pt_cmpR op_gt (pe_ix ix_list (pv 1) (pv 3) (fun _ _ => rfl)) pe_int (nomark _))
        (pss_one (ps_expr (pe_bm PySem.F.plainAttrs_list PySem.F.slot_list_append PySem.F.type_list_append mt_append (pv 2) (pa_cons (pe_ix ix_list (pv 0) (pe_op op_add (pv 3) pe_int) (fun _ _ => rfl)) pa_nil)))) pss_nil)))
    (pss_cons (ps_expr (pe_bm PySem.F.plainAttrs_list PySem.F.slot_list_append PySem.F.type_list_append mt_append (pv 2) (pa_cons (pe_ix ix_list (pv 0) (pe_un un_neg pe_int) (fun _ _ => rfl)) pa_nil)))
    (pss_one (ps_ret (pv 2)))))), ?_⟩)
  · obtain ⟨a, _, _, _, _, rfl, _⟩ := h
    rfl
  · obtain ⟨l, ps, qs, u, v, rfl, ⟨as, hL, hA⟩, row, hu, hv, k⟩ := h
    have hlen := hA.len
    have h2 := row.two
    have h3 := row.len
    refine ⟨_, rfl, l, ps, rfl, ⟨as, hL, hA⟩, row, fun H1 r s1 hR => ?_⟩
    have g1 := s1 _ _ hL
    have gA := hA.same s1
    obtain ⟨ua, ha, hpu⟩ := gA.get hu
    refine ⟨_, rfl, l, _, _, _, rfl, rfl, SqL.of g1, at_ref ha rfl, (by show 1 ≤ sizeLine; decide), fun c hc => ?_⟩
    have kl := crosses_len ps
    have rl : r ≠ c := ne_of_none hR hc
    refine ⟨_, rfl, r, _, rfl, .inl (SqL.of (same_new hc _ _ hR)), _, rfl, ?_, ?_, ?_⟩
    · rw [List.length_map]; omega
    · rw [List.length_map]; omega
    have en : (((crosses ps).map V.int).length : Int).toNat = (crosses ps).length := by
      rw [List.length_map]
      omega
    rw [en]
    refine for_range (lo := 0) (n := (crosses ps).length) (fun i σ H' => ∃ (v1 : Option V), σ = [some (.ref l), some (.ref r), some (.ref c), v1] ∧ But c H1 H' ∧ Pts H' c (u :: innerTo ps (crosses ps) i))
      ⟨none, rfl, fun b o n e => same_new hc _ _ e, [ua], upd_same, hpu.same (same_new hc), trivial⟩ ?_ ?_
    · rintro i σ H' hi ⟨v1, rfl, bt, cs, hC, hAc⟩
      obtain ⟨y, hy⟩ := get_some (l := ps) (i := i + 1) (by omega)
      obtain ⟨n, hn⟩ := get_some (l := crosses ps) (i := i) (by omega)
      obtain ⟨ya, hb, hpy⟩ := gA.get hy
      have bL := bt _ _ (ne_of_none g1 hc) g1
      have bR := bt _ _ rl hR
      have im := innerTo_more hy hn
      refine ⟨_, rfl, _, rfl, r, _, _, _, rfl, rfl, SqL.of bR, at_int hn (by omega), _, _, rfl, rfl, _, rfl, ?_⟩
      refine if2 (fun q => ?_) (fun q => ?_)
      · have c1 : 2 < n := of_decide_eq_true q
        refine ⟨_, rfl, .inl ⟨rfl, _, SqL.of hC⟩, _, rfl, _, rfl, _, _, rfl, rfl, l, _, _, _, rfl, rfl, SqL.of bL, at_ref hb (by omega), c, _, _, rfl, rfl, hC, ?_, ?_⟩
        · rw [List.length_map, hAc.len, List.length_cons]
          have := innerTo_len ps (crosses ps) i
          exact Nat.lt_of_le_of_lt (show _ ≤ 100000 by omega) line_big
        · refine ⟨_, rfl, bt.upd, cs ++ [ya], ?_, ?_⟩
          · rw [upd_same, List.map_append]
            rfl
          · rw [im, if_pos c1]
            refine ((hAc.app (show Ats H' [ya] [y] from ⟨?_, trivial⟩))).upd hC
            exact bt _ _ (ne_of_none hpy hc) hpy
      · have c1 : ¬ 2 < n := of_decide_eq_false q
        refine ⟨_, rfl, bt, cs, hC, ?_⟩
        rw [im, if_neg c1]
        exact hAc
    · rintro σ H' ⟨v1, rfl, bt, cs, hC, hAc⟩
      have bL := bt _ _ (ne_of_none g1 hc) g1
      obtain ⟨va, hva, hpv⟩ := gA.get (i := ps.length - 1) (p := v) (by rw [hv]; simp)
      have hl : atI (as.map V.ref) (-1) = some (V.ref va) := by
        have e1 : as = as.take (as.length - 1) ++ [va] := by
          have := take_more hva
          rw [← hlen, show as.length - 1 + 1 = as.length by omega, List.take_length] at this
          exact this
        rw [e1, List.map_append]
        exact atI_last _ _
      refine ⟨_, rfl, .inl ⟨rfl, _, SqL.of hC⟩, _, rfl, _, rfl, l, _, _, _, rfl, rfl, SqL.of bL, hl, c, _, _, rfl, rfl, hC, ?_, ?_⟩
      · rw [List.length_map, hAc.len, List.length_cons]
        have := innerTo_len ps (crosses ps) (crosses ps).length
        exact Nat.lt_of_le_of_lt (show _ ≤ 100000 by omega) line_big
      · refine ⟨_, rfl, k _ c ?_ ⟨cs ++ [va], ?_, ?_⟩⟩
        · exact s1.trans (But.new (But.upd bt) hc)
        · rw [upd_same, List.map_append]
          rfl
        · refine ((hAc.app (show Ats H' [va] [v] from ⟨?_, trivial⟩))).upd hC
          exact bt _ _ (ne_of_none hpv hc) hpv
theorem scDualEnds : FnScope ["u", "v"] ["u", "v"] (defScope sDualEnds) := ⟨rfl, rfl, rfl, by decide +kernel, rfl, by decide +kernel, by decide +kernel⟩
theorem c_dualEnds (D : Dfn K mg "dual_ends" sDualEnds ["u", "v"]) : Cal P w K mg base 1 "dual_ends" spDualEnds := by
  refine D.cal fun f fd F => F.ok scDualEnds (fun vs H Q E h => ?_) (fun cdv A outer s H vs Q E hr h => ⟨_,
    pss_one (ps_ret (pe_lst (pa_cons (pe_tup (pa_cons (pe_ix ix_tup (pv 1) pe_int (fun _ _ => rfl)) (pa_cons (pe_un un_neg (pe_ix ix_tup (pv 1) pe_int (fun _ _ => rfl))) pa_nil)))
      (pa_cons (pe_tup (pa_cons (pe_un un_neg (pe_ix ix_tup (pv 0) pe_int (fun _ _ => rfl))) (pa_cons (pe_ix ix_tup (pv 0) pe_int (fun _ _ => rfl)) pa_nil))) pa_nil)))), ?_⟩)
  · obtain ⟨a, b, c, rfl, _⟩ := h
    rfl
  · obtain ⟨a, b, c, rfl, h1, h2, k⟩ := h
    refine ⟨_, rfl, b, _, _, _, rfl, rfl, SqT.of h2, rfl, _, rfl, b, _, _, _, rfl, rfl, SqT.of h2, rfl, _, rfl, (by show 2 ≤ sizeLine; decide), fun x hx => ?_⟩
    refine ⟨_, rfl, a, _, _, _, rfl, rfl, SqT.of (h1.same (same_new hx)), rfl, _, rfl, _, rfl, a, _, _, _, rfl, rfl, SqT.of (h1.same (same_new hx)), rfl, (by show 2 ≤ sizeLine; decide), fun y hy => ?_⟩
    refine ⟨(by show 2 ≤ sizeLine; decide), fun l hl => ?_⟩
    refine k _ l x y (((same_new hx).trans (same_new hy)).trans (same_new hl)) upd_same ?_ ?_
    · exact Pt.same (same_new hl) (Pt.same (same_new hy) (show Pt _ x _ from upd_same))
    · exact Pt.same (same_new hl) (show Pt _ y _ from upd_same)
theorem scQOf : FnScope ["u", "v"] ["u", "v"] (defScope sQOf) := ⟨rfl, rfl, rfl, by decide +kernel, rfl, by decide +kernel, by decide +kernel⟩
theorem c_qOf (D : Dfn K mg "q_of" sQOf ["u", "v"]) (cc : Cal P w K mg base 1 "cross" spCross) (cs : Cal P w K mg base 2 "second_point" spSecond) : Cal P w K mg base 3 "q_of" spQOf := by
  refine D.cal fun f fd F => F.ok scQOf (fun vs H Q E h => ?_) (fun cdv A outer s H vs Q E hr h => ⟨_,
    pss_one (ps_ret (pe_c cc hr (pa_cons (pe_c cs hr (pa_cons (pv 0) (pa_cons (pv 1) pa_nil))) (pa_cons (pv 1) pa_nil)))), ?_⟩)
  · obtain ⟨a, b, u, v, rfl, _⟩ := h
    rfl
  · obtain ⟨a, b, u, v, rfl, h1, h2, sg, pos, nu, nv, k⟩ := h
    refine ⟨_, rfl, _, rfl, a, b, u, v, rfl, h1, h2, sg, pos, nu, nv, fun H' p sm hp => ?_⟩
    exact ⟨_, rfl, p, b, _, v, rfl, hp, h2.same sm, .inr (nv.fits (by decide)), k _ sm⟩
theorem scChanged : FnScope ["point"] ["point"] (defScope sChanged) := ⟨rfl, rfl, rfl, by decide +kernel, rfl, by decide +kernel, by decide +kernel⟩
theorem c_changed (D : Dfn K mg "changed" sChanged ["point"]) : Cal P w K mg base 1 "changed" spChanged := by
  refine D.cal fun f fd F => F.ok scChanged (fun vs H Q E h => ?_) (fun cdv A outer s H vs Q E hr h => ⟨_,
    pss_one (ps_ret (pe_tup (pa_cons (pe_ix ix_tup (pv 0) pe_int (fun _ _ => rfl)) (pa_cons (pe_ix ix_tup (pv 0) pe_int (fun _ _ => rfl)) pa_nil)))), ?_⟩)
  · obtain ⟨a, p, rfl, _⟩ := h
    rfl
  · obtain ⟨a, p, rfl, h1, k⟩ := h
    refine ⟨_, rfl, a, _, _, _, rfl, rfl, SqT.of h1, rfl, _, rfl, a, _, _, _, rfl, rfl, SqT.of h1, rfl, (by show 2 ≤ sizeLine; decide), fun x hx => ?_⟩
    exact k _ x (same_new hx) upd_same
theorem scKindOf : FnScope ["u", "v"] ["u", "v"] (defScope sKindOf) := ⟨rfl, rfl, rfl, by decide +kernel, rfl, by decide +kernel, by decide +kernel⟩
theorem c_kindOf (D : Dfn K mg "kind_of" sKindOf ["u", "v"]) (cc : Cal P w K mg base 1 "cross" spCross) (cq : Cal P w K mg base 3 "q_of" spQOf) (ch : Cal P w K mg base 1 "changed" spChanged) : Cal P w K mg base 4 "kind_of" spKindOf := by
  refine D.cal fun f fd F => F.ok scKindOf (fun vs H Q E h => ?_) (fun cdv A outer s H vs Q E hr h => ⟨_,
    pss_one (ps_ret (pe_lst (pa_cons (pe_c cc hr (pa_cons (pv 0) (pa_cons (pv 1) pa_nil))) (pa_cons (pe_c cq hr (pa_cons (pv 0) (pa_cons (pv 1) pa_nil)))
      (pa_cons (pe_c cq hr (pa_cons (pe_c ch hr (pa_cons (pv 1) pa_nil)) (pa_cons (pe_c ch hr (pa_cons (pv 0) pa_nil)) pa_nil))) pa_nil))))), ?_⟩)
  · obtain ⟨a, b, c, rfl, _⟩ := h
    rfl
  · obtain ⟨a, b, c, rfl, h1, h2, g, k⟩ := h
    have tn := g.turn
    refine ⟨_, rfl, _, rfl, a, b, c.u, c.v, rfl, h1, h2, .inl (g.nu.fits (by decide)), ?_⟩
    refine ⟨_, rfl, _, rfl, a, b, c.u, c.v, rfl, h1, h2, g.su, g.pos, g.nu.mono (by decide), g.nv.mono (by decide), fun H1 s1 => ?_⟩
    refine ⟨_, rfl, b, c.v, rfl, h2.same s1, fun H2 x s2 hx => ?_⟩
    refine ⟨_, rfl, a, c.u, rfl, h1.same (s1.trans s2), fun H3 y s3 hy => ?_⟩
    refine ⟨x, y, swap c.v, swap c.u, rfl, hx.same s3, hy, tn.1, tn.2.2.1, tn.2.2.2.1.mono (by decide), tn.2.2.2.2.mono (by decide), fun H4 s4 => ?_⟩
    refine ⟨(by show 3 ≤ sizeLine; decide), fun l hl => ?_⟩
    exact k _ l ((((s1.trans s2).trans s3).trans s4).trans (same_new hl)) ((((s1.trans s2).trans s3).trans s4).free hl) upd_same
end
end My
namespace My
open PySem PySem.Spec PyProof.Rows L2
open Sq69 (Point det single Frac less)
abbrev sWInit : Stmt := inClass (top 16) 0
abbrev sLooked : Stmt := inClass (top 16) 1
abbrev sGo : Stmt := inClass (top 16) 2
abbrev sIsBelow : Stmt := top 17
abbrev sBetween : Stmt := top 18
abbrev sWalkTo : Stmt := top 19
/-! ### attributes -/
theorem lkH {k : Str} {v : V} {r : List (Str × V)} : List.lookup k ((k, v) :: r) = some v := by
  simp only [List.lookup, show (k == k) = true from beq_self_eq_true k]
theorem lkP {k g : Str} {v : V} {r : List (Str × V)} (h : (k == g) = false) : List.lookup k ((g, v) :: r) = List.lookup k r := by
  simp only [List.lookup, h]
theorem pfH {f : Str} {v x : V} {r : List (Str × V)} : putF f v ((f, x) :: r) = (f, v) :: r := if_pos rfl
theorem pfP {f g : Str} {v x : V} {r : List (Str × V)} (h : ¬ g = f) : putF f v ((g, x) :: r) = (g, x) :: putF f v r := if_neg h
def wF (u o t : Addr) : List (Str × V) := [("under", .ref u), ("over", .ref o), ("turns", .ref t)]
theorem wF_under (u o t : Addr) : (wF u o t).lookup ("under" : Str) = some (.ref u) := lkH
theorem wF_over (u o t : Addr) : (wF u o t).lookup ("over" : Str) = some (.ref o) := (lkP (by decide +kernel)).trans lkH
theorem wF_turns (u o t : Addr) : (wF u o t).lookup ("turns" : Str) = some (.ref t) := (lkP (by decide +kernel)).trans ((lkP (by decide +kernel)).trans lkH)
theorem wF_looked (u o t : Addr) : (wF u o t).lookup ("looked_at" : Str) = none := (lkP (by decide +kernel)).trans ((lkP (by decide +kernel)).trans ((lkP (by decide +kernel)).trans rfl))
theorem wF_go (u o t : Addr) : (wF u o t).lookup ("go" : Str) = none := (lkP (by decide +kernel)).trans ((lkP (by decide +kernel)).trans ((lkP (by decide +kernel)).trans rfl))
theorem wF_pu (u o t x : Addr) : putF "under" (.ref x) (wF u o t) = wF x o t := pfH
theorem wF_po (u o t x : Addr) : putF "over" (.ref x) (wF u o t) = wF u x t := (pfP (by decide +kernel)).trans (congrArg _ pfH)
theorem wF_new (u o t : Addr) : putF "turns" (.ref t) (putF "over" (.ref o) (putF "under" (.ref u) [])) = wF u o t := by
  have e1 : putF "under" (.ref u) [] = [(("under" : Str), V.ref u)] := rfl
  have e2 : putF "over" (.ref o) [(("under" : Str), V.ref u)] = [(("under" : Str), V.ref u), (("over" : Str), V.ref o)] := (pfP (by decide +kernel)).trans rfl
  rw [e1, e2]
  exact (pfP (by decide +kernel)).trans (congrArg _ ((pfP (by decide +kernel)).trans rfl))
def fp (f : Frac) : Point := ((f.1 : Int), (f.2 : Int))
def mid (lo hi : Frac) : Frac := (lo.1 + hi.1, lo.2 + hi.2)
def WalkAt (C : Addr) (H : Hp) (a t : Addr) (lo hi : Frac) (w : List Nat) : Prop := ∃ dx u o, H a = some (.ins C dx (wF u o t)) ∧ Pt H u (fp lo) ∧ Pt H o (fp hi) ∧ Ints H t (Sq69.ints w)
theorem WalkAt.same {C : Addr} {H H' : Hp} {a t : Addr} {lo hi : Frac} {w : List Nat} (s : Same H H') (h : WalkAt C H a t lo hi w) : WalkAt C H' a t lo hi w := by
  obtain ⟨dx, u, o, h1, h2, h3, h4⟩ := h
  exact ⟨dx, u, o, s _ _ h1, h2.same s, h3.same s, h4.same s⟩
def spWInit (C : Addr) : Sp := fun vs H Q _ => ∃ (p dx : Addr), vs = [.ref p] ∧ H p = some (.ins C dx []) ∧ ∀ H' t, But p H H' → H t = none → WalkAt C H' p t (0, 1) (1, 0) [] → Q .non H'
def spLooked (C : Addr) : Sp := fun vs H Q _ => ∃ (a t : Addr) (lo hi : Frac) (w : List Nat), vs = [.ref a] ∧ WalkAt C H a t lo hi w ∧ ∀ H' p, Same H H' → Pt H' p (fp (mid lo hi)) → Q (.ref p) H'
def spGo (C : Addr) : Sp := fun vs H Q _ => ∃ (a t : Addr) (lo hi : Frac) (w : List Nat) (b : Nat), vs = [.ref a, .int (b : Int)] ∧ WalkAt C H a t lo hi w ∧ w.length ≤ 5000 ∧
  ∀ H', (∀ c o, c ≠ a → c ≠ t → H c = some o → H' c = some o) → WalkAt C H' a t (if b = 1 then mid lo hi else lo) (if b = 1 then hi else mid lo hi) (w ++ [b]) → Q .non H'
def spIsBelow : Sp := fun vs H Q _ => ∃ (a b : Addr) (f s : Frac), vs = [.ref a, .ref b] ∧ Pt H a (fp f) ∧ Pt H b (fp s) ∧ Fits (fp f) ∧ Fits (fp s) ∧ Q (.bl (less f s)) H
def Low (n : Nat) (f : Frac) : Prop := f.1 ≤ n ∧ f.2 ≤ n
theorem Low.fits {n : Nat} {f : Frac} (h : Low n f) (hn : n ≤ 100000) : Fits (fp f) := by
  obtain ⟨h1, h2⟩ := h
  unfold Fits fp
  simp only
  omega
def spBetween (C : Addr) : Sp := fun vs H Q _ => ∃ (a b : Addr) (f s : Frac), vs = [.ref a, .ref b] ∧ Pt H a (fp f) ∧ Pt H b (fp s) ∧ Low 200 f ∧ Low 200 s ∧ 0 < f.2 ∧ f.1 * s.2 < s.1 * f.2 ∧
  ∀ H' x t lo hi w, Same H H' → WalkAt C H' x t lo hi w → w.length ≤ 5000 → Sq69.simplest f s = (mid lo hi, w) → Q (.ref x) H'
def spWalkTo (C : Addr) : Sp := fun vs H Q _ => ∃ (a : Addr) (f : Frac), vs = [.ref a] ∧ Pt H a (fp f) ∧ Low 200 f ∧ 0 < f.1 ∧ 0 < f.2 ∧
  ∀ H' x t lo hi w, Same H H' → WalkAt C H' x t lo hi w → w.length ≤ 5000 → Sq69.wayTo f (f.1 + f.2 + 1) (0, 1) (1, 0) = w → Q (.ref x) H'
/-- the class, its methods as the end finds them -/
structure WTxt (K : PySem.W.Frag) (mg : Str → Option Value) (C : Addr) : Prop where
  cl : Cls K C
  nU : NoAttr K C "under"
  nO : NoAttr K C "over"
  nT : NoAttr K C "turns"
  gC : mg "Walk" = some (.ref C)
  lef : ∃ t, mg "LEFT" = some (.int 0 t)
  rig : ∃ t, mg "RIGHT" = some (.int 1 t)
/-- a method as the end finds it -/
structure Mfn (K : PySem.W.Frag) (C : Addr) (m qual : Str) (st : Stmt) (ps : List Str) : Prop where
  ex : ∃ (f : Addr) (fd : FuncData), Fun K m qual st f fd ∧ Meth K C m f ∧ Binds K fd ps []
/-- a method that may be called -/
structure Met (P : Program) (w : World) (K : PySem.W.Frag) (mg : Str → Option Value) (base : Heap) (k : Nat) (C : Addr) (m : Str) (sp : Sp) : Prop where
  ex : ∃ (f : Addr) (fd : FuncData) (ps : List Str), FnOk P w K mg base CX0 k f fd ps sp ∧ Meth K C m f ∧ Binds K fd ps []
theorem Mfn.met {P : Program} {w : World} {K : PySem.W.Frag} {mg : Str → Option Value} {base : Heap} {k : Nat} {C : Addr} {m qual : Str} {st : Stmt} {ps : List Str} {sp : Sp} (D : Mfn K C m qual st ps)
    (h : ∀ f fd, Fun K m qual st f fd → FnOk P w K mg base CX0 k f fd ps sp) : Met P w K mg base k C m sp := by
  obtain ⟨f, fd, F, q, b⟩ := D.ex
  exact ⟨f, fd, ps, h f fd F, q, b⟩
/-- __init__, as the end finds it; a class that may be made -/
structure Ifn (K : PySem.W.Frag) (C : Addr) (qual : Str) (st : Stmt) (ps : List Str) : Prop where
  ex : ∃ (f : Addr) (fd : FuncData), Fun K "__init__" qual st f fd ∧ Mk K C f ∧ Binds K fd ps []
structure Mak (P : Program) (w : World) (K : PySem.W.Frag) (mg : Str → Option Value) (base : Heap) (k : Nat) (C : Addr) (sp : Sp) : Prop where
  ex : ∃ (f : Addr) (fd : FuncData) (ps : List Str), FnOk P w K mg base CX0 k f fd ps sp ∧ Mk K C f ∧ Binds K fd ps []
theorem Ifn.mak {P : Program} {w : World} {K : PySem.W.Frag} {mg : Str → Option Value} {base : Heap} {k : Nat} {C : Addr} {qual : Str} {st : Stmt} {ps : List Str} {sp : Sp} (D : Ifn K C qual st ps)
    (h : ∀ f fd, Fun K "__init__" qual st f fd → FnOk P w K mg base CX0 k f fd ps sp) : Mak P w K mg base k C sp := by
  obtain ⟨f, fd, F, q, b⟩ := D.ex
  exact ⟨f, fd, ps, h f fd F, q, b⟩
section
variable {P : Program} {w : World} {K : PySem.W.Frag} {mg : Str → Option Value} {base : Heap} {C : Addr}
theorem scWInit : FnScope ["self"] ["self"] (defScope sWInit) := ⟨rfl, rfl, rfl, by decide +kernel, rfl, by decide +kernel, by decide +kernel⟩
theorem m_winit (D : Ifn K C "Walk.__init__" sWInit ["self"]) (T : WTxt K mg C) : Mak P w K mg base 1 C (spWInit C) := by
  refine D.mak fun f fd F => F.ok scWInit (fun vs H Q E h => ?_) (fun cdv A outer s H vs Q E hr h => ⟨_,
    pss_cons (ps_fld (pv 0) (pe_tup (pa_cons pe_int (pa_cons pe_int pa_nil))) rfl)
    (pss_cons (ps_fld (pv 0) (pe_tup (pa_cons pe_int (pa_cons pe_int pa_nil))) rfl)
    (pss_one (ps_fld (pv 0) (pe_lst pa_nil) rfl))), ?_⟩)
  · obtain ⟨a, b, rfl, _⟩ := h
    rfl
  · obtain ⟨p, dx, rfl, hp, k⟩ := h
    refine ⟨(by show 2 ≤ sizeLine; decide), fun u hu => ?_⟩
    have pu : p ≠ u := ne_of_none hp hu
    refine ⟨_, rfl, p, C, dx, [], rfl, (by rw [upd_ne pu]; exact hp), T.cl, T.nU, (by show 0 < 1000; decide), ?_⟩
    refine ⟨(by show 2 ≤ sizeLine; decide), fun o ho => ?_⟩
    have po : p ≠ o := fun q => by
      rw [← q, upd_same] at ho
      cases ho
    have uo : u ≠ o := fun q => by
      rw [← q, upd_ne pu.symm, upd_same] at ho
      cases ho
    have ho0 : H o = none := by
      rw [upd_ne po.symm, upd_ne uo.symm] at ho
      exact ho
    refine ⟨_, rfl, p, C, dx, _, rfl, (by rw [upd_ne po, upd_same]), T.cl, T.nO, (by show 1 < 1000; decide), ?_⟩
    refine ⟨Nat.zero_le _, fun t ht => ?_⟩
    have pT : p ≠ t := fun q => by
      rw [← q, upd_same] at ht
      cases ht
    have uT : u ≠ t := fun q => by
      rw [← q, upd_ne pu.symm, upd_ne uo, upd_ne pu.symm, upd_same] at ht
      cases ht
    have oT : o ≠ t := fun q => by
      rw [← q, upd_ne po.symm, upd_same] at ht
      cases ht
    have ht0 : H t = none := by
      rw [upd_ne pT.symm, upd_ne oT.symm, upd_ne pT.symm, upd_ne uT.symm] at ht
      exact ht
    refine ⟨_, rfl, p, C, dx, _, rfl, (by rw [upd_ne pT, upd_same]), T.cl, T.nT, (by rw [show putF "over" (.ref o) (putF "under" (.ref u) []) = [(("under" : Str), V.ref u), (("over" : Str), V.ref o)] from (pfP (by decide +kernel)).trans rfl]; show 2 < 1000; decide), ?_⟩
    refine k _ t ?_ ht0 ⟨dx, u, o, ?_, ?_, ?_, ?_⟩
    · intro b q hb e
      rw [upd_ne hb, upd_ne (ne_of_none e ht0), upd_ne hb, upd_ne (ne_of_none e ho0), upd_ne hb, upd_ne (ne_of_none e hu)]
      exact e
    · rw [upd_same, wF_new]
    · unfold Pt
      rw [upd_ne pu.symm, upd_ne uT, upd_ne pu.symm, upd_ne uo, upd_ne pu.symm, upd_same]
      rfl
    · unfold Pt
      rw [upd_ne po.symm, upd_ne oT, upd_ne po.symm, upd_same]
      rfl
    · unfold Ints
      rw [upd_ne pT.symm, upd_same]
      rfl
theorem scLooked : FnScope ["self"] ["self"] (defScope sLooked) := ⟨rfl, rfl, rfl, by decide +kernel, rfl, by decide +kernel, by decide +kernel⟩
theorem m_looked (D : Mfn K C "looked_at" "Walk.looked_at" sLooked ["self"]) (T : WTxt K mg C) : Met P w K mg base 1 C "looked_at" (spLooked C) := by
  refine D.met fun f fd F => F.ok scLooked (fun vs H Q E h => ?_) (fun cdv A outer s H vs Q E hr h => ⟨_,
    pss_one (ps_ret (pe_tup (pa_cons (pe_op op_add (pe_ix ix_tup (pe_fld (pv 0) rfl) pe_int (fun _ _ => rfl)) (pe_ix ix_tup (pe_fld (pv 0) rfl) pe_int (fun _ _ => rfl)))
      (pa_cons (pe_op op_add (pe_ix ix_tup (pe_fld (pv 0) rfl) pe_int (fun _ _ => rfl)) (pe_ix ix_tup (pe_fld (pv 0) rfl) pe_int (fun _ _ => rfl))) pa_nil)))), ?_⟩)
  · obtain ⟨a, _, _, _, _, rfl, _⟩ := h
    rfl
  · obtain ⟨a, t, lo, hi, w', rfl, ⟨dx, u, o, h1, h2, h3, h4⟩, k⟩ := h
    refine ⟨_, rfl, a, C, dx, _, _, rfl, h1, T.cl, T.nU, wF_under _ _ _, u, _, _, _, rfl, rfl, SqT.of h2, rfl, ?_⟩
    refine ⟨_, rfl, a, C, dx, _, _, rfl, h1, T.cl, T.nO, wF_over _ _ _, o, _, _, _, rfl, rfl, SqT.of h3, rfl, _, _, rfl, rfl, ?_⟩
    refine ⟨_, rfl, a, C, dx, _, _, rfl, h1, T.cl, T.nU, wF_under _ _ _, u, _, _, _, rfl, rfl, SqT.of h2, rfl, ?_⟩
    refine ⟨_, rfl, a, C, dx, _, _, rfl, h1, T.cl, T.nO, wF_over _ _ _, o, _, _, _, rfl, rfl, SqT.of h3, rfl, _, _, rfl, rfl, (by show 2 ≤ sizeLine; decide), fun p hp => ?_⟩
    exact k _ p (same_new hp) upd_same
theorem scGo : FnScope ["self", "turn"] ["self", "turn"] (defScope sGo) := ⟨rfl, rfl, rfl, by decide +kernel, rfl, by decide +kernel, by decide +kernel⟩
theorem m_go (D : Mfn K C "go" "Walk.go" sGo ["self", "turn"]) (T : WTxt K mg C) (ml : Met P w K mg base 1 C "looked_at" (spLooked C)) : Met P w K mg base 2 C "go" (spGo C) := by
  obtain ⟨fl, fdl, psl, GL, mL, bL⟩ := ml.ex
  obtain ⟨tr, hR⟩ := T.rig
  refine D.met fun f fd F => F.ok scGo (fun vs H Q E h => ?_) (fun cdv A outer s H vs Q E hr h => ⟨_,
    pss_cons (ps_if (pt_cmpR op_eq (pv 1) (pe_glob (v := .int 1) rfl hR ⟨_, rfl⟩) (nomark _))
      (pss_one (ps_fld (pv 0) (pe_meth0 (pv 0) T.cl mL GL hr bL .nil pass0) rfl))
      (pss_one (ps_fld (pv 0) (pe_meth0 (pv 0) T.cl mL GL hr bL .nil pass0) rfl)))
    (pss_one (ps_expr (pe_bm PySem.F.plainAttrs_list PySem.F.slot_list_append PySem.F.type_list_append mt_append (pe_fld (pv 0) rfl) (pa_cons (pv 1) pa_nil)))), ?_⟩)
  · obtain ⟨a, _, _, _, _, _, rfl, _⟩ := h
    rfl
  · obtain ⟨a, t, lo, hi, w', b, rfl, hW, hlen, k⟩ := h
    obtain ⟨dx, u, o, h1, h2, h3, h4⟩ := id hW
    refine ⟨_, rfl, rfl, _, rfl, ?_⟩
    rw [eq_int]
    have at_ : a ≠ t := ne_of h1 h4 (by intro z; cases z)
    have fin : ∀ (H1 : Hp) (u' o' : Addr) (lo' hi' : Frac), Same H H1 → Pt H1 u' (fp lo') → Pt H1 o' (fp hi') → (lo' = if b = 1 then mid lo hi else lo) → (hi' = if b = 1 then hi else mid lo hi) →
        Q .non (upd (upd H1 a (.ins C dx (wF u' o' t))) t (.lst ((Sq69.ints w').map V.int ++ [V.int (b : Int)]))) := by
      intro H1 u' o' lo' hi' s1 e1 e2 e3 e4
      rw [← e3, ← e4] at k
      have n1 : H1 a = some (.ins C dx (wF u o t)) := s1 _ _ h1
      have n4 : H1 t = some (.lst ((Sq69.ints w').map V.int)) := s1 _ _ h4
      have ua : u' ≠ a := ne_of e1 n1 (by intro z; cases z)
      have ut : u' ≠ t := ne_of e1 n4 (by intro z; cases z)
      have oa : o' ≠ a := ne_of e2 n1 (by intro z; cases z)
      have ot : o' ≠ t := ne_of e2 n4 (by intro z; cases z)
      refine k _ (fun c q ca ct e => ?_) ⟨dx, u', o', ?_, ?_, ?_, ?_⟩
      · rw [upd_ne ct, upd_ne ca]
        exact s1 _ _ e
      · rw [upd_ne at_, upd_same]
      · unfold Pt
        rw [upd_ne ut, upd_ne ua]
        exact e1
      · unfold Pt
        rw [upd_ne ot, upd_ne oa]
        exact e2
      · unfold Ints
        rw [upd_same]
        unfold Sq69.ints
        rw [List.map_append, List.map_append]
        rfl
    have room : ((Sq69.ints w').map V.int).length < sizeLine := by
      unfold Sq69.ints
      rw [List.length_map, List.length_map]
      exact Nat.lt_of_le_of_lt (show w'.length ≤ 100000 by omega) line_big
    refine if2 (fun q => ?_) (fun q => ?_)
    · have b1 : b = 1 := by
        have := of_decide_eq_true q
        omega
      refine ⟨_, rfl, a, dx, _, rfl, h1, wF_looked _ _ _, a, t, lo, hi, w', rfl, hW, fun H1 p s1 hp => ?_⟩
      refine ⟨_, rfl, a, C, dx, _, rfl, s1 _ _ h1, T.cl, T.nU, (by show 3 < 1000; decide), ?_⟩
      refine ⟨_, rfl, a, C, dx, _, _, rfl, upd_same, T.cl, T.nT, ((congrArg (List.lookup _) (wF_pu u o t p)).trans (wF_turns p o t)), .inl ⟨rfl, _, SqL.of (by rw [upd_ne at_.symm]; exact s1 _ _ h4)⟩, _, rfl, t, _, _, rfl, rfl, (by rw [upd_ne at_.symm]; exact s1 _ _ h4), room, ?_⟩
      rw [wF_pu]
      exact fin H1 p o (mid lo hi) hi s1 hp (h3.same s1) (by rw [if_pos b1]) (by rw [if_pos b1])
    · have b1 : ¬ b = 1 := by
        have := of_decide_eq_false q
        omega
      refine ⟨_, rfl, a, dx, _, rfl, h1, wF_looked _ _ _, a, t, lo, hi, w', rfl, hW, fun H1 p s1 hp => ?_⟩
      refine ⟨_, rfl, a, C, dx, _, rfl, s1 _ _ h1, T.cl, T.nO, (by show 3 < 1000; decide), ?_⟩
      refine ⟨_, rfl, a, C, dx, _, _, rfl, upd_same, T.cl, T.nT, ((congrArg (List.lookup _) (wF_po u o t p)).trans (wF_turns u p t)), .inl ⟨rfl, _, SqL.of (by rw [upd_ne at_.symm]; exact s1 _ _ h4)⟩, _, rfl, t, _, _, rfl, rfl, (by rw [upd_ne at_.symm]; exact s1 _ _ h4), room, ?_⟩
      rw [wF_po]
      exact fin H1 u p lo (mid lo hi) s1 (h2.same s1) hp (by rw [if_neg b1]) (by rw [if_neg b1])
theorem scIsBelow : FnScope ["first", "second"] ["first", "second"] (defScope sIsBelow) := ⟨rfl, rfl, rfl, by decide +kernel, rfl, by decide +kernel, by decide +kernel⟩
theorem c_isBelow (D : Dfn K mg "is_below" sIsBelow ["first", "second"]) : Cal P w K mg base 1 "is_below" spIsBelow := by
  refine D.cal fun f fd F => F.ok scIsBelow (fun vs H Q E h => ?_) (fun cdv A outer s H vs Q E hr h => ⟨_,
    pss_one (ps_ret (pe_cmpR op_lt (pe_op op_mul (pe_ix ix_tup (pv 0) pe_int (fun _ _ => rfl)) (pe_ix ix_tup (pv 1) pe_int (fun _ _ => rfl))) (pe_op op_mul (pe_ix ix_tup (pv 1) pe_int (fun _ _ => rfl)) (pe_ix ix_tup (pv 0) pe_int (fun _ _ => rfl))) (nomark _))), ?_⟩)
  · obtain ⟨a, _, _, _, rfl, _⟩ := h
    rfl
  · obtain ⟨a, b, f', s', rfl, h1, h2, ff, fs, k⟩ := h
    refine ⟨_, rfl, a, _, _, _, rfl, rfl, SqT.of h1, rfl, _, rfl, b, _, _, _, rfl, rfl, SqT.of h2, rfl, _, _, rfl, rfl, .inl ff.1, ?_⟩
    refine ⟨_, rfl, b, _, _, _, rfl, rfl, SqT.of h2, rfl, _, rfl, a, _, _, _, rfl, rfl, SqT.of h1, rfl, _, _, rfl, rfl, .inl fs.1, _, _, rfl, rfl, ?_⟩
    have e : decide ((fp f').1 * (fp s').2 < (fp s').1 * (fp f').2) = less f' s' := by
      unfold less fp
      simp only
      rw [← Int.natCast_mul, ← Int.natCast_mul]
      exact decide_eq_decide.mpr Int.ofNat_lt
    rw [← e] at k
    exact k
end
end My
namespace My
open PySem PySem.Spec PyProof.Rows L2
open Sq69 (Point det single Frac less)
section
variable {P : Program} {w : World} {K : PySem.W.Frag} {mg : Str → Option Value} {base : Heap} {C : Addr}
theorem wk_new {H H1 : Hp} {x dx C : Addr} (nx : H x = none) (ndx : H dx = none) (b : But x (upd (upd H dx (.own x)) x (.ins C dx [])) H1) : Same H H1 := fun c o e =>
  b c o (ne_of_none e nx) (by rw [upd_ne (ne_of_none e nx), upd_ne (ne_of_none e ndx)]; exact e)
theorem but_two {H H1 H2 : Hp} {x t : Addr} (s : Same H H1) (nx : H x = none) (nt : H t = none) (b : ∀ c o, c ≠ x → c ≠ t → H1 c = some o → H2 c = some o) : Same H H2 := fun c o e =>
  b c o (ne_of_none e nx) (ne_of_none e nt) (s c o e)
theorem scBetween : FnScope ["first", "second", "walk", "looked"] ["first", "second"] (defScope sBetween) := ⟨rfl, rfl, rfl, by decide +kernel, rfl, by decide +kernel, by decide +kernel⟩
theorem c_between (D : Dfn K mg "walk_between" sBetween ["first", "second"]) (T : WTxt K mg C) (mk : Mak P w K mg base 1 C (spWInit C)) (ml : Met P w K mg base 1 C "looked_at" (spLooked C)) (mgo : Met P w K mg base 2 C "go" (spGo C))
    (cb : Cal P w K mg base 1 "is_below" spIsBelow) : Cal P w K mg base 3 "walk_between" (spBetween C) := by
  obtain ⟨fi, fdi, psi, GI, mI, bI⟩ := mk.ex
  obtain ⟨fl, fdl, psl, GL, mL, bL⟩ := ml.ex
  obtain ⟨fg, fdg, psg, GG, mG, bG⟩ := mgo.ex
  obtain ⟨tl, hLf⟩ := T.lef
  obtain ⟨tr, hRt⟩ := T.rig
  refine D.cal fun f fd F => F.ok scBetween (fun vs H Q E h => ?_) (fun cdv A outer s H vs Q E hr h => ⟨_,
    pss_cons (ps_set (i := 2) scBetween.nd rfl (.inl rfl) (pe_make0 mI GI (hr.mono (by decide)) rfl T.gC bI .nil pass0))
    (pss_cons (ps_set (i := 3) scBetween.nd rfl (.inl rfl) (pe_meth0 (pv 2) T.cl mL GL (hr.mono (by decide)) bL .nil pass0))
    (pss_cons (ps_while PassesOwn.never (pt_not (PW.pt (pw_and (pt_val (pe_c cb hr (pa_cons (pv 0) (pa_cons (pv 3) pa_nil)))) (pw_and1 (pt_val (pe_c cb hr (pa_cons (pv 3) (pa_cons (pv 1) pa_nil))))))))
      (pss_cons (ps_if (pt_val (pe_c cb hr (pa_cons (pv 0) (pa_cons (pv 3) pa_nil))))
        (pss_one (ps_expr (pe_meth (pv 2) T.cl mG GG (hr.mono (by decide)) bG .nil pass0 (pa_cons (pe_glob (v := .int 0) rfl hLf ⟨_, rfl⟩) pa_nil))))
        (pss_one (ps_expr (pe_meth (pv 2) T.cl mG GG (hr.mono (by decide)) bG .nil pass0 (pa_cons (pe_glob (v := .int 1) rfl hRt ⟨_, rfl⟩) pa_nil)))))
      (pss_one (ps_set (i := 3) scBetween.nd rfl (.inl rfl) (pe_meth0 (pv 2) T.cl mL GL (hr.mono (by decide)) bL .nil pass0)))))
    (pss_one (ps_ret (pv 2))))), ?_⟩)
  · obtain ⟨a, b, _, _, rfl, _⟩ := h
    rfl
  · obtain ⟨a, b, f, s', rfl, h1, h2, lf, ls, f0, lt, k⟩ := h
    intro x dx nx ndx nex
    refine ⟨x, dx, rfl, upd_same, fun H1 t bt nt hW => ⟨rfl, ?_⟩⟩
    have nt0 : H t = none := by
      have q1 : t ≠ x := fun q => by
        rw [q, upd_same] at nt
        cases nt
      rw [upd_ne q1] at nt
      have q2 : t ≠ dx := fun q => by
        rw [q, upd_same] at nt
        cases nt
      rw [upd_ne q2] at nt
      exact nt
    have s1 : Same H H1 := wk_new nx ndx bt
    obtain ⟨wdx, wu, wo, w1, _⟩ := id hW
    refine ⟨_, rfl, x, wdx, _, rfl, w1, wF_looked _ _ _, x, t, _, _, _, rfl, hW, fun H2 p s2 hp => ?_⟩
    have ff := lf.fits (by decide)
    have fs := ls.fits (by decide)
    refine ⟨fun m σ H' => ∃ (q : Addr) (lo hi : Frac) (w : List Nat), σ = [some (.ref a), some (.ref b), some (.ref x), some (.ref q)] ∧ Same H H' ∧ WalkAt C H' x t lo hi w ∧ Pt H' q (fp (mid lo hi)) ∧
      Brk f s' lo hi m ∧ Sq69.between f s' m lo hi w = Sq69.simplest f s' ∧ w.length + m ≤ 900,
      ⟨_, p, _, _, _, rfl, s1.trans s2, hW.same s2, hp, Brk.start f s', rfl, ?_⟩, ?_⟩
    · unfold Low at lf ls
      show 0 + _ ≤ 900
      omega
    rintro m σ H' ⟨q, lo, hi, w', rfl, sm, hW', hq, br, be, wl⟩
    obtain ⟨l1, l2, l3⟩ := br.small f0 lt
    have fm : Fits (fp (mid lo hi)) := by
      refine Low.fits (n := 400) ⟨?_, ?_⟩ (by decide)
      · unfold Low at lf ls
        show lo.1 + hi.1 ≤ 400
        omega
      · unfold Low at lf ls
        show lo.2 + hi.2 ≤ 400
        omega
    obtain ⟨m, rfl⟩ : ∃ n, m = n + 1 := ⟨m - 1, by omega⟩
    have e1 := h1.same sm
    have e2 := h2.same sm
    obtain ⟨wdx, wu, wo, w1, _⟩ := id hW'
    rw [between_step] at be
    have goes : ∀ (bb : Nat) (H3 : Hp), (∀ c o, c ≠ x → c ≠ t → H' c = some o → H3 c = some o) → WalkAt C H3 x t (if bb = 1 then mid lo hi else lo) (if bb = 1 then hi else mid lo hi) (w' ++ [bb]) →
        Brk f s' (if bb = 1 then mid lo hi else lo) (if bb = 1 then hi else mid lo hi) m → Sq69.between f s' m (if bb = 1 then mid lo hi else lo) (if bb = 1 then hi else mid lo hi) (w' ++ [bb]) = Sq69.simplest f s' →
        ∀ (H4 : Hp) (q2 : Addr), Same H3 H4 → Pt H4 q2 (fp (mid (if bb = 1 then mid lo hi else lo) (if bb = 1 then hi else mid lo hi))) →
        ∃ m', m' < m + 1 ∧ ∃ (q : Addr) (lo hi : Frac) (w : List Nat), [some (V.ref a), some (.ref b), some (.ref x), some (.ref q2)] = [some (V.ref a), some (.ref b), some (.ref x), some (.ref q)] ∧ Same H H4 ∧ WalkAt C H4 x t lo hi w ∧ Pt H4 q (fp (mid lo hi)) ∧
          Brk f s' lo hi m' ∧ Sq69.between f s' m' lo hi w = Sq69.simplest f s' ∧ w.length + m' ≤ 900 := by
      intro bb H3 b3 hW3 br3 be3 H4 q2 s4 hq2
      refine ⟨m, Nat.lt_succ_self m, q2, _, _, _, rfl, (but_two sm nx nt0 b3).trans s4, hW3.same s4, hq2, br3, be3, ?_⟩
      rw [List.length_append, List.length_singleton]
      omega
    have right : less f (mid lo hi) = false → ∀ (H3 : Hp), (∀ c o, c ≠ x → c ≠ t → H' c = some o → H3 c = some o) → WalkAt C H3 x t (mid lo hi) hi (w' ++ [1]) → _ := fun c H3 b3 hW3 =>
      goes 1 H3 b3 hW3 (br.right c) (by rw [show less f (lo.1 + hi.1, lo.2 + hi.2) = false from c, if_pos rfl] at be; exact be)
    have left : less f (mid lo hi) = true → less (mid lo hi) s' = false → ∀ (H3 : Hp), (∀ c o, c ≠ x → c ≠ t → H' c = some o → H3 c = some o) → WalkAt C H3 x t lo (mid lo hi) (w' ++ [0]) → _ := fun c c2 H3 b3 hW3 =>
      goes 0 H3 b3 hW3 (br.left c2) (by rw [show less f (lo.1 + hi.1, lo.2 + hi.2) = true from c, if_neg (by decide), show less (lo.1 + hi.1, lo.2 + hi.2) s' = false from c2, if_pos rfl] at be; exact be)
    refine ⟨_, rfl, _, rfl, a, q, f, mid lo hi, rfl, e1, hq, ff, fm, _, rfl, ?_⟩
    refine if2 (fun c1 => ?_) (fun c1 => ?_)
    · refine ⟨_, rfl, _, rfl, q, b, mid lo hi, s', rfl, hq, e2, fm, fs, _, rfl, ?_⟩
      refine if2 (fun c2 => ?_) (fun c2 => ?_)
      · have c2' : less (mid lo hi) s' = false := by simpa using c2
        refine ⟨_, fun _ _ z => z, ?_⟩
        refine ⟨_, rfl, _, rfl, a, q, f, mid lo hi, rfl, e1, hq, ff, fm, _, rfl, ?_⟩
        refine ifT c1 ?_
        refine ⟨_, rfl, x, wdx, _, rfl, w1, wF_go _ _ _, x, t, lo, hi, w', 0, rfl, hW', by omega, fun H3 b3 hW3 => ?_⟩
        obtain ⟨w3dx, w3u, w3o, w31, _⟩ := id hW3
        refine ⟨_, rfl, x, w3dx, _, rfl, w31, wF_looked _ _ _, x, t, _, _, _, rfl, hW3, fun H4 q2 s4 hq2 => ?_⟩
        exact left c1 c2' H3 b3 hW3 H4 q2 s4 hq2
      · have c2' : less (mid lo hi) s' = true := by simpa using c2
        refine ⟨_, rfl, k H' x t lo hi w' sm hW' (by omega) ?_⟩
        rw [show less f (lo.1 + hi.1, lo.2 + hi.2) = true from c1, if_neg (by decide), show less (lo.1 + hi.1, lo.2 + hi.2) s' = true from c2', if_neg (by decide)] at be
        exact be.symm
    · refine ifT (by rfl) ?_
      refine ⟨_, fun _ _ z => z, ?_⟩
      refine ⟨_, rfl, _, rfl, a, q, f, mid lo hi, rfl, e1, hq, ff, fm, _, rfl, ?_⟩
      refine ifF c1 ?_
      refine ⟨_, rfl, x, wdx, _, rfl, w1, wF_go _ _ _, x, t, lo, hi, w', 1, rfl, hW', by omega, fun H3 b3 hW3 => ?_⟩
      obtain ⟨w3dx, w3u, w3o, w31, _⟩ := id hW3
      refine ⟨_, rfl, x, w3dx, _, rfl, w31, wF_looked _ _ _, x, t, _, _, _, rfl, hW3, fun H4 q2 s4 hq2 => ?_⟩
      exact right c1 H3 b3 hW3 H4 q2 s4 hq2
theorem scWalkTo : FnScope ["goal", "walk", "looked"] ["goal"] (defScope sWalkTo) := ⟨rfl, rfl, rfl, by decide +kernel, rfl, by decide +kernel, by decide +kernel⟩
theorem c_walkTo (D : Dfn K mg "walk_to" sWalkTo ["goal"]) (T : WTxt K mg C) (mk : Mak P w K mg base 1 C (spWInit C)) (ml : Met P w K mg base 1 C "looked_at" (spLooked C)) (mgo : Met P w K mg base 2 C "go" (spGo C))
    (cb : Cal P w K mg base 1 "is_below" spIsBelow) : Cal P w K mg base 3 "walk_to" (spWalkTo C) := by
  obtain ⟨fi, fdi, psi, GI, mI, bI⟩ := mk.ex
  obtain ⟨fl, fdl, psl, GL, mL, bL⟩ := ml.ex
  obtain ⟨fg, fdg, psg, GG, mG, bG⟩ := mgo.ex
  obtain ⟨tl, hLf⟩ := T.lef
  obtain ⟨tr, hRt⟩ := T.rig
  refine D.cal fun f fd F => F.ok scWalkTo (fun vs H Q E h => ?_) (fun cdv A outer s H vs Q E hr h => ⟨_,
    pss_cons (ps_set (i := 1) scWalkTo.nd rfl (.inl rfl) (pe_make0 mI GI (hr.mono (by decide)) rfl T.gC bI .nil pass0))
    (pss_cons (ps_set (i := 2) scWalkTo.nd rfl (.inl rfl) (pe_meth0 (pv 1) T.cl mL GL (hr.mono (by decide)) bL .nil pass0))
    (pss_cons (ps_while PassesOwn.never (PW.pt (pw_or (pt_val (pe_c cb hr (pa_cons (pv 2) (pa_cons (pv 0) pa_nil)))) (pw_or1 (pt_val (pe_c cb hr (pa_cons (pv 0) (pa_cons (pv 2) pa_nil)))))))
      (pss_cons (ps_if (pt_val (pe_c cb hr (pa_cons (pv 2) (pa_cons (pv 0) pa_nil))))
        (pss_one (ps_expr (pe_meth (pv 1) T.cl mG GG (hr.mono (by decide)) bG .nil pass0 (pa_cons (pe_glob (v := .int 1) rfl hRt ⟨_, rfl⟩) pa_nil))))
        (pss_one (ps_expr (pe_meth (pv 1) T.cl mG GG (hr.mono (by decide)) bG .nil pass0 (pa_cons (pe_glob (v := .int 0) rfl hLf ⟨_, rfl⟩) pa_nil)))))
      (pss_one (ps_set (i := 2) scWalkTo.nd rfl (.inl rfl) (pe_meth0 (pv 1) T.cl mL GL (hr.mono (by decide)) bL .nil pass0)))))
    (pss_one (ps_ret (pv 1))))), ?_⟩)
  · obtain ⟨a, _, rfl, _⟩ := h
    rfl
  · obtain ⟨a, f, rfl, h1, lf, f0, f1, k⟩ := h
    intro x dx nx ndx nex
    refine ⟨x, dx, rfl, upd_same, fun H1 t bt nt hW => ⟨rfl, ?_⟩⟩
    have nt0 : H t = none := by
      have q1 : t ≠ x := fun q => by
        rw [q, upd_same] at nt
        cases nt
      rw [upd_ne q1] at nt
      have q2 : t ≠ dx := fun q => by
        rw [q, upd_same] at nt
        cases nt
      rw [upd_ne q2] at nt
      exact nt
    have s1 : Same H H1 := wk_new nx ndx bt
    obtain ⟨wdx, wu, wo, w1, _⟩ := id hW
    refine ⟨_, rfl, x, wdx, _, rfl, w1, wF_looked _ _ _, x, t, _, _, _, rfl, hW, fun H2 p s2 hp => ?_⟩
    have ff := lf.fits (by decide)
    refine ⟨fun m σ H' => ∃ (q : Addr) (lo hi : Frac) (w : List Nat), σ = [some (.ref a), some (.ref x), some (.ref q)] ∧ Same H H' ∧ WalkAt C H' x t lo hi w ∧ Pt H' q (fp (mid lo hi)) ∧
      Bra f lo hi m ∧ w ++ Sq69.wayTo f m lo hi = Sq69.wayTo f (f.1 + f.2 + 1) (0, 1) (1, 0) ∧ w.length + m ≤ 900,
      ⟨_, p, _, _, _, rfl, s1.trans s2, hW.same s2, hp, Bra.start f0 f1, rfl, ?_⟩, ?_⟩
    · unfold Low at lf
      show 0 + _ ≤ 900
      omega
    rintro m σ H' ⟨q, lo, hi, w', rfl, sm, hW', hq, br, be, wl⟩
    obtain ⟨l1, l2, l3⟩ := br.small
    have fm : Fits (fp (mid lo hi)) := by
      refine Low.fits (n := 400) ⟨?_, ?_⟩ (by decide)
      · unfold Low at lf
        show lo.1 + hi.1 ≤ 400
        omega
      · unfold Low at lf
        show lo.2 + hi.2 ≤ 400
        omega
    obtain ⟨m, rfl⟩ : ∃ n, m = n + 1 := ⟨m - 1, by omega⟩
    have e1 := h1.same sm
    obtain ⟨wdx, wu, wo, w1, _⟩ := id hW'
    rw [wayTo_step] at be
    have goes : ∀ (bb : Nat) (H3 : Hp), (∀ c o, c ≠ x → c ≠ t → H' c = some o → H3 c = some o) → WalkAt C H3 x t (if bb = 1 then mid lo hi else lo) (if bb = 1 then hi else mid lo hi) (w' ++ [bb]) →
        Bra f (if bb = 1 then mid lo hi else lo) (if bb = 1 then hi else mid lo hi) m → (w' ++ [bb]) ++ Sq69.wayTo f m (if bb = 1 then mid lo hi else lo) (if bb = 1 then hi else mid lo hi) = Sq69.wayTo f (f.1 + f.2 + 1) (0, 1) (1, 0) →
        ∀ (H4 : Hp) (q2 : Addr), Same H3 H4 → Pt H4 q2 (fp (mid (if bb = 1 then mid lo hi else lo) (if bb = 1 then hi else mid lo hi))) →
        ∃ m', m' < m + 1 ∧ ∃ (q : Addr) (lo hi : Frac) (w : List Nat), [some (V.ref a), some (.ref x), some (.ref q2)] = [some (V.ref a), some (.ref x), some (.ref q)] ∧ Same H H4 ∧ WalkAt C H4 x t lo hi w ∧ Pt H4 q (fp (mid lo hi)) ∧
          Bra f lo hi m' ∧ w ++ Sq69.wayTo f m' lo hi = Sq69.wayTo f (f.1 + f.2 + 1) (0, 1) (1, 0) ∧ w.length + m' ≤ 900 := by
      intro bb H3 b3 hW3 br3 be3 H4 q2 s4 hq2
      refine ⟨m, Nat.lt_succ_self m, q2, _, _, _, rfl, (but_two sm nx nt0 b3).trans s4, hW3.same s4, hq2, br3, be3, ?_⟩
      rw [List.length_append, List.length_singleton]
      omega
    have right : less (mid lo hi) f = true → ∀ (H3 : Hp), (∀ c o, c ≠ x → c ≠ t → H' c = some o → H3 c = some o) → WalkAt C H3 x t (mid lo hi) hi (w' ++ [1]) → _ := fun c H3 b3 hW3 =>
      goes 1 H3 b3 hW3 (br.right c) (by rw [show less (lo.1 + hi.1, lo.2 + hi.2) f = true from c, if_pos rfl] at be; rw [List.append_assoc]; exact be)
    have left : less (mid lo hi) f = false → less f (mid lo hi) = true → ∀ (H3 : Hp), (∀ c o, c ≠ x → c ≠ t → H' c = some o → H3 c = some o) → WalkAt C H3 x t lo (mid lo hi) (w' ++ [0]) → _ := fun c c2 H3 b3 hW3 =>
      goes 0 H3 b3 hW3 (br.left c2) (by rw [show less (lo.1 + hi.1, lo.2 + hi.2) f = false from c, if_neg (by decide), show less f (lo.1 + hi.1, lo.2 + hi.2) = true from c2, if_pos rfl] at be; rw [List.append_assoc]; exact be)
    refine ⟨_, rfl, _, rfl, q, a, mid lo hi, f, rfl, hq, e1, fm, ff, _, rfl, ?_⟩
    refine if2 (fun c1 => ?_) (fun c1 => ?_)
    · refine ifT rfl ?_
      refine ⟨_, fun _ _ z => z, ?_⟩
      refine ⟨_, rfl, _, rfl, q, a, mid lo hi, f, rfl, hq, e1, fm, ff, _, rfl, ?_⟩
      refine ifT c1 ?_
      refine ⟨_, rfl, x, wdx, _, rfl, w1, wF_go _ _ _, x, t, lo, hi, w', 1, rfl, hW', by omega, fun H3 b3 hW3 => ?_⟩
      obtain ⟨w3dx, w3u, w3o, w31, _⟩ := id hW3
      refine ⟨_, rfl, x, w3dx, _, rfl, w31, wF_looked _ _ _, x, t, _, _, _, rfl, hW3, fun H4 q2 s4 hq2 => ?_⟩
      exact right c1 H3 b3 hW3 H4 q2 s4 hq2
    · refine ⟨_, rfl, _, rfl, a, q, f, mid lo hi, rfl, e1, hq, ff, fm, _, rfl, ?_⟩
      refine if2 (fun c2 => ?_) (fun c2 => ?_)
      · refine ⟨_, fun _ _ z => z, ?_⟩
        refine ⟨_, rfl, _, rfl, q, a, mid lo hi, f, rfl, hq, e1, fm, ff, _, rfl, ?_⟩
        refine ifF c1 ?_
        refine ⟨_, rfl, x, wdx, _, rfl, w1, wF_go _ _ _, x, t, lo, hi, w', 0, rfl, hW', by omega, fun H3 b3 hW3 => ?_⟩
        obtain ⟨w3dx, w3u, w3o, w31, _⟩ := id hW3
        refine ⟨_, rfl, x, w3dx, _, rfl, w31, wF_looked _ _ _, x, t, _, _, _, rfl, hW3, fun H4 q2 s4 hq2 => ?_⟩
        exact left c1 c2 H3 b3 hW3 H4 q2 s4 hq2
      · refine ⟨_, rfl, k H' x t lo hi w' sm hW' (by omega) ?_⟩
        rw [show less (lo.1 + hi.1, lo.2 + hi.2) f = false from c1, if_neg (by decide), show less f (lo.1 + hi.1, lo.2 + hi.2) = false from c2, if_neg (by decide), List.append_nil] at be
        exact be.symm
end
end My
/-! ### two rules that the layer lacks: max of four whole numbers; d[k] of a written dict of whole numbers -/
namespace My
open PySem PySem.Spec PyProof.Rows L2
open Sem (wp)
def max4 (a b c d : Int) : Int := if d > (if c > (if b > a then b else a) then c else (if b > a then b else a)) then d else (if c > (if b > a then b else a) then c else (if b > a then b else a))
theorem max4_gt (a b c d n : Int) : max4 a b c d > n ↔ (a > n ∨ b > n ∨ c > n ∨ d > n) := by
  unfold max4
  repeat' split
  all_goals omega
theorem arg4 (a b c d : Int) (t u x y : Tok) : numAt #[(a, t), (b, u), (c, x), (d, y)] (argBest (fun i j => decide (numAt #[(a, t), (b, u), (c, x), (d, y)] i > numAt #[(a, t), (b, u), (c, x), (d, y)] j)) 3) = max4 a b c d := by
  unfold max4
  by_cases h1 : b > a
  · by_cases h2 : c > b
    · by_cases h3 : d > c
      · simp [argBest, numAt, h1, h2, h3]
      · simp [argBest, numAt, h1, h2, h3]
    · by_cases h3 : d > b
      · simp [argBest, numAt, h1, h2, h3]
      · simp [argBest, numAt, h1, h2, h3]
  · by_cases h2 : c > a
    · by_cases h3 : d > c
      · simp [argBest, numAt, h1, h2, h3]
      · simp [argBest, numAt, h1, h2, h3]
    · by_cases h3 : d > a
      · simp [argBest, numAt, h1, h2, h3]
      · simp [argBest, numAt, h1, h2, h3]
theorem argsMax4 (a b c d : Value) : argsOk "max" ⟨[a, b, c, d], []⟩ := by
  unfold argsOk
  kernel_rfl
section
variable {prog : Program} {w : World} {A : Around} {E : Value → Shared → Prop} {s : Shared}
theorem maxFour {a b c d : Value} {Q : Value → Shared → Prop}
    (h : wpAny (model prog w) A.in1 (pyIter (.ref s.heap.objs.size)) (fun it s₂ => ∃ I fs ws n P St best, it = .ref I ∧ Walks prog w A.in1 I fs ws n P St ∧ St 0 s₂.heap ∧ (∀ q ∈ fs, q < s₂.heap.objs.size) ∧ 0 < n ∧ CmpOf prog w A.in1 .Gt P best ∧
      ∀ v h2 k2, P (argBest best (n - 1)) v → (∀ q o, q ∉ ws → s₂.heap.get? q = some o → h2.get? q = some o) → Q v { s₂ with heap := h2, toks := k2 }) E
      { s with heap := s.heap.push { cls := .type "tuple", data := .seq #[a, b, c, d] } }) :
    wpAny (model prog w) A (call (.builtin "max") [a, b, c, d]) Q E s := by
  have nm : (toString "max" ++ toString ".loop" : String) = "max.loop" := by decide +kernel
  refine call_function_tree F.kind_max F.plain_max F.entry_max (argsMax4 a b c d) ?_
  show wpAny (model prog w) A.in1 (Builtin.Builtins.bindParams "max" ["key", "default"] 0 ⟨[], []⟩ >>= _) _ _ s
  refine wpAny_bind (wpAny_of_eq (rfl : Builtin.Builtins.bindParams "max" ["key", "default"] 0 ⟨[], []⟩ = pure [none, none]) ?_)
  show wpAny (model prog w) A.in1 (newTuple [a, b, c, d] >>= _) _ _ s
  refine wpAny_bind (wpAny_newObj_type (wpAny_bind (wpAny_mono h (fun it s2 hh => ?_) fun _ _ z => z)))
  obtain ⟨I, fs, ws, n, P, St, best, rfl, W, st0, low, pos, cmp, fin⟩ := hh
  refine wpAny_bind (wpAny_newObj_type ?_)
  have out : s2.heap.objs.size ∉ fs := fun q => Nat.lt_irrefl _ (low _ q)
  rw [nm]
  refine wpAny_pure ⟨plainId_quiet F.plain_max_loop _, ?_⟩
  refine codeAny_max_loop_first W best cmp s2.heap.objs.size out pos (W.frame _ _ _ st0 fun _ _ _ z => Heap.get?_push_of_some _ z) (Heap.get?_push_size _ rfl) fun v h2 k2 pv keep => ?_
  exact fin v h2 k2 pv fun q o nq z => keep q o nq (Nat.ne_of_lt (Heap.lt_size z)) (Heap.get?_push_of_some _ z)
theorem maxInts {a b c d : Int} {t u x y : Tok} {Q : Value → Shared → Prop} (hh : A.handled = none)
    (h : ∀ h2 k2 z, (∀ q o, s.heap.get? q = some o → h2.get? q = some o) → Q (.int (max4 a b c d) z) { s with heap := h2, toks := k2 }) :
    wpAny (model prog w) A (call (.builtin "max") [.int a t, .int b u, .int c x, .int d y]) Q E s := by
  let xs : Array (Int × Tok) := #[(a, t), (b, u), (c, x), (d, y)]
  have tup : (s.heap.push { cls := .type "tuple", data := .seq #[.int a t, .int b u, .int c x, .int d y] }).IsTuple s.heap.objs.size (intItems xs) := ⟨_, Heap.get?_push_size _ rfl, rfl, 0, by simp [intItems, xs]⟩
  refine maxFour (wpAny_pyIter_tuple tup ?_)
  have sz : (s.heap.push { cls := .type "tuple", data := .seq #[.int a t, .int b u, .int c x, .int d y] }).objs.size = s.heap.objs.size + 1 := Heap.size_push ..
  refine ⟨_, [_, s.heap.objs.size], [_], _, _, _, _, rfl, Walks.tuple (A := A.in1) hh _ s.heap.objs.size (by rw [sz]; exact Nat.ne_of_lt (Nat.lt_add_one _)) (intItems xs),
    ⟨⟨_, Heap.get?_push_size _ rfl, rfl, rfl⟩, tup.push _⟩, fun q hq => ?_, by simp [intItems, xs], CmpOf.ints_gt (numAt xs) (fun _ _ => intItems_at), fun v h2 k2 pv keep => ?_⟩
  · show q < ((s.heap.push _).push _).objs.size
    rw [Heap.size_push, sz]
    simp only [List.mem_cons, List.not_mem_nil, or_false] at hq
    rcases hq with e | e
    · rw [e, sz]
      exact Nat.lt_add_one _
    · rw [e]
      exact Nat.lt_of_lt_of_le (Nat.lt_add_one _) (Nat.le_succ _)
  · have four : (intItems xs).size - 1 = 3 := by simp [intItems, xs]
    rw [four] at pv
    obtain ⟨z, ez⟩ := intItems_at pv
    rw [ez, show numAt xs (argBest (fun i j => decide (numAt xs i > numAt xs j)) 3) = max4 a b c d from arg4 a b c d t u x y]
    refine h h2 k2 z fun q o e => keep q o (fun m => ?_) (Heap.get?_push_of_some _ (Heap.get?_push_of_some _ e))
    have l := Heap.lt_size e
    simp only [List.mem_cons, List.not_mem_nil, or_false] at m
    rw [m, sz] at l
    exact absurd l (Nat.not_lt_of_le (Nat.le_succ _))
end
theorem valsFour {a b c d : V} {us : List Value} (r : Vals [a, b, c, d] us) : ∃ u1 u2 u3 u4, us = [u1, u2, u3, u4] ∧ RelV a u1 ∧ RelV b u2 ∧ RelV c u3 ∧ RelV d u4 := by
  cases r with
  | cons r1 r =>
    cases r with
    | cons r2 r =>
      obtain ⟨u3, u4, e, r3, r4⟩ := vals2 r
      exact ⟨_, _, u3, u4, by rw [e], r1, r2, r3, r4⟩
section
variable {X : Cx}
theorem callMax4 (hc : X.calm = true) : CallR X (.builtin "max") (fun xs H Q => ∃ i j k l, xs = [.int i, .int j, .int k, .int l] ∧ Q (.int (max4 i j k l)) H) := by
  intro pins s σ H xs us Q I r h
  obtain ⟨i, j, k, l, rfl, q⟩ := h
  obtain ⟨u1, u2, u3, u4, rfl, ⟨t1, rfl⟩, ⟨t2, rfl⟩, ⟨t3, rfl⟩, ⟨t4, rfl⟩⟩ := valsFour r
  exact maxInts (I.ok.hd hc) fun h2 k2 z kp => ⟨.int (max4 i j k l), H, I.kept kp, ⟨z, rfl⟩, q⟩
/-- a written dict of whole numbers -/
def WDict (K : PySem.W.Frag) (a : Addr) (f : Int → Option Int) : Prop :=
  ∃ es n, K.lookup a = some ⟨.type "dict", none, .dict es n, #[]⟩ ∧ (∀ e ∈ es.toList, ∃ k t, e.key = .int k t ∧ e.hash = hashInt k) ∧ ∀ k v, f k = some v → ∃ t, findBy Value.isInt es k = some (.int v t)
def rIxW (K : PySem.W.Frag) : R2 := fun x y H Q => ∃ p k v f, x = .ref p ∧ y = .int k ∧ WDict K p f ∧ f k = some v ∧ Q (.int v) H
theorem ixW : IxR X (rIxW X.K) := by
  intro value slice pins s σ H x y v u Q I rx ry h hs
  obtain ⟨p, k, r, f, rfl, rfl, ⟨es, n, hl, hk, hf⟩, e, q⟩ := h
  obtain rfl : v = Value.ref p := rx
  obtain ⟨t, rfl⟩ := ry
  obtain ⟨t2, e2⟩ := hf k r e
  have hm : s.heap.MapOf (intKind X.prog X.w) p (fun j => findBy Value.isInt es j) :=
    ⟨_, es, n, I.kIn _ _ hl, ⟨rfl, rfl, rfl⟩, rfl, fun d hd => by
      obtain ⟨j, t3, e3, e4⟩ := hk d (Array.mem_toList_iff.mpr hd)
      exact ⟨j, by rw [e3]; exact intKind_is X.prog X.w j t3, e4⟩, fun _ => rfl⟩
  exact tail_any hm.typeIs slot_dict_getitem.lookup (wpAny_getItem_of (intKind_is X.prog X.w k t) hm e2 ⟨.int r, H, I.tok _, ⟨t2, rfl⟩, q⟩) hs
end
end My
namespace My
open PySem PySem.Spec PyProof.Rows L2
open Sq69 (Point det single Frac less)
abbrev sSimplest : Stmt := top 35
abbrev sWay : Stmt := top 36
abbrev sLeastOf : Stmt := top 37
abbrev sPointAt : Stmt := top 38
abbrev sIsBeyond : Stmt := top 39
abbrev sConeRefusal : Stmt := top 40
abbrev sPointRefusal : Stmt := top 41
abbrev sFlat : Stmt := top 42
def spPointAt : Sp := fun vs H Q _ => ∃ (a b : Addr) (ns ms : List Int) (i : Nat), vs = [.ref a, .ref b, .int (i : Int)] ∧ Ints H a ns ∧ Ints H b ms ∧ i + 1 < ns.length ∧ i + 1 < ms.length ∧ ∀ H' p, Same H H' → Pt H' p (pAt ns ms i) → Q (.ref p) H'
def spIsBeyond : Sp := fun vs H Q _ => ∃ (a : Addr) (p : Point) (k : Int), vs = [.ref a, .int k] ∧ Pt H a p ∧ Q (.bl (far k p)) H
def spConeRefusal : Sp := fun vs H Q _ => ∃ (a b : Addr) (ns ms : List Int), vs = [.ref a, .ref b] ∧ Ints H a ns ∧ Ints H b ms ∧ ∀ H', Same H H' → Q (.int (refuse ns ms)) H'
def spPointRefusal : Sp := fun vs H Q _ => ∃ (a b : Addr) (ns ms : List Int), vs = [.ref a, .ref b] ∧ Ints H a ns ∧ Ints H b ms ∧ ∀ H', Same H H' → Q (.int (refuseP ns ms)) H'
def spFlat : Sp := fun vs H Q _ => ∃ (l : Addr) (ps : List Point), vs = [.ref l] ∧ Pts H l ps ∧ ps.length ≤ 5000 ∧ ∀ H' r, Same H H' → Ints H' r (Sq69.listed ps) → Q (.ref r) H'
def spLeastOf : Sp := fun vs H Q _ => ∃ (a b : Addr) (c : Sq69.Cone), vs = [.ref a, .ref b] ∧ Pt H a c.u ∧ Pt H b c.v ∧ Good c ∧ ∀ H' l, Same H H' → H l = none → Ints H' l (leastAns c) → Q (.ref l) H'
def spSimplest : Sp := fun vs H Q _ => ∃ (p q : Addr) (a b c d : Nat), vs = [.ref p, .ref q] ∧ Pt H p (fp (a, b)) ∧ Pt H q (fp (c, d)) ∧ ∀ H' r, Same H H' → H r = none → Ints H' r (simpAns a b c d) → Q (.ref r) H'
def spWay : Sp := fun vs H Q _ => ∃ (p : Addr) (a b : Nat), vs = [.ref p] ∧ Pt H p (fp (a, b)) ∧ ∀ H' r, Same H H' → H r = none → Ints H' r (wayAns a b) → Q (.ref r) H'
/-- numbers that the top has written -/
structure CTxt (mg : Str → Option Value) : Prop where
  fe : ∃ t, mg "FARTHEST_END" = some (.int 40 t)
  ft : ∃ t, mg "FARTHEST_TOLD" = some (.int 1600 t)
  gr : ∃ t, mg "GREATEST" = some (.int 200 t)
theorem getD_of {l : List Int} {i : Nat} {x : Int} (h : l[i]? = some x) : l.getD i 0 = x := by
  rw [List.getD_eq_getElem?_getD, h]
  rfl
theorem listed_take {ps : List Point} {i : Nat} {p : Point} (h : ps[i]? = some p) : Sq69.listed (ps.take (i + 1)) = Sq69.listed (ps.take i) ++ [p.1] ++ [p.2] := by
  unfold Sq69.listed
  rw [take_more h, List.flatMap_append]
  simp
theorem listed_len (ps : List Point) : (Sq69.listed ps).length = 2 * ps.length := by
  induction ps with
  | nil => rfl
  | cons p r ih =>
    have e : Sq69.listed (p :: r) = p.1 :: p.2 :: Sq69.listed r := rfl
    rw [e, List.length_cons, List.length_cons, ih, List.length_cons]
    omega
section
variable {P : Program} {w : World} {K : PySem.W.Frag} {mg : Str → Option Value} {base : Heap} {C : Addr}
theorem scPointAt : FnScope ["plus", "minus", "place"] ["plus", "minus", "place"] (defScope sPointAt) := ⟨rfl, rfl, rfl, by decide +kernel, rfl, by decide +kernel, by decide +kernel⟩
theorem c_pointAt (D : Dfn K mg "point_at" sPointAt ["plus", "minus", "place"]) : Cal P w K mg base 1 "point_at" spPointAt := by
  refine D.cal fun f fd F => F.ok scPointAt (fun vs H Q E h => ?_) (fun cdv A outer s H vs Q E hr h => ⟨_,
    pss_one (ps_ret (pe_tup (pa_cons (pe_op op_sub (pe_ix ix_list (pv 0) (pv 2) (fun _ _ => rfl)) (pe_ix ix_list (pv 1) (pv 2) (fun _ _ => rfl)))
      (pa_cons (pe_op op_sub (pe_ix ix_list (pv 0) (pe_op op_add (pv 2) pe_int) (fun _ _ => rfl)) (pe_ix ix_list (pv 1) (pe_op op_add (pv 2) pe_int) (fun _ _ => rfl))) pa_nil)))), ?_⟩)
  · obtain ⟨a, b, _, _, _, rfl, _⟩ := h
    rfl
  · obtain ⟨a, b, ns, ms, i, rfl, h1, h2, l1, l2, k⟩ := h
    obtain ⟨x0, e0⟩ := get_some (l := ns) (i := i) (by omega)
    obtain ⟨x1, e1⟩ := get_some (l := ns) (i := i + 1) l1
    obtain ⟨y0, g0⟩ := get_some (l := ms) (i := i) (by omega)
    obtain ⟨y1, g1⟩ := get_some (l := ms) (i := i + 1) l2
    refine ⟨_, rfl, _, rfl, a, _, _, _, rfl, rfl, SqL.of h1, at_int e0 rfl, _, rfl, _, rfl, b, _, _, _, rfl, rfl, SqL.of h2, at_int g0 rfl, _, _, rfl, rfl, ?_⟩
    refine ⟨_, rfl, _, rfl, _, _, rfl, rfl, a, _, _, _, rfl, rfl, SqL.of h1, at_int e1 (by omega), _, rfl, _, rfl, _, _, rfl, rfl, b, _, _, _, rfl, rfl, SqL.of h2, at_int g1 (by omega), _, _, rfl, rfl, (by show 2 ≤ sizeLine; decide), fun p hp => ?_⟩
    refine k _ p (same_new hp) ?_
    unfold pAt
    rw [getD_of e0, getD_of e1, getD_of g0, getD_of g1]
    exact upd_same
theorem scIsBeyond : FnScope ["point", "farthest"] ["point", "farthest"] (defScope sIsBeyond) := ⟨rfl, rfl, rfl, by decide +kernel, rfl, by decide +kernel, by decide +kernel⟩
theorem c_isBeyond (D : Dfn K mg "is_beyond" sIsBeyond ["point", "farthest"]) (B : Bui mg) : Cal P w K mg base 1 "is_beyond" spIsBeyond := by
  refine D.cal fun f fd F => F.ok scIsBeyond (fun vs H Q E h => ?_) (fun cdv A outer s H vs Q E hr h => ⟨_,
    pss_one (ps_ret (pe_cmpR op_gt (pe_callB (call_max2 rfl) (by rfl) B.max (by decide +kernel) (pa_cons (pe_callB call_abs (by rfl) B.abs (by decide +kernel) (pa_cons (pe_ix ix_tup (pv 0) pe_int (fun _ _ => rfl)) pa_nil))
      (pa_cons (pe_callB call_abs (by rfl) B.abs (by decide +kernel) (pa_cons (pe_ix ix_tup (pv 0) pe_int (fun _ _ => rfl)) pa_nil)) pa_nil))) (pv 1) (nomark _))), ?_⟩)
  · obtain ⟨a, _, _, rfl, _⟩ := h
    rfl
  · obtain ⟨a, p, n, rfl, h1, k⟩ := h
    refine ⟨_, rfl, a, _, _, _, rfl, rfl, SqT.of h1, rfl, _, rfl, _, rfl, a, _, _, _, rfl, rfl, SqT.of h1, rfl, _, rfl, _, _, rfl, _, rfl, _, _, rfl, rfl, ?_⟩
    exact k
theorem scConeRefusal : FnScope ["plus", "minus", "u", "v"] ["plus", "minus"] (defScope sConeRefusal) := ⟨rfl, rfl, rfl, by decide +kernel, rfl, by decide +kernel, by decide +kernel⟩
theorem c_coneRefusal (D : Dfn K mg "cone_refusal" sConeRefusal ["plus", "minus"]) (B : Bui mg) (T : CTxt mg) (cp : Cal P w K mg base 1 "point_at" spPointAt) (cb : Cal P w K mg base 1 "is_beyond" spIsBeyond)
    (cg : Cal P w K mg base 1 "common_divisor" spGcd) (cc : Cal P w K mg base 1 "cross" spCross) : Cal P w K mg base 2 "cone_refusal" spConeRefusal := by
  obtain ⟨te, hfe⟩ := T.fe
  refine D.cal fun f fd F => F.ok scConeRefusal (fun vs H Q E h => ?_) (fun cdv A outer s H vs Q E hr h => ⟨_,
    pss_cons (ps_if (PW.pt (pw_or (pt_cmpR op_ne (pe_callB call_len_seq (by rfl) B.len PySem.boot_len (pa_cons (pv 0) pa_nil)) pe_int (nomark _)) (pw_or1 (pt_cmpR op_ne (pe_callB call_len_seq (by rfl) B.len PySem.boot_len (pa_cons (pv 1) pa_nil)) pe_int (nomark _)))))
      (pss_one (ps_ret (pe_un un_neg pe_int))) pss_nil)
    (pss_cons (ps_set (i := 2) scConeRefusal.nd rfl (.inl rfl) (pe_c cp hr (pa_cons (pv 0) (pa_cons (pv 1) (pa_cons pe_int pa_nil)))))
    (pss_cons (ps_set (i := 3) scConeRefusal.nd rfl (.inl rfl) (pe_c cp hr (pa_cons (pv 0) (pa_cons (pv 1) (pa_cons pe_int pa_nil)))))
    (pss_cons (ps_if (PW.pt (pw_or (pt_val (pe_c cb hr (pa_cons (pv 2) (pa_cons (pe_glob (v := .int 40) rfl hfe ⟨_, rfl⟩) pa_nil)))) (pw_or1 (pt_val (pe_c cb hr (pa_cons (pv 3) (pa_cons (pe_glob (v := .int 40) rfl hfe ⟨_, rfl⟩) pa_nil)))))))
      (pss_one (ps_ret (pe_un un_neg pe_int))) pss_nil)
    (pss_cons (ps_if (PW.pt (pw_or (pt_cmpR op_ne (pe_c cg hr (pa_cons (pv 2) pa_nil)) pe_int (nomark _)) (pw_or (pt_cmpR op_ne (pe_c cg hr (pa_cons (pv 3) pa_nil)) pe_int (nomark _)) (pw_or1 (pt_cmpR op_le (pe_c cc hr (pa_cons (pv 2) (pa_cons (pv 3) pa_nil))) pe_int (nomark _))))))
      (pss_one (ps_ret (pe_un un_neg pe_int))) pss_nil)
    (pss_one (ps_ret pe_int)))))), ?_⟩)
  · obtain ⟨a, b, _, _, rfl, _⟩ := h
    rfl
  · obtain ⟨a, b, ns, ms, rfl, h1, h2, k⟩ := h
    have len4 : (ns.length ≠ 4 ∨ ms.length ≠ 4) → Q (.int (-3)) H := fun c => by
      have e : refuse ns ms = -3 := by unfold refuse; rw [if_pos c]
      have q := k H (Same.refl H)
      rw [e] at q
      exact q
    refine ⟨_, rfl, a, _, rfl, .inl (SqL.of h1), rfl, _, rfl, ?_⟩
    rw [ne_int, List.length_map]
    refine if2 (fun c1 => ?_) (fun c1 => ?_)
    · refine ifT rfl ?_
      exact ⟨_, rfl, len4 (.inl (by simp at c1; omega))⟩
    · refine ⟨_, rfl, b, _, rfl, .inl (SqL.of h2), rfl, _, rfl, ?_⟩
      rw [ne_int, List.length_map]
      refine if2 (fun c2 => ?_) (fun c2 => ?_)
      · exact ⟨_, rfl, len4 (.inr (by simp at c2; omega))⟩
      · have n1 : ns.length = 4 := by simp at c1; omega
        have n2 : ms.length = 4 := by simp at c2; omega
        refine ⟨_, rfl, _, rfl, a, b, ns, ms, 0, rfl, h1, h2, by omega, by omega, fun H1 u s1 hu => ?_⟩
        refine ⟨_, rfl, _, rfl, a, b, ns, ms, 2, rfl, h1.same s1, h2.same s1, by omega, by omega, fun H2 v s2 hv => ?_⟩
        have q := k H2 (s1.trans s2)
        unfold refuse at q
        rw [if_neg (by omega)] at q
        have hu2 := hu.same s2
        refine ⟨_, rfl, u, _, 40, rfl, hu2, _, rfl, ?_⟩
        refine if2 (fun c3 => ?_) (fun c3 => ?_)
        · refine ifT rfl ⟨_, rfl, ?_⟩
          rw [if_pos (.inl c3)] at q
          exact q
        · refine ⟨_, rfl, v, _, 40, rfl, hv, _, rfl, ?_⟩
          refine if2 (fun c4 => ?_) (fun c4 => ?_)
          · refine ⟨_, rfl, ?_⟩
            rw [if_pos (.inr c4)] at q
            exact q
          · rw [if_neg (by rw [c3, c4]; simp)] at q
            refine ⟨_, rfl, u, _, rfl, hu2, rfl, _, rfl, ?_⟩
            rw [ne_int]
            refine if2 (fun c5 => ?_) (fun c5 => ?_)
            · refine ifT rfl ⟨_, rfl, ?_⟩
              rw [if_pos (.inl (by simpa using c5))] at q
              exact q
            · refine ⟨_, rfl, v, _, rfl, hv, rfl, _, rfl, ?_⟩
              rw [ne_int]
              refine if2 (fun c6 => ?_) (fun c6 => ?_)
              · refine ifT rfl ⟨_, rfl, ?_⟩
                rw [if_pos (.inr (.inl (by simpa using c6)))] at q
                exact q
              · refine ⟨_, rfl, _, rfl, u, v, _, _, rfl, hu2, hv, .inl ((far_not (k := 40) c3).fits (by decide)), _, _, rfl, rfl, _, rfl, ?_⟩
                refine if2 (fun c7 => ?_) (fun c7 => ?_)
                · refine ⟨_, rfl, ?_⟩
                  rw [if_pos (.inr (.inr (of_decide_eq_true c7)))] at q
                  exact q
                · have z5 : gcdI (pAt ns ms 0) = 1 := by simpa using c5
                  have z6 : gcdI (pAt ns ms 2) = 1 := by simpa using c6
                  have z7 := of_decide_eq_false c7
                  rw [if_neg (by rw [z5, z6]; omega)] at q
                  exact q
theorem scPointRefusal : FnScope ["plus", "minus"] ["plus", "minus"] (defScope sPointRefusal) := ⟨rfl, rfl, rfl, by decide +kernel, rfl, by decide +kernel, by decide +kernel⟩
theorem c_pointRefusal (D : Dfn K mg "point_refusal" sPointRefusal ["plus", "minus"]) (B : Bui mg) (T : CTxt mg) (cp : Cal P w K mg base 1 "point_at" spPointAt) (cb : Cal P w K mg base 1 "is_beyond" spIsBeyond) : Cal P w K mg base 2 "point_refusal" spPointRefusal := by
  obtain ⟨te, hft⟩ := T.ft
  refine D.cal fun f fd F => F.ok scPointRefusal (fun vs H Q E h => ?_) (fun cdv A outer s H vs Q E hr h => ⟨_,
    pss_cons (ps_if (PW.pt (pw_or (pt_cmpR op_ne (pe_callB call_len_seq (by rfl) B.len PySem.boot_len (pa_cons (pv 0) pa_nil)) pe_int (nomark _)) (pw_or1 (pt_cmpR op_ne (pe_callB call_len_seq (by rfl) B.len PySem.boot_len (pa_cons (pv 1) pa_nil)) pe_int (nomark _)))))
      (pss_one (ps_ret (pe_un un_neg pe_int))) pss_nil)
    (pss_cons (ps_if (pt_val (pe_c cb hr (pa_cons (pe_c cp hr (pa_cons (pv 0) (pa_cons (pv 1) (pa_cons pe_int pa_nil)))) (pa_cons (pe_glob (v := .int 1600) rfl hft ⟨_, rfl⟩) pa_nil)))) (pss_one (ps_ret (pe_un un_neg pe_int))) pss_nil)
    (pss_one (ps_ret pe_int))), ?_⟩)
  · obtain ⟨a, b, _, _, rfl, _⟩ := h
    rfl
  · obtain ⟨a, b, ns, ms, rfl, h1, h2, k⟩ := h
    have len2 : (ns.length ≠ 2 ∨ ms.length ≠ 2) → Q (.int (-3)) H := fun c => by
      have e : refuseP ns ms = -3 := by unfold refuseP; rw [if_pos c]
      have q := k H (Same.refl H)
      rw [e] at q
      exact q
    refine ⟨_, rfl, a, _, rfl, .inl (SqL.of h1), rfl, _, rfl, ?_⟩
    rw [ne_int, List.length_map]
    refine if2 (fun c1 => ?_) (fun c1 => ?_)
    · refine ifT rfl ?_
      exact ⟨_, rfl, len2 (.inl (by simp at c1; omega))⟩
    · refine ⟨_, rfl, b, _, rfl, .inl (SqL.of h2), rfl, _, rfl, ?_⟩
      rw [ne_int, List.length_map]
      refine if2 (fun c2 => ?_) (fun c2 => ?_)
      · exact ⟨_, rfl, len2 (.inr (by simp at c2; omega))⟩
      · have n1 : ns.length = 2 := by simp at c1; omega
        have n2 : ms.length = 2 := by simp at c2; omega
        refine ⟨_, rfl, _, rfl, a, b, ns, ms, 0, rfl, h1, h2, by omega, by omega, fun H1 u s1 hu => ?_⟩
        have q := k H1 s1
        unfold refuseP at q
        rw [if_neg (by omega)] at q
        refine ⟨u, _, 1600, rfl, hu, _, rfl, ?_⟩
        refine if2 (fun c3 => ?_) (fun c3 => ?_)
        · refine ⟨_, rfl, ?_⟩
          rw [if_pos c3] at q
          exact q
        · rw [if_neg (by rw [c3]; simp)] at q
          exact q
theorem scFlat : FnScope ["points", "numbers", "point"] ["points"] (defScope sFlat) := ⟨rfl, rfl, rfl, by decide +kernel, rfl, by decide +kernel, by decide +kernel⟩
theorem c_flat (D : Dfn K mg "flat" sFlat ["points"]) : Cal P w K mg base 1 "flat" spFlat := by
  refine D.cal fun f fd F => F.ok scFlat (fun vs H Q E h => ?_) (fun cdv A outer s H vs Q E hr h => ⟨_,
    pss_cons (ps_set (i := 1) scFlat.nd rfl (.inl rfl) (pe_lst pa_nil))
    (pss_cons (ps_for PassesOwn.never rfl (pi_list (pv 0)) (pg_name (i := 2) scFlat.nd rfl (Or.inl rfl))
      (pss_cons (ps_expr (pe_bm PySem.F.plainAttrs_list PySem.F.slot_list_append PySem.F.type_list_append mt_append (pv 1) (pa_cons (pe_ix ix_tup (pv 2) pe_int (fun _ _ => rfl)) pa_nil)))
      (pss_one (ps_expr (pe_bm PySem.F.plainAttrs_list PySem.F.slot_list_append PySem.F.type_list_append mt_append (pv 1) (pa_cons (pe_ix ix_tup (pv 2) pe_int (fun _ _ => rfl)) pa_nil))))))
    (pss_one (ps_ret (pv 1)))), ?_⟩)
  · obtain ⟨a, _, rfl, _⟩ := h
    rfl
  · obtain ⟨l, ps, rfl, ⟨as, hL, hA⟩, len, k⟩ := h
    have hlen := hA.len
    refine ⟨Nat.zero_le _, fun r hr' => ?_⟩
    have lr : l ≠ r := ne_of_none hL hr'
    refine ⟨_, rfl, l, rfl, ⟨_, SqL.of (same_new hr' _ _ hL)⟩, for_list (K := K) (a := l) (xs := as.map V.ref) (fun i σ H' => ∃ v : Option V, σ = [some (.ref l), some (.ref r), v] ∧ But r H H' ∧ Ints H' r (Sq69.listed (ps.take i)))
      ⟨none, rfl, fun b o n e => same_new hr' _ _ e, upd_same⟩ (fun i σ H' _ ⟨_, _, bt, _⟩ => SqL.of (bt _ _ lr hL)) ?_ ?_⟩
    · rintro i x σ H' hi ⟨v, rfl, bt, hR⟩
      have hi' : i < ps.length := by
        have := (List.getElem?_eq_some_iff.mp hi).1
        rw [List.length_map] at this
        omega
      obtain ⟨p, hp⟩ := get_some hi'
      obtain ⟨pa, ha, hpa⟩ := hA.get hp
      obtain rfl : x = V.ref pa := by
        rw [List.getElem?_map, ha] at hi
        exact (Option.some.inj hi).symm
      have hpp := bt _ _ (ne_of_none hpa hr') hpa
      have ln : (Sq69.listed (ps.take i)).length ≤ 20000 := by
        rw [listed_len, List.length_take]
        omega
      refine ⟨_, rfl, .inl ⟨rfl, _, SqL.of hR⟩, _, rfl, pa, _, _, _, rfl, rfl, SqT.of hpp, rfl, r, _, _, rfl, rfl, hR, ?_, ?_⟩
      · rw [List.length_map]
        exact Nat.lt_of_le_of_lt (show _ ≤ 100000 by omega) line_big
      have hpp2 : Pt (upd H' r (.lst ((Sq69.listed (ps.take i)).map V.int ++ [.int p.1]))) pa p := Pt.upd hpp hR
      refine ⟨_, rfl, .inl ⟨rfl, _, SqL.of upd_same⟩, _, rfl, pa, _, _, _, rfl, rfl, SqT.of hpp2, rfl, r, _, _, rfl, rfl, upd_same, ?_, ?_⟩
      · rw [List.length_append, List.length_map, List.length_singleton]
        exact Nat.lt_of_le_of_lt (show _ ≤ 100000 by omega) line_big
      · refine ⟨_, rfl, bt.upd.upd, ?_⟩
        unfold Ints
        rw [upd_same, listed_take hp, List.map_append, List.map_append]
        rfl
    · rintro σ H' ⟨v, rfl, bt, hR⟩
      refine ⟨_, rfl, k _ r (bt.new hr') ?_⟩
      rw [List.length_map, hlen, List.take_length] at hR
      exact hR
theorem scLeastOf : FnScope ["u", "v", "points"] ["u", "v"] (defScope sLeastOf) := ⟨rfl, rfl, rfl, by decide +kernel, rfl, by decide +kernel, by decide +kernel⟩
theorem c_leastOf (D : Dfn K mg "least_of" sLeastOf ["u", "v"]) (B : Bui mg) (cl : Cal P w K mg base 3 "least_points" spLeastPts) (cf : Cal P w K mg base 1 "flat" spFlat) (cn : Cal P w K mg base 2 "numbers_of" spNumbers) : Cal P w K mg base 4 "least_of" spLeastOf := by
  refine D.cal fun f fd F => F.ok scLeastOf (fun vs H Q E h => ?_) (fun cdv A outer s H vs Q E hr h => ⟨_,
    pss_cons (ps_set (i := 2) scLeastOf.nd rfl (.inl rfl) (pe_c cl hr (pa_cons (pv 0) (pa_cons (pv 1) pa_nil))))
    (pss_one (ps_ret (pe_op op_cat (pe_op op_cat (pe_lst (pa_cons (pe_callB call_len_seq (by rfl) B.len PySem.boot_len (pa_cons (pv 2) pa_nil)) pa_nil)) (pe_c cf hr (pa_cons (pv 2) pa_nil))) (pe_c cn hr (pa_cons (pv 2) pa_nil))))), ?_⟩)
  · obtain ⟨a, b, _, rfl, _⟩ := h
    rfl
  · obtain ⟨a, b, c, rfl, h1, h2, g, k⟩ := h
    have row := g.row
    refine ⟨_, rfl, _, rfl, a, b, c, rfl, h1, h2, g, fun H1 l s1 hl => ?_⟩
    obtain ⟨as, hL, hA⟩ := id hl
    have hlen := hA.len
    refine ⟨_, rfl, l, _, rfl, .inl (SqL.of hL), (by show 1 ≤ sizeLine; decide), fun x hx => ?_⟩
    refine ⟨_, rfl, l, _, rfl, hl.same (same_new hx), by have := row.len; omega, fun H3 y s3 hy => ?_⟩
    have hx3 := s3 _ _ (show upd H1 x (.lst [.int ((as.map V.ref).length : Int)]) x = some (.lst [.int ((as.map V.ref).length : Int)]) from upd_same)
    refine ⟨x, y, _, _, rfl, rfl, hx3, hy, ?_, fun z hz => ?_⟩
    · rw [List.length_map (as := Sq69.listed (R c.v c.u)), listed_len]
      have := row.len
      exact Nat.le_trans (show _ ≤ 100000 by simp; omega) (Nat.le_of_lt line_big)
    refine ⟨_, rfl, l, _, rfl, ((hl.same (same_new hx)).same s3).same (same_new hz), row.two', fun H5 n s5 hn => ?_⟩
    have hz5 := s5 _ _ (show upd H3 z (.lst ([.int ((as.map V.ref).length : Int)] ++ (Sq69.listed (R c.v c.u)).map V.int)) z = some (.lst ([.int ((as.map V.ref).length : Int)] ++ (Sq69.listed (R c.v c.u)).map V.int)) from upd_same)
    refine ⟨z, n, _, _, rfl, rfl, hz5, hn, ?_, fun r hr' => ?_⟩
    · rw [List.length_append, List.length_map (as := Sq69.listed (R c.v c.u)), List.length_map (as := crosses (R c.v c.u)), listed_len, crosses_len]
      have := row.len
      exact Nat.le_trans (show _ ≤ 100000 by simp; omega) (Nat.le_of_lt line_big)
    refine k _ r (((((s1.trans (same_new hx)).trans s3).trans (same_new hz)).trans s5).trans (same_new hr')) (((((s1.trans (same_new hx)).trans s3).trans (same_new hz)).trans s5).free hr') ?_
    unfold Ints
    rw [upd_same]
    unfold leastAns
    rw [List.map_cons, List.map_append, List.length_map, hlen]
    rfl
/-- a word for a list made of numbers and another -/
theorem ints_len (l : List Nat) : (Sq69.ints l).length = l.length := List.length_map ..
theorem scSimplest : FnScope ["first", "second", "walk", "looked"] ["first", "second"] (defScope sSimplest) := ⟨rfl, rfl, rfl, by decide +kernel, rfl, by decide +kernel, by decide +kernel⟩
theorem c_simplest (D : Dfn K mg "simplest" sSimplest ["first", "second"]) (B : Bui mg) (T : CTxt mg) (TW : WTxt K mg C) (cb : Cal P w K mg base 1 "is_below" spIsBelow) (cw : Cal P w K mg base 3 "walk_between" (spBetween C)) (ml : Met P w K mg base 1 C "looked_at" (spLooked C)) :
    Cal P w K mg base 4 "simplest" spSimplest := by
  obtain ⟨fl, fdl, psl, GL, mL, bL⟩ := ml.ex
  obtain ⟨tg, hg⟩ := T.gr
  refine D.cal fun f fd F => F.ok scSimplest (fun vs H Q E h => ?_) (fun cdv A outer s H vs Q E hr h => ⟨_,
    pss_cons (ps_if (PW.pt (pw_or (pt_cmpR op_gt (pe_callB (callMax4 rfl) (by rfl) B.max (by decide +kernel) (pa_cons (pe_ix ix_tup (pv 0) pe_int (fun _ _ => rfl)) (pa_cons (pe_ix ix_tup (pv 0) pe_int (fun _ _ => rfl)) (pa_cons (pe_ix ix_tup (pv 1) pe_int (fun _ _ => rfl)) (pa_cons (pe_ix ix_tup (pv 1) pe_int (fun _ _ => rfl)) pa_nil)))))
        (pe_glob (v := .int 200) rfl hg ⟨_, rfl⟩) (nomark _)) (pw_or1 (pt_cmpR op_eq (pe_ix ix_tup (pv 0) pe_int (fun _ _ => rfl)) pe_int (nomark _)))))
      (pss_one (ps_ret (pe_lst (pa_cons (pe_un un_neg pe_int) pa_nil)))) pss_nil)
    (pss_cons (ps_if (pt_not (pt_val (pe_c cb hr (pa_cons (pv 0) (pa_cons (pv 1) pa_nil))))) (pss_one (ps_ret (pe_lst (pa_cons (pe_un un_neg pe_int) pa_nil)))) pss_nil)
    (pss_cons (ps_set (i := 2) scSimplest.nd rfl (.inl rfl) (pe_c cw hr (pa_cons (pv 0) (pa_cons (pv 1) pa_nil))))
    (pss_cons (ps_set (i := 3) scSimplest.nd rfl (.inl rfl) (pe_meth0 (pv 2) TW.cl mL GL (hr.mono (by decide)) bL .nil pass0))
    (pss_one (ps_ret (pe_op op_cat (pe_lst (pa_cons (pe_ix ix_tup (pv 3) pe_int (fun _ _ => rfl)) (pa_cons (pe_ix ix_tup (pv 3) pe_int (fun _ _ => rfl)) (pa_cons (pe_callB call_len_seq (by rfl) B.len PySem.boot_len (pa_cons (pe_fld (pv 2) rfl) pa_nil)) pa_nil))))
      (pe_fld (pv 2) rfl))))))), ?_⟩)
  · obtain ⟨a, b, _, _, _, _, rfl, _⟩ := h
    rfl
  · obtain ⟨p, q, a, b, c, d, rfl, h1, h2, k⟩ := h
    refine ⟨_, rfl, p, _, _, _, rfl, rfl, SqT.of h1, rfl, _, rfl, p, _, _, _, rfl, rfl, SqT.of h1, rfl, _, rfl, q, _, _, _, rfl, rfl, SqT.of h2, rfl, _, rfl, q, _, _, _, rfl, rfl, SqT.of h2, rfl, _, _, _, _, rfl, _, _, rfl, rfl, _, rfl, ?_⟩
    have big : decide ((200 : Int) < max4 (a : Int) (b : Int) (c : Int) (d : Int)) = decide (200 < a ∨ 200 < b ∨ 200 < c ∨ 200 < d) := by
      refine decide_eq_decide.mpr (Iff.trans (max4_gt _ _ _ _ _) ?_)
      omega
    show if decide ((200 : Int) < max4 (a : Int) (b : Int) (c : Int) (d : Int)) = true then _ else _
    rw [big]
    have one : ∀ (H' : Hp) (r : Addr) (n : Int), Same H H' → H' r = none → simpAns a b c d = [n] → Q (.ref r) (upd H' r (.lst [.int n])) := fun H' r n s e q => k _ r (s.trans (same_new e)) (s.free e) (by rw [q]; exact upd_same)
    refine if2 (fun c1 => ?_) (fun c1 => ?_)
    · refine ifT rfl ⟨_, rfl, (by show 1 ≤ sizeLine; decide), fun r hr' => one _ r _ (Same.refl H) hr' ?_⟩
      unfold simpAns
      rw [if_pos (.inl (of_decide_eq_true c1))]
    · have c1' := of_decide_eq_false c1
      refine ⟨_, rfl, p, _, _, _, rfl, rfl, SqT.of h1, rfl, rfl, _, rfl, ?_⟩
      rw [eq_int]
      refine if2 (fun c2 => ?_) (fun c2 => ?_)
      · have b0 : b = 0 := by
          have : ((b : Nat) : Int) = 0 := of_decide_eq_true c2
          omega
        refine ⟨_, rfl, (by show 1 ≤ sizeLine; decide), fun r hr' => one _ r _ (Same.refl H) hr' ?_⟩
        unfold simpAns
        rw [if_pos (.inr b0)]
      · have b0 : ¬ b = 0 := by
          have : ¬ ((b : Nat) : Int) = 0 := of_decide_eq_false c2
          omega
        have lf : Low 200 (a, b) := ⟨by show a ≤ 200; omega, by show b ≤ 200; omega⟩
        have ls : Low 200 (c, d) := ⟨by show c ≤ 200; omega, by show d ≤ 200; omega⟩
        have nope : ¬ ((200 < a ∨ 200 < b ∨ 200 < c ∨ 200 < d) ∨ b = 0) := fun z => z.elim c1' b0
        refine ⟨_, rfl, _, rfl, p, q, (a, b), (c, d), rfl, h1, h2, lf.fits (by decide), ls.fits (by decide), _, rfl, ?_⟩
        refine if2 (fun c3 => ?_) (fun c3 => ?_)
        · have c3' : less (a, b) (c, d) = false := by simpa using c3
          refine ⟨_, rfl, (by show 1 ≤ sizeLine; decide), fun r hr' => one _ r _ (Same.refl H) hr' ?_⟩
          unfold simpAns
          rw [if_neg nope, if_pos c3']
        · have c3' : less (a, b) (c, d) = true := by simpa using c3
          refine ⟨_, rfl, _, rfl, p, q, (a, b), (c, d), rfl, h1, h2, lf, ls, Nat.pos_of_ne_zero b0, less_iff.mp c3', fun H1 x t lo hi w' s1 hW wl es => ?_⟩
          obtain ⟨dx, u, o, w1, w2, w3, w4⟩ := id hW
          refine ⟨_, rfl, x, dx, _, rfl, w1, wF_looked _ _ _, x, t, lo, hi, w', rfl, hW, fun H2 m s2 hm => ?_⟩
          refine ⟨_, rfl, m, _, _, _, rfl, rfl, SqT.of hm, rfl, _, rfl, m, _, _, _, rfl, rfl, SqT.of hm, rfl, _, rfl, x, C, dx, _, _, rfl, s2 _ _ w1, TW.cl, TW.nT, wF_turns _ _ _, t, _, rfl, .inl (SqL.of (s2 _ _ w4)), (by show 3 ≤ sizeLine; decide), fun y hy => ?_⟩
          have s3 : Same H2 (upd H2 y (.lst [V.int (fp (mid lo hi)).1, V.int (fp (mid lo hi)).2, V.int ((((Sq69.ints w').map V.int).length : Nat) : Int)])) := same_new hy
          refine ⟨_, rfl, x, C, dx, _, _, rfl, s3 _ _ (s2 _ _ w1), TW.cl, TW.nT, wF_turns _ _ _, y, t, _, _, rfl, rfl, upd_same, s3 _ _ (s2 _ _ w4), ?_, fun r hr' => ?_⟩
          · rw [List.length_map, ints_len]
            exact Nat.le_trans (show _ ≤ 100000 by simp; omega) (Nat.le_of_lt line_big)
          · refine k _ r (((s1.trans s2).trans s3).trans (same_new hr')) (((s1.trans s2).trans s3).free hr') ?_
            unfold Ints
            rw [upd_same]
            unfold simpAns
            rw [if_neg nope, c3', if_neg (by decide), es, List.map_cons, List.map_cons, List.map_cons, List.length_map, ints_len]
            rfl
theorem scWay : FnScope ["goal", "walk"] ["goal"] (defScope sWay) := ⟨rfl, rfl, rfl, by decide +kernel, rfl, by decide +kernel, by decide +kernel⟩
theorem c_way (D : Dfn K mg "way" sWay ["goal"]) (B : Bui mg) (T : CTxt mg) (TW : WTxt K mg C) (cw : Cal P w K mg base 3 "walk_to" (spWalkTo C)) : Cal P w K mg base 4 "way" spWay := by
  obtain ⟨tg, hg⟩ := T.gr
  refine D.cal fun f fd F => F.ok scWay (fun vs H Q E h => ?_) (fun cdv A outer s H vs Q E hr h => ⟨_,
    pss_cons (ps_if (PW.pt (pw_or (pt_cmpR op_lt (pe_callB (call_min2 rfl) (by rfl) B.min (by decide +kernel) (pa_cons (pe_ix ix_tup (pv 0) pe_int (fun _ _ => rfl)) (pa_cons (pe_ix ix_tup (pv 0) pe_int (fun _ _ => rfl)) pa_nil))) pe_int (nomark _))
        (pw_or1 (pt_cmpR op_gt (pe_callB (call_max2 rfl) (by rfl) B.max (by decide +kernel) (pa_cons (pe_ix ix_tup (pv 0) pe_int (fun _ _ => rfl)) (pa_cons (pe_ix ix_tup (pv 0) pe_int (fun _ _ => rfl)) pa_nil))) (pe_glob (v := .int 200) rfl hg ⟨_, rfl⟩) (nomark _)))))
      (pss_one (ps_ret (pe_lst (pa_cons (pe_un un_neg pe_int) pa_nil)))) pss_nil)
    (pss_cons (ps_set (i := 1) scWay.nd rfl (.inl rfl) (pe_c cw hr (pa_cons (pv 0) pa_nil)))
    (pss_one (ps_ret (pe_op op_cat (pe_lst (pa_cons (pe_callB call_len_seq (by rfl) B.len PySem.boot_len (pa_cons (pe_fld (pv 1) rfl) pa_nil)) pa_nil)) (pe_fld (pv 1) rfl))))), ?_⟩)
  · obtain ⟨a, _, _, rfl, _⟩ := h
    rfl
  · obtain ⟨p, a, b, rfl, h1, k⟩ := h
    have one : ∀ (H' : Hp) (r : Addr) (n : Int), Same H H' → H' r = none → wayAns a b = [n] → Q (.ref r) (upd H' r (.lst [.int n])) := fun H' r n s e q => k _ r (s.trans (same_new e)) (s.free e) (by rw [q]; exact upd_same)
    refine ⟨_, rfl, p, _, _, _, rfl, rfl, SqT.of h1, rfl, _, rfl, p, _, _, _, rfl, rfl, SqT.of h1, rfl, _, _, rfl, _, _, rfl, rfl, _, rfl, ?_⟩
    show if decide ((if (b : Int) < (a : Int) then (b : Int) else (a : Int)) < 1) = true then _ else _
    refine if2 (fun c1 => ?_) (fun c1 => ?_)
    · have c1' : a = 0 ∨ b = 0 := by
        have := of_decide_eq_true c1
        split at this <;> omega
      refine ifT rfl ⟨_, rfl, (by show 1 ≤ sizeLine; decide), fun r hr' => one _ r _ (Same.refl H) hr' ?_⟩
      unfold wayAns
      rw [if_pos (by omega)]
    · have c1' : ¬ (a = 0 ∨ b = 0) := by
        have := of_decide_eq_false c1
        split at this <;> omega
      refine ⟨_, rfl, p, _, _, _, rfl, rfl, SqT.of h1, rfl, _, rfl, p, _, _, _, rfl, rfl, SqT.of h1, rfl, _, _, rfl, _, _, rfl, rfl, _, rfl, ?_⟩
      show if decide ((200 : Int) < (if (b : Int) > (a : Int) then (b : Int) else (a : Int))) = true then _ else _
      refine if2 (fun c2 => ?_) (fun c2 => ?_)
      · have c2' : 200 < a ∨ 200 < b := by
          have := of_decide_eq_true c2
          split at this <;> omega
        refine ⟨_, rfl, (by show 1 ≤ sizeLine; decide), fun r hr' => one _ r _ (Same.refl H) hr' ?_⟩
        unfold wayAns
        rw [if_pos (by omega)]
      · have c2' : ¬ (200 < a ∨ 200 < b) := by
          have := of_decide_eq_false c2
          split at this <;> omega
        have lf : Low 200 (a, b) := ⟨by show a ≤ 200; omega, by show b ≤ 200; omega⟩
        refine ⟨_, rfl, p, (a, b), rfl, h1, lf, by show 0 < a; omega, by show 0 < b; omega, fun H1 x t lo hi w' s1 hW wl es => ?_⟩
        obtain ⟨dx, u, o, w1, w2, w3, w4⟩ := id hW
        refine ⟨_, rfl, x, C, dx, _, _, rfl, w1, TW.cl, TW.nT, wF_turns _ _ _, t, _, rfl, .inl (SqL.of w4), (by show 1 ≤ sizeLine; decide), fun y hy => ?_⟩
        have s3 : Same H1 (upd H1 y (.lst [V.int ((((Sq69.ints w').map V.int).length : Nat) : Int)])) := same_new hy
        refine ⟨_, rfl, x, C, dx, _, _, rfl, s3 _ _ w1, TW.cl, TW.nT, wF_turns _ _ _, y, t, _, _, rfl, rfl, upd_same, s3 _ _ w4, ?_, fun r hr' => ?_⟩
        · rw [List.length_map, ints_len]
          exact Nat.le_trans (show _ ≤ 100000 by simp; omega) (Nat.le_of_lt line_big)
        · refine k _ r ((s1.trans s3).trans (same_new hr')) ((s1.trans s3).free hr') ?_
          unfold Ints
          rw [upd_same]
          have es' : Sq69.wayTo (a, b) (a + b + 1) (0, 1) (1, 0) = w' := es
          unfold wayAns
          rw [if_neg (by omega), es', List.map_cons, List.length_map, ints_len]
          rfl
end
end My
namespace My
open PySem PySem.Spec PyProof.Rows L2
open Sq69 (Point det single Frac less)
abbrev sCInit : Stmt := inClass (top 34) 0
abbrev sBegin : Stmt := inClass (top 34) 1
abbrev sLeast : Stmt := inClass (top 34) 2
abbrev sSail : Stmt := inClass (top 34) 3
abbrev sKind : Stmt := inClass (top 34) 4
abbrev sLike : Stmt := inClass (top 34) 5
abbrev sDual : Stmt := inClass (top 34) 6
abbrev sTold : Stmt := inClass (top 34) 7
def cF (u v : Addr) : List (Str × V) := [("u", .ref u), ("v", .ref v)]
theorem cF_u (u v : Addr) : (cF u v).lookup ("u" : Str) = some (.ref u) := lkH
theorem cF_v (u v : Addr) : (cF u v).lookup ("v" : Str) = some (.ref v) := (lkP (by decide +kernel)).trans lkH
theorem cF_no (u v : Addr) {m : Str} (h1 : (m == ("u" : Str)) = false) (h2 : (m == ("v" : Str)) = false) : (cF u v).lookup m = none := (lkP h1).trans ((lkP h2).trans rfl)
theorem cF_pu (u v x : Addr) : putF "u" (.ref x) (cF u v) = cF x v := pfH
theorem cF_pv (u v x : Addr) : putF "v" (.ref x) (cF u v) = cF u x := (pfP (by decide +kernel)).trans (congrArg _ pfH)
theorem cF_new (u v : Addr) : putF "v" (.ref v) (putF "u" (.ref u) []) = cF u v := by
  have e1 : putF "u" (.ref u) [] = [(("u" : Str), V.ref u)] := rfl
  rw [e1]
  exact (pfP (by decide +kernel)).trans rfl
def ConeAt (C : Addr) (H : Hp) (a : Addr) (c : Sq69.Cone) : Prop := ∃ dx u v, H a = some (.ins C dx (cF u v)) ∧ Pt H u c.u ∧ Pt H v c.v
theorem ConeAt.same {C : Addr} {H H' : Hp} {a : Addr} {c : Sq69.Cone} (s : Same H H') (h : ConeAt C H a c) : ConeAt C H' a c := by
  obtain ⟨dx, u, v, h1, h2, h3⟩ := h
  exact ⟨dx, u, v, s _ _ h1, h2.same s, h3.same s⟩
abbrev stp (c : Sq69.Cone) (x : List (List Int)) : Sq69.Cone × List Int := Sq69Neutral.step c x
def spCInit (C : Addr) : Sp := fun vs H Q _ => ∃ (p dx : Addr), vs = [.ref p] ∧ H p = some (.ins C dx []) ∧ ∀ H', But p H H' → ConeAt C H' p ⟨(1, 0), (0, 1)⟩ → Q .non H'
def spM0 (C : Addr) (n : Int) : Sp := fun vs H Q _ => ∃ (a : Addr) (c : Sq69.Cone), vs = [.ref a] ∧ ConeAt C H a c ∧ Good c ∧ ∀ H' r, Same H H' → H r = none → Ints H' r (stp c [[n]]).2 → Q (.ref r) H'
def spM2 (C : Addr) (n : Int) : Sp := fun vs H Q _ => ∃ (a x y : Addr) (c : Sq69.Cone) (ns ms : List Int), vs = [.ref a, .ref x, .ref y] ∧ ConeAt C H a c ∧ Good c ∧ Ints H x ns ∧ Ints H y ms ∧ (∀ z ∈ ns, 0 ≤ z) ∧ (∀ z ∈ ms, 0 ≤ z) ∧
  ∀ H' r, Same H H' → H r = none → Ints H' r (stp c [[n], ns, ms]).2 → Q (.ref r) H'
def spBegin (C : Addr) : Sp := fun vs H Q _ => ∃ (a x y : Addr) (c : Sq69.Cone) (ns ms : List Int), vs = [.ref a, .ref x, .ref y] ∧ ConeAt C H a c ∧ Good c ∧ Ints H x ns ∧ Ints H y ms ∧ (∀ z ∈ ns, 0 ≤ z) ∧ (∀ z ∈ ms, 0 ≤ z) ∧
  ∀ H' r, But a H H' → H r = none → ConeAt C H' a (stp c [[1], ns, ms]).1 → Good (stp c [[1], ns, ms]).1 → Ints H' r (stp c [[1], ns, ms]).2 → Q (.ref r) H'
theorem But.free {H H' : Hp} {a r : Addr} {o : HO} (b : But a H H') (ha : H' a = some o) (hr : H' r = none) : H r = none := by
  cases q : H r with
  | none => rfl
  | some u =>
    have ne : r ≠ a := fun e => by
      rw [e, ha] at hr
      cases hr
    rw [b _ _ ne q] at hr
    cases hr
structure KTxt (K : PySem.W.Frag) (mg : Str → Option Value) (C : Addr) : Prop where
  cl : Cls K C
  nu : NoAttr K C "u"
  nv : NoAttr K C "v"
  gC : mg "Cone" = some (.ref C)
section
variable {P : Program} {w : World} {K : PySem.W.Frag} {mg : Str → Option Value} {base : Heap} {C : Addr}
theorem scCInit : FnScope ["self"] ["self"] (defScope sCInit) := ⟨rfl, rfl, rfl, by decide +kernel, rfl, by decide +kernel, by decide +kernel⟩
theorem m_cinit (D : Ifn K C "Cone.__init__" sCInit ["self"]) (T : KTxt K mg C) : Mak P w K mg base 1 C (spCInit C) := by
  refine D.mak fun f fd F => F.ok scCInit (fun vs H Q E h => ?_) (fun cdv A outer s H vs Q E hr h => ⟨_,
    pss_cons (ps_fld (pv 0) (pe_tup (pa_cons pe_int (pa_cons pe_int pa_nil))) rfl)
    (pss_one (ps_fld (pv 0) (pe_tup (pa_cons pe_int (pa_cons pe_int pa_nil))) rfl)), ?_⟩)
  · obtain ⟨a, b, rfl, _⟩ := h
    rfl
  · obtain ⟨p, dx, rfl, hp, k⟩ := h
    refine ⟨(by show 2 ≤ sizeLine; decide), fun u hu => ?_⟩
    have pu : p ≠ u := ne_of_none hp hu
    refine ⟨_, rfl, p, C, dx, [], rfl, (by rw [upd_ne pu]; exact hp), T.cl, T.nu, (by show 0 < 1000; decide), ?_⟩
    refine ⟨(by show 2 ≤ sizeLine; decide), fun o ho => ?_⟩
    have po : p ≠ o := fun q => by
      rw [← q, upd_same] at ho
      cases ho
    have uo : u ≠ o := fun q => by
      rw [← q, upd_ne pu.symm, upd_same] at ho
      cases ho
    have ho0 : H o = none := by
      rw [upd_ne po.symm, upd_ne uo.symm] at ho
      exact ho
    refine ⟨_, rfl, p, C, dx, _, rfl, (by rw [upd_ne po, upd_same]), T.cl, T.nv, (by show 1 < 1000; decide), ?_⟩
    refine k _ ?_ ⟨dx, u, o, ?_, ?_, ?_⟩
    · intro b q hb e
      rw [upd_ne hb, upd_ne (ne_of_none e ho0), upd_ne hb, upd_ne (ne_of_none e hu)]
      exact e
    · rw [upd_same, cF_new]
    · unfold Pt
      rw [upd_ne pu.symm, upd_ne uo, upd_ne pu.symm, upd_same]
      rfl
    · unfold Pt
      rw [upd_ne po.symm, upd_same]
      rfl
theorem scBegin : FnScope ["self", "plus", "minus", "refused"] ["self", "plus", "minus"] (defScope sBegin) := ⟨rfl, rfl, rfl, by decide +kernel, rfl, by decide +kernel, by decide +kernel⟩
theorem m_begin (D : Mfn K C "begin" "Cone.begin" sBegin ["self", "plus", "minus"]) (T : KTxt K mg C) (cr : Cal P w K mg base 2 "cone_refusal" spConeRefusal) (cp : Cal P w K mg base 1 "point_at" spPointAt) (cc : Cal P w K mg base 1 "cross" spCross) :
    Met P w K mg base 3 C "begin" (spBegin C) := by
  refine D.met fun f fd F => F.ok scBegin (fun vs H Q E h => ?_) (fun cdv A outer s H vs Q E hr h => ⟨_,
    pss_cons (ps_set (i := 3) scBegin.nd rfl (.inl rfl) (pe_c cr hr (pa_cons (pv 1) (pa_cons (pv 2) pa_nil))))
    (pss_cons (ps_if (pt_cmpR op_lt (pv 3) pe_int (nomark _)) (pss_one (ps_ret (pe_lst (pa_cons (pv 3) pa_nil)))) pss_nil)
    (pss_cons (ps_fld (pv 0) (pe_c cp hr (pa_cons (pv 1) (pa_cons (pv 2) (pa_cons pe_int pa_nil)))) rfl)
    (pss_cons (ps_fld (pv 0) (pe_c cp hr (pa_cons (pv 1) (pa_cons (pv 2) (pa_cons pe_int pa_nil)))) rfl)
    (pss_one (ps_ret (pe_lst (pa_cons (pe_c cc hr (pa_cons (pe_fld (pv 0) rfl) (pa_cons (pe_fld (pv 0) rfl) pa_nil))) pa_nil))))))), ?_⟩)
  · obtain ⟨a, _, _, _, _, _, rfl, _⟩ := h
    rfl
  · obtain ⟨a, x, y, c, ns, ms, rfl, hc, g, h1, h2, p1, p2, k⟩ := h
    refine ⟨_, rfl, _, rfl, x, y, ns, ms, rfl, h1, h2, fun H1 s1 => ?_⟩
    refine ⟨_, rfl, _, _, rfl, rfl, _, rfl, ?_⟩
    rcases begin_is c p1 p2 with ⟨r0, st⟩ | ⟨r0, st, g2⟩
    · refine ifT (decide_eq_true r0) ⟨_, rfl, (by show 1 ≤ sizeLine; decide), fun r hr' => ?_⟩
      refine k _ r (fun b o _ e => same_new hr' _ _ (s1 _ _ e)) (s1.free hr') ?_ ?_ ?_
      · rw [show stp c [[1], ns, ms] = _ from st]
        exact hc.same (s1.trans (same_new hr'))
      · rw [show stp c [[1], ns, ms] = _ from st]
        exact g
      · rw [show stp c [[1], ns, ms] = _ from st]
        exact upd_same
    · refine ifF (decide_eq_false (by rw [r0]; omega)) ?_
      have n4 : ns.length = 4 ∧ ms.length = 4 := by
        by_cases q : ns.length ≠ 4 ∨ ms.length ≠ 4
        · have e : refuse ns ms = -3 := by unfold refuse; rw [if_pos q]
          omega
        · omega
      obtain ⟨dx, u, v, c1, c2, c3⟩ := hc
      refine ⟨_, rfl, _, rfl, x, y, ns, ms, 0, rfl, h1.same s1, h2.same s1, by omega, by omega, fun H2 p s2 hp => ?_⟩
      have n1 : H2 a = some (.ins C dx (cF u v)) := s2 _ _ (s1 _ _ c1)
      have x2 : Ints H2 x ns := (h1.same s1).same s2
      have y2 : Ints H2 y ms := (h2.same s1).same s2
      have ax : x ≠ a := ne_of x2 n1 (by intro z; cases z)
      have ay : y ≠ a := ne_of y2 n1 (by intro z; cases z)
      have ap : p ≠ a := ne_of hp n1 (by intro z; cases z)
      refine ⟨_, rfl, a, C, dx, _, rfl, n1, T.cl, T.nu, (by show 2 < 1000; decide), ?_⟩
      rw [cF_pu]
      have hp3 : Pt (upd H2 a (.ins C dx (cF p v))) p (pAt ns ms 0) := (upd_ne ap).trans hp
      refine ⟨_, rfl, _, rfl, x, y, ns, ms, 2, rfl, (upd_ne ax).trans x2, (upd_ne ay).trans y2, by omega, by omega, fun H4 q s4 hq => ?_⟩
      have n4' : H4 a = some (.ins C dx (cF p v)) := s4 _ _ upd_same
      have aq : q ≠ a := ne_of hq n4' (by intro z; cases z)
      have hp4 := hp3.same s4
      refine ⟨_, rfl, a, C, dx, _, rfl, n4', T.cl, T.nv, (by show 2 < 1000; decide), ?_⟩
      rw [cF_pv]
      have hp5 : Pt (upd H4 a (.ins C dx (cF p q))) p (pAt ns ms 0) := (upd_ne ap).trans hp4
      have hq5 : Pt (upd H4 a (.ins C dx (cF p q))) q (pAt ns ms 2) := (upd_ne aq).trans hq
      refine ⟨_, rfl, a, C, dx, _, _, rfl, upd_same, T.cl, T.nu, cF_u _ _, _, rfl, a, C, dx, _, _, rfl, upd_same, T.cl, T.nv, cF_v _ _, p, q, _, _, rfl, hp5, hq5, .inl (g2.nu.fits (by decide)), (by show 1 ≤ sizeLine; decide), fun r hr' => ?_⟩
      have s6 : Same (upd H4 a (.ins C dx (cF p q))) (upd (upd H4 a (.ins C dx (cF p q))) r (.lst [V.int (det (pAt ns ms 0) (pAt ns ms 2))])) := same_new hr'
      have bt : But a H (upd H4 a (.ins C dx (cF p q))) := fun b o hb e => by
        rw [upd_ne hb]
        refine s4 _ _ ?_
        rw [upd_ne hb]
        exact s2 _ _ (s1 _ _ e)
      refine k _ r (bt.same s6) (bt.free upd_same hr') ?_ ?_ ?_
      · rw [show stp c [[1], ns, ms] = _ from st]
        exact ⟨dx, p, q, s6 _ _ upd_same, hp5.same s6, hq5.same s6⟩
      · rw [show stp c [[1], ns, ms] = _ from st]
        exact g2
      · rw [show stp c [[1], ns, ms] = _ from st]
        exact upd_same
theorem scLeast : FnScope ["self"] ["self"] (defScope sLeast) := ⟨rfl, rfl, rfl, by decide +kernel, rfl, by decide +kernel, by decide +kernel⟩
theorem m_least (D : Mfn K C "least" "Cone.least" sLeast ["self"]) (T : KTxt K mg C) (cl : Cal P w K mg base 4 "least_of" spLeastOf) : Met P w K mg base 5 C "least" (spM0 C 2) := by
  refine D.met fun f fd F => F.ok scLeast (fun vs H Q E h => ?_) (fun cdv A outer s H vs Q E hr h => ⟨_,
    pss_one (ps_ret (pe_c cl hr (pa_cons (pe_fld (pv 0) rfl) (pa_cons (pe_fld (pv 0) rfl) pa_nil)))), ?_⟩)
  · obtain ⟨a, _, rfl, _⟩ := h
    rfl
  · obtain ⟨a, c, rfl, ⟨dx, u, v, c1, c2, c3⟩, g, k⟩ := h
    refine ⟨_, rfl, a, C, dx, _, _, rfl, c1, T.cl, T.nu, cF_u _ _, _, rfl, a, C, dx, _, _, rfl, c1, T.cl, T.nv, cF_v _ _, u, v, c, rfl, c2, c3, g, fun H1 l s1 hf hl => ?_⟩
    refine k _ l s1 hf ?_
    rw [show stp c [[2]] = _ from least_is g]
    exact hl
theorem scSail : FnScope ["self", "corners"] ["self"] (defScope sSail) := ⟨rfl, rfl, rfl, by decide +kernel, rfl, by decide +kernel, by decide +kernel⟩
theorem m_sail (D : Mfn K C "sail" "Cone.sail" sSail ["self"]) (T : KTxt K mg C) (B : Bui mg) (cl : Cal P w K mg base 3 "least_points" spLeastPts) (cc : Cal P w K mg base 3 "corners_of" spCorners) (cf : Cal P w K mg base 1 "flat" spFlat) : Met P w K mg base 4 C "sail" (spM0 C 3) := by
  refine D.met fun f fd F => F.ok scSail (fun vs H Q E h => ?_) (fun cdv A outer s H vs Q E hr h => ⟨_,
    pss_cons (ps_set (i := 1) scSail.nd rfl (.inl rfl) (pe_c cc hr (pa_cons (pe_c cl hr (pa_cons (pe_fld (pv 0) rfl) (pa_cons (pe_fld (pv 0) rfl) pa_nil))) pa_nil)))
    (pss_one (ps_ret (pe_op op_cat (pe_lst (pa_cons (pe_callB call_len_seq (by rfl) B.len PySem.boot_len (pa_cons (pv 1) pa_nil)) pa_nil)) (pe_c cf hr (pa_cons (pv 1) pa_nil))))), ?_⟩)
  · obtain ⟨a, _, rfl, _⟩ := h
    rfl
  · obtain ⟨a, c, rfl, ⟨dx, u, v, c1, c2, c3⟩, g, k⟩ := h
    have row := g.row
    refine ⟨_, rfl, a, C, dx, _, _, rfl, c1, T.cl, T.nu, cF_u _ _, _, rfl, a, C, dx, _, _, rfl, c1, T.cl, T.nv, cF_v _ _, u, v, c, rfl, c2, c3, g, fun H1 l s1 hl => ?_⟩
    obtain ⟨tl, et⟩ := R_head g.sv g.su (.inr g.pos)
    obtain ⟨qs, eq⟩ := R_last g.sv g.su (.inr g.pos)
    refine ⟨l, R c.v c.u, qs, c.u, c.v, rfl, hl, row.two', by rw [et]; rfl, eq, fun H2 r s2 hr2 => ?_⟩
    have hs : Pts H2 r (sailOf c) := hr2
    obtain ⟨as, hL, hA⟩ := id hs
    have hlen := hA.len
    have sl : (sailOf c).length ≤ 4000 := by
      unfold sailOf
      rw [List.length_append, List.length_cons, List.length_singleton]
      have := innerTo_len (R c.v c.u) (crosses (R c.v c.u)) (crosses (R c.v c.u)).length
      have := row.len
      omega
    refine ⟨_, rfl, r, _, rfl, .inl (SqL.of hL), (by show 1 ≤ sizeLine; decide), fun x hx => ?_⟩
    refine ⟨_, rfl, r, sailOf c, rfl, hs.same (same_new hx), by omega, fun H3 y s3 hy => ?_⟩
    have hx3 := s3 _ _ (show upd H2 x (.lst [.int ((as.map V.ref).length : Int)]) x = some (.lst [.int ((as.map V.ref).length : Int)]) from upd_same)
    refine ⟨x, y, _, _, rfl, rfl, hx3, hy, ?_, fun z hz => ?_⟩
    · rw [List.length_map (as := Sq69.listed (sailOf c)), listed_len]
      exact Nat.le_trans (show _ ≤ 100000 by simp; omega) (Nat.le_of_lt line_big)
    refine k _ z ((((s1.trans s2).trans (same_new hx)).trans s3).trans (same_new hz)) ((((s1.trans s2).trans (same_new hx)).trans s3).free hz) ?_
    rw [show stp c [[3]] = _ from sail_ans g]
    unfold Ints
    rw [upd_same, List.map_cons, List.length_map, hlen]
    rfl
theorem scKind : FnScope ["self"] ["self"] (defScope sKind) := ⟨rfl, rfl, rfl, by decide +kernel, rfl, by decide +kernel, by decide +kernel⟩
theorem m_kind (D : Mfn K C "kind" "Cone.kind" sKind ["self"]) (T : KTxt K mg C) (ck : Cal P w K mg base 4 "kind_of" spKindOf) : Met P w K mg base 5 C "kind" (spM0 C 4) := by
  refine D.met fun f fd F => F.ok scKind (fun vs H Q E h => ?_) (fun cdv A outer s H vs Q E hr h => ⟨_,
    pss_one (ps_ret (pe_c ck hr (pa_cons (pe_fld (pv 0) rfl) (pa_cons (pe_fld (pv 0) rfl) pa_nil)))), ?_⟩)
  · obtain ⟨a, _, rfl, _⟩ := h
    rfl
  · obtain ⟨a, c, rfl, ⟨dx, u, v, c1, c2, c3⟩, g, k⟩ := h
    refine ⟨_, rfl, a, C, dx, _, _, rfl, c1, T.cl, T.nu, cF_u _ _, _, rfl, a, C, dx, _, _, rfl, c1, T.cl, T.nv, cF_v _ _, u, v, c, rfl, c2, c3, g, fun H1 l s1 hf hl => ?_⟩
    refine k _ l s1 hf ?_
    rw [show stp c [[4]] = _ from kind_ans c]
    exact hl
theorem scDual : FnScope ["self", "ends"] ["self"] (defScope sDual) := ⟨rfl, rfl, rfl, by decide +kernel, rfl, by decide +kernel, by decide +kernel⟩
theorem m_dual (D : Mfn K C "dual" "Cone.dual" sDual ["self"]) (T : KTxt K mg C) (cl : Cal P w K mg base 4 "least_of" spLeastOf) (cd : Cal P w K mg base 1 "dual_ends" spDualEnds) : Met P w K mg base 5 C "dual" (spM0 C 6) := by
  refine D.met fun f fd F => F.ok scDual (fun vs H Q E h => ?_) (fun cdv A outer s H vs Q E hr h => ⟨_,
    pss_cons (ps_set (i := 1) scDual.nd rfl (.inl rfl) (pe_c cd hr (pa_cons (pe_fld (pv 0) rfl) (pa_cons (pe_fld (pv 0) rfl) pa_nil))))
    (pss_one (ps_ret (pe_c cl hr (pa_cons (pe_ix ix_list (pv 1) pe_int (fun _ _ => rfl)) (pa_cons (pe_ix ix_list (pv 1) pe_int (fun _ _ => rfl)) pa_nil))))), ?_⟩)
  · obtain ⟨a, _, rfl, _⟩ := h
    rfl
  · obtain ⟨a, c, rfl, ⟨dx, u, v, c1, c2, c3⟩, g, k⟩ := h
    refine ⟨_, rfl, a, C, dx, _, _, rfl, c1, T.cl, T.nu, cF_u _ _, _, rfl, a, C, dx, _, _, rfl, c1, T.cl, T.nv, cF_v _ _, u, v, c, rfl, c2, c3, fun H1 l x y s1 hl hx hy => ?_⟩
    refine ⟨_, rfl, l, _, _, _, rfl, rfl, SqL.of hl, rfl, _, rfl, l, _, _, _, rfl, rfl, SqL.of hl, rfl, x, y, Sq69.Cone.dual c, rfl, hx, hy, g.dual, fun H2 r s2 hf hr2 => ?_⟩
    refine k _ r (s1.trans s2) (s1.free hf) ?_
    rw [show stp c [[6]] = _ from dual_is g]
    exact hr2
theorem scLike : FnScope ["self", "plus", "minus", "refused", "mine", "other"] ["self", "plus", "minus"] (defScope sLike) := ⟨rfl, rfl, rfl, by decide +kernel, rfl, by decide +kernel, by decide +kernel⟩
theorem inV_two (q a b : Int) : inV (.int q) [.int a, .int b] = (decide (q = a) || decide (q = b)) := by
  rw [Bool.eq_iff_iff]
  simp [inV, eqV]
  omega
theorem m_like (D : Mfn K C "like" "Cone.like" sLike ["self", "plus", "minus"]) (T : KTxt K mg C) (cr : Cal P w K mg base 2 "cone_refusal" spConeRefusal) (cp : Cal P w K mg base 1 "point_at" spPointAt) (ck : Cal P w K mg base 4 "kind_of" spKindOf) :
    Met P w K mg base 5 C "like" (spM2 C 5) := by
  refine D.met fun f fd F => F.ok scLike (fun vs H Q E h => ?_) (fun cdv A outer s H vs Q E hr h => ⟨_,
    pss_cons (ps_set (i := 3) scLike.nd rfl (.inl rfl) (pe_c cr hr (pa_cons (pv 1) (pa_cons (pv 2) pa_nil))))
    (pss_cons (ps_if (pt_cmpR op_lt (pv 3) pe_int (nomark _)) (pss_one (ps_ret (pe_lst (pa_cons (pv 3) pa_nil)))) pss_nil)
    (pss_cons (ps_set (i := 4) scLike.nd rfl (.inl rfl) (pe_c ck hr (pa_cons (pe_fld (pv 0) rfl) (pa_cons (pe_fld (pv 0) rfl) pa_nil))))
    (pss_cons (ps_set (i := 5) scLike.nd rfl (.inl rfl) (pe_c ck hr (pa_cons (pe_c cp hr (pa_cons (pv 1) (pa_cons (pv 2) (pa_cons pe_int pa_nil)))) (pa_cons (pe_c cp hr (pa_cons (pv 1) (pa_cons (pv 2) (pa_cons pe_int pa_nil)))) pa_nil))))
    (pss_cons (ps_if (PW.pt (pw_and (pt_cmpR op_eq (pe_ix ix_list (pv 4) pe_int (fun _ _ => rfl)) (pe_ix ix_list (pv 5) pe_int (fun _ _ => rfl)) (nomark _))
        (pw_and1 (pt_cmpR op_in_seq (pe_ix ix_list (pv 4) pe_int (fun _ _ => rfl)) (pe_tup (pa_cons (pe_ix ix_list (pv 5) pe_int (fun _ _ => rfl)) (pa_cons (pe_ix ix_list (pv 5) pe_int (fun _ _ => rfl)) pa_nil))) (by rfl)))))
      (pss_one (ps_ret (pe_lst (pa_cons pe_int pa_nil)))) pss_nil)
    (pss_one (ps_ret (pe_lst (pa_cons pe_int pa_nil)))))))), ?_⟩)
  · obtain ⟨a, _, _, _, _, _, rfl, _⟩ := h
    rfl
  · obtain ⟨a, x, y, c, ns, ms, rfl, hc, g, h1, h2, p1, p2, k⟩ := h
    obtain ⟨dx, u, v, c1, c2, c3⟩ := id hc
    refine ⟨_, rfl, _, rfl, x, y, ns, ms, rfl, h1, h2, fun H1 s1 => ?_⟩
    refine ⟨_, rfl, _, _, rfl, rfl, _, rfl, ?_⟩
    rcases like_is c g p1 p2 with ⟨r0, st⟩ | ⟨r0, g2, st⟩
    · refine ifT (decide_eq_true r0) ⟨_, rfl, (by show 1 ≤ sizeLine; decide), fun r hr' => ?_⟩
      refine k _ r (s1.trans (same_new hr')) (s1.free hr') ?_
      rw [show stp c [[5], ns, ms] = _ from st]
      exact upd_same
    · refine ifF (decide_eq_false (by rw [r0]; omega)) ?_
      have n4 : ns.length = 4 ∧ ms.length = 4 := by
        by_cases q : ns.length ≠ 4 ∨ ms.length ≠ 4
        · have e : refuse ns ms = -3 := by unfold refuse; rw [if_pos q]
          omega
        · omega
      refine ⟨_, rfl, a, C, dx, _, _, rfl, s1 _ _ c1, T.cl, T.nu, cF_u _ _, _, rfl, a, C, dx, _, _, rfl, s1 _ _ c1, T.cl, T.nv, cF_v _ _, u, v, c, rfl, c2.same s1, c3.same s1, g, fun H2 m s2 _ hm => ?_⟩
      have s12 := s1.trans s2
      refine ⟨_, rfl, _, rfl, x, y, ns, ms, 0, rfl, h1.same s12, h2.same s12, by omega, by omega, fun H3 p s3 hp => ?_⟩
      have s13 := s12.trans s3
      refine ⟨_, rfl, _, rfl, x, y, ns, ms, 2, rfl, h1.same s13, h2.same s13, by omega, by omega, fun H4 q s4 hq => ?_⟩
      refine ⟨p, q, ⟨pAt ns ms 0, pAt ns ms 2⟩, rfl, hp.same s4, hq, g2, fun H5 o s5 _ ho => ?_⟩
      have hm5 : Ints H5 m _ := ((hm.same s3).same s4).same s5
      have s15 := (s13.trans s4).trans s5
      refine ⟨_, rfl, m, _, _, _, rfl, rfl, SqL.of hm5, rfl, _, rfl, o, _, _, _, rfl, rfl, SqL.of ho, rfl, rfl, _, rfl, ?_⟩
      rw [eq_int]
      have fin : ∀ (H6 : Hp) (r : Addr) (n : Int), Same H H6 → H6 r = none → (n = if det c.u c.v = det (pAt ns ms 0) (pAt ns ms 2) ∧ (q1 c = q1 ⟨pAt ns ms 0, pAt ns ms 2⟩ ∨ q1 c = q2 ⟨pAt ns ms 0, pAt ns ms 2⟩) then 1 else 0) → Q (.ref r) (upd H6 r (.lst [.int n])) := by
        intro H6 r n s6 hr6 en
        refine k _ r (s6.trans (same_new hr6)) (s6.free hr6) ?_
        rw [show stp c [[5], ns, ms] = _ from st, ← en]
        exact upd_same
      refine if2 (fun d1 => ?_) (fun d1 => ?_)
      · have d1' := of_decide_eq_true d1
        refine ⟨_, rfl, m, _, _, _, rfl, rfl, SqL.of hm5, rfl, _, rfl, o, _, _, _, rfl, rfl, SqL.of ho, rfl, _, rfl, o, _, _, _, rfl, rfl, SqL.of ho, rfl, (by show 2 ≤ sizeLine; decide), fun t ht => ?_⟩
        refine ⟨t, _, rfl, .inr (SqT.of upd_same), rfl, rfl, _, rfl, ?_⟩
        show if inV (V.int (q1 c)) [V.int (q1 ⟨pAt ns ms 0, pAt ns ms 2⟩), V.int (q2 ⟨pAt ns ms 0, pAt ns ms 2⟩)] = true then _ else _
        rw [inV_two]
        refine if2 (fun d2 => ?_) (fun d2 => ?_)
        · refine ⟨(by show 1 ≤ sizeLine; decide), fun r hr' => fin _ r 1 (s15.trans (same_new ht)) hr' ?_⟩
          rw [if_pos ⟨d1', by simpa using d2⟩]
        · refine ⟨(by show 1 ≤ sizeLine; decide), fun r hr' => fin _ r 0 (s15.trans (same_new ht)) hr' ?_⟩
          rw [if_neg fun z => by simp at d2; omega]
      · have d1' := of_decide_eq_false d1
        refine iteF ⟨(by show 1 ≤ sizeLine; decide), fun r hr' => fin _ r 0 s15 hr' ?_⟩
        rw [if_neg fun z => d1' z.1]
theorem scTold : FnScope ["self", "plus", "minus", "refused", "found"] ["self", "plus", "minus"] (defScope sTold) := ⟨rfl, rfl, rfl, by decide +kernel, rfl, by decide +kernel, by decide +kernel⟩
theorem m_told (D : Mfn K C "told" "Cone.told" sTold ["self", "plus", "minus"]) (T : KTxt K mg C) (B : Bui mg) (cr : Cal P w K mg base 2 "point_refusal" spPointRefusal) (cp : Cal P w K mg base 1 "point_at" spPointAt) (cl : Cal P w K mg base 3 "least_points" spLeastPts) (ct : Cal P w K mg base 2 "told_by" spToldBy) :
    Met P w K mg base 4 C "told" (spM2 C 7) := by
  refine D.met fun f fd F => F.ok scTold (fun vs H Q E h => ?_) (fun cdv A outer s H vs Q E hr h => ⟨_,
    pss_cons (ps_set (i := 3) scTold.nd rfl (.inl rfl) (pe_c cr hr (pa_cons (pv 1) (pa_cons (pv 2) pa_nil))))
    (pss_cons (ps_if (pt_cmpR op_lt (pv 3) pe_int (nomark _)) (pss_one (ps_ret (pe_lst (pa_cons (pv 3) pa_nil)))) pss_nil)
    (pss_cons (ps_set (i := 4) scTold.nd rfl (.inl rfl) (pe_c ct hr (pa_cons (pe_c cl hr (pa_cons (pe_fld (pv 0) rfl) (pa_cons (pe_fld (pv 0) rfl) pa_nil))) (pa_cons (pe_c cp hr (pa_cons (pv 1) (pa_cons (pv 2) (pa_cons pe_int pa_nil)))) pa_nil))))
    (pss_cons (ps_if (pt_cmpR op_eq (pe_callB call_len_seq (by rfl) B.len PySem.boot_len (pa_cons (pv 4) pa_nil)) pe_int (nomark _)) (pss_one (ps_ret (pe_lst (pa_cons pe_int pa_nil)))) pss_nil)
    (pss_one (ps_ret (pe_op op_cat (pe_lst (pa_cons pe_int pa_nil)) (pv 4))))))), ?_⟩)
  · obtain ⟨a, _, _, _, _, _, rfl, _⟩ := h
    rfl
  · obtain ⟨a, x, y, c, ns, ms, rfl, hc, g, h1, h2, p1, p2, k⟩ := h
    obtain ⟨dx, u, v, c1, c2, c3⟩ := id hc
    refine ⟨_, rfl, _, rfl, x, y, ns, ms, rfl, h1, h2, fun H1 s1 => ?_⟩
    refine ⟨_, rfl, _, _, rfl, rfl, _, rfl, ?_⟩
    rcases tell_is c g p1 p2 with ⟨r0, st⟩ | ⟨r0, nr, l1, l2, st⟩
    · refine ifT (decide_eq_true r0) ⟨_, rfl, (by show 1 ≤ sizeLine; decide), fun r hr' => ?_⟩
      refine k _ r (s1.trans (same_new hr')) (s1.free hr') ?_
      rw [show stp c [[7], ns, ms] = _ from st]
      exact upd_same
    · refine ifF (decide_eq_false (by rw [r0]; omega)) ?_
      refine ⟨_, rfl, a, C, dx, _, _, rfl, s1 _ _ c1, T.cl, T.nu, cF_u _ _, _, rfl, a, C, dx, _, _, rfl, s1 _ _ c1, T.cl, T.nv, cF_v _ _, u, v, c, rfl, c2.same s1, c3.same s1, g, fun H2 l s2 hl => ?_⟩
      have s12 := s1.trans s2
      refine ⟨_, rfl, _, rfl, x, y, ns, ms, 0, rfl, h1.same s12, h2.same s12, by omega, by omega, fun H3 p s3 hp => ?_⟩
      refine ⟨l, p, R c.v c.u, _, rfl, hl.same s3, hp, g.row.two', fun H4 r out s4 ti hr4 => ?_⟩
      have s14 := (s12.trans s3).trans s4
      have st' := st out ti
      refine ⟨_, rfl, r, _, rfl, .inl (SqL.of hr4), rfl, _, rfl, ?_⟩
      rw [eq_int, List.length_map]
      have ol : out.length ≤ 3 := by
        rcases ti with ⟨e, _⟩ | ⟨_, _, _, _, _, _, _, _, e⟩
        · rw [e]; simp
        · rw [e]; simp
      refine if2 (fun d => ?_) (fun d => ?_)
      · have e : out = [] := by
          have := of_decide_eq_true d
          exact List.eq_nil_of_length_eq_zero (by omega)
        refine ⟨(by show 1 ≤ sizeLine; decide), fun z hz => k _ z (s14.trans (same_new hz)) (s14.free hz) ?_⟩
        rw [show stp c [[7], ns, ms] = _ from st']
        unfold toldOf
        rw [if_pos e]
        exact upd_same
      · have e : ¬ out = [] := fun q => by
          rw [q] at d
          simp at d
        refine ⟨(by show 1 ≤ sizeLine; decide), fun z hz => ?_⟩
        have s5 : Same H4 (upd H4 z (.lst [V.int 1])) := same_new hz
        refine ⟨_, rfl, z, r, _, _, rfl, rfl, upd_same, s5 _ _ hr4, ?_, fun o ho => k _ o ((s14.trans s5).trans (same_new ho)) ((s14.trans s5).free ho) ?_⟩
        · rw [List.length_map]
          exact Nat.le_trans (show _ ≤ 100000 by simp; omega) (Nat.le_of_lt line_big)
        · rw [show stp c [[7], ns, ms] = _ from st']
          unfold toldOf Ints
          rw [if_neg e, upd_same]
          rfl
end
end My
namespace My
open PySem PySem.Spec PyProof.Rows L2
open Sq69 (Point det single Frac less)
abbrev sRowsAt : Stmt := top 43
abbrev sAnswer : Stmt := top 44
abbrev sAnswers : Stmt := top 45
/-- rows, each a list of numbers -/
def Rws (H : Hp) : List Addr → List (List Int) → Prop
  | [], [] => True
  | a :: as, x :: xs => Ints H a x ∧ Rws H as xs
  | _, _ => False
theorem Rws.len : ∀ {H : Hp} {as : List Addr} {ps : List (List Int)}, Rws H as ps → as.length = ps.length
  | _, [], [], _ => rfl
  | _, _ :: _, _ :: _, h => congrArg (· + 1) h.2.len
  | _, [], _ :: _, h => h.elim
  | _, _ :: _, [], h => h.elim
theorem Rws.get : ∀ {H : Hp} {as : List Addr} {ps : List (List Int)} {i : Nat} {p : List Int}, Rws H as ps → ps[i]? = some p → ∃ a, as[i]? = some a ∧ Ints H a p
  | _, [], [], i, p, _, e => by simp at e
  | _, a :: _, q :: _, 0, p, h, e => ⟨a, rfl, by have e' : q = p := Option.some.inj e; rw [← e']; exact h.1⟩
  | _, _ :: as, _ :: ps, i + 1, p, h, e => Rws.get (as := as) (ps := ps) (i := i) h.2 e
  | _, [], _ :: _, _, _, h, _ => h.elim
  | _, _ :: _, [], _, _, h, _ => h.elim
theorem Rws.app : ∀ {H : Hp} {as bs : List Addr} {ps qs : List (List Int)}, Rws H as ps → Rws H bs qs → Rws H (as ++ bs) (ps ++ qs)
  | _, [], _, [], _, _, k => k
  | _, _ :: _, _, _ :: _, _, h, k => ⟨h.1, Rws.app h.2 k⟩
  | _, [], _, _ :: _, _, h, _ => h.elim
  | _, _ :: _, _, [], _, h, _ => h.elim
theorem Rws.imp : ∀ {H H' : Hp} {as : List Addr} {ps : List (List Int)}, (∀ a ∈ as, ∀ p, Ints H a p → Ints H' a p) → Rws H as ps → Rws H' as ps
  | _, _, [], [], _, _ => trivial
  | _, _, _ :: _, _ :: _, f, h => ⟨f _ List.mem_cons_self _ h.1, Rws.imp (fun a m => f a (List.mem_cons_of_mem _ m)) h.2⟩
  | _, _, [], _ :: _, _, h => h.elim
  | _, _, _ :: _, [], _, h => h.elim
theorem cut_is (l : List Int) (i n : Nat) (h : i + n ≤ l.length) {lo hi : Int} (e1 : lo = (i : Int)) (e2 : hi = ((i + n : Nat) : Int)) : cutV (l.map V.int) (some lo) (some hi) = ((l.drop i).take n).map V.int := by
  subst e1
  subst e2
  unfold cutV
  rw [HT.sIx_nat, HT.sIx_nat, List.length_map, Nat.min_eq_left (by omega), Nat.min_eq_left (by omega), List.map_take, List.map_drop]
  congr 1
  omega
def spRowsAt (K : PySem.W.Frag) : Sp := fun vs H Q _ => ∃ (a : Addr) (l : List Int) (i k : Nat) (xs : List (List Int)) (t : List Int), vs = [.ref a, .int (i : Int), .int (k : Int)] ∧ SqL K H a (l.map V.int) ∧ l.length ≤ 16000 ∧ i ≤ l.length ∧ k ≤ 2 ∧
  PyFlat.rows k (l.drop i) = some (xs, t) ∧ ∀ H' r as, Same H H' → H r = none → H' r = some (.lst (as.map V.ref)) → (∀ b ∈ as, b ≠ r ∧ H b = none) → Rws H' as xs → Q (.ref r) H'
def spAnswer (C : Addr) : Sp := fun vs H Q _ => ∃ (a nl rl : Addr) (c : Sq69.Cone) (p : Int) (ns : List Int) (xs : List (List Int)) (as : List Addr), vs = [.ref a, .int p, .ref nl, .ref rl] ∧ ConeAt C H a c ∧ Good c ∧ Ints H nl ns ∧ H rl = some (.lst (as.map V.ref)) ∧ Rws H as xs ∧
  PySq69.shape p = some (ns.length, xs.length) ∧ (∀ z ∈ ns, 0 ≤ z) ∧ (∀ x ∈ xs, ∀ z ∈ x, 0 ≤ z) ∧
  ∀ H' r, But a H H' → H r = none → ConeAt C H' a (stp c (PySq69.whole ((p :: ns) :: xs))).1 → Good (stp c (PySq69.whole ((p :: ns) :: xs))).1 → Ints H' r (stp c (PySq69.whole ((p :: ns) :: xs))).2 → Q (.ref r) H'
/-- numbers that the top has written, of the calls -/
structure ATxt (mg : Str → Option Value) : Prop where
  n1 : ∃ t, mg "BEGIN" = some (.int 1 t)
  n2 : ∃ t, mg "LEAST" = some (.int 2 t)
  n3 : ∃ t, mg "SAIL" = some (.int 3 t)
  n4 : ∃ t, mg "KIND" = some (.int 4 t)
  n5 : ∃ t, mg "LIKE" = some (.int 5 t)
  n6 : ∃ t, mg "DUAL" = some (.int 6 t)
  n7 : ∃ t, mg "TOLD" = some (.int 7 t)
  n8 : ∃ t, mg "SIMPLEST" = some (.int 8 t)
theorem ifEq {x : Int} {A B : Prop} (h : A) : if decide (V.int x = V.int x) = true then A else B := ifT (decide_eq_true rfl) h
theorem ifNe {x y : Int} {A B : Prop} (n : x ≠ y) (h : B) : if decide (V.int x = V.int y) = true then A else B := ifF (decide_eq_false fun e => n (by injection e)) h
section
variable {P : Program} {w : World} {K : PySem.W.Frag} {mg : Str → Option Value} {base : Heap} {C : Addr}
theorem scRowsAt : FnScope ["calls", "place", "many", "rows", "start", "row"] ["calls", "place", "many"] (defScope sRowsAt) := ⟨rfl, rfl, rfl, by decide +kernel, rfl, by decide +kernel, by decide +kernel⟩
theorem c_rowsAt (D : Dfn K mg "rows_at" sRowsAt ["calls", "place", "many"]) (B : Bui mg) : Cal P w K mg base 1 "rows_at" (spRowsAt K) := by
  refine D.cal fun f fd F => F.ok scRowsAt (fun vs H Q E h => ?_) (fun cdv A outer s H vs Q E hr h => ⟨_,
    pss_cons (ps_set (i := 3) scRowsAt.nd rfl (.inl rfl) (pe_lst pa_nil))
    (pss_cons (ps_set (i := 4) scRowsAt.nd rfl (.inl rfl) (pv 1))
    (pss_cons (ps_while PassesOwn.never (pt_cmpR op_lt (pe_callB call_len_seq (by rfl) B.len PySem.boot_len (pa_cons (pv 3) pa_nil)) (pv 2) (nomark _))
      (pss_cons (ps_set (i := 5) scRowsAt.nd rfl (.inl rfl) (pe_slice sl_list (pv 0) (po_some (pe_op op_add (pv 4) pe_int)) (po_some (pe_op op_add (pe_op op_add (pv 4) pe_int) (pe_ix ix_list (pv 0) (pv 4) (fun _ _ => rfl))))))
      (pss_cons (ps_expr (pe_bm PySem.F.plainAttrs_list PySem.F.slot_list_append PySem.F.type_list_append mt_append (pv 3) (pa_cons (pv 5) pa_nil)))
      (pss_one (ps_set (i := 4) scRowsAt.nd rfl (.inl rfl) (pe_op op_add (pe_op op_add (pv 4) pe_int) (pe_callB call_len_seq (by rfl) B.len PySem.boot_len (pa_cons (pv 5) pa_nil))))))))
    (pss_one (ps_ret (pv 3))))), ?_⟩)
  · obtain ⟨a, _, _, _, _, _, rfl, _⟩ := h
    rfl
  · obtain ⟨a, l, i, k, xs, t, rfl, hS, ll, hi, hk, hR, kk⟩ := h
    refine ⟨Nat.zero_le _, fun r hr' => ?_⟩
    refine ⟨_, rfl, ?_⟩
    refine ⟨fun m σ H' => ∃ (as : List Addr) (done ys : List (List Int)) (st : Nat) (v5 : Option V), σ = [some (.ref a), some (.int (i : Int)), some (.int (k : Int)), some (.ref r), some (.int (st : Int)), v5] ∧ But r H H' ∧ H' r = some (.lst (as.map V.ref)) ∧
        (∀ b ∈ as, b ≠ r ∧ H b = none) ∧ Rws H' as done ∧ PyFlat.rows m (l.drop st) = some (ys, t) ∧ done ++ ys = xs ∧ done.length + m = k ∧ st ≤ l.length,
      ⟨k, [], [], xs, i, none, rfl, fun b o n e => same_new hr' _ _ e, upd_same, fun _ z => (nomatch z), trivial, hR, rfl, by simp, hi⟩, ?_⟩
    rintro m σ H' ⟨as, done, ys, st, v5, rfl, bt, hL, hn, hA, hP, ed, el, hst⟩
    have hlen := hA.len
    have hS' : SqL K H' a (l.map V.int) := (bt.new hr').seq hS
    refine ⟨_, rfl, r, _, rfl, .inl (SqL.of hL), _, rfl, _, _, rfl, rfl, _, rfl, ?_⟩
    rw [List.length_map, hlen]
    refine if2 (fun q => ?_) (fun q => ?_)
    · have lt : done.length < k := by
        have := of_decide_eq_true q
        omega
      obtain ⟨m, rfl⟩ : ∃ n, m = n + 1 := ⟨m - 1, by omega⟩
      obtain ⟨n, zs, a1, a2, a3, a4, a5⟩ := rows_step hP
      refine ⟨_, fun _ _ z => z, ?_⟩
      refine ⟨_, rfl, _, rfl, _, _, rfl, rfl, _, rfl, _, rfl, _, _, rfl, rfl, _, rfl, _, rfl, a, _, _, _, rfl, rfl, hS', at_int a1 rfl, _, _, rfl, rfl, _, rfl, a, _, rfl, hS', fun p hp => ?_⟩
      rw [cut_is l (st + 1) n a2 (by omega) (by omega)]
      have pr : r ≠ p := ne_of_none hL hp
      have sp : Same H' (upd H' p (.lst (((l.drop (st + 1)).take n).map V.int))) := same_new hp
      refine ⟨_, rfl, .inl ⟨rfl, _, SqL.of (sp _ _ hL)⟩, _, rfl, r, _, _, rfl, rfl, sp _ _ hL, ?_, ?_⟩
      · rw [List.length_map]
        exact Nat.lt_of_le_of_lt (show _ ≤ 100000 by omega) line_big
      · have hp2 : upd (upd H' p (.lst (((l.drop (st + 1)).take n).map V.int))) r (.lst (as.map V.ref ++ [V.ref p])) p = some (.lst (((l.drop (st + 1)).take n).map V.int)) := by
          rw [upd_ne pr.symm, upd_same]
        refine ⟨_, rfl, _, _, rfl, rfl, _, rfl, p, _, rfl, .inl (SqL.of hp2), _, _, rfl, rfl, ?_⟩
        refine ⟨m, Nat.lt_succ_self m, as ++ [p], done ++ [(l.drop (st + 1)).take n], zs, st + 1 + n, some (.ref p), ?_, ?_, ?_, ?_, ?_, a5, ?_, ?_, a2⟩
        · rw [List.length_map, a4]
          congr 6
        · exact (bt.same sp).upd
        · rw [upd_same, List.map_append]
          rfl
        · intro b hb
          rcases List.mem_append.mp hb with z | z
          · exact hn b z
          · rw [List.mem_singleton.mp z]
            exact ⟨pr.symm, (bt.free hL hp)⟩
        · refine Rws.app (hA.imp fun b hb x hx => ?_) (show Rws _ [p] [_] from ⟨hp2, trivial⟩)
          unfold Ints
          rw [upd_ne (hn b hb).1]
          exact sp _ _ hx
        · rw [← ed, a3]
          simp
        · rw [List.length_append, List.length_singleton]
          omega
    · have ge : ¬ done.length < k := by
        have := of_decide_eq_false q
        omega
      have m0 : m = 0 := by omega
      subst m0
      obtain ⟨e1, _⟩ := rows_zero hP
      rw [e1, List.append_nil] at ed
      exact ⟨_, rfl, kk _ r as (bt.new hr') hr' hL hn (by rw [← ed]; exact hA)⟩
theorem scAnswer : FnScope ["cone", "call", "numbers", "rows"] ["cone", "call", "numbers", "rows"] (defScope sAnswer) := ⟨rfl, rfl, rfl, by decide +kernel, rfl, by decide +kernel, by decide +kernel⟩
theorem c_answer (D : Dfn K mg "answer" sAnswer ["cone", "call", "numbers", "rows"]) (T : KTxt K mg C) (N : ATxt mg) (mb : Met P w K mg base 3 C "begin" (spBegin C)) (ml : Met P w K mg base 5 C "least" (spM0 C 2)) (ms : Met P w K mg base 4 C "sail" (spM0 C 3)) (mk : Met P w K mg base 5 C "kind" (spM0 C 4))
    (mi : Met P w K mg base 5 C "like" (spM2 C 5)) (md : Met P w K mg base 5 C "dual" (spM0 C 6)) (mt : Met P w K mg base 4 C "told" (spM2 C 7)) (cs : Cal P w K mg base 4 "simplest" spSimplest) (cw : Cal P w K mg base 4 "way" spWay) : Cal P w K mg base 6 "answer" (spAnswer C) := by
  obtain ⟨f1, fd1, ps1, G1, m1, b1⟩ := mb.ex
  obtain ⟨f2, fd2, ps2, G2, m2, b2⟩ := ml.ex
  obtain ⟨f3, fd3, ps3, G3, m3, b3⟩ := ms.ex
  obtain ⟨f4, fd4, ps4, G4, m4, b4⟩ := mk.ex
  obtain ⟨f5, fd5, ps5, G5, m5, b5⟩ := mi.ex
  obtain ⟨f6, fd6, ps6, G6, m6, b6⟩ := md.ex
  obtain ⟨f7, fd7, ps7, G7, m7, b7⟩ := mt.ex
  obtain ⟨⟨t1, h1⟩, ⟨t2, h2⟩, ⟨t3, h3⟩, ⟨t4, h4⟩, ⟨t5, h5⟩, ⟨t6, h6⟩, ⟨t7, h7⟩, ⟨t8, h8⟩⟩ := N
  refine D.cal fun f fd F => F.ok scAnswer (fun vs H Q E h => ?_) (fun cdv A outer s H vs Q E hr h => ⟨_,
    pss_cons (ps_if (pt_cmpR op_eq (pv 1) (pe_glob (v := .int 1) rfl h1 ⟨_, rfl⟩) (nomark _)) (pss_one (ps_ret (pe_meth (pv 0) T.cl m1 G1 (hr.mono (by decide)) b1 .nil pass0 (pa_cons (pe_ix ix_list (pv 3) pe_int (fun _ _ => rfl)) (pa_cons (pe_ix ix_list (pv 3) pe_int (fun _ _ => rfl)) pa_nil))))) pss_nil)
    (pss_cons (ps_if (pt_cmpR op_eq (pv 1) (pe_glob (v := .int 2) rfl h2 ⟨_, rfl⟩) (nomark _)) (pss_one (ps_ret (pe_meth0 (pv 0) T.cl m2 G2 (hr.mono (by decide)) b2 .nil pass0))) pss_nil)
    (pss_cons (ps_if (pt_cmpR op_eq (pv 1) (pe_glob (v := .int 3) rfl h3 ⟨_, rfl⟩) (nomark _)) (pss_one (ps_ret (pe_meth0 (pv 0) T.cl m3 G3 (hr.mono (by decide)) b3 .nil pass0))) pss_nil)
    (pss_cons (ps_if (pt_cmpR op_eq (pv 1) (pe_glob (v := .int 4) rfl h4 ⟨_, rfl⟩) (nomark _)) (pss_one (ps_ret (pe_meth0 (pv 0) T.cl m4 G4 (hr.mono (by decide)) b4 .nil pass0))) pss_nil)
    (pss_cons (ps_if (pt_cmpR op_eq (pv 1) (pe_glob (v := .int 5) rfl h5 ⟨_, rfl⟩) (nomark _)) (pss_one (ps_ret (pe_meth (pv 0) T.cl m5 G5 (hr.mono (by decide)) b5 .nil pass0 (pa_cons (pe_ix ix_list (pv 3) pe_int (fun _ _ => rfl)) (pa_cons (pe_ix ix_list (pv 3) pe_int (fun _ _ => rfl)) pa_nil))))) pss_nil)
    (pss_cons (ps_if (pt_cmpR op_eq (pv 1) (pe_glob (v := .int 6) rfl h6 ⟨_, rfl⟩) (nomark _)) (pss_one (ps_ret (pe_meth0 (pv 0) T.cl m6 G6 (hr.mono (by decide)) b6 .nil pass0))) pss_nil)
    (pss_cons (ps_if (pt_cmpR op_eq (pv 1) (pe_glob (v := .int 7) rfl h7 ⟨_, rfl⟩) (nomark _)) (pss_one (ps_ret (pe_meth (pv 0) T.cl m7 G7 (hr.mono (by decide)) b7 .nil pass0 (pa_cons (pe_ix ix_list (pv 3) pe_int (fun _ _ => rfl)) (pa_cons (pe_ix ix_list (pv 3) pe_int (fun _ _ => rfl)) pa_nil))))) pss_nil)
    (pss_cons (ps_if (pt_cmpR op_eq (pv 1) (pe_glob (v := .int 8) rfl h8 ⟨_, rfl⟩) (nomark _)) (pss_one (ps_ret (pe_c cs hr (pa_cons (pe_tup (pa_cons (pe_ix ix_list (pv 2) pe_int (fun _ _ => rfl)) (pa_cons (pe_ix ix_list (pv 2) pe_int (fun _ _ => rfl)) pa_nil)))
      (pa_cons (pe_tup (pa_cons (pe_ix ix_list (pv 2) pe_int (fun _ _ => rfl)) (pa_cons (pe_ix ix_list (pv 2) pe_int (fun _ _ => rfl)) pa_nil))) pa_nil))))) pss_nil)
    (pss_one (ps_ret (pe_c cw hr (pa_cons (pe_tup (pa_cons (pe_ix ix_list (pv 2) pe_int (fun _ _ => rfl)) (pa_cons (pe_ix ix_list (pv 2) pe_int (fun _ _ => rfl)) pa_nil))) pa_nil))))))))))), ?_⟩)
  · obtain ⟨a, _, _, _, _, _, _, _, rfl, _⟩ := h
    rfl
  · obtain ⟨a, nl, rl, c, p, ns, xs, as, rfl, hc, g, hN, hL, hA, sh, pn, px, k⟩ := h
    obtain ⟨dx, u, v, c1, c2, c3⟩ := id hc
    have hlen := hA.len
    have same : ∀ (x : List (List Int)), PySq69.whole ((p :: ns) :: xs) = x → (stp c x).1 = c → ∀ H' r, Same H H' → H r = none → Ints H' r (stp c x).2 → Q (.ref r) H' := fun x e1 e2 H' r s' n i => by
      rw [e1] at k
      refine k H' r (fun b o _ e => s' _ _ e) n ?_ ?_ i
      · rw [e2]; exact hc.same s'
      · rw [e2]; exact g
    have two : xs.length = 2 → ∃ x y xa ya, xs = [x, y] ∧ as = [xa, ya] ∧ Ints H xa x ∧ Ints H ya y ∧ (∀ z ∈ x, 0 ≤ z) ∧ (∀ z ∈ y, 0 ≤ z) := fun l2 => by
      obtain ⟨x, y, rfl⟩ := len_two l2
      obtain ⟨xa, ya, rfl⟩ := len_two (a := as) (by rw [hlen]; rfl)
      exact ⟨x, y, xa, ya, rfl, rfl, hA.1, hA.2.1, px x (by simp), px y (by simp)⟩
    rcases shape_cases sh with ⟨rfl, l1, l2⟩ | ⟨rfl, l1, l2⟩ | ⟨rfl, l1, l2⟩ | ⟨rfl, l1, l2⟩ | ⟨rfl, l1, l2⟩ | ⟨rfl, l1, l2⟩ | ⟨rfl, l1, l2⟩ | ⟨rfl, l1, l2⟩ | ⟨rfl, l1, l2⟩
    · obtain ⟨x, y, xa, ya, rfl, rfl, ix, iy, qx, qy⟩ := two l2
      obtain rfl := List.eq_nil_of_length_eq_zero l1
      refine ⟨_, rfl, rfl, _, rfl, ifEq ?_⟩
      refine ⟨_, rfl, a, dx, _, rfl, c1, cF_no _ _ (by decide +kernel) (by decide +kernel), _, rfl, rl, _, _, _, rfl, rfl, SqL.of hL, rfl, _, rfl, rl, _, _, _, rfl, rfl, SqL.of hL, rfl, ?_⟩
      exact ⟨a, xa, ya, c, x, y, rfl, hc, g, ix, iy, qx, qy, fun H' r bt n i1 i2 i3 => k H' r bt n i1 i2 i3⟩
    · obtain rfl := List.eq_nil_of_length_eq_zero l1
      obtain rfl := List.eq_nil_of_length_eq_zero l2
      refine ⟨_, rfl, rfl, _, rfl, ifNe (by decide) ⟨_, rfl, rfl, _, rfl, ifEq ?_⟩⟩
      exact ⟨_, rfl, a, dx, _, rfl, c1, cF_no _ _ (by decide +kernel) (by decide +kernel), a, c, rfl, hc, g, same [[2]] rfl rfl⟩
    · obtain rfl := List.eq_nil_of_length_eq_zero l1
      obtain rfl := List.eq_nil_of_length_eq_zero l2
      refine ⟨_, rfl, rfl, _, rfl, ifNe (by decide) ⟨_, rfl, rfl, _, rfl, ifNe (by decide) ⟨_, rfl, rfl, _, rfl, ifEq ?_⟩⟩⟩
      exact ⟨_, rfl, a, dx, _, rfl, c1, cF_no _ _ (by decide +kernel) (by decide +kernel), a, c, rfl, hc, g, same [[3]] rfl rfl⟩
    · obtain rfl := List.eq_nil_of_length_eq_zero l1
      obtain rfl := List.eq_nil_of_length_eq_zero l2
      refine ⟨_, rfl, rfl, _, rfl, ifNe (by decide) ⟨_, rfl, rfl, _, rfl, ifNe (by decide) ⟨_, rfl, rfl, _, rfl, ifNe (by decide) ⟨_, rfl, rfl, _, rfl, ifEq ?_⟩⟩⟩⟩
      exact ⟨_, rfl, a, dx, _, rfl, c1, cF_no _ _ (by decide +kernel) (by decide +kernel), a, c, rfl, hc, g, same [[4]] rfl rfl⟩
    · obtain ⟨x, y, xa, ya, rfl, rfl, ix, iy, qx, qy⟩ := two l2
      obtain rfl := List.eq_nil_of_length_eq_zero l1
      refine ⟨_, rfl, rfl, _, rfl, ifNe (by decide) ⟨_, rfl, rfl, _, rfl, ifNe (by decide) ⟨_, rfl, rfl, _, rfl, ifNe (by decide) ⟨_, rfl, rfl, _, rfl, ifNe (by decide) ⟨_, rfl, rfl, _, rfl, ifEq ?_⟩⟩⟩⟩⟩
      refine ⟨_, rfl, a, dx, _, rfl, c1, cF_no _ _ (by decide +kernel) (by decide +kernel), _, rfl, rl, _, _, _, rfl, rfl, SqL.of hL, rfl, _, rfl, rl, _, _, _, rfl, rfl, SqL.of hL, rfl, ?_⟩
      refine ⟨a, xa, ya, c, x, y, rfl, hc, g, ix, iy, qx, qy, same [[5], x, y] rfl ?_⟩
      rcases like_is c g qx qy with ⟨_, st⟩ | ⟨_, _, st⟩
      · rw [show stp c [[5], x, y] = _ from st]
      · rw [show stp c [[5], x, y] = _ from st]
    · obtain rfl := List.eq_nil_of_length_eq_zero l1
      obtain rfl := List.eq_nil_of_length_eq_zero l2
      refine ⟨_, rfl, rfl, _, rfl, ifNe (by decide) ⟨_, rfl, rfl, _, rfl, ifNe (by decide) ⟨_, rfl, rfl, _, rfl, ifNe (by decide) ⟨_, rfl, rfl, _, rfl, ifNe (by decide) ⟨_, rfl, rfl, _, rfl, ifNe (by decide) ⟨_, rfl, rfl, _, rfl, ifEq ?_⟩⟩⟩⟩⟩⟩
      exact ⟨_, rfl, a, dx, _, rfl, c1, cF_no _ _ (by decide +kernel) (by decide +kernel), a, c, rfl, hc, g, same [[6]] rfl rfl⟩
    · obtain ⟨x, y, xa, ya, rfl, rfl, ix, iy, qx, qy⟩ := two l2
      obtain rfl := List.eq_nil_of_length_eq_zero l1
      refine ⟨_, rfl, rfl, _, rfl, ifNe (by decide) ⟨_, rfl, rfl, _, rfl, ifNe (by decide) ⟨_, rfl, rfl, _, rfl, ifNe (by decide) ⟨_, rfl, rfl, _, rfl, ifNe (by decide) ⟨_, rfl, rfl, _, rfl, ifNe (by decide) ⟨_, rfl, rfl, _, rfl, ifNe (by decide) ⟨_, rfl, rfl, _, rfl, ifEq ?_⟩⟩⟩⟩⟩⟩⟩
      refine ⟨_, rfl, a, dx, _, rfl, c1, cF_no _ _ (by decide +kernel) (by decide +kernel), _, rfl, rl, _, _, _, rfl, rfl, SqL.of hL, rfl, _, rfl, rl, _, _, _, rfl, rfl, SqL.of hL, rfl, ?_⟩
      refine ⟨a, xa, ya, c, x, y, rfl, hc, g, ix, iy, qx, qy, same [[7], x, y] rfl ?_⟩
      rcases tell_is c g qx qy with ⟨_, st⟩ | ⟨_, _, _, _, st⟩
      · rw [show stp c [[7], x, y] = _ from st]
      · show (Sq69.House.step c (.told (natsOf x) (natsOf y))).1 = c
        rw [hs_told]
        split
        · split
          · rfl
          · split
            · rfl
            · split <;> rfl
        · rfl
    · obtain ⟨w0, w1, w2, w3, rfl⟩ := len_four l1
      obtain rfl := List.eq_nil_of_length_eq_zero l2
      obtain ⟨n0, rfl⟩ := Int.eq_ofNat_of_zero_le (pn w0 (by simp))
      obtain ⟨n1, rfl⟩ := Int.eq_ofNat_of_zero_le (pn w1 (by simp))
      obtain ⟨n2, rfl⟩ := Int.eq_ofNat_of_zero_le (pn w2 (by simp))
      obtain ⟨n3, rfl⟩ := Int.eq_ofNat_of_zero_le (pn w3 (by simp))
      refine ⟨_, rfl, rfl, _, rfl, ifNe (by decide) ⟨_, rfl, rfl, _, rfl, ifNe (by decide) ⟨_, rfl, rfl, _, rfl, ifNe (by decide) ⟨_, rfl, rfl, _, rfl, ifNe (by decide) ⟨_, rfl, rfl, _, rfl, ifNe (by decide) ⟨_, rfl, rfl, _, rfl, ifNe (by decide) ⟨_, rfl, rfl, _, rfl, ifNe (by decide) ⟨_, rfl, rfl, _, rfl, ifEq ?_⟩⟩⟩⟩⟩⟩⟩⟩
      refine ⟨_, rfl, nl, _, _, _, rfl, rfl, SqL.of hN, rfl, _, rfl, nl, _, _, _, rfl, rfl, SqL.of hN, rfl, (by show 2 ≤ sizeLine; decide), fun x hx => ?_⟩
      have s1 : Same H (upd H x (.tup [V.int (n0 : Int), V.int (n1 : Int)])) := same_new hx
      refine ⟨_, rfl, nl, _, _, _, rfl, rfl, SqL.of (s1 _ _ hN), rfl, _, rfl, nl, _, _, _, rfl, rfl, SqL.of (s1 _ _ hN), rfl, (by show 2 ≤ sizeLine; decide), fun y hy => ?_⟩
      have s2 : Same (upd H x (.tup [V.int (n0 : Int), V.int (n1 : Int)])) (upd (upd H x (.tup [V.int (n0 : Int), V.int (n1 : Int)])) y (.tup [V.int (n2 : Int), V.int (n3 : Int)])) := same_new hy
      refine ⟨x, y, n0, n1, n2, n3, rfl, s2 _ _ upd_same, upd_same, fun H' r s3 nr hi => ?_⟩
      refine same [[8, (n0 : Int), (n1 : Int), (n2 : Int), (n3 : Int)]] rfl ?_ H' r ((s1.trans s2).trans s3) ((s1.trans s2).free nr) ?_
      · rw [show stp c [[8, (n0 : Int), (n1 : Int), (n2 : Int), (n3 : Int)]] = _ from simp_is c n0 n1 n2 n3]
      · rw [show stp c [[8, (n0 : Int), (n1 : Int), (n2 : Int), (n3 : Int)]] = _ from simp_is c n0 n1 n2 n3]
        exact hi
    · obtain ⟨w0, w1, rfl⟩ := len_two l1
      obtain rfl := List.eq_nil_of_length_eq_zero l2
      obtain ⟨n0, rfl⟩ := Int.eq_ofNat_of_zero_le (pn w0 (by simp))
      obtain ⟨n1, rfl⟩ := Int.eq_ofNat_of_zero_le (pn w1 (by simp))
      refine ⟨_, rfl, rfl, _, rfl, ifNe (by decide) ⟨_, rfl, rfl, _, rfl, ifNe (by decide) ⟨_, rfl, rfl, _, rfl, ifNe (by decide) ⟨_, rfl, rfl, _, rfl, ifNe (by decide) ⟨_, rfl, rfl, _, rfl, ifNe (by decide) ⟨_, rfl, rfl, _, rfl, ifNe (by decide) ⟨_, rfl, rfl, _, rfl, ifNe (by decide) ⟨_, rfl, rfl, _, rfl, ifNe (by decide) ?_⟩⟩⟩⟩⟩⟩⟩⟩
      refine ⟨_, rfl, nl, _, _, _, rfl, rfl, SqL.of hN, rfl, _, rfl, nl, _, _, _, rfl, rfl, SqL.of hN, rfl, (by show 2 ≤ sizeLine; decide), fun x hx => ?_⟩
      have s1 : Same H (upd H x (.tup [V.int (n0 : Int), V.int (n1 : Int)])) := same_new hx
      refine ⟨x, n0, n1, rfl, upd_same, fun H' r s3 nr hi => ?_⟩
      refine same [[9, (n0 : Int), (n1 : Int)]] rfl ?_ H' r (s1.trans s3) (s1.free nr) ?_
      · rw [show stp c [[9, (n0 : Int), (n1 : Int)]] = _ from way_is c n0 n1]
      · rw [show stp c [[9, (n0 : Int), (n1 : Int)]] = _ from way_is c n0 n1]
        exact hi
end
end My
namespace My
open PySem PySem.Spec PyProof.Rows L2
open Sq69 (Point det single Frac less)
def numF (p : Int) : Option Int := (PySq69.shape p).map fun x => (x.1 : Int)
def rowF (p : Int) : Option Int := (PySq69.shape p).map fun x => (x.2 : Int)
structure DTxt (K : PySem.W.Frag) (mg : Str → Option Value) : Prop where
  nu : ∃ a, mg "NUMBERS" = some (.ref a) ∧ WDict K a numF
  ro : ∃ a, mg "ROWS" = some (.ref a) ∧ WDict K a rowF
def spAnswers (K : PySem.W.Frag) : Sp := fun vs H Q _ => ∃ (a : Addr) (l : List Int) (cs : List (List (List Int))), vs = [.ref a] ∧ SqL K H a (l.map V.int) ∧ l.length ≤ 16000 ∧ (∀ z ∈ l, 0 ≤ z) ∧ PyFlat.calls PySq69.shape l.length l = some cs ∧ (rest Sq69.fresh cs).length ≤ 10000000 ∧
  ∀ H' r, Ints H' r (rest Sq69.fresh cs) → Q (.ref r) H'
theorem fresh_good : Good Sq69.fresh := ⟨by decide, by decide, by decide, by unfold Near Sq69.fresh; decide, by unfold Near Sq69.fresh; decide⟩
section
variable {P : Program} {w : World} {K : PySem.W.Frag} {mg : Str → Option Value} {base : Heap} {C : Addr}
theorem scAnswers : FnScope ["calls", "cone", "answered", "place", "call", "behind", "rows", "found", "row"] ["calls"] (defScope sAnswers) := ⟨rfl, rfl, rfl, by decide +kernel, rfl, by decide +kernel, by decide +kernel⟩
theorem c_answers (T : KTxt K mg C) (B : Bui mg) (DT : DTxt K mg) (mi : Mak P w K mg base 1 C (spCInit C)) (cr : Cal P w K mg base 1 "rows_at" (spRowsAt K)) (ca : Cal P w K mg base 6 "answer" (spAnswer C)) {f : Addr} {fd : FuncData} (F : Fun K "answers" "answers" sAnswers f fd) :
    FnOk P w K mg base CX0 7 f fd ["calls"] (spAnswers K) := by
  obtain ⟨fi, fdi, psi, GI, mI, bI⟩ := mi.ex
  obtain ⟨na, hna, wn⟩ := DT.nu
  obtain ⟨ra, hra, wr⟩ := DT.ro
  refine F.ok scAnswers (fun vs H Q E h => ?_) (fun cdv A outer s H vs Q E hr h => ⟨_,
    pss_cons (ps_set (i := 1) scAnswers.nd rfl (.inl rfl) (pe_make0 mI GI (hr.mono (by decide)) rfl T.gC bI .nil pass0))
    (pss_cons (ps_set (i := 2) scAnswers.nd rfl (.inl rfl) (pe_lst pa_nil))
    (pss_cons (ps_set (i := 3) scAnswers.nd rfl (.inl rfl) pe_int)
    (pss_cons (ps_while PassesOwn.never (pt_cmpR op_lt (pv 3) (pe_callB call_len_seq (by rfl) B.len PySem.boot_len (pa_cons (pv 0) pa_nil)) (nomark _))
      (pss_cons (ps_set (i := 4) scAnswers.nd rfl (.inl rfl) (pe_ix ix_list (pv 0) (pv 3) (fun _ _ => rfl)))
      (pss_cons (ps_set (i := 5) scAnswers.nd rfl (.inl rfl) (pe_op op_add (pe_op op_add (pv 3) pe_int) (pe_ix ixW (pe_glob (v := .ref na) rfl hna rfl) (pv 4) (fun _ _ => rfl))))
      (pss_cons (ps_set (i := 6) scAnswers.nd rfl (.inl rfl) (pe_c cr hr (pa_cons (pv 0) (pa_cons (pv 5) (pa_cons (pe_ix ixW (pe_glob (v := .ref ra) rfl hra rfl) (pv 4) (fun _ _ => rfl)) pa_nil)))))
      (pss_cons (ps_set (i := 7) scAnswers.nd rfl (.inl rfl) (pe_c ca hr (pa_cons (pv 1) (pa_cons (pv 4) (pa_cons (pe_slice sl_list (pv 0) (po_some (pe_op op_add (pv 3) pe_int)) (po_some (pv 5))) (pa_cons (pv 6) pa_nil))))))
      (pss_cons (ps_expr (pe_bm PySem.F.plainAttrs_list PySem.F.slot_list_append PySem.F.type_list_append mt_append (pv 2) (pa_cons (pe_callB call_len_seq (by rfl) B.len PySem.boot_len (pa_cons (pv 7) pa_nil)) pa_nil)))
      (pss_cons (ps_expr (pe_bm PySem.F.plainAttrs_list PySem.F.slot_list_extend PySem.F.type_list_extend mt_extend (pv 2) (pa_cons (pv 7) pa_nil)))
      (pss_cons (ps_set (i := 3) scAnswers.nd rfl (.inl rfl) (pv 5))
      (pss_one (ps_for PassesOwn.never rfl (pi_list (pv 6)) (pg_name (i := 8) scAnswers.nd rfl (Or.inl rfl))
        (pss_one (ps_set (i := 3) scAnswers.nd rfl (.inl rfl) (pe_op op_add (pe_op op_add (pv 3) pe_int) (pe_callB call_len_seq (by rfl) B.len PySem.boot_len (pa_cons (pv 8) pa_nil)))))))))))))))
    (pss_one (ps_ret (pv 2)))))), ?_⟩)
  · obtain ⟨a, _, _, rfl, _⟩ := h
    rfl
  · obtain ⟨a, l, cs, rfl, hS, ll, lp, hC, big, k⟩ := h
    have line : (10000000 : Nat) < sizeLine := by decide
    intro x dx nx ndx nex
    refine ⟨x, dx, rfl, upd_same, fun H1 bt hK => ⟨rfl, ?_⟩⟩
    have s1 : Same H H1 := wk_new nx ndx bt
    refine ⟨Nat.zero_le _, fun r hr' => ?_⟩
    have s2 : Same H1 (upd H1 r (.lst [])) := same_new hr'
    refine ⟨fun m σ H' => ∃ (c : Sq69.Cone) (i : Nat) (ds : List (List (List Int))) (pre : List Int) (v4 v5 v6 v7 v8 : Option V), σ = [some (.ref a), some (.ref x), some (.ref r), some (.int (i : Int)), v4, v5, v6, v7, v8] ∧ Same H H' ∧ ConeAt C H' x c ∧ Good c ∧ Ints H' r pre ∧
        H r = none ∧ PyFlat.calls PySq69.shape m (l.drop i) = some ds ∧ pre ++ rest c ds = rest Sq69.fresh cs,
      ⟨l.length, Sq69.fresh, 0, cs, [], none, none, none, none, none, rfl, s1.trans s2, hK.same s2, fresh_good, upd_same, s1.free hr', hC, rfl⟩, ?_⟩
    rintro m σ H' ⟨c, i, ds, pre, v4, v5, v6, v7, v8, rfl, sm, hK', g, hP, hr0, hD, eR⟩
    have hS' := sm.seq hS
    refine ⟨_, rfl, _, rfl, a, _, rfl, .inl hS', _, _, rfl, rfl, _, rfl, ?_⟩
    rw [List.length_map]
    refine if2 (fun q => ?_) (fun q => ?_)
    · have lt : i < l.length := by
        have := of_decide_eq_true q
        omega
      obtain ⟨m', cc, t, es, rfl, hc1, hc2, rfl⟩ := calls_step lt hD
      obtain ⟨p, n, kk, ns, xs, ca1, rfl⟩ := call_at lt hc1
      obtain ⟨at_, sh, room, num, len, row⟩ := ca1
      obtain ⟨e1, e2, e3, e4⟩ := rows_end room row
      have k2 : kk ≤ 2 := by
        rcases shape_cases sh with h | h | h | h | h | h | h | h | h <;> omega
      have nf : numF p = some ((n : Nat) : Int) := by unfold numF; rw [sh]; rfl
      have rf : rowF p = some ((kk : Nat) : Int) := by unfold rowF; rw [sh]; rfl
      refine ⟨_, fun _ _ z => z, ?_⟩
      refine ⟨_, rfl, _, rfl, a, _, _, _, rfl, rfl, hS', at_int at_ rfl, ?_⟩
      refine ⟨_, rfl, _, _, rfl, rfl, _, rfl, na, p, _, numF, rfl, rfl, wn, nf, _, _, rfl, rfl, ?_⟩
      refine ⟨_, rfl, _, rfl, _, rfl, ra, p, _, rowF, rfl, rfl, wr, rf, ?_⟩
      refine ⟨a, l, i + 1 + n, kk, xs, t, rfl, hS', ll, room, k2, row, fun H3 rl as s3 rn hL new hA => ?_⟩
      have hS3 := s3.seq hS'
      refine ⟨_, rfl, _, rfl, _, rfl, _, rfl, _, _, rfl, rfl, _, rfl, _, rfl, _, rfl, a, _, rfl, hS3, fun nl hn => ?_⟩
      rw [cut_is l (i + 1) n room (by omega) (by omega), ← num]
      have s4 : Same H3 (upd H3 nl (.lst (ns.map V.int))) := same_new hn
      have s34 := s3.trans s4
      refine ⟨_, rfl, x, nl, rl, c, p, ns, xs, as, rfl, hK'.same s34, g, upd_same, s4 _ _ hL, hA.imp (fun b _ y hy => hy.same s4), by rw [sh, len, e3], fun z hz => lp z (by rw [num] at hz; exact List.mem_of_mem_drop (List.mem_of_mem_take hz)), fun y hy z hz => lp z (e4 y hy z hz), fun H5 fo bt5 fn hK5 g5 hF => ?_⟩
      have rest_eq : rest c (((p :: ns) :: xs) :: es) = (((stp c (PySq69.whole ((p :: ns) :: xs))).2.length : Int) :: (stp c (PySq69.whole ((p :: ns) :: xs))).2) ++ rest (stp c (PySq69.whole ((p :: ns) :: xs))).1 es := rest_cons c ((p :: ns) :: xs) es
      have lens : pre.length + ((stp c (PySq69.whole ((p :: ns) :: xs))).2.length + 1) ≤ 10000000 := by
        rw [← eR, rest_eq, List.length_append, List.length_append, List.length_cons] at big
        omega
      obtain ⟨kdx, ku, kv, kk1, _⟩ := id hK'
      have rx : r ≠ x := ne_of hP kk1 (by intro z; cases z)
      have hP4 : Ints (upd H3 nl (.lst (ns.map V.int))) r pre := (hP.same s3).same s4
      have hP5 : Ints H5 r pre := bt5 _ _ rx hP4
      have fr : fo ≠ r := (ne_of_none hP4 fn).symm
      refine ⟨_, rfl, .inl ⟨rfl, _, SqL.of hP5⟩, _, rfl, fo, _, rfl, .inl (SqL.of hF), r, _, _, rfl, rfl, hP5, ?_, ?_⟩
      · rw [List.length_map]
        exact Nat.lt_of_le_of_lt (show _ ≤ 10000000 by omega) line
      have hF6 : Ints (upd H5 r (.lst (pre.map V.int ++ [V.int ((((stp c (PySq69.whole ((p :: ns) :: xs))).2.map V.int).length : Nat) : Int)]))) fo (stp c (PySq69.whole ((p :: ns) :: xs))).2 := (upd_ne fr).trans hF
      refine ⟨_, rfl, .inl ⟨rfl, _, SqL.of upd_same⟩, _, rfl, r, fo, _, _, rfl, rfl, upd_same, hF6, ?_, ?_⟩
      · rw [List.length_append, List.length_map, List.length_map, List.length_singleton]
        exact Nat.le_trans (show _ ≤ 10000000 by omega) (Nat.le_of_lt line)
      refine ⟨_, rfl, ?_⟩
      rw [upd_upd, List.length_map]
      generalize hH7 : upd H5 r (.lst (pre.map V.int ++ [V.int (((stp c (PySq69.whole ((p :: ns) :: xs))).2.length : Nat) : Int)] ++ (stp c (PySq69.whole ((p :: ns) :: xs))).2.map V.int)) = H7
      have bt7 : ∀ b o, b ≠ x → b ≠ r → (upd H3 nl (.lst (ns.map V.int))) b = some o → H7 b = some o := fun b o n1 n2 e => by
        rw [← hH7, upd_ne n2]
        exact bt5 _ _ n1 e
      have s7 : Same H H7 := fun b o e => bt7 b o (fun z => by rw [z, nx] at e; cases e) (fun z => by rw [z, hr0] at e; cases e) (s34 _ _ (sm _ _ e))
      have rlr : rl ≠ r := (ne_of_none hP rn).symm
      have rlx : rl ≠ x := (ne_of_none kk1 rn).symm
      have hL7 : H7 rl = some (.lst (as.map V.ref)) := bt7 _ _ rlx rlr (s4 _ _ hL)
      have hA7 : Rws H7 as xs := hA.imp fun b hb y hy => by
        have z := new b hb
        exact bt7 _ _ (ne_of_none kk1 z.2).symm (ne_of_none hP z.2).symm (s4 _ _ hy)
      have hK7 : ConeAt C H7 x (stp c (PySq69.whole ((p :: ns) :: xs))).1 := by
        obtain ⟨d5, u5, v5, q1, q2, q3⟩ := hK5
        refine ⟨d5, u5, v5, ?_, ?_, ?_⟩
        · rw [← hH7, upd_ne rx.symm]
          exact q1
        · rw [← hH7]
          exact q2.upd hP5
        · rw [← hH7]
          exact q3.upd hP5
      have hP7 : Ints H7 r (pre ++ ((((stp c (PySq69.whole ((p :: ns) :: xs))).2.length : Nat) : Int) :: (stp c (PySq69.whole ((p :: ns) :: xs))).2)) := by
        rw [← hH7]
        unfold Ints
        rw [upd_same, List.map_append, List.map_cons, List.append_assoc]
        rfl
      have alen := hA.len
      refine ⟨_, rfl, rl, rfl, ⟨_, SqL.of hL7⟩, for_list (K := K) (a := rl) (xs := as.map V.ref) (fun j σ H' => ∃ (v8 : Option V), σ = [some (.ref a), some (.ref x), some (.ref r), some (.int (((i + 1 + n + past (xs.take j)) : Nat) : Int)), some (.int p), some (.int ((i + 1 + n : Nat) : Int)), some (.ref rl), some (.ref fo), v8] ∧ H' = H7)
        ⟨v8, rfl, rfl⟩ (fun j σ H' _ ⟨_, _, e⟩ => by rw [e]; exact SqL.of hL7) ?_ ?_⟩
      · rintro j y σ H8 hj ⟨v8, rfl, rfl⟩
        have hj' : j < xs.length := by
          have := (List.getElem?_eq_some_iff.mp hj).1
          rw [List.length_map] at this
          omega
        obtain ⟨z, hz⟩ := get_some hj'
        obtain ⟨za, ha, hza⟩ := hA7.get hz
        obtain rfl : y = V.ref za := by
          rw [List.getElem?_map, ha] at hj
          exact (Option.some.inj hj).symm
        refine ⟨_, rfl, _, _, rfl, rfl, _, rfl, za, _, rfl, .inl (SqL.of hza), _, _, rfl, rfl, ?_⟩
        refine ⟨some (.ref za), ?_, rfl⟩
        have e : (((i + 1 + n + past (xs.take j) : Nat) : Int) + 1 + (((z.map V.int).length : Nat) : Int)) = ((i + 1 + n + past (xs.take (j + 1)) : Nat) : Int) := by
          rw [past_more hz, List.length_map]
          omega
        exact congrArg (fun u => [some (V.ref a), some (V.ref x), some (V.ref r), some (V.int u), some (V.int p), some (V.int ((i + 1 + n : Nat) : Int)), some (V.ref rl), some (V.ref fo), some (V.ref za)]) e
      · rintro σ H8 ⟨v8, rfl, rfl⟩
        rw [List.length_map, alen, List.take_length]
        refine ⟨m', Nat.lt_succ_self m', (stp c (PySq69.whole ((p :: ns) :: xs))).1, i + 1 + n + past xs, es, _, _, _, _, _, _, rfl, s7, hK7, g5, hP7, hr0, ?_, ?_⟩
        · rw [← e1]
          exact hc2
        · rw [← eR, rest_eq, List.append_assoc]
    · have ge : l.length ≤ i := by
        have := of_decide_eq_false q
        omega
      have e := calls_nil ge hD
      subst e
      rw [rest_nil, List.append_nil] at eR
      exact ⟨_, rfl, k _ r (by rw [← eR]; exact hP)⟩
end
end My
namespace My
open PySem PySem.Spec PyProof.Rows L2
/-! ### the end: what the top has left, one word a fact -/
section
variable {K : PySem.W.Frag} {h : Heap} {mg : Str → Option Value} {Goal : Prop}
theorem use_dfn (X : K.In h) (G : h.Ns mainGlobals mg) (x : Str) (st : Stmt) (ps : List Str) {f : Addr} {od an : Option Addr} {sl : Array (Option Value)} {oc kV dc pm cd ct : Value}
    (a : PySem.W.nsIn K mainGlobals x = some (some (.ref f))) (l : K.lookup f = some ⟨oc, od, .func (PySem.W.fnOf x x (defArgs st) (defBody st) (defScope st) .none kV dc pm an cd ct), sl⟩) (c : PySem.W.codeIn K cd x = true) (k : PySem.W.keepIn K (.ref f) = true)
    (b : ∀ (kV doc pm : Value) (an : Option Addr) (cdv ct : Value) (us : List Value), us.length = ps.length → bindArgs (PySem.W.fnOf x x (defArgs st) (defBody st) (defScope st) .none kV doc pm an cdv ct) ⟨us, []⟩ = pure (ps.zip us))
    (n : Dfn K mg x st ps → Goal) : Goal :=
  n ⟨f, _, fun_mk l c k, PySem.W.mg_of X G a, k, (fun_mk l c k).binds b⟩
theorem use_mfn (C : Addr) (m qual : Str) (st : Stmt) (ps : List Str) {f : Addr} {od an : Option Addr} {sl : Array (Option Value)} {oc kV dc pm cd ct : Value}
    (a : PySem.W.findIn K (.ref C) m = some (some (.ref f))) (i : PySem.W.isFn K (.ref f) = true) (l : K.lookup f = some ⟨oc, od, .func (PySem.W.fnOf m qual (defArgs st) (defBody st) (defScope st) .none kV dc pm an cd ct), sl⟩) (c : PySem.W.codeIn K cd qual = true) (k : PySem.W.keepIn K (.ref f) = true)
    (b : ∀ (kV doc pm : Value) (an : Option Addr) (cdv ct : Value) (us : List Value), us.length = ps.length → bindArgs (PySem.W.fnOf m qual (defArgs st) (defBody st) (defScope st) .none kV doc pm an cdv ct) ⟨us, []⟩ = pure (ps.zip us))
    (n : Mfn K C m qual st ps → Goal) : Goal :=
  n ⟨f, _, fun_mk l c k, ⟨a, i, k⟩, (fun_mk l c k).binds b⟩
theorem use_ifn (C : Addr) (qual : Str) (st : Stmt) (ps : List Str) {f : Addr} {od an : Option Addr} {sl : Array (Option Value)} {oc kV dc pm cd ct : Value}
    (a : PySem.W.findIn K (.ref C) "__init__" = some (some (.ref f))) (l : K.lookup f = some ⟨oc, od, .func (PySem.W.fnOf "__init__" qual (defArgs st) (defBody st) (defScope st) .none kV dc pm an cd ct), sl⟩) (c : PySem.W.codeIn K cd qual = true) (k : PySem.W.keepIn K (.ref f) = true)
    (i : PySem.W.isFn K (.ref f) = true) (mk : PySem.W.makesIn K C = true) (kc : PySem.W.keepIn K (.ref C) = true)
    (b : ∀ (kV doc pm : Value) (an : Option Addr) (cdv ct : Value) (us : List Value), us.length = ps.length → bindArgs (PySem.W.fnOf "__init__" qual (defArgs st) (defBody st) (defScope st) .none kV doc pm an cdv ct) ⟨us, []⟩ = pure (ps.zip us))
    (n : Ifn K C qual st ps → Goal) : Goal :=
  n ⟨f, _, fun_mk l c k, ⟨mk, a, i, kc⟩, (fun_mk l c k).binds b⟩
theorem use_cls (X : K.In h) (G : h.Ns mainGlobals mg) (x : Str) {C : Addr} (e : PySem.W.nsIn K mainGlobals x = some (some (.ref C))) (pg : PySem.W.plainGet K C Str.empty = true) (hd : PySem.W.hasDictIn K C = true) (po : PySem.W.plainOver K C = true)
    (sa : PySem.W.findIn K (.ref C) "__setattr__" = some (some (.builtin "object.__setattr__"))) (n : mg x = some (.ref C) → Cls K C → Goal) : Goal := n (PySem.W.mg_of X G e) ⟨pg, hd, po, sa⟩
theorem use_no (C : Addr) (x : Str) (e : PySem.W.findIn K (.ref C) x = some none) (n : NoAttr K C x → Goal) : Goal := n e
/-- a written dict says what f says, at 1 to 9 -/
def dictOk (f : Int → Option Int) (es : Array DictEntry) : Bool :=
  (es.toList.all fun d => match d.key with | .int k _ => d.hash == hashInt k | _ => false) && ([1, 2, 3, 4, 5, 6, 7, 8, 9].all fun k => match findBy Value.isInt es k with | some (.int v _) => decide (f k = some v) | _ => false)
theorem nine {p : Int} {x : Nat × Nat} (h : PySq69.shape p = some x) : p ∈ ([1, 2, 3, 4, 5, 6, 7, 8, 9] : List Int) := by
  obtain ⟨n, k⟩ := x
  rcases shape_cases h with q | q | q | q | q | q | q | q | q <;> rw [q.1] <;> decide
theorem dict_of {f : Int → Option Int} {es : Array DictEntry} (hd : ∀ k v, f k = some v → k ∈ ([1, 2, 3, 4, 5, 6, 7, 8, 9] : List Int)) (ok : dictOk f es = true) :
    (∀ d ∈ es.toList, ∃ k t, d.key = .int k t ∧ d.hash = hashInt k) ∧ ∀ k v, f k = some v → ∃ t, findBy Value.isInt es k = some (.int v t) := by
  unfold dictOk at ok
  rw [Bool.and_eq_true, List.all_eq_true, List.all_eq_true] at ok
  refine ⟨fun d m => ?_, fun k v e => ?_⟩
  · have q := ok.1 d m
    cases e : d.key with
    | int k t =>
      rw [e] at q
      exact ⟨k, t, rfl, by simpa using q⟩
    | _ =>
      rw [e] at q
      cases q
  · have q := ok.2 k (hd k v e)
    split at q
    · rename_i v' t eq
      have z := of_decide_eq_true q
      rw [e] at z
      rw [Option.some.inj z]
      exact ⟨t, eq⟩
    · cases q
theorem use_dict (X : K.In h) (G : h.Ns mainGlobals mg) (x : Str) (f : Int → Option Int) (hd : ∀ k v, f k = some v → k ∈ ([1, 2, 3, 4, 5, 6, 7, 8, 9] : List Int)) {a : Addr} {es : Array DictEntry} {m : Nat} (e : PySem.W.nsIn K mainGlobals x = some (some (.ref a))) (l : K.lookup a = some ⟨.type "dict", none, .dict es m, #[]⟩)
    (ok : dictOk f es = true) (n : (∃ a, mg x = some (.ref a) ∧ WDict K a f) → Goal) : Goal :=
  n ⟨a, PySem.W.mg_of X G e, es, m, l, (dict_of hd ok).1, (dict_of hd ok).2⟩
theorem use_int (X : K.In h) (G : h.Ns mainGlobals mg) (x : Str) (i : Int) {t : Tok} (e : PySem.W.nsIn K mainGlobals x = some (some (.int i t))) (n : (∃ t, mg x = some (.int i t)) → Goal) : Goal := n ⟨t, PySem.W.mg_of X G e⟩
theorem use_bui (X : K.In h) (G : h.Ns mainGlobals mg) (x : Str) (e : PySem.W.nsIn K mainGlobals x = some none) (n : mg x = none → Goal) : Goal := n (PySem.W.mg_none_of X G e)
theorem finish {P : Program} {w : World} (X : K.In h) (G : h.Ns mainGlobals mg) {fa f : Addr} (hfa : mg "answers" = some (.ref fa)) {od an : Option Addr} {sl : Array (Option Value)} {oc kV dc pm cd ct : Value}
    (a : PySem.W.nsIn K mainGlobals "answers" = some (some (.ref f))) (l : K.lookup f = some ⟨oc, od, .func (PySem.W.fnOf "answers" "answers" (defArgs sAnswers) (defBody sAnswers) (defScope sAnswers) .none kV dc pm an cd ct), sl⟩) (c : PySem.W.codeIn K cd "answers" = true) (k : PySem.W.keepIn K (.ref f) = true)
    (n : ∀ (base : Heap) (fd : FuncData), Fun K "answers" "answers" sAnswers f fd → FnOk P w K mg base CX0 7 f fd ["calls"] (spAnswers K)) :
    ∃ fd : FuncData, (∀ (s : Shared) (us : List Value), us.length = (["calls"] : List Str).length → BindsTo s fd ⟨us, []⟩ ((["calls"] : List Str).zip us)) ∧ ∀ base : Heap, K.In base → base.Ns mainGlobals mg → FnOk P w K mg base CX0 7 fa fd ["calls"] (spAnswers K) := by
  have e := hfa.symm.trans (PySem.W.mg_of X G a)
  cases e
  exact ⟨PySem.W.fnOf "answers" "answers" (defArgs sAnswers) (defBody sAnswers) (defScope sAnswers) .none kV dc pm an cd ct, fun s us hu => match us, hu with | [_], _ => .of_eq rfl, fun base _ _ => n base _ (fun_mk l c k)⟩
end
theorem num_nine (k v : Int) (h : numF k = some v) : k ∈ ([1, 2, 3, 4, 5, 6, 7, 8, 9] : List Int) := by
  unfold numF at h
  cases e : PySq69.shape k with
  | none => rw [e] at h; cases h
  | some x => exact nine e
theorem row_nine (k v : Int) (h : rowF k = some v) : k ∈ ([1, 2, 3, 4, 5, 6, 7, 8, 9] : List Int) := by
  unfold rowF at h
  cases e : PySq69.shape k with
  | none => rw [e] at h; cases h
  | some x => exact nine e
theorem asked_some {l : List Int} (h : PySq69.answers_asked l = true) : ∃ cs, PyFlat.calls PySq69.shape l.length l = some cs ∧ PySq69.answers l = rest Sq69.fresh cs ∧ (rest Sq69.fresh cs).length ≤ 10000000 := by
  unfold PySq69.answers_asked at h
  split at h
  · cases h
  · rename_i raw e
    have a : PySq69.answers l = rest Sq69.fresh raw := by
      unfold PySq69.answers PySq69.calls
      rw [e]
      rfl
    rw [Bool.and_eq_true] at h
    refine ⟨raw, e, a, ?_⟩
    rw [← a]
    exact of_decide_eq_true h.2
/-- the same with the class known by its facts -/
theorem use_no2 {K : PySem.W.Frag} {C : Addr} {Goal : Prop} (_ : Cls K C) (x : Str) (e : PySem.W.findIn K (.ref C) x = some none) (n : NoAttr K C x → Goal) : Goal := n e
theorem use_ifn2 {K : PySem.W.Frag} {C : Addr} {Goal : Prop} (_ : Cls K C) (qual : Str) (st : Stmt) (ps : List Str) {f : Addr} {od an : Option Addr} {sl : Array (Option Value)} {oc kV dc pm cd ct : Value}
    (a : PySem.W.findIn K (.ref C) "__init__" = some (some (.ref f))) (l : K.lookup f = some ⟨oc, od, .func (PySem.W.fnOf "__init__" qual (defArgs st) (defBody st) (defScope st) .none kV dc pm an cd ct), sl⟩) (c : PySem.W.codeIn K cd qual = true) (k : PySem.W.keepIn K (.ref f) = true)
    (i : PySem.W.isFn K (.ref f) = true) (mk : PySem.W.makesIn K C = true) (kc : PySem.W.keepIn K (.ref C) = true)
    (b : ∀ (kV doc pm : Value) (an : Option Addr) (cdv ct : Value) (us : List Value), us.length = ps.length → bindArgs (PySem.W.fnOf "__init__" qual (defArgs st) (defBody st) (defScope st) .none kV doc pm an cdv ct) ⟨us, []⟩ = pure (ps.zip us))
    (n : Ifn K C qual st ps → Goal) : Goal := use_ifn C qual st ps a l c k i mk kc b n
theorem use_mfn2 {K : PySem.W.Frag} {C : Addr} {Goal : Prop} (_ : Cls K C) (m qual : Str) (st : Stmt) (ps : List Str) {f : Addr} {od an : Option Addr} {sl : Array (Option Value)} {oc kV dc pm cd ct : Value}
    (a : PySem.W.findIn K (.ref C) m = some (some (.ref f))) (i : PySem.W.isFn K (.ref f) = true) (l : K.lookup f = some ⟨oc, od, .func (PySem.W.fnOf m qual (defArgs st) (defBody st) (defScope st) .none kV dc pm an cd ct), sl⟩) (c : PySem.W.codeIn K cd qual = true) (k : PySem.W.keepIn K (.ref f) = true)
    (b : ∀ (kV doc pm : Value) (an : Option Addr) (cdv ct : Value) (us : List Value), us.length = ps.length → bindArgs (PySem.W.fnOf m qual (defArgs st) (defBody st) (defScope st) .none kV doc pm an cdv ct) ⟨us, []⟩ = pure (ps.zip us))
    (n : Mfn K C m qual st ps → Goal) : Goal := use_mfn C m qual st ps a i l c k b n
theorem assemble {P : Program} {w : World} {K : PySem.W.Frag} {mg : Str → Option Value} {base : Heap} {CW CK : Addr} (TW : WTxt K mg CW) (TK : KTxt K mg CK) (B : Bui mg) (CT : CTxt mg) (N : ATxt mg) (DT : DTxt K mg)
    (d_cross : Dfn K mg "cross" sCross ["p", "r"])
    (d_common_divisor : Dfn K mg "common_divisor" sGcd ["point"])
    (d_beside : Dfn K mg "beside" sBeside ["u"])
    (d_second_point : Dfn K mg "second_point" sSecond ["u", "v"])
    (d_least_points : Dfn K mg "least_points" sLeastPts ["u", "v"])
    (d_numbers_of : Dfn K mg "numbers_of" sNumbers ["points"])
    (d_told_by : Dfn K mg "told_by" sToldBy ["points", "point"])
    (d_corners_of : Dfn K mg "corners_of" sCorners ["points"])
    (d_dual_ends : Dfn K mg "dual_ends" sDualEnds ["u", "v"])
    (d_q_of : Dfn K mg "q_of" sQOf ["u", "v"])
    (d_changed : Dfn K mg "changed" sChanged ["point"])
    (d_kind_of : Dfn K mg "kind_of" sKindOf ["u", "v"])
    (d_is_below : Dfn K mg "is_below" sIsBelow ["first", "second"])
    (d_walk_between : Dfn K mg "walk_between" sBetween ["first", "second"])
    (d_walk_to : Dfn K mg "walk_to" sWalkTo ["goal"])
    (d_simplest : Dfn K mg "simplest" sSimplest ["first", "second"])
    (d_way : Dfn K mg "way" sWay ["goal"])
    (d_least_of : Dfn K mg "least_of" sLeastOf ["u", "v"])
    (d_point_at : Dfn K mg "point_at" sPointAt ["plus", "minus", "place"])
    (d_is_beyond : Dfn K mg "is_beyond" sIsBeyond ["point", "farthest"])
    (d_cone_refusal : Dfn K mg "cone_refusal" sConeRefusal ["plus", "minus"])
    (d_point_refusal : Dfn K mg "point_refusal" sPointRefusal ["plus", "minus"])
    (d_flat : Dfn K mg "flat" sFlat ["points"])
    (d_rows_at : Dfn K mg "rows_at" sRowsAt ["calls", "place", "many"])
    (d_answer : Dfn K mg "answer" sAnswer ["cone", "call", "numbers", "rows"])
    (i_w : Ifn K CW "Walk.__init__" sWInit ["self"]) (m_looked_at : Mfn K CW "looked_at" "Walk.looked_at" sLooked ["self"]) (m_go : Mfn K CW "go" "Walk.go" sGo ["self", "turn"])
    (i_k : Ifn K CK "Cone.__init__" sCInit ["self"]) (m_begin : Mfn K CK "begin" "Cone.begin" sBegin ["self", "plus", "minus"]) (m_least : Mfn K CK "least" "Cone.least" sLeast ["self"]) (m_sail : Mfn K CK "sail" "Cone.sail" sSail ["self"]) (m_kind : Mfn K CK "kind" "Cone.kind" sKind ["self"]) (m_like : Mfn K CK "like" "Cone.like" sLike ["self", "plus", "minus"]) (m_dual : Mfn K CK "dual" "Cone.dual" sDual ["self"]) (m_told : Mfn K CK "told" "Cone.told" sTold ["self", "plus", "minus"])
    {f : Addr} {fd : FuncData} (F : Fun K "answers" "answers" sAnswers f fd) : FnOk P w K mg base CX0 7 f fd ["calls"] (spAnswers K) := by
  have q1 : Cal P w K mg base 1 "cross" spCross := c_cross d_cross
  have q2 : Cal P w K mg base 1 "common_divisor" spGcd := c_gcd d_common_divisor B
  have q3 : Cal P w K mg base 1 "beside" spBeside := c_beside d_beside
  have q4 : Cal P w K mg base 2 "second_point" spSecond := c_second d_second_point q1 q3
  have q5 : Cal P w K mg base 3 "least_points" spLeastPts := c_leastPts d_least_points q4
  have q6 : Cal P w K mg base 2 "numbers_of" spNumbers := c_numbers d_numbers_of B q1
  have q7 : Cal P w K mg base 2 "told_by" spToldBy := c_toldBy d_told_by B q1
  have q8 : Cal P w K mg base 3 "corners_of" spCorners := c_corners d_corners_of B q6
  have q9 : Cal P w K mg base 1 "dual_ends" spDualEnds := c_dualEnds d_dual_ends
  have q10 : Cal P w K mg base 3 "q_of" spQOf := c_qOf d_q_of q1 q4
  have q11 : Cal P w K mg base 1 "changed" spChanged := c_changed d_changed
  have q12 : Cal P w K mg base 4 "kind_of" spKindOf := c_kindOf d_kind_of q1 q10 q11
  have w0 : Mak P w K mg base 1 CW (spWInit CW) := m_winit i_w TW
  have w1 : Met P w K mg base 1 CW "looked_at" (spLooked CW) := My.m_looked m_looked_at TW
  have w2 : Met P w K mg base 2 CW "go" (spGo CW) := My.m_go m_go TW w1
  have q13 : Cal P w K mg base 1 "is_below" spIsBelow := c_isBelow d_is_below
  have q14 : Cal P w K mg base 3 "walk_between" (spBetween CW) := c_between d_walk_between TW w0 w1 w2 q13
  have q15 : Cal P w K mg base 3 "walk_to" (spWalkTo CW) := c_walkTo d_walk_to TW w0 w1 w2 q13
  have q16 : Cal P w K mg base 4 "simplest" spSimplest := c_simplest d_simplest B CT TW q13 q14 w1
  have q17 : Cal P w K mg base 4 "way" spWay := c_way d_way B CT TW q15
  have q23 : Cal P w K mg base 1 "flat" spFlat := c_flat d_flat
  have q18 : Cal P w K mg base 4 "least_of" spLeastOf := c_leastOf d_least_of B q5 q23 q6
  have q19 : Cal P w K mg base 1 "point_at" spPointAt := c_pointAt d_point_at
  have q20 : Cal P w K mg base 1 "is_beyond" spIsBeyond := c_isBeyond d_is_beyond B
  have q21 : Cal P w K mg base 2 "cone_refusal" spConeRefusal := c_coneRefusal d_cone_refusal B CT q19 q20 q2 q1
  have q22 : Cal P w K mg base 2 "point_refusal" spPointRefusal := c_pointRefusal d_point_refusal B CT q19 q20
  have k0 : Mak P w K mg base 1 CK (spCInit CK) := m_cinit i_k TK
  have k1 : Met P w K mg base 3 CK "begin" (spBegin CK) := My.m_begin m_begin TK q21 q19 q1
  have k2 : Met P w K mg base 5 CK "least" (spM0 CK 2) := My.m_least m_least TK q18
  have k3 : Met P w K mg base 4 CK "sail" (spM0 CK 3) := My.m_sail m_sail TK B q5 q8 q23
  have k4 : Met P w K mg base 5 CK "kind" (spM0 CK 4) := My.m_kind m_kind TK q12
  have k5 : Met P w K mg base 5 CK "like" (spM2 CK 5) := My.m_like m_like TK q21 q19 q12
  have k6 : Met P w K mg base 5 CK "dual" (spM0 CK 6) := My.m_dual m_dual TK q18 q9
  have k7 : Met P w K mg base 4 CK "told" (spM2 CK 7) := My.m_told m_told TK B q22 q19 q5 q7
  have q24 : Cal P w K mg base 1 "rows_at" (spRowsAt K) := c_rowsAt d_rows_at B
  have q25 : Cal P w K mg base 6 "answer" (spAnswer CK) := c_answer d_answer TK N k1 k2 k3 k4 k5 k6 k7 q16 q17
  exact c_answers TK B DT k0 q24 q25 F
end My
open PySem PySem.W PyProof.Rows
set_option maxRecDepth 100000 in
set_option maxHeartbeats 8000000 in
theorem PySem.Challenge.cw_conesails_s01_answers_holds : PySem.Challenge.rw_conesails_s01_answers.Holds := by
  w_on; k_headS; (case hw => exact ⟨[.list [.int 4]], by decide +kernel, by decide +kernel⟩)
  k_fillS
  refine L2.walk_specK (r := PySem.Challenge.rw_conesails_s01_answers) (k := 7) (CX := L2.CX0) (ps := ["calls"]) (sp := My.spAnswers) (by decide +kernel) rfl rfl ⟨rfl, by decide, by decide⟩ (fun w h Y => PySem.W.kIn_of Y) ?F ?S (fun _ _ _ _ z => z)
  case F =>
    intro w mg fa h Y KX G hmg
    refine' My.use_dfn KX G "cross" My.sCross ["p", "r"] ?a1 ?l1 ?c1 ?k1 (fun _ _ _ _ _ _ us hl => match us, hl with | [_, _], _ => rfl) fun d_cross => ?_; (case a1 => k_is); (case l1 => k_is); (case c1 => k_is); (case k1 => k_is)
    refine' My.use_dfn KX G "common_divisor" My.sGcd ["point"] ?a2 ?l2 ?c2 ?k2 (fun _ _ _ _ _ _ us hl => match us, hl with | [_], _ => rfl) fun d_common_divisor => ?_; (case a2 => k_is); (case l2 => k_is); (case c2 => k_is); (case k2 => k_is)
    refine' My.use_dfn KX G "beside" My.sBeside ["u"] ?a3 ?l3 ?c3 ?k3 (fun _ _ _ _ _ _ us hl => match us, hl with | [_], _ => rfl) fun d_beside => ?_; (case a3 => k_is); (case l3 => k_is); (case c3 => k_is); (case k3 => k_is)
    refine' My.use_dfn KX G "second_point" My.sSecond ["u", "v"] ?a4 ?l4 ?c4 ?k4 (fun _ _ _ _ _ _ us hl => match us, hl with | [_, _], _ => rfl) fun d_second_point => ?_; (case a4 => k_is); (case l4 => k_is); (case c4 => k_is); (case k4 => k_is)
    refine' My.use_dfn KX G "least_points" My.sLeastPts ["u", "v"] ?a5 ?l5 ?c5 ?k5 (fun _ _ _ _ _ _ us hl => match us, hl with | [_, _], _ => rfl) fun d_least_points => ?_; (case a5 => k_is); (case l5 => k_is); (case c5 => k_is); (case k5 => k_is)
    refine' My.use_dfn KX G "numbers_of" My.sNumbers ["points"] ?a6 ?l6 ?c6 ?k6 (fun _ _ _ _ _ _ us hl => match us, hl with | [_], _ => rfl) fun d_numbers_of => ?_; (case a6 => k_is); (case l6 => k_is); (case c6 => k_is); (case k6 => k_is)
    refine' My.use_dfn KX G "told_by" My.sToldBy ["points", "point"] ?a7 ?l7 ?c7 ?k7 (fun _ _ _ _ _ _ us hl => match us, hl with | [_, _], _ => rfl) fun d_told_by => ?_; (case a7 => k_is); (case l7 => k_is); (case c7 => k_is); (case k7 => k_is)
    refine' My.use_dfn KX G "corners_of" My.sCorners ["points"] ?a8 ?l8 ?c8 ?k8 (fun _ _ _ _ _ _ us hl => match us, hl with | [_], _ => rfl) fun d_corners_of => ?_; (case a8 => k_is); (case l8 => k_is); (case c8 => k_is); (case k8 => k_is)
    refine' My.use_dfn KX G "dual_ends" My.sDualEnds ["u", "v"] ?a9 ?l9 ?c9 ?k9 (fun _ _ _ _ _ _ us hl => match us, hl with | [_, _], _ => rfl) fun d_dual_ends => ?_; (case a9 => k_is); (case l9 => k_is); (case c9 => k_is); (case k9 => k_is)
    refine' My.use_dfn KX G "q_of" My.sQOf ["u", "v"] ?a10 ?l10 ?c10 ?k10 (fun _ _ _ _ _ _ us hl => match us, hl with | [_, _], _ => rfl) fun d_q_of => ?_; (case a10 => k_is); (case l10 => k_is); (case c10 => k_is); (case k10 => k_is)
    refine' My.use_dfn KX G "changed" My.sChanged ["point"] ?a11 ?l11 ?c11 ?k11 (fun _ _ _ _ _ _ us hl => match us, hl with | [_], _ => rfl) fun d_changed => ?_; (case a11 => k_is); (case l11 => k_is); (case c11 => k_is); (case k11 => k_is)
    refine' My.use_dfn KX G "kind_of" My.sKindOf ["u", "v"] ?a12 ?l12 ?c12 ?k12 (fun _ _ _ _ _ _ us hl => match us, hl with | [_, _], _ => rfl) fun d_kind_of => ?_; (case a12 => k_is); (case l12 => k_is); (case c12 => k_is); (case k12 => k_is)
    refine' My.use_dfn KX G "is_below" My.sIsBelow ["first", "second"] ?a13 ?l13 ?c13 ?k13 (fun _ _ _ _ _ _ us hl => match us, hl with | [_, _], _ => rfl) fun d_is_below => ?_; (case a13 => k_is); (case l13 => k_is); (case c13 => k_is); (case k13 => k_is)
    refine' My.use_dfn KX G "walk_between" My.sBetween ["first", "second"] ?a14 ?l14 ?c14 ?k14 (fun _ _ _ _ _ _ us hl => match us, hl with | [_, _], _ => rfl) fun d_walk_between => ?_; (case a14 => k_is); (case l14 => k_is); (case c14 => k_is); (case k14 => k_is)
    refine' My.use_dfn KX G "walk_to" My.sWalkTo ["goal"] ?a15 ?l15 ?c15 ?k15 (fun _ _ _ _ _ _ us hl => match us, hl with | [_], _ => rfl) fun d_walk_to => ?_; (case a15 => k_is); (case l15 => k_is); (case c15 => k_is); (case k15 => k_is)
    refine' My.use_dfn KX G "simplest" My.sSimplest ["first", "second"] ?a16 ?l16 ?c16 ?k16 (fun _ _ _ _ _ _ us hl => match us, hl with | [_, _], _ => rfl) fun d_simplest => ?_; (case a16 => k_is); (case l16 => k_is); (case c16 => k_is); (case k16 => k_is)
    refine' My.use_dfn KX G "way" My.sWay ["goal"] ?a17 ?l17 ?c17 ?k17 (fun _ _ _ _ _ _ us hl => match us, hl with | [_], _ => rfl) fun d_way => ?_; (case a17 => k_is); (case l17 => k_is); (case c17 => k_is); (case k17 => k_is)
    refine' My.use_dfn KX G "least_of" My.sLeastOf ["u", "v"] ?a18 ?l18 ?c18 ?k18 (fun _ _ _ _ _ _ us hl => match us, hl with | [_, _], _ => rfl) fun d_least_of => ?_; (case a18 => k_is); (case l18 => k_is); (case c18 => k_is); (case k18 => k_is)
    refine' My.use_dfn KX G "point_at" My.sPointAt ["plus", "minus", "place"] ?a19 ?l19 ?c19 ?k19 (fun _ _ _ _ _ _ us hl => match us, hl with | [_, _, _], _ => rfl) fun d_point_at => ?_; (case a19 => k_is); (case l19 => k_is); (case c19 => k_is); (case k19 => k_is)
    refine' My.use_dfn KX G "is_beyond" My.sIsBeyond ["point", "farthest"] ?a20 ?l20 ?c20 ?k20 (fun _ _ _ _ _ _ us hl => match us, hl with | [_, _], _ => rfl) fun d_is_beyond => ?_; (case a20 => k_is); (case l20 => k_is); (case c20 => k_is); (case k20 => k_is)
    refine' My.use_dfn KX G "cone_refusal" My.sConeRefusal ["plus", "minus"] ?a21 ?l21 ?c21 ?k21 (fun _ _ _ _ _ _ us hl => match us, hl with | [_, _], _ => rfl) fun d_cone_refusal => ?_; (case a21 => k_is); (case l21 => k_is); (case c21 => k_is); (case k21 => k_is)
    refine' My.use_dfn KX G "point_refusal" My.sPointRefusal ["plus", "minus"] ?a22 ?l22 ?c22 ?k22 (fun _ _ _ _ _ _ us hl => match us, hl with | [_, _], _ => rfl) fun d_point_refusal => ?_; (case a22 => k_is); (case l22 => k_is); (case c22 => k_is); (case k22 => k_is)
    refine' My.use_dfn KX G "flat" My.sFlat ["points"] ?a23 ?l23 ?c23 ?k23 (fun _ _ _ _ _ _ us hl => match us, hl with | [_], _ => rfl) fun d_flat => ?_; (case a23 => k_is); (case l23 => k_is); (case c23 => k_is); (case k23 => k_is)
    refine' My.use_dfn KX G "rows_at" My.sRowsAt ["calls", "place", "many"] ?a24 ?l24 ?c24 ?k24 (fun _ _ _ _ _ _ us hl => match us, hl with | [_, _, _], _ => rfl) fun d_rows_at => ?_; (case a24 => k_is); (case l24 => k_is); (case c24 => k_is); (case k24 => k_is)
    refine' My.use_dfn KX G "answer" My.sAnswer ["cone", "call", "numbers", "rows"] ?a25 ?l25 ?c25 ?k25 (fun _ _ _ _ _ _ us hl => match us, hl with | [_, _, _, _], _ => rfl) fun d_answer => ?_; (case a25 => k_is); (case l25 => k_is); (case c25 => k_is); (case k25 => k_is)
    refine' My.use_cls KX G "Walk" ?e26 ?pg26 ?hd26 ?po26 ?sa26 fun gw cw => ?_; (case e26 => k_is); (case pg26 => k_is); (case hd26 => k_is); (case po26 => k_is); (case sa26 => k_is)
    refine' My.use_no2 cw "under" ?e27 fun nw_under => ?_; (case e27 => k_is)
    refine' My.use_no2 cw "over" ?e28 fun nw_over => ?_; (case e28 => k_is)
    refine' My.use_no2 cw "turns" ?e29 fun nw_turns => ?_; (case e29 => k_is)
    refine' My.use_ifn2 cw "Walk.__init__" My.sWInit ["self"] ?a30 ?l30 ?c30 ?k30 ?i30 ?mk30 ?kc30 (fun _ _ _ _ _ _ us hl => match us, hl with | [_], _ => rfl) fun i_w => ?_; (case a30 => k_is); (case l30 => k_is); (case c30 => k_is); (case k30 => k_is); (case i30 => k_is); (case mk30 => k_is); (case kc30 => k_is)
    refine' My.use_mfn2 cw "looked_at" "Walk.looked_at" My.sLooked ["self"] ?a31 ?i31 ?l31 ?c31 ?k31 (fun _ _ _ _ _ _ us hl => match us, hl with | [_], _ => rfl) fun m_looked_at => ?_; (case a31 => k_is); (case i31 => k_is); (case l31 => k_is); (case c31 => k_is); (case k31 => k_is)
    refine' My.use_mfn2 cw "go" "Walk.go" My.sGo ["self", "turn"] ?a32 ?i32 ?l32 ?c32 ?k32 (fun _ _ _ _ _ _ us hl => match us, hl with | [_, _], _ => rfl) fun m_go => ?_; (case a32 => k_is); (case i32 => k_is); (case l32 => k_is); (case c32 => k_is); (case k32 => k_is)
    refine' My.use_cls KX G "Cone" ?e33 ?pg33 ?hd33 ?po33 ?sa33 fun gk ck => ?_; (case e33 => k_is); (case pg33 => k_is); (case hd33 => k_is); (case po33 => k_is); (case sa33 => k_is)
    refine' My.use_no2 ck "u" ?e34 fun nk_u => ?_; (case e34 => k_is)
    refine' My.use_no2 ck "v" ?e35 fun nk_v => ?_; (case e35 => k_is)
    refine' My.use_ifn2 ck "Cone.__init__" My.sCInit ["self"] ?a36 ?l36 ?c36 ?k36 ?i36 ?mk36 ?kc36 (fun _ _ _ _ _ _ us hl => match us, hl with | [_], _ => rfl) fun i_k => ?_; (case a36 => k_is); (case l36 => k_is); (case c36 => k_is); (case k36 => k_is); (case i36 => k_is); (case mk36 => k_is); (case kc36 => k_is)
    refine' My.use_mfn2 ck "begin" "Cone.begin" My.sBegin ["self", "plus", "minus"] ?a37 ?i37 ?l37 ?c37 ?k37 (fun _ _ _ _ _ _ us hl => match us, hl with | [_, _, _], _ => rfl) fun m_begin => ?_; (case a37 => k_is); (case i37 => k_is); (case l37 => k_is); (case c37 => k_is); (case k37 => k_is)
    refine' My.use_mfn2 ck "least" "Cone.least" My.sLeast ["self"] ?a38 ?i38 ?l38 ?c38 ?k38 (fun _ _ _ _ _ _ us hl => match us, hl with | [_], _ => rfl) fun m_least => ?_; (case a38 => k_is); (case i38 => k_is); (case l38 => k_is); (case c38 => k_is); (case k38 => k_is)
    refine' My.use_mfn2 ck "sail" "Cone.sail" My.sSail ["self"] ?a39 ?i39 ?l39 ?c39 ?k39 (fun _ _ _ _ _ _ us hl => match us, hl with | [_], _ => rfl) fun m_sail => ?_; (case a39 => k_is); (case i39 => k_is); (case l39 => k_is); (case c39 => k_is); (case k39 => k_is)
    refine' My.use_mfn2 ck "kind" "Cone.kind" My.sKind ["self"] ?a40 ?i40 ?l40 ?c40 ?k40 (fun _ _ _ _ _ _ us hl => match us, hl with | [_], _ => rfl) fun m_kind => ?_; (case a40 => k_is); (case i40 => k_is); (case l40 => k_is); (case c40 => k_is); (case k40 => k_is)
    refine' My.use_mfn2 ck "like" "Cone.like" My.sLike ["self", "plus", "minus"] ?a41 ?i41 ?l41 ?c41 ?k41 (fun _ _ _ _ _ _ us hl => match us, hl with | [_, _, _], _ => rfl) fun m_like => ?_; (case a41 => k_is); (case i41 => k_is); (case l41 => k_is); (case c41 => k_is); (case k41 => k_is)
    refine' My.use_mfn2 ck "dual" "Cone.dual" My.sDual ["self"] ?a42 ?i42 ?l42 ?c42 ?k42 (fun _ _ _ _ _ _ us hl => match us, hl with | [_], _ => rfl) fun m_dual => ?_; (case a42 => k_is); (case i42 => k_is); (case l42 => k_is); (case c42 => k_is); (case k42 => k_is)
    refine' My.use_mfn2 ck "told" "Cone.told" My.sTold ["self", "plus", "minus"] ?a43 ?i43 ?l43 ?c43 ?k43 (fun _ _ _ _ _ _ us hl => match us, hl with | [_, _, _], _ => rfl) fun m_told => ?_; (case a43 => k_is); (case i43 => k_is); (case l43 => k_is); (case c43 => k_is); (case k43 => k_is)
    refine' My.use_int KX G "LEFT" 0 ?e44 fun v_LEFT => ?_; (case e44 => k_is)
    refine' My.use_int KX G "RIGHT" 1 ?e45 fun v_RIGHT => ?_; (case e45 => k_is)
    refine' My.use_int KX G "FARTHEST_END" 40 ?e46 fun v_FARTHEST_END => ?_; (case e46 => k_is)
    refine' My.use_int KX G "FARTHEST_TOLD" 1600 ?e47 fun v_FARTHEST_TOLD => ?_; (case e47 => k_is)
    refine' My.use_int KX G "GREATEST" 200 ?e48 fun v_GREATEST => ?_; (case e48 => k_is)
    refine' My.use_int KX G "BEGIN" 1 ?e49 fun v_BEGIN => ?_; (case e49 => k_is)
    refine' My.use_int KX G "LEAST" 2 ?e50 fun v_LEAST => ?_; (case e50 => k_is)
    refine' My.use_int KX G "SAIL" 3 ?e51 fun v_SAIL => ?_; (case e51 => k_is)
    refine' My.use_int KX G "KIND" 4 ?e52 fun v_KIND => ?_; (case e52 => k_is)
    refine' My.use_int KX G "LIKE" 5 ?e53 fun v_LIKE => ?_; (case e53 => k_is)
    refine' My.use_int KX G "DUAL" 6 ?e54 fun v_DUAL => ?_; (case e54 => k_is)
    refine' My.use_int KX G "TOLD" 7 ?e55 fun v_TOLD => ?_; (case e55 => k_is)
    refine' My.use_int KX G "SIMPLEST" 8 ?e56 fun v_SIMPLEST => ?_; (case e56 => k_is)
    refine' My.use_dict KX G "NUMBERS" My.numF My.num_nine ?e57 ?l57 ?ok57 fun v_NUMBERS => ?_; (case e57 => k_is); (case l57 => k_is); (case ok57 => decide +kernel)
    refine' My.use_dict KX G "ROWS" My.rowF My.row_nine ?e58 ?l58 ?ok58 fun v_ROWS => ?_; (case e58 => k_is); (case l58 => k_is); (case ok58 => decide +kernel)
    refine' My.use_bui KX G "len" ?e59 fun b_len => ?_; (case e59 => k_is)
    refine' My.use_bui KX G "abs" ?e60 fun b_abs => ?_; (case e60 => k_is)
    refine' My.use_bui KX G "range" ?e61 fun b_range => ?_; (case e61 => k_is)
    refine' My.use_bui KX G "max" ?e62 fun b_max => ?_; (case e62 => k_is)
    refine' My.use_bui KX G "min" ?e63 fun b_min => ?_; (case e63 => k_is)
    refine' My.finish KX G hmg ?a64 ?l64 ?c64 ?k64 fun base fd F => ?_; (case a64 => k_is); (case l64 => k_is); (case c64 => k_is); (case k64 => k_is)
    exact My.assemble ⟨cw, nw_under, nw_over, nw_turns, gw, v_LEFT, v_RIGHT⟩ ⟨ck, nk_u, nk_v, gk⟩ ⟨b_len, b_abs, b_range, b_max, b_min⟩ ⟨v_FARTHEST_END, v_FARTHEST_TOLD, v_GREATEST⟩ ⟨v_BEGIN, v_LEAST, v_SAIL, v_KIND, v_LIKE, v_DUAL, v_TOLD, v_SIMPLEST⟩ ⟨v_NUMBERS, v_ROWS⟩ d_cross d_common_divisor d_beside d_second_point d_least_points d_numbers_of d_told_by d_corners_of d_dual_ends d_q_of d_changed d_kind_of d_is_below d_walk_between d_walk_to d_simplest d_way d_least_of d_point_at d_is_beyond d_cone_refusal d_point_refusal d_flat d_rows_at d_answer i_w m_looked_at m_go i_k m_begin m_least m_sail m_kind m_like m_dual m_told F
  case S =>
    intro K H xs a hO hwi hask hx
    cases hx with
    | cons h1 h2 =>
      cases h2
      cases h1 with
      | lst hs ha =>
        have e := L2.ints_dw a.1 _ ha
        subst e
        have q : ((Codec.inLen 0 16000 a.1 && a.1.all (Codec.inInt 0 18446744073709551615)) && true) = true := hwi
        rw [Bool.and_eq_true, Bool.and_eq_true] at q
        obtain ⟨cs, c1, c2, c3⟩ := My.asked_some (l := a.1) hask
        refine ⟨_, a.1, cs, rfl, hs, (Codec.inNat_iff.mp q.1.1).2, fun z hz => ?_, c1, c3, fun H' p hp => .lst (L2.SqL.of ?_) (L2.dw_ints _)⟩
        · have z1 := List.all_eq_true.mp q.1.2 z hz
          unfold Codec.inInt at z1
          rw [Bool.and_eq_true] at z1
          exact of_decide_eq_true z1.1
        · have e : H' p = some (.lst ((PySq69.answers a.1).map L2.V.int)) := by
            rw [c2]
            exact hp
          exact e
