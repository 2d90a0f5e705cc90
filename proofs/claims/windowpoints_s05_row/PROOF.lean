import PyProof.Rows.All
import Wide.All
import OpenK.AllK
import Wide.FinOn
import Open.SpecLaws
import KE.OsGo
import HandS.Base
import HandS.Call
import HandS.List
import HandS.Comp
import HandS.Iter
import HandS.Walk
import HandS.Ends
import HandS.Spec
import HandS.Words
import HandS.WordsList
import PySem.Challenge.RW_windowpoints_s05_row
set_option Elab.async false
namespace WP
open Kzv1 (Z)

/-- positive: s roots -/
theorem mul_self_lt {a b : Int} (ha : 0 ≤ a) (h : a < b) : a * a < b * b :=
  Int.lt_of_le_of_lt (Int.mul_le_mul_of_nonneg_left (Int.le_of_lt h) ha) (Int.mul_lt_mul_of_pos_right h (by omega))
theorem mul_self_le {a b : Int} (ha : 0 ≤ a) (h : a ≤ b) : a * a ≤ b * b :=
  Int.mul_le_mul h h ha (by omega)

/-- s s is at most d b b just if q s is below p b (p p is d q q and 1, b is less than q) -/
theorem pell_le {p q d s b : Int} (hp : 0 < p) (hq : 0 < q) (e : p * p = d * (q * q) + 1) (_hs : 0 ≤ s) (hb : 0 < b) (_hbq : b < q) :
    s * s ≤ d * (b * b) → q * s < p * b := by
  intro h
  refine Int.not_le.mp fun k => ?_
  have h1 : (p * b) * (p * b) ≤ (q * s) * (q * s) := mul_self_le (Int.mul_nonneg (by omega) (by omega)) k
  have h2 : (q * q) * (s * s) ≤ (q * q) * (d * (b * b)) := Int.mul_le_mul_of_nonneg_left h (Int.mul_nonneg (by omega) (by omega))
  have h3 : (p * b) * (p * b) = (p * p) * (b * b) := by grind
  have h4 : (q * s) * (q * s) = (q * q) * (s * s) := by grind
  have h5 : (p * p) * (b * b) = (q * q) * (d * (b * b)) + b * b := by rw [e]; grind
  have h6 : 0 < b * b := Int.mul_pos hb hb
  omega
theorem pell_gt {p q d s b : Int} (_hp : 0 < p) (hq : 0 < q) (e : p * p = d * (q * q) + 1) (hs : 0 ≤ s) (hb : 0 < b) (hbq : b < q) :
    q * s ≤ p * b → s * s ≤ d * (b * b) := by
  intro h
  refine Int.not_lt.mp fun k => ?_
  have h1 : (q * s) * (q * s) ≤ (p * b) * (p * b) := mul_self_le (Int.mul_nonneg (by omega) (by omega)) h
  have h2 : (q * q) * (d * (b * b) + 1) ≤ (q * q) * (s * s) := Int.mul_le_mul_of_nonneg_left (by omega) (Int.mul_nonneg (by omega) (by omega))
  have h3 : (p * b) * (p * b) = (p * p) * (b * b) := by grind
  have h4 : (q * s) * (q * s) = (q * q) * (s * s) := by grind
  have h5 : (p * p) * (b * b) = (q * q) * (d * (b * b)) + b * b := by rw [e]; grind
  have h6 : b * b < q * q := mul_self_lt (by omega) hbq
  have h7 : (q * q) * (d * (b * b) + 1) = (q * q) * (d * (b * b)) + q * q := by grind
  omega
theorem pell_ne {p q d s b : Int} (hp : 0 < p) (hq : 0 < q) (hqp : q ≤ p) (e : p * p = d * (q * q) + 1) (hs : 0 ≤ s) (hb : 0 < b) (hbq : b < q) :
    ¬ s * s = d * (b * b) := by
  intro h
  have h0 := pell_le hp hq e hs hb hbq (by omega)
  have h1 : (q * s) * (q * s) ≤ (p * b - 1) * (p * b - 1) := mul_self_le (Int.mul_nonneg (by omega) (by omega)) (by omega)
  have h3 : (p * b - 1) * (p * b - 1) = (p * p) * (b * b) - 2 * (p * b) + 1 := by grind
  have h4 : (q * s) * (q * s) = (q * q) * (s * s) := by grind
  have h5 : (p * p) * (b * b) = (q * q) * (d * (b * b)) + b * b := by rw [e]; grind
  have h6 : (q * q) * (s * s) = (q * q) * (d * (b * b)) := by rw [h]
  have h7 : b * b ≤ p * b := Int.mul_le_mul_of_nonneg_right (by omega) (by omega)
  have h8 : 0 < p * b := Int.mul_pos hp hb
  have h9 : (b+1) * b ≤ p * b := Int.mul_le_mul_of_nonneg_right (by omega) (by omega)
  have h10 : (b + 1) * b = b * b + b := by grind
  omega

/-! ## The order by one linear form -/
def PP (m : Nat) : Int := if m = 1 then 299537289 else if m = 2 then 768398401 else if m = 3 then 1093435849 else 5374978561
def QQ (m : Nat) : Int := if m = 1 then 133957148 else if m = 2 then 271669860 else if m = 3 then 303264540 else 1201881744
def lin (m : Nat) (z : Z) : Int := QQ m * (2 * z.a + z.b * (m : Int)) + PP m * z.b
def sgn (n : Int) : Int := if 0 < n then 1 else if n = 0 then 0 else -1

theorem m_cases {m : Nat} (h1 : 1 ≤ m) (h4 : m ≤ 4) : m = 1 ∨ m = 2 ∨ m = 3 ∨ m = 4 := by omega
theorem pq_ok {m : Nat} (h1 : 1 ≤ m) (h4 : m ≤ 4) : 0 < PP m ∧ 0 < QQ m ∧ QQ m ≤ PP m ∧ PP m * PP m = ((m * m + 4 : Nat) : Int) * (QQ m * QQ m) + 1 ∧ 100000000 < QQ m := by
  rcases m_cases h1 h4 with rfl | rfl | rfl | rfl <;> decide

/-- the mirror of is_below_zero -/
def below0 (m a b : Int) : Bool :=
  if 0 ≤ 2 * a + m * b ∧ 0 ≤ b then false else if 2 * a + m * b ≤ 0 ∧ b ≤ 0 then true
  else if 0 < b then decide ((m * m + 4) * b * b < (2 * a + m * b) * (2 * a + m * b))
  else decide ((2 * a + m * b) * (2 * a + m * b) < (m * m + 4) * b * b)

theorem sign_core {p q d s b : Int} (hp : 0 < p) (hq : 0 < q) (hqp : q ≤ p) (e : p * p = d * (q * q) + 1) (hb1 : -q < b) (hb2 : b < q) :
    (if 0 ≤ s ∧ 0 ≤ b then (if s = 0 ∧ b = 0 then 0 else 1) else if s ≤ 0 ∧ b ≤ 0 then -1 else if 0 < s then (if b * b * d < s * s then 1 else -1) else if s * s < b * b * d then 1 else -1 : Int) = sgn (q * s + p * b) ∧
    (if 0 ≤ s ∧ 0 ≤ b then false else if s ≤ 0 ∧ b ≤ 0 then true else if 0 < b then decide (d * b * b < s * s) else decide (s * s < d * b * b)) = decide (q * s + p * b < 0) := by
  have c1 : b * b * d = d * (b * b) := Int.mul_comm _ _
  have c2 : d * b * b = d * (b * b) := Int.mul_assoc _ _ _
  rw [c1, c2]
  by_cases hA : 0 ≤ s ∧ 0 ≤ b
  · rw [if_pos hA, if_pos hA]
    have g1 : 0 ≤ q * s := Int.mul_nonneg (by omega) hA.1
    have g2 : 0 ≤ p * b := Int.mul_nonneg (by omega) hA.2
    refine ⟨?_, (decide_eq_false (by omega)).symm⟩
    by_cases hz : s = 0 ∧ b = 0
    · rw [if_pos hz, hz.1, hz.2]
      simp [sgn]
    · rw [if_neg hz]
      unfold sgn
      by_cases hs : s = 0
      · have : 0 < p * b := Int.mul_pos hp (by omega)
        rw [if_pos (by omega)]
      · have : 0 < q * s := Int.mul_pos hq (by omega)
        rw [if_pos (by omega)]
  · rw [if_neg hA, if_neg hA]
    by_cases hB : s ≤ 0 ∧ b ≤ 0
    · rw [if_pos hB, if_pos hB]
      have g1 : 0 ≤ q * (-s) := Int.mul_nonneg (by omega) (by omega)
      have g2 : 0 ≤ p * (-b) := Int.mul_nonneg (by omega) (by omega)
      have g3 : q * s + p * b < 0 := by
        rw [Int.mul_neg] at g1 g2
        by_cases hs : s = 0
        · have : 0 < p * (-b) := Int.mul_pos hp (by omega)
          rw [Int.mul_neg] at this
          omega
        · have : 0 < q * (-s) := Int.mul_pos hq (by omega)
          rw [Int.mul_neg] at this
          omega
      refine ⟨?_, (decide_eq_true g3).symm⟩
      unfold sgn
      rw [if_neg (by omega), if_neg (by omega)]
    · rw [if_neg hB, if_neg hB]
      by_cases hs : 0 < s
      · -- s above 0, b below
        have hb : b < 0 := by omega
        rw [if_pos hs, if_neg (show ¬ 0 < b by omega)]
        have n1 : (-b) * (-b) = b * b := Int.neg_mul_neg b b
        have k1 := pell_le (s := s) (b := -b) hp hq e (by omega) (by omega) (by omega)
        have k2 := pell_gt (s := s) (b := -b) hp hq e (by omega) (by omega) (by omega)
        have k3 := pell_ne (s := s) (b := -b) hp hq hqp e (by omega) (by omega) (by omega)
        rw [n1] at k1 k2 k3
        rw [Int.mul_neg] at k1 k2
        by_cases hc : d * (b * b) < s * s
        · rw [if_pos hc]
          have : ¬ q * s ≤ -(p * b) := fun z => by have := k2 z; omega
          refine ⟨?_, ?_⟩
          · unfold sgn
            rw [if_pos (by omega)]
          · rw [decide_eq_false (show ¬ s * s < d * (b * b) by omega)]
            exact (decide_eq_false (by omega)).symm
        · rw [if_neg hc]
          have := k1 (by omega)
          refine ⟨?_, ?_⟩
          · unfold sgn
            rw [if_neg (by omega), if_neg (by omega)]
          · rw [decide_eq_true (show s * s < d * (b * b) by omega)]
            exact (decide_eq_true (by omega)).symm
      · have hs' : s < 0 := by omega
        have hb : 0 < b := by omega
        rw [if_neg hs, if_pos hb]
        have n1 : (-s) * (-s) = s * s := Int.neg_mul_neg s s
        have k1 := pell_le (s := -s) (b := b) hp hq e (by omega) (by omega) (by omega)
        have k2 := pell_gt (s := -s) (b := b) hp hq e (by omega) (by omega) (by omega)
        have k3 := pell_ne (s := -s) (b := b) hp hq hqp e (by omega) (by omega) (by omega)
        rw [n1] at k1 k2 k3
        rw [Int.mul_neg] at k1 k2
        by_cases hc : s * s < d * (b * b)
        · rw [if_pos hc]
          have := k1 (by omega)
          refine ⟨?_, ?_⟩
          · unfold sgn
            rw [if_pos (by omega)]
          · rw [decide_eq_false (show ¬ d * (b * b) < s * s by omega)]
            exact (decide_eq_false (by omega)).symm
        · rw [if_neg hc]
          have : ¬ -(q * s) ≤ p * b := fun z => by have := k2 z; omega
          refine ⟨?_, ?_⟩
          · unfold sgn
            rw [if_neg (by omega), if_neg (by omega)]
          · rw [decide_eq_true (show d * (b * b) < s * s by omega)]
            exact (decide_eq_true (by omega)).symm

/-- how far the numbers may lie that are held against each other -/
abbrev Near (n : Int) : Prop := -100000000 ≤ n ∧ n ≤ 100000000
theorem sign_lin {m : Nat} (h1 : 1 ≤ m) (h4 : m ≤ 4) {z : Z} (hb : Near z.b) : Kzv1.sign m z = sgn (lin m z) := by
  obtain ⟨p1, q1, pq, e, q8⟩ := pq_ok h1 h4
  exact (sign_core (s := 2 * z.a + z.b * (m : Int)) (b := z.b) p1 q1 pq e (by omega) (by omega)).1
theorem below0_lin {m : Nat} (h1 : 1 ≤ m) (h4 : m ≤ 4) {a b : Int} (hb : Near b) : below0 m a b = decide (lin m ⟨a, b⟩ < 0) := by
  obtain ⟨p1, q1, pq, e, q8⟩ := pq_ok h1 h4
  have k := (sign_core (s := 2 * a + b * (m : Int)) (b := b) p1 q1 pq e (by omega) (by omega)).2
  have e1 : (m : Int) * b = b * (m : Int) := Int.mul_comm _ _
  have e2 : ((m * m + 4 : Nat) : Int) = (m : Int) * m + 4 := by simp
  unfold below0
  rw [e1, ← e2]
  exact k
theorem lin_sub (m : Nat) (x y : Z) : lin m (Kzv1.sub x y) = lin m x - lin m y := by
  unfold lin Kzv1.sub
  grind
theorem lin_add (m : Nat) (x y : Z) : lin m (Kzv1.add x y) = lin m x + lin m y := by
  unfold lin Kzv1.add
  grind
theorem lin_neg (m : Nat) (x : Z) : lin m (Kzv1.neg x) = - lin m x := by
  unfold lin Kzv1.neg
  grind
theorem lt_lin {m : Nat} (h1 : 1 ≤ m) (h4 : m ≤ 4) {x y : Z} (hb : Near (y.b - x.b)) : Kzv1.lt m x y = decide (lin m x < lin m y) := by
  have e := sign_lin h1 h4 (z := Kzv1.sub y x) hb
  unfold Kzv1.lt
  rw [e, lin_sub]
  unfold sgn
  by_cases c : lin m x < lin m y
  · rw [if_pos (by omega), decide_eq_true c]
    rfl
  · rw [if_neg (by omega), decide_eq_false c]
    split <;> rfl
theorem le_lin {m : Nat} (h1 : 1 ≤ m) (h4 : m ≤ 4) {x y : Z} (hb : Near (y.b - x.b)) : Kzv1.le m x y = decide (lin m x ≤ lin m y) := by
  have e := sign_lin h1 h4 (z := Kzv1.sub y x) hb
  unfold Kzv1.le
  rw [e, lin_sub]
  unfold sgn
  by_cases c : lin m x ≤ lin m y
  · rw [decide_eq_true c]
    split
    · rfl
    · rw [if_pos (by omega)]
      rfl
  · rw [if_neg (by omega), if_neg (by omega), decide_eq_false c]
    rfl
end WP
namespace WP
open Kzv1 (Z)
open Kzv2 (Win)

/-- the linear form of the partner -/
def lp (m : Nat) (z : Z) : Int := lin m (Kzv1.partner m z)
theorem lp_add (m : Nat) (x y : Z) : lp m (Kzv1.add x y) = lp m x + lp m y := by
  unfold lp lin Kzv1.partner Kzv1.add
  grind
theorem lp_sub (m : Nat) (x y : Z) : lp m (Kzv1.sub x y) = lp m x - lp m y := by
  unfold lp lin Kzv1.partner Kzv1.sub
  grind
/-- a number that is not too far away -/
abbrev NearZ (z : Z) : Prop := (-50000000 ≤ z.b ∧ z.b ≤ 50000000)
abbrev NearW (x : Win) : Prop := NearZ x.u ∧ NearZ x.v
theorem inside_lin {m : Nat} (h1 : 1 ≤ m) (h4 : m ≤ 4) {x : Win} {y : Z} (hx : NearW x) (hy : NearZ y) :
    Kzv2.inside m x y = (decide (lin m x.u ≤ lin m y) && decide (lin m y < lin m x.v)) := by
  unfold Kzv2.inside
  rw [le_lin h1 h4 (by omega), lt_lin h1 h4 (by omega)]
theorem isPoint_lin {m : Nat} (h1 : 1 ≤ m) (h4 : m ≤ 4) {x : Win} {z : Z} (hx : NearW x) (hz : NearZ z) :
    Kzv2.isPoint m x z = (decide (lin m x.u ≤ lp m z) && decide (lp m z < lin m x.v)) :=
  inside_lin h1 h4 hx (show NearZ (Kzv1.partner m z) by show -50000000 ≤ -z.b ∧ -z.b ≤ 50000000; omega)
theorem isPoint_iff {m : Nat} (h1 : 1 ≤ m) (h4 : m ≤ 4) {x : Win} {z : Z} (hx : NearW x) (hz : NearZ z) :
    Kzv2.isPoint m x z = true ↔ lin m x.u ≤ lp m z ∧ lp m z < lin m x.v := by
  rw [isPoint_lin h1 h4 hx hz, Bool.and_eq_true, decide_eq_true_eq, decide_eq_true_eq]
/-- a window's length, by the form -/
theorem okWin_lin {m : Nat} (h1 : 1 ≤ m) (h4 : m ≤ 4) {x : Win} (hx : -40000000 ≤ x.v.b - x.u.b ∧ x.v.b - x.u.b ≤ 40000000) :
    Kzv2.okWin m x = (decide (lin m Kzv1.one ≤ lin m (Kzv2.long x)) && decide (lin m (Kzv2.long x) < lin m ⟨1, m⟩)) := by
  have e : Kzv1.mul m Kzv1.w Kzv1.w = ⟨1, m⟩ := by
    unfold Kzv1.mul Kzv1.w
    simp
  unfold Kzv2.okWin
  rw [e, le_lin h1 h4 (by show Near (x.v.b - x.u.b - 0); omega), lt_lin h1 h4 (by show Near ((m : Int) - (x.v.b - x.u.b)); omega)]

/-! ## A list of steps without those that another one is ahead of -/
/-- h lies ahead of g: its partner is between 0 and g's -/
def ahead (m : Nat) (g h : Z) : Bool := (decide (0 ≤ lp m h) && decide (lp m h ≤ lp m g)) || (decide (lp m g ≤ lp m h) && decide (lp m h ≤ 0))
def prune (m : Nat) : List Z → List Z → List Z
  | _, [] => []
  | seen, g :: l => if seen.any (ahead m g) then prune m seen l else g :: prune m (seen ++ [g]) l
theorem find_prune {m : Nat} {p : Z → Bool} (hp : ∀ g h, ahead m g h = true → p g = true → p h = true) :
    ∀ (l seen : List Z), (∀ h ∈ seen, p h = false) → l.find? p = (prune m seen l).find? p
  | [], _, _ => rfl
  | g :: l, seen, hs => by
    unfold prune
    by_cases c : seen.any (ahead m g) = true
    · rw [if_pos c]
      obtain ⟨h, hm, ha⟩ := List.any_eq_true.mp c
      have e : p g = false := by
        cases q : p g with
        | false => rfl
        | true => exact absurd (hp g h ha q) (by rw [hs h hm]; decide)
      rw [List.find?_cons, e]
      exact find_prune hp l seen hs
    · rw [if_neg c, List.find?_cons, List.find?_cons]
      cases q : p g with
      | true => rfl
      | false =>
        refine find_prune hp l (seen ++ [g]) fun h hm => ?_
        rcases List.mem_append.mp hm with k | k
        · exact hs h k
        · rw [List.mem_singleton.mp k, q]

def few (m : Nat) : List Z := prune m [] (Kzv2.steps m)
/-- the program's steps, all but the last one -/
def short (m : Nat) : List Z :=
  [⟨-(m : Int), 1⟩] ++ (List.range m).map (fun (i : Nat) => (⟨1 + ((m : Int) - 1 - i) * m, -((m : Int) - 1 - i)⟩ : Z)) ++ (List.range m).map (fun (i : Nat) => (⟨-((m : Int) - 1 - i), 1⟩ : Z))
set_option maxRecDepth 100000 in
theorem steps_1 : Kzv2.steps 1 = [⟨-1, 1⟩, ⟨1, 0⟩, ⟨0, 1⟩, ⟨2, 0⟩, ⟨-1, 2⟩, ⟨1, 1⟩] := by decide +kernel
theorem few_1 : few 1 = short 1 ++ [⟨1, 1⟩] := by
  unfold few
  rw [steps_1]
  decide +kernel
set_option maxRecDepth 100000 in
theorem steps_2 : Kzv2.steps 2 = [⟨-2, 1⟩, ⟨3, -1⟩, ⟨-4, 2⟩, ⟨1, 0⟩, ⟨-1, 1⟩, ⟨4, -1⟩, ⟨-3, 2⟩, ⟨2, 0⟩, ⟨0, 1⟩, ⟨5, -1⟩, ⟨-2, 2⟩, ⟨3, 0⟩, ⟨-4, 3⟩, ⟨1, 1⟩] := by decide +kernel
theorem few_2 : few 2 = short 2 ++ [⟨1, 1⟩] := by
  unfold few
  rw [steps_2]
  decide +kernel
set_option maxRecDepth 100000 in
theorem steps_3 : Kzv2.steps 3 = [⟨-3, 1⟩, ⟨7, -2⟩, ⟨-6, 2⟩, ⟨4, -1⟩, ⟨-9, 3⟩, ⟨1, 0⟩, ⟨-2, 1⟩, ⟨8, -2⟩, ⟨-5, 2⟩, ⟨5, -1⟩, ⟨-8, 3⟩, ⟨2, 0⟩, ⟨-1, 1⟩, ⟨9, -2⟩, ⟨-4, 2⟩, ⟨6, -1⟩, ⟨-7, 3⟩, ⟨3, 0⟩, ⟨0, 1⟩, ⟨10, -2⟩, ⟨-3, 2⟩, ⟨7, -1⟩, ⟨-6, 3⟩, ⟨4, 0⟩, ⟨-9, 4⟩, ⟨1, 1⟩] := by decide +kernel
theorem few_3 : few 3 = short 3 ++ [⟨1, 1⟩] := by
  unfold few
  rw [steps_3]
  decide +kernel
set_option maxRecDepth 100000 in
theorem steps_4 : Kzv2.steps 4 = [⟨-4, 1⟩, ⟨13, -3⟩, ⟨-8, 2⟩, ⟨9, -2⟩, ⟨-12, 3⟩, ⟨5, -1⟩, ⟨-16, 4⟩, ⟨1, 0⟩, ⟨-3, 1⟩, ⟨14, -3⟩, ⟨-7, 2⟩, ⟨10, -2⟩, ⟨-11, 3⟩, ⟨6, -1⟩, ⟨-15, 4⟩, ⟨2, 0⟩, ⟨-2, 1⟩, ⟨15, -3⟩, ⟨-6, 2⟩, ⟨11, -2⟩, ⟨-10, 3⟩, ⟨7, -1⟩, ⟨-14, 4⟩, ⟨3, 0⟩, ⟨-1, 1⟩, ⟨16, -3⟩, ⟨-5, 2⟩, ⟨12, -2⟩, ⟨-9, 3⟩, ⟨8, -1⟩, ⟨-13, 4⟩, ⟨4, 0⟩, ⟨0, 1⟩, ⟨17, -3⟩, ⟨-4, 2⟩, ⟨13, -2⟩, ⟨-8, 3⟩, ⟨9, -1⟩, ⟨-12, 4⟩, ⟨5, 0⟩, ⟨-16, 5⟩, ⟨1, 1⟩] := by decide +kernel
theorem few_4 : few 4 = short 4 ++ [⟨1, 1⟩] := by
  unfold few
  rw [steps_4]
  decide +kernel
theorem few_is {m : Nat} (h1 : 1 ≤ m) (h4 : m ≤ 4) : few m = short m ++ [⟨1, 1⟩] := by
  rcases m_cases h1 h4 with rfl | rfl | rfl | rfl
  · exact few_1
  · exact few_2
  · exact few_3
  · exact few_4
end WP
namespace WP
open Kzv1 (Z)
open Kzv2 (Win)
theorem find_congr {α : Type} {p q : α → Bool} : ∀ {l : List α}, (∀ g ∈ l, p g = q g) → l.find? p = l.find? q
  | [], _ => rfl
  | a :: l, h => by
    rw [List.find?_cons, List.find?_cons, h a (List.mem_cons_self ..)]
    cases q a with
    | true => rfl
    | false => exact find_congr fun g hg => h g (List.mem_cons_of_mem _ hg)
theorem steps_small {m : Nat} (h1 : 1 ≤ m) (h4 : m ≤ 4) : ∀ g ∈ Kzv2.steps m, -10 ≤ g.b ∧ g.b ≤ 10 := by
  rcases m_cases h1 h4 with rfl | rfl | rfl | rfl
  · rw [steps_1]; decide
  · rw [steps_2]; decide
  · rw [steps_3]; decide
  · rw [steps_4]; decide
theorem short_small {m : Nat} (h1 : 1 ≤ m) (h4 : m ≤ 4) : ∀ g ∈ short m, (-17 ≤ g.a ∧ g.a ≤ 17) ∧ -10 ≤ g.b ∧ g.b ≤ 10 := by
  rcases m_cases h1 h4 with rfl | rfl | rfl | rfl <;> decide
theorem short_w {m : Nat} (h1 : 1 ≤ m) (h4 : m ≤ 4) : (⟨0, 1⟩ : Z) ∈ short m := by
  rcases m_cases h1 h4 with rfl | rfl | rfl | rfl <;> decide
theorem last_facts {m : Nat} (h1 : 1 ≤ m) (h4 : m ≤ 4) : lp m ⟨0, 1⟩ < 0 ∧ 0 < lp m ⟨1, 1⟩ ∧ lp m ⟨1, 1⟩ = lp m ⟨0, 1⟩ + lin m Kzv1.one := by
  rcases m_cases h1 h4 with rfl | rfl | rfl | rfl <;> decide
/-- a number by its form lies in the window -/
def inL (m : Nat) (x : Win) (n : Int) : Bool := decide (lin m x.u ≤ n) && decide (n < lin m x.v)
theorem inL_iff {m : Nat} {x : Win} {n : Int} : inL m x n = true ↔ lin m x.u ≤ n ∧ n < lin m x.v := by
  unfold inL
  rw [Bool.and_eq_true, decide_eq_true_eq, decide_eq_true_eq]
theorem isPoint_inL {m : Nat} (h1 : 1 ≤ m) (h4 : m ≤ 4) {x : Win} {z : Z} (hx : NearW x) (hz : NearZ z) : Kzv2.isPoint m x z = inL m x (lp m z) := isPoint_lin h1 h4 hx hz
theorem ahead_iff {m : Nat} {g h : Z} : ahead m g h = true ↔ (0 ≤ lp m h ∧ lp m h ≤ lp m g) ∨ (lp m g ≤ lp m h ∧ lp m h ≤ 0) := by
  unfold ahead
  simp only [Bool.or_eq_true, Bool.and_eq_true, decide_eq_true_eq]
/-- the length, by the form -/
abbrev LongW (m : Nat) (x : Win) : Prop := lin m Kzv1.one ≤ lin m x.v - lin m x.u ∧ lin m x.v - lin m x.u < lin m ⟨1, m⟩
theorem longW_of {m : Nat} (h1 : 1 ≤ m) (h4 : m ≤ 4) {x : Win} (hx : -40000000 ≤ x.v.b - x.u.b ∧ x.v.b - x.u.b ≤ 40000000) : Kzv2.okWin m x = true ↔ LongW m x := by
  rw [okWin_lin h1 h4 hx, Bool.and_eq_true, decide_eq_true_eq, decide_eq_true_eq]
  unfold Kzv2.long
  rw [lin_sub]
/-- from a number on: the first of the program's steps by which f's number lies in the window -/
theorem found_of {m : Nat} (h1 : 1 ≤ m) (h4 : m ≤ 4) {x : Win} {n : Int} (s : Int) (hs : s = 1 ∨ s = -1) (hL : LongW m x) (hn : inL m x n = true) :
    (Kzv2.steps m).find? (fun g => inL m x (n + s * lp m g)) = some (((short m).find? (fun g => inL m x (n + s * lp m g))).getD ⟨1, 1⟩) := by
  have hn := inL_iff.mp hn
  rw [find_prune (m := m) (p := fun g => inL m x (n + s * lp m g)) (fun g h a q => ?_) _ [] (by simp)]
  · show (few m).find? _ = _
    rw [few_is h1 h4, List.find?_append]
    cases e : (short m).find? (fun g => inL m x (n + s * lp m g)) with
    | some g => rfl
    | none =>
      have k := List.find?_eq_none.mp e _ (short_w h1 h4)
      obtain ⟨f1, f2, f3⟩ := last_facts h1 h4
      have k' : ¬ (lin m x.u ≤ n + s * lp m ⟨0, 1⟩ ∧ n + s * lp m ⟨0, 1⟩ < lin m x.v) := fun z => k (inL_iff.mpr z)
      have y : inL m x (n + s * lp m ⟨1, 1⟩) = true := by
        rw [inL_iff]
        obtain ⟨l1, l2⟩ := hL
        rcases hs with rfl | rfl <;> omega
      simp [y]
  · have q := inL_iff.mp q
    refine inL_iff.mpr ?_
    rcases ahead_iff.mp a with c | c <;> rcases hs with rfl | rfl <;> omega
/-- the program's next point -/
def nextL (m : Nat) (x : Win) (z : Z) : Z := Kzv1.add z (((short m).find? (fun g => Kzv2.isPoint m x (Kzv1.add z g))).getD ⟨1, 1⟩)
def beforeL (m : Nat) (x : Win) (z : Z) : Z := Kzv1.sub z (((short m).find? (fun g => Kzv2.isPoint m x (Kzv1.sub z g))).getD ⟨1, 1⟩)
abbrev MidZ (z : Z) : Prop := (-40000000 ≤ z.b ∧ z.b ≤ 40000000)
theorem next_is {m : Nat} (h1 : 1 ≤ m) (h4 : m ≤ 4) {x : Win} {z : Z} (hx : NearW x) (hz : MidZ z) (hL : LongW m x) (hp : Kzv2.isPoint m x z = true) : Kzv2.next m x z = nextL m x z := by
  rw [isPoint_inL h1 h4 hx (by omega)] at hp
  have k := found_of h1 h4 1 (.inl rfl) hL hp
  have e1 : (Kzv2.steps m).find? (fun g => inL m x (lp m z + 1 * lp m g)) = (Kzv2.steps m).find? (fun g => Kzv2.isPoint m x (Kzv1.add z g)) := find_congr fun g hg => by
    have := steps_small h1 h4 g hg
    rw [isPoint_inL h1 h4 hx (by show -50000000 ≤ z.b + g.b ∧ z.b + g.b ≤ 50000000; omega), lp_add, Int.one_mul]
  have e2 : (short m).find? (fun g => inL m x (lp m z + 1 * lp m g)) = (short m).find? (fun g => Kzv2.isPoint m x (Kzv1.add z g)) := find_congr fun g hg => by
    have := short_small h1 h4 g hg
    rw [isPoint_inL h1 h4 hx (by show -50000000 ≤ z.b + g.b ∧ z.b + g.b ≤ 50000000; omega), lp_add, Int.one_mul]
  rw [e1, e2] at k
  unfold Kzv2.next Kzv2.step nextL
  rw [k]
theorem before_is {m : Nat} (h1 : 1 ≤ m) (h4 : m ≤ 4) {x : Win} {z : Z} (hx : NearW x) (hz : MidZ z) (hL : LongW m x) (hp : Kzv2.isPoint m x z = true) : Kzv2.before m x z = beforeL m x z := by
  rw [isPoint_inL h1 h4 hx (by omega)] at hp
  have k := found_of h1 h4 (-1) (.inr rfl) hL hp
  have e1 : (Kzv2.steps m).find? (fun g => inL m x (lp m z + -1 * lp m g)) = (Kzv2.steps m).find? (fun g => Kzv2.isPoint m x (Kzv1.sub z g)) := find_congr fun g hg => by
    have := steps_small h1 h4 g hg
    rw [isPoint_inL h1 h4 hx (by show -50000000 ≤ z.b - g.b ∧ z.b - g.b ≤ 50000000; omega), lp_sub, Int.neg_one_mul, Int.sub_eq_add_neg]
  have e2 : (short m).find? (fun g => inL m x (lp m z + -1 * lp m g)) = (short m).find? (fun g => Kzv2.isPoint m x (Kzv1.sub z g)) := find_congr fun g hg => by
    have := short_small h1 h4 g hg
    rw [isPoint_inL h1 h4 hx (by show -50000000 ≤ z.b - g.b ∧ z.b - g.b ≤ 50000000; omega), lp_sub, Int.neg_one_mul, Int.sub_eq_add_neg]
  rw [e1, e2] at k
  unfold Kzv2.before Kzv2.stepBack beforeL
  rw [k]

/-! ## What is handed in -/
def inB (n : Int) : Bool := decide (-1000000 ≤ n) && decide (n ≤ 1000000)
theorem inB_iff {n : Int} : inB n = true ↔ -1000000 ≤ n ∧ n ≤ 1000000 := by
  unfold inB
  rw [Bool.and_eq_true, decide_eq_true_eq, decide_eq_true_eq]
/-- is_as_told -/
def told (l : List Int) (k : Nat) : Bool := decide (l.length = k) && l.all inB
def winOf : List Int → Win
  | [a, b, c, d] => ⟨⟨a, b⟩, ⟨c, d⟩⟩
  | _ => ⟨⟨0, 0⟩, ⟨0, 0⟩⟩
def zOf : List Int → Z
  | [a, b] => ⟨a, b⟩
  | _ => ⟨0, 0⟩
/-- is_window -/
def isWin (m : Nat) (l : List Int) : Bool := told l 4 && Kzv2.okWin m (winOf l)
def right (m : Int) (x z : List Int) : Bool := decide (1 ≤ m) && decide (m ≤ 4) && isWin m.toNat x && told z 2
theorem okZ_in {a b : Int} : Kzv1.okZ ⟨a, b⟩ = (inB a && inB b) := by
  unfold Kzv1.okZ inB Kzv1.mostN
  rw [Bool.eq_iff_iff]
  simp only [Bool.and_eq_true, decide_eq_true_eq]
  omega
theorem readZ_is (z : List Int) : Kzv1.readZ z = if told z 2 = true then some (zOf z) else none := by
  match z with
  | [] => rfl
  | [_] => rfl
  | [a, b] =>
    show (if Kzv1.okZ ⟨a, b⟩ = true then some (⟨a, b⟩ : Z) else none) = if (decide (([a, b] : List Int).length = 2) && (inB a && (inB b && true))) = true then some (⟨a, b⟩ : Z) else none
    rw [okZ_in]
    simp
  | _ :: _ :: _ :: l =>
    show none = _
    rw [if_neg]
    unfold told
    simp
theorem readWin_is (m : Nat) (x : List Int) : Kzv2.readWin m x = if isWin m x = true then some (winOf x) else none := by
  match x with
  | [] => rfl
  | [_] => rfl
  | [_, _] => rfl
  | [_, _, _] => rfl
  | [a, b, c, d] =>
    show (if (Kzv1.okZ ⟨a, b⟩ && Kzv1.okZ ⟨c, d⟩ && Kzv2.okWin m ⟨⟨a, b⟩, ⟨c, d⟩⟩) = true then some (⟨⟨a, b⟩, ⟨c, d⟩⟩ : Win) else none) =
      if (decide (([a, b, c, d] : List Int).length = 4) && (inB a && (inB b && (inB c && (inB d && true)))) && Kzv2.okWin m ⟨⟨a, b⟩, ⟨c, d⟩⟩) = true then some (⟨⟨a, b⟩, ⟨c, d⟩⟩ : Win) else none
    rw [okZ_in, okZ_in]
    simp [Bool.and_assoc]
  | _ :: _ :: _ :: _ :: _ :: l =>
    show none = _
    rw [if_neg]
    unfold isWin told
    simp
theorem okM_is {m : Int} (h : 0 ≤ m) : Kzv1.okM m.toNat = (decide (1 ≤ m) && decide (m ≤ 4)) := by
  unfold Kzv1.okM
  rw [Bool.eq_iff_iff]
  simp only [Bool.and_eq_true, decide_eq_true_eq]
  omega
theorem withX_is {m : Int} (h : 0 ≤ m) (x : List Int) (k : Win → Kzv1.Ans) :
    Kzv2.withX m.toNat x k = if (decide (1 ≤ m) && decide (m ≤ 4) && isWin m.toNat x) = true then k (winOf x) else Kzv1.say (-22) := by
  unfold Kzv2.withX
  rw [okM_is h, readWin_is]
  cases (decide (1 ≤ m) && decide (m ≤ 4)) <;> cases isWin m.toNat x <;> rfl
theorem withXZ_is {m : Int} (h : 0 ≤ m) (x z : List Int) (k : Win → Z → Kzv1.Ans) :
    Kzv2.withXZ m.toNat x z k = if right m x z = true then k (winOf x) (zOf z) else Kzv1.say (-22) := by
  unfold Kzv2.withXZ right
  rw [withX_is h, readZ_is]
  cases (decide (1 ≤ m) && decide (m ≤ 4) && isWin m.toNat x) <;> cases told z 2 <;> rfl
theorem point_is {m : Int} (h : 0 ≤ m) (x z : List Int) :
    PyKzv2.point m x z = if right m x z = true then [if Kzv2.isPoint m.toNat (winOf x) (zOf z) then 1 else 0] else [-22] := by
  show (Kzv2.withXZ m.toNat x z fun x z => Kzv1.say (if Kzv2.isPoint m.toNat x z then 1 else 0)).value :: (Kzv2.withXZ m.toNat x z fun x z => Kzv1.say (if Kzv2.isPoint m.toNat x z then 1 else 0)).nums = _
  rw [withXZ_is h]
  cases right m x z <;> rfl
theorem next_of_is {m : Int} (h : 0 ≤ m) (x z : List Int) :
    PyKzv2.next_of m x z = if right m x z = true then (if Kzv2.isPoint m.toNat (winOf x) (zOf z) = true then [0, (Kzv2.next m.toNat (winOf x) (zOf z)).a, (Kzv2.next m.toNat (winOf x) (zOf z)).b] else [-2]) else [-22] := by
  show (Kzv2.withXZ m.toNat x z fun x z => if Kzv2.isPoint m.toNat x z = false then Kzv1.say (-2) else ⟨0, Kzv2.written [Kzv2.next m.toNat x z]⟩).value :: (Kzv2.withXZ m.toNat x z fun x z => if Kzv2.isPoint m.toNat x z = false then Kzv1.say (-2) else ⟨0, Kzv2.written [Kzv2.next m.toNat x z]⟩).nums = _
  rw [withXZ_is h]
  cases right m x z with
  | false => rfl
  | true =>
    cases e : Kzv2.isPoint m.toNat (winOf x) (zOf z)
    · simp only [if_true, e]; rfl
    · simp only [if_true, e]; rfl
/-- what a right request is -/
theorem right_of {m : Int} {x z : List Int} (h : right m x z = true) : ∃ (n : Nat) (a b c d e f : Int), m = (n : Int) ∧ 1 ≤ n ∧ n ≤ 4 ∧ x = [a, b, c, d] ∧ z = [e, f] ∧
    (-1000000 ≤ a ∧ a ≤ 1000000) ∧ (-1000000 ≤ b ∧ b ≤ 1000000) ∧ (-1000000 ≤ c ∧ c ≤ 1000000) ∧ (-1000000 ≤ d ∧ d ≤ 1000000) ∧ (-1000000 ≤ e ∧ e ≤ 1000000) ∧ (-1000000 ≤ f ∧ f ≤ 1000000) ∧ LongW n ⟨⟨a, b⟩, ⟨c, d⟩⟩ := by
  unfold right isWin at h
  simp only [Bool.and_eq_true, decide_eq_true_eq] at h
  obtain ⟨⟨⟨m1, m4⟩, t4, w⟩, t2⟩ := h
  unfold told at t4 t2
  simp only [Bool.and_eq_true, decide_eq_true_eq] at t4 t2
  match x, t4, z, t2 with
  | [a, b, c, d], t4, [e, f], t2 =>
    have k4 := t4.2
    have k2 := t2.2
    simp only [List.all_cons, List.all_nil, Bool.and_eq_true, inB_iff, and_true] at k4 k2
    refine ⟨m.toNat, a, b, c, d, e, f, by omega, by omega, by omega, rfl, rfl, k4.1, k4.2.1, k4.2.2.1, k4.2.2.2, k2.1, k2.2, ?_⟩
    exact (longW_of (by omega) (by omega) (by show -40000000 ≤ d - b ∧ d - b ≤ 40000000; omega)).mp w
end WP
namespace WP
open Kzv1 (Z)
open Kzv2 (Win)

/-! ## Rounding down -/
theorem root_ok : ∀ (k n : Nat), n < 4 ^ k → Kzv1.root k n * Kzv1.root k n ≤ n ∧ n < (Kzv1.root k n + 1) * (Kzv1.root k n + 1)
  | 0, n, h => by
    have e : n = 0 := by
      rw [Nat.pow_zero] at h
      omega
    subst e
    decide
  | k + 1, n, h => by
    unfold Kzv1.root
    by_cases h0 : n = 0
    · rw [if_pos h0]
      subst h0
      decide
    · rw [if_neg h0]
      have ih := root_ok k (n / 4) (by rw [Nat.pow_succ] at h; omega)
      dsimp only
      generalize Kzv1.root k (n / 4) = r at ih ⊢
      have e1 : (r + 1) * (r + 1) = r * r + 2 * r + 1 := by grind
      have e2 : (2 * r + 1) * (2 * r + 1) = 4 * (r * r) + 4 * r + 1 := by grind
      have e3 : (2 * r + 1 + 1) * (2 * r + 1 + 1) = 4 * (r * r) + 8 * r + 4 := by grind
      have e4 : 2 * r * (2 * r) = 4 * (r * r) := by grind
      rw [e1] at ih
      by_cases c : (2 * r + 1) * (2 * r + 1) ≤ n
      · rw [if_pos c, e3]
        omega
      · rw [if_neg c, e4]
        omega
theorem pos_of_mul {q s : Int} (hq : 0 < q) (h : 0 ≤ q * s) : 0 ≤ s := by
  refine Int.not_lt.mp fun k => ?_
  have := Int.mul_pos hq (show 0 < -s by omega)
  rw [Int.mul_neg] at this
  omega
theorem floor_iff {m : Nat} (h1 : 1 ≤ m) (h4 : m ≤ 4) {x : Z} (hb : Near x.b) (t : Int) : t ≤ Kzv1.floor m x ↔ lin m ⟨t, 0⟩ ≤ lin m x := by
  obtain ⟨hp, hq, hqp, e, q8⟩ := pq_ok h1 h4
  obtain ⟨a, b⟩ := x
  dsimp only at hb
  have hd : ((m * m + 4 : Nat) : Int) ≤ 20 ∧ (0 : Int) ≤ ((m * m + 4 : Nat) : Int) := by
    rcases m_cases h1 h4 with rfl | rfl | rfl | rfl <;> decide
  have hbb : 0 ≤ b * b ∧ b * b ≤ 10000000000000000 := by
    have nn : 0 ≤ b * b := by
      by_cases c : 0 ≤ b
      · exact Int.mul_nonneg c c
      · have := Int.mul_nonneg (show 0 ≤ -b by omega) (show 0 ≤ -b by omega)
        rw [Int.neg_mul_neg] at this
        exact this
    refine ⟨nn, ?_⟩
    by_cases c : 0 ≤ b
    · have := mul_self_le c hb.2
      omega
    · have := mul_self_le (show 0 ≤ -b by omega) (show -b ≤ 100000000 by omega)
      rw [Int.neg_mul_neg] at this
      omega
  have hn : (((b * b).toNat * (m * m + 4) : Nat) : Int) = ((m * m + 4 : Nat) : Int) * (b * b) := by
    rw [Int.natCast_mul, Int.toNat_of_nonneg hbb.1, Int.mul_comm]
  have nb : (b * b).toNat * (m * m + 4) < 4 ^ 200 := by
    have : (b * b).toNat * (m * m + 4) ≤ 10000000000000000 * 20 := Nat.mul_le_mul (by omega) (by omega)
    exact Nat.lt_of_le_of_lt this (by decide)
  have R := root_ok 200 _ nb
  unfold Kzv1.floor
  dsimp only
  generalize hr : Kzv1.root 200 ((b * b).toNat * (m * m + 4)) = r at R ⊢
  have R1 : ((r * r : Nat) : Int) ≤ (((b * b).toNat * (m * m + 4) : Nat) : Int) := Int.ofNat_le.mpr R.1
  have R2 : (((b * b).toNat * (m * m + 4) : Nat) : Int) < (((r + 1) * (r + 1) : Nat) : Int) := Int.ofNat_lt.mpr R.2
  rw [hn] at R1 R2
  have R1 : (r : Int) * r ≤ ((m * m + 4 : Nat) : Int) * (b * b) := by
    rw [Int.natCast_mul] at R1
    exact R1
  have R2 : ((m * m + 4 : Nat) : Int) * (b * b) < ((r : Int) + 1) * ((r : Int) + 1) := by
    rw [Int.natCast_mul] at R2
    exact R2
  have hl : lin m ⟨a, b⟩ - lin m ⟨t, 0⟩ = QQ m * (2 * a + b * (m : Int) - 2 * t) + PP m * b := by
    unfold lin
    grind
  have key : (lin m ⟨t, 0⟩ ≤ lin m ⟨a, b⟩) ↔ 0 ≤ QQ m * (2 * a + b * (m : Int) - 2 * t) + PP m * b := by omega
  rw [key]
  clear key hl
  generalize 2 * a + b * (m : Int) = s
  by_cases c : 0 ≤ b
  · rw [if_pos c]
    have g2 : 0 ≤ PP m * b := Int.mul_nonneg (by omega) c
    have t1 : t ≤ (s + (r : Int)) / 2 ↔ -(s - 2 * t) ≤ r := by omega
    rw [t1]
    by_cases d : 0 ≤ s - 2 * t
    · have := Int.mul_nonneg (show 0 ≤ QQ m by omega) d
      constructor <;> intro <;> omega
    · have es : QQ m * (s - 2 * t) = -(QQ m * -(s - 2 * t)) := by
        rw [Int.mul_neg, Int.neg_neg]
      rw [es]
      generalize hk : -(s - 2 * t) = k
      have kp : 0 < k := by omega
      by_cases b0 : b = 0
      · subst b0
        have : 0 < QQ m * k := Int.mul_pos hq kp
        have r0 : ¬ k ≤ (r : Int) := fun z => by
          have := mul_self_le (by omega) z
          have := Int.mul_pos kp kp
          omega
        constructor <;> intro <;> omega
      · have l1 := pell_le (s := k) (b := b) hp hq e (by omega) (by omega) (by omega)
        have l2 := pell_gt (s := k) (b := b) hp hq e (by omega) (by omega) (by omega)
        constructor
        · intro h
          have := mul_self_le (by omega) h
          have := l1 (by omega)
          omega
        · intro h
          have l3 := l2 (by omega)
          refine Int.not_lt.mp fun z => ?_
          have := mul_self_le (show (0 : Int) ≤ (r : Int) + 1 by omega) (show (r : Int) + 1 ≤ k by omega)
          omega
  · rw [if_neg c]
    have n1 : (-b) * (-b) = b * b := Int.neg_mul_neg b b
    have ne : ¬ r * r = (b * b).toNat * (m * m + 4) := fun z => by
      have z2 : ((r * r : Nat) : Int) = (((b * b).toNat * (m * m + 4) : Nat) : Int) := congrArg _ z
      rw [hn, Int.natCast_mul] at z2
      have := pell_ne (s := r) (b := -b) hp hq hqp e (by omega) (by omega) (by omega)
      rw [n1] at this
      exact this z2
    rw [if_neg ne]
    have t1 : t ≤ (s - ((r + 1 : Nat) : Int)) / 2 ↔ (r : Int) + 1 ≤ s - 2 * t := by omega
    rw [t1]
    generalize s - 2 * t = k
    have eb : PP m * b = -(PP m * -b) := by
      rw [Int.mul_neg, Int.neg_neg]
    rw [eb]
    have pb : 0 < PP m * -b := Int.mul_pos hp (by omega)
    by_cases kp : 0 ≤ k
    · have l1 := pell_le (s := k) (b := -b) hp hq e (by omega) (by omega) (by omega)
      have l2 := pell_gt (s := k) (b := -b) hp hq e (by omega) (by omega) (by omega)
      rw [n1] at l1 l2
      constructor
      · intro h
        have := mul_self_le (by omega) h
        refine Int.not_lt.mp fun z => ?_
        have := l2 (by omega)
        omega
      · intro h
        refine Int.not_lt.mp fun z => ?_
        have := mul_self_le (show 0 ≤ k by omega) (show k ≤ r by omega)
        have := l1 (by omega)
        omega
    · constructor
      · intro h
        omega
      · intro h
        exact absurd (pos_of_mul hq (s := k) (by omega)) kp
/-- the window's own point -/
def own (m : Nat) (x : Win) : Int := (Kzv2.somePoint m x).a
theorem some_own (m : Nat) (x : Win) : Kzv2.somePoint m x = ⟨own m x, 0⟩ := rfl
theorem own_iff {m : Nat} (h1 : 1 ≤ m) (h4 : m ≤ 4) {x : Win} (hb : NearZ x.u) (t : Int) : own m x ≤ t ↔ lin m x.u ≤ lin m ⟨t, 0⟩ := by
  have k := floor_iff h1 h4 (x := Kzv1.neg x.u) (by show Near (-x.u.b); omega) (-t)
  have e : own m x = - Kzv1.floor m (Kzv1.neg x.u) := rfl
  have e2 : lin m ⟨-t, 0⟩ = - lin m ⟨t, 0⟩ := lin_neg m ⟨t, 0⟩
  rw [lin_neg, e2] at k
  omega
theorem lin_one (m : Nat) (t : Int) : lin m ⟨t, 0⟩ = t * (2 * QQ m) := by
  unfold lin
  grind
theorem lp_whole (m : Nat) (t : Int) : lp m ⟨t, 0⟩ = lin m ⟨t, 0⟩ := by
  unfold lp lin Kzv1.partner
  grind
theorem own_point {m : Nat} (h1 : 1 ≤ m) (h4 : m ≤ 4) {x : Win} (hx : NearW x) (hL : LongW m x) : Kzv2.isPoint m x ⟨own m x, 0⟩ = true := by
  rw [isPoint_iff h1 h4 hx (show (-50000000 : Int) ≤ 0 ∧ (0 : Int) ≤ 50000000 by decide), lp_whole]
  have k1 := (own_iff h1 h4 hx.1 (own m x)).mp (Int.le_refl _)
  have k2 := own_iff h1 h4 hx.1 (own m x - 1)
  have e : lin m ⟨own m x - 1, 0⟩ = lin m ⟨own m x, 0⟩ - lin m Kzv1.one := lin_sub m ⟨own m x, 0⟩ Kzv1.one
  rw [e] at k2
  omega
theorem own_near {m : Nat} (h1 : 1 ≤ m) (h4 : m ≤ 4) {x : Win} (ha : -1000000 ≤ x.u.a ∧ x.u.a ≤ 1000000) (hb : -1000000 ≤ x.u.b ∧ x.u.b ≤ 1000000) :
    -(((m : Int) + 2) * 1000000) ≤ own m x ∧ own m x ≤ ((m : Int) + 2) * 1000000 := by
  have k1 := own_iff h1 h4 (x := x) (by omega) (((m : Int) + 2) * 1000000)
  have k2 := own_iff h1 h4 (x := x) (by omega) (-(((m : Int) + 2) * 1000000) - 1)
  rw [lin_one] at k1 k2
  obtain ⟨⟨a, b⟩, v⟩ := x
  dsimp only at ha hb k1 k2
  rcases m_cases h1 h4 with rfl | rfl | rfl | rfl <;> simp only [lin, PP, QQ] at k1 k2 <;> simp at k1 k2 ⊢ <;> omega

/-! ## There and back -/
def fews (m : Nat) : List Z := short m ++ [⟨1, 1⟩]
/-- the step from a number's form on, ahead (s is 1) or back (s is -1) -/
def stepL (m : Nat) (x : Win) (s n : Int) : Z := ((short m).find? (fun g => inL m x (n + s * lp m g))).getD ⟨1, 1⟩
theorem fews_found {m : Nat} (h1 : 1 ≤ m) (h4 : m ≤ 4) {x : Win} {n s : Int} (hs : s = 1 ∨ s = -1) (hL : LongW m x) (hn : inL m x n = true) :
    (fews m).find? (fun g => inL m x (n + s * lp m g)) = some (stepL m x s n) := by
  have hn := inL_iff.mp hn
  unfold fews stepL
  rw [List.find?_append]
  cases e : (short m).find? (fun g => inL m x (n + s * lp m g)) with
  | some g => rfl
  | none =>
    have k := List.find?_eq_none.mp e _ (short_w h1 h4)
    obtain ⟨f1, f2, f3⟩ := last_facts h1 h4
    have k' : ¬ (lin m x.u ≤ n + s * lp m ⟨0, 1⟩ ∧ n + s * lp m ⟨0, 1⟩ < lin m x.v) := fun z => k (inL_iff.mpr z)
    have y : inL m x (n + s * lp m ⟨1, 1⟩) = true := by
      rw [inL_iff]
      obtain ⟨l1, l2⟩ := hL
      rcases hs with rfl | rfl <;> omega
    simp [y]
theorem step_in {m : Nat} (h1 : 1 ≤ m) (h4 : m ≤ 4) {x : Win} {n s : Int} (hs : s = 1 ∨ s = -1) (hL : LongW m x) (hn : inL m x n = true) :
    inL m x (n + s * lp m (stepL m x s n)) = true := List.find?_some (p := fun g => inL m x (n + s * lp m g)) (fews_found h1 h4 hs hL hn)
theorem step_mem {m : Nat} (h1 : 1 ≤ m) (h4 : m ≤ 4) {x : Win} {n s : Int} (hs : s = 1 ∨ s = -1) (hL : LongW m x) (hn : inL m x n = true) :
    stepL m x s n ∈ fews m := List.mem_of_find?_eq_some (fews_found h1 h4 hs hL hn)
theorem fews_small {m : Nat} (h1 : 1 ≤ m) (h4 : m ≤ 4) : ∀ g ∈ fews m, (-17 ≤ g.a ∧ g.a ≤ 17) ∧ -10 ≤ g.b ∧ g.b ≤ 10 := by
  rcases m_cases h1 h4 with rfl | rfl | rfl | rfl <;> decide
theorem fews_up {m : Nat} (h1 : 1 ≤ m) (h4 : m ≤ 4) : ∀ g ∈ fews m, 0 < lin m g := by
  rcases m_cases h1 h4 with rfl | rfl | rfl | rfl <;> decide
/-- a difference of steps: an earlier step lies ahead of it, or it is too long -/
def diffOk (m : Nat) (seen : List Z) (g h : Z) : Bool := seen.any (ahead m (Kzv1.sub g h)) || (decide (lin m ⟨1, m⟩ ≤ lp m (Kzv1.sub g h)) || decide (lp m (Kzv1.sub g h) ≤ - lin m ⟨1, m⟩))
def chk (m : Nat) : List Z → List Z → Bool
  | _, [] => true
  | seen, g :: l => seen.all (diffOk m seen g) && chk m (seen ++ [g]) l
theorem chk_split {m : Nat} {g : Z} {bs : List Z} : ∀ (as seen : List Z), chk m seen (as ++ g :: bs) = true → (seen ++ as).all (diffOk m (seen ++ as) g) = true
  | [], seen, h => by
    rw [List.append_nil]
    exact (Bool.and_eq_true _ _ ▸ h : _ ∧ _).1
  | a :: as, seen, h => by
    have k := chk_split as (seen ++ [a]) ((Bool.and_eq_true _ _ ▸ h : _ ∧ _).2)
    rw [List.append_assoc] at k
    exact k
theorem chk_is {m : Nat} (h1 : 1 ≤ m) (h4 : m ≤ 4) : chk m [] (fews m) = true := by
  rcases m_cases h1 h4 with rfl | rfl | rfl | rfl <;> decide +kernel
theorem step_back {m : Nat} (h1 : 1 ≤ m) (h4 : m ≤ 4) {x : Win} {n s : Int} (hs : s = 1 ∨ s = -1) (hL : LongW m x) (hn : inL m x n = true) :
    stepL m x (-s) (n + s * lp m (stepL m x s n)) = stepL m x s n := by
  have hf := fews_found h1 h4 hs hL hn
  have hi := step_in h1 h4 hs hL hn
  have hf2 := fews_found h1 h4 (s := -s) (by omega) hL hi
  generalize stepL m x s n = g at *
  obtain ⟨_, as, bs, e, ha⟩ := List.find?_eq_some_iff_append.mp hf
  have hc := chk_split (bs := bs) (g := g) as [] (by rw [← e]; exact chk_is h1 h4)
  have k : (fews m).find? (fun h => inL m x (n + s * lp m g + -s * lp m h)) = some g := by
    refine List.find?_eq_some_iff_append.mpr ⟨?_, as, bs, e, fun h hh => ?_⟩
    · rw [show n + s * lp m g + -s * lp m g = n by rw [Int.neg_mul]; omega]
      exact hn
    · rw [Bool.not_eq_true']
      cases q : inL m x (n + s * lp m g + -s * lp m h) with
      | false => rfl
      | true =>
        exfalso
        have d := List.all_eq_true.mp hc h hh
        unfold diffOk at d
        rw [Bool.or_eq_true, Bool.or_eq_true, decide_eq_true_eq, decide_eq_true_eq, lp_sub] at d
        have q := inL_iff.mp q
        have hn := inL_iff.mp hn
        obtain ⟨l1, l2⟩ := hL
        have eh : -s * lp m h = -(s * lp m h) := Int.neg_mul _ _
        rw [eh] at q
        rcases d with d | d
        · obtain ⟨j, hj, aj⟩ := List.any_eq_true.mp d
          have nj := ha j hj
          rw [Bool.not_eq_true'] at nj
          have aj := ahead_iff.mp aj
          rw [lp_sub] at aj
          have : inL m x (n + s * lp m j) = true := by
            rw [inL_iff]
            rcases hs with rfl | rfl <;> omega
          rw [this] at nj
          cases nj
        · rcases hs with rfl | rfl <;> omega
  rw [hf2] at k
  exact Option.some.inj k
/-- numbers on a walk -/
abbrev LowZ (z : Z) : Prop := -30000000 ≤ z.b ∧ z.b ≤ 30000000
theorem nextL_eq {m : Nat} (h1 : 1 ≤ m) (h4 : m ≤ 4) {x : Win} {z : Z} (hx : NearW x) (hz : MidZ z) : nextL m x z = Kzv1.add z (stepL m x 1 (lp m z)) := by
  unfold nextL stepL
  have e2 : (short m).find? (fun g => inL m x (lp m z + 1 * lp m g)) = (short m).find? (fun g => Kzv2.isPoint m x (Kzv1.add z g)) := find_congr fun g hg => by
    have := short_small h1 h4 g hg
    rw [isPoint_inL h1 h4 hx (by show -50000000 ≤ z.b + g.b ∧ z.b + g.b ≤ 50000000; omega), lp_add, Int.one_mul]
  rw [e2]
theorem beforeL_eq {m : Nat} (h1 : 1 ≤ m) (h4 : m ≤ 4) {x : Win} {z : Z} (hx : NearW x) (hz : MidZ z) : beforeL m x z = Kzv1.sub z (stepL m x (-1) (lp m z)) := by
  unfold beforeL stepL
  have e2 : (short m).find? (fun g => inL m x (lp m z + -1 * lp m g)) = (short m).find? (fun g => Kzv2.isPoint m x (Kzv1.sub z g)) := find_congr fun g hg => by
    have := short_small h1 h4 g hg
    rw [isPoint_inL h1 h4 hx (by show -50000000 ≤ z.b - g.b ∧ z.b - g.b ≤ 50000000; omega), lp_sub, Int.neg_one_mul, Int.sub_eq_add_neg]
  rw [e2]
/-- the next point: a point, not far, above -/
theorem next_facts {m : Nat} (h1 : 1 ≤ m) (h4 : m ≤ 4) {x : Win} {z : Z} (hx : NearW x) (hz : MidZ z) (hL : LongW m x) (hp : Kzv2.isPoint m x z = true) :
    Kzv2.isPoint m x (nextL m x z) = true ∧ (-17 ≤ (nextL m x z).a - z.a ∧ (nextL m x z).a - z.a ≤ 17) ∧ (-10 ≤ (nextL m x z).b - z.b ∧ (nextL m x z).b - z.b ≤ 10) ∧ lin m z < lin m (nextL m x z) := by
  rw [isPoint_inL h1 h4 hx (by omega)] at hp
  have k1 := step_in h1 h4 (.inl rfl) hL hp
  have k2 := step_mem h1 h4 (.inl rfl) hL hp
  rw [nextL_eq h1 h4 hx hz]
  generalize stepL m x 1 (lp m z) = g at *
  have k3 := fews_small h1 h4 g k2
  have k4 := fews_up h1 h4 g k2
  rw [isPoint_inL h1 h4 hx (by show -50000000 ≤ z.b + g.b ∧ z.b + g.b ≤ 50000000; omega), lp_add, lin_add]
  refine ⟨?_, ?_, ?_, by omega⟩
  · rw [← k1, Int.one_mul]
  · show -17 ≤ z.a + g.a - z.a ∧ z.a + g.a - z.a ≤ 17
    omega
  · show -10 ≤ z.b + g.b - z.b ∧ z.b + g.b - z.b ≤ 10
    omega
theorem before_facts {m : Nat} (h1 : 1 ≤ m) (h4 : m ≤ 4) {x : Win} {z : Z} (hx : NearW x) (hz : MidZ z) (hL : LongW m x) (hp : Kzv2.isPoint m x z = true) :
    Kzv2.isPoint m x (beforeL m x z) = true ∧ (-17 ≤ (beforeL m x z).a - z.a ∧ (beforeL m x z).a - z.a ≤ 17) ∧ (-10 ≤ (beforeL m x z).b - z.b ∧ (beforeL m x z).b - z.b ≤ 10) ∧ lin m (beforeL m x z) < lin m z := by
  rw [isPoint_inL h1 h4 hx (by omega)] at hp
  have k1 := step_in h1 h4 (.inr rfl) hL hp
  have k2 := step_mem h1 h4 (.inr rfl) hL hp
  rw [beforeL_eq h1 h4 hx hz]
  generalize stepL m x (-1) (lp m z) = g at *
  have k3 := fews_small h1 h4 g k2
  have k4 := fews_up h1 h4 g k2
  rw [isPoint_inL h1 h4 hx (by show -50000000 ≤ z.b - g.b ∧ z.b - g.b ≤ 50000000; omega), lp_sub, lin_sub]
  refine ⟨?_, ?_, ?_, by omega⟩
  · rw [← k1, Int.neg_one_mul, Int.sub_eq_add_neg]
  · show -17 ≤ z.a - g.a - z.a ∧ z.a - g.a - z.a ≤ 17
    omega
  · show -10 ≤ z.b - g.b - z.b ∧ z.b - g.b - z.b ≤ 10
    omega
theorem z_ext {y z : Z} (ha : y.a = z.a) (hb : y.b = z.b) : y = z := by
  cases y
  cases z
  cases ha
  cases hb
  rfl
theorem before_next {m : Nat} (h1 : 1 ≤ m) (h4 : m ≤ 4) {x : Win} {z : Z} (hx : NearW x) (hz : LowZ z) (hL : LongW m x) (hp : Kzv2.isPoint m x z = true) : beforeL m x (nextL m x z) = z := by
  have f := next_facts h1 h4 hx (show MidZ z by omega) hL hp
  rw [beforeL_eq h1 h4 hx (by omega)]
  rw [isPoint_inL h1 h4 hx (by omega)] at hp
  have k := step_back h1 h4 (.inl rfl) hL hp
  rw [nextL_eq h1 h4 hx (show MidZ z by omega), lp_add]
  rw [Int.one_mul] at k
  rw [k]
  refine z_ext ?_ ?_
  · show z.a + (stepL m x 1 (lp m z)).a - (stepL m x 1 (lp m z)).a = z.a
    omega
  · show z.b + (stepL m x 1 (lp m z)).b - (stepL m x 1 (lp m z)).b = z.b
    omega

/-! ## The least point from a number on -/
def faL (m : Nat) (x : Win) (y : Z) : Nat → Z → Option Z
  | 0, _ => none
  | k + 1, z => if lin m z < lin m y then faL m x y k (nextL m x z) else some z
def fbL (m : Nat) (x : Win) (y : Z) : Nat → Z → Option Z
  | 0, _ => none
  | k + 1, z => if lin m (beforeL m x z) < lin m y then some z else fbL m x y k (beforeL m x z)
theorem faL_succ (m : Nat) (x : Win) (y : Z) (k : Nat) (z : Z) : faL m x y (k + 1) z = if lin m z < lin m y then faL m x y k (nextL m x z) else some z := rfl
theorem fbL_succ (m : Nat) (x : Win) (y : Z) (k : Nat) (z : Z) : fbL m x y (k + 1) z = if lin m (beforeL m x z) < lin m y then some z else fbL m x y k (beforeL m x z) := rfl
def firstL (m : Nat) (x : Win) (y : Z) : Option Z := if lin m ⟨own m x, 0⟩ < lin m y then faL m x y 401 ⟨own m x, 0⟩ else fbL m x y 401 ⟨own m x, 0⟩
def held (m : Nat) (x : Win) (y z : Z) : Option Z := if Kzv1.le m y z && Kzv1.lt m (Kzv2.before m x z) y then some z else none
theorem held_is {m : Nat} (h1 : 1 ≤ m) (h4 : m ≤ 4) {x : Win} {y z : Z} (hx : NearW x) (hy : LowZ y) (hz : LowZ z) (hL : LongW m x) (hp : Kzv2.isPoint m x z = true) :
    held m x y z = if lin m y ≤ lin m z ∧ lin m (beforeL m x z) < lin m y then some z else none := by
  have f := before_facts h1 h4 hx (show MidZ z by omega) hL hp
  unfold held
  rw [before_is h1 h4 hx (by omega) hL hp, le_lin h1 h4 (by omega), lt_lin h1 h4 (by omega)]
  by_cases c : lin m y ≤ lin m z ∧ lin m (beforeL m x z) < lin m y
  · rw [if_pos c, if_pos (by rw [decide_eq_true c.1, decide_eq_true c.2]; rfl)]
  · rw [if_neg c, if_neg (by rw [Bool.and_eq_true, decide_eq_true_eq, decide_eq_true_eq]; exact c)]
theorem run_ahead {m : Nat} (h1 : 1 ≤ m) (h4 : m ≤ 4) {x : Win} {y : Z} (hx : NearW x) (hy : LowZ y) (hL : LongW m x) :
    ∀ (k n : Nat) (z : Z), n + k ≤ 1000 → (-(10 * (n : Int)) ≤ z.b ∧ z.b ≤ 10 * n) → Kzv2.isPoint m x z = true → lin m (beforeL m x z) < lin m y →
      held m x y (Kzv2.toPoint m x k y z) = faL m x y (k + 1) z
  | 0, n, z, hn, hz, hp, hb => by
    show held m x y z = _
    rw [held_is h1 h4 hx hy (by omega) hL hp]
    unfold faL
    by_cases c : lin m z < lin m y
    · rw [if_pos c, if_neg (by omega)]
      rfl
    · rw [if_neg c, if_pos (by omega)]
  | k + 1, n, z, hn, hz, hp, hb => by
    have f := next_facts h1 h4 hx (show MidZ z by omega) hL hp
    have fb := before_facts h1 h4 hx (show MidZ z by omega) hL hp
    unfold Kzv2.toPoint faL
    rw [next_is h1 h4 hx (by omega) hL hp, before_is h1 h4 hx (by omega) hL hp, lt_lin h1 h4 (by omega), le_lin h1 h4 (by omega)]
    by_cases c : lin m z < lin m y
    · rw [if_pos (decide_eq_true c), if_pos c]
      refine run_ahead h1 h4 hx hy hL k (n + 1) (nextL m x z) (by omega) (by omega) f.1 ?_
      rw [before_next h1 h4 hx (by omega) hL hp]
      exact c
    · rw [if_neg (by rw [decide_eq_false c]; decide), if_neg c, if_neg (by rw [decide_eq_true_eq]; omega), held_is h1 h4 hx hy (by omega) hL hp, if_pos (by omega)]
theorem run_behind {m : Nat} (h1 : 1 ≤ m) (h4 : m ≤ 4) {x : Win} {y : Z} (hx : NearW x) (hy : LowZ y) (hL : LongW m x) :
    ∀ (k n : Nat) (z : Z), n + k ≤ 1000 → (-(10 * (n : Int)) ≤ z.b ∧ z.b ≤ 10 * n) → Kzv2.isPoint m x z = true → lin m y ≤ lin m z →
      held m x y (Kzv2.toPoint m x k y z) = fbL m x y (k + 1) z
  | 0, n, z, hn, hz, hp, hb => by
    show held m x y z = _
    rw [held_is h1 h4 hx hy (by omega) hL hp]
    unfold fbL
    by_cases c : lin m (beforeL m x z) < lin m y
    · rw [if_pos c, if_pos (by omega)]
    · rw [if_neg c, if_neg (by omega)]
      rfl
  | k + 1, n, z, hn, hz, hp, hb => by
    have f := next_facts h1 h4 hx (show MidZ z by omega) hL hp
    have fb := before_facts h1 h4 hx (show MidZ z by omega) hL hp
    unfold Kzv2.toPoint fbL
    rw [next_is h1 h4 hx (by omega) hL hp, before_is h1 h4 hx (by omega) hL hp, lt_lin h1 h4 (by omega), le_lin h1 h4 (by omega)]
    rw [if_neg (by rw [decide_eq_true_eq]; omega)]
    by_cases c : lin m (beforeL m x z) < lin m y
    · rw [if_neg (by rw [decide_eq_true_eq]; omega), if_pos c, held_is h1 h4 hx hy (by omega) hL hp, if_pos (by omega)]
    · rw [if_pos (by rw [decide_eq_true_eq]; omega), if_neg c]
      exact run_behind h1 h4 hx hy hL k (n + 1) (beforeL m x z) (by omega) (by omega) fb.1 (by omega)
theorem first_is {m : Nat} (h1 : 1 ≤ m) (h4 : m ≤ 4) {x : Win} {y : Z} (hx : NearW x) (hy : LowZ y) (hL : LongW m x) : Kzv2.first m x y = firstL m x y := by
  show held m x y (Kzv2.toPoint m x 400 y (Kzv2.somePoint m x)) = _
  rw [some_own]
  have hp := own_point h1 h4 hx hL
  have z0 : LowZ ⟨own m x, 0⟩ := show (-30000000 : Int) ≤ 0 ∧ (0 : Int) ≤ 30000000 by decide
  unfold firstL
  by_cases c : lin m ⟨own m x, 0⟩ < lin m y
  · rw [if_pos c]
    have f := next_facts h1 h4 hx (show MidZ ⟨own m x, 0⟩ by omega) hL hp
    unfold Kzv2.toPoint faL
    rw [lt_lin h1 h4 (by omega), if_pos (decide_eq_true c), if_pos c, next_is h1 h4 hx (by omega) hL hp]
    refine run_ahead h1 h4 hx hy hL 399 1 _ (by omega) ?_ f.1 ?_
    · have := f.2.2.1
      dsimp only at this
      omega
    · rw [before_next h1 h4 hx z0 hL hp]
      exact c
  · rw [if_neg c]
    exact run_behind h1 h4 hx hy hL 400 0 _ (by omega) (by dsimp only; omega) hp (by omega)
theorem back_of_is {m : Int} (h : 0 ≤ m) (x z : List Int) :
    PyKzv2.back m x z = if right m x z = true then (if Kzv2.isPoint m.toNat (winOf x) (zOf z) = true then [0, (Kzv2.before m.toNat (winOf x) (zOf z)).a, (Kzv2.before m.toNat (winOf x) (zOf z)).b] else [-2]) else [-22] := by
  show (Kzv2.withXZ m.toNat x z fun x z => if Kzv2.isPoint m.toNat x z = false then Kzv1.say (-2) else ⟨0, Kzv2.written [Kzv2.before m.toNat x z]⟩).value :: (Kzv2.withXZ m.toNat x z fun x z => if Kzv2.isPoint m.toNat x z = false then Kzv1.say (-2) else ⟨0, Kzv2.written [Kzv2.before m.toNat x z]⟩).nums = _
  rw [withXZ_is h]
  cases right m x z with
  | false => rfl
  | true =>
    cases e : Kzv2.isPoint m.toNat (winOf x) (zOf z)
    · simp only [if_true]; rfl
    · simp only [if_true]; rfl
theorem first_of_is {m : Int} (h : 0 ≤ m) (x y : List Int) :
    PyKzv2.first m x y = if right m x y = true then (match Kzv2.first m.toNat (winOf x) (zOf y) with | some z => [0, z.a, z.b] | none => [-75]) else [-22] := by
  show (Kzv2.withXZ m.toNat x y fun x y => match Kzv2.first m.toNat x y with | some z => ⟨0, Kzv2.written [z]⟩ | none => Kzv1.say (-75)).value :: (Kzv2.withXZ m.toNat x y fun x y => match Kzv2.first m.toNat x y with | some z => ⟨0, Kzv2.written [z]⟩ | none => Kzv1.say (-75)).nums = _
  rw [withXZ_is h]
  cases right m x y with
  | false => rfl
  | true =>
    simp only [if_true]
    cases Kzv2.first m.toNat (winOf x) (zOf y) <;> rfl
end WP
namespace WP
open Kzv1 (Z)
open Kzv2 (Win)

/-! ## Rows and counts -/
/-- so many points farther -/
def nthL (m : Nat) (x : Win) : Nat → Z → Z
  | 0, z => z
  | k + 1, z => nthL m x k (nextL m x z)
theorem nth_succ (m : Nat) (x : Win) : ∀ (k : Nat) (z : Z), nthL m x (k + 1) z = nextL m x (nthL m x k z)
  | 0, _ => rfl
  | k + 1, z => nth_succ m x k (nextL m x z)
theorem nth_facts {m : Nat} (h1 : 1 ≤ m) (h4 : m ≤ 4) {x : Win} {z : Z} (hx : NearW x) (hz : LowZ z) (hL : LongW m x) (hp : Kzv2.isPoint m x z = true) :
    ∀ (k : Nat), k ≤ 500000 → Kzv2.isPoint m x (nthL m x k z) = true ∧ (-(17 * (k : Int)) ≤ (nthL m x k z).a - z.a ∧ (nthL m x k z).a - z.a ≤ 17 * k) ∧ (-(10 * (k : Int)) ≤ (nthL m x k z).b - z.b ∧ (nthL m x k z).b - z.b ≤ 10 * k)
  | 0, _ => ⟨hp, by show -(17 * (0 : Int)) ≤ z.a - z.a ∧ z.a - z.a ≤ 17 * 0; omega, by show -(10 * (0 : Int)) ≤ z.b - z.b ∧ z.b - z.b ≤ 10 * 0; omega⟩
  | k + 1, hk => by
    have ih := nth_facts h1 h4 hx hz hL hp k (by omega)
    have f := next_facts h1 h4 hx (z := nthL m x k z) (by omega) hL ih.1
    rw [nth_succ]
    refine ⟨f.1, ?_, ?_⟩ <;> omega
def rowL (m : Nat) (x : Win) : Nat → Z → List Z
  | 0, _ => []
  | k + 1, z => z :: rowL m x k (nextL m x z)
theorem row_snoc (m : Nat) (x : Win) : ∀ (k : Nat) (z : Z), rowL m x (k + 1) z = rowL m x k z ++ [nthL m x k z]
  | 0, _ => rfl
  | k + 1, z => by
    show z :: rowL m x (k + 1) (nextL m x z) = z :: rowL m x k (nextL m x z) ++ [nthL m x k (nextL m x z)]
    rw [row_snoc m x k]
    rfl
theorem row_len (m : Nat) (x : Win) : ∀ (k : Nat) (z : Z), (rowL m x k z).length = k
  | 0, _ => rfl
  | k + 1, z => by
    show (rowL m x k (nextL m x z)).length + 1 = k + 1
    rw [row_len m x k]
theorem row_is {m : Nat} (h1 : 1 ≤ m) (h4 : m ≤ 4) {x : Win} (hx : NearW x) (hL : LongW m x) :
    ∀ (k n : Nat) (z : Z), n + k ≤ 1000 → (-(2000000 + 10 * (n : Int)) ≤ z.b ∧ z.b ≤ 2000000 + 10 * n) → Kzv2.isPoint m x z = true → Kzv2.row m x k z = rowL m x k z
  | 0, _, _, _, _, _ => rfl
  | k + 1, n, z, hn, hz, hp => by
    have f := next_facts h1 h4 hx (show MidZ z by omega) hL hp
    unfold Kzv2.row rowL
    rw [next_is h1 h4 hx (by omega) hL hp, row_is h1 h4 hx hL k (n + 1) (nextL m x z) (by omega) (by omega) f.1]
def countL (m : Nat) (x : Win) (y : Z) : Nat → Z → Nat
  | 0, _ => 0
  | k + 1, p => if lin m p < lin m y then countL m x y k (nextL m x p) + 1 else 0
theorem countL_succ (m : Nat) (x : Win) (y : Z) (k : Nat) (p : Z) : countL m x y (k + 1) p = if lin m p < lin m y then countL m x y k (nextL m x p) + 1 else 0 := rfl
theorem count_le (m : Nat) (x : Win) (y : Z) : ∀ (k : Nat) (p : Z), countL m x y k p ≤ k
  | 0, _ => Nat.le_refl 0
  | k + 1, p => by
    have := count_le m x y k (nextL m x p)
    rw [countL_succ]
    split <;> omega
theorem count_is {m : Nat} (h1 : 1 ≤ m) (h4 : m ≤ 4) {x : Win} {y : Z} (hx : NearW x) (hy : LowZ y) (hL : LongW m x) :
    ∀ (k n : Nat) (z : Z), n + k ≤ 1000 → (-(2000000 + 10 * (n : Int)) ≤ z.b ∧ z.b ≤ 2000000 + 10 * n) → Kzv2.isPoint m x z = true → Kzv2.countTo m x k z y = countL m x y k z
  | 0, _, _, _, _, _ => rfl
  | k + 1, n, z, hn, hz, hp => by
    have f := next_facts h1 h4 hx (show MidZ z by omega) hL hp
    unfold Kzv2.countTo countL
    rw [next_is h1 h4 hx (by omega) hL hp, count_is h1 h4 hx hy hL k (n + 1) (nextL m x z) (by omega) (by omega) f.1, lt_lin h1 h4 (by omega)]
    by_cases c : lin m z < lin m y
    · rw [if_pos (decide_eq_true c), if_pos c]
    · rw [if_neg (by rw [decide_eq_true_eq]; exact c), if_neg c]
/-- where the least point lies -/
theorem fa_facts {m : Nat} (h1 : 1 ≤ m) (h4 : m ≤ 4) {x : Win} {y : Z} (hx : NearW x) (hL : LongW m x) :
    ∀ (k n : Nat) (z t o : Z), n + k ≤ 1000 → LowZ o → (-(17 * (n : Int)) ≤ z.a - o.a ∧ z.a - o.a ≤ 17 * n) → (-(10 * (n : Int)) ≤ z.b - o.b ∧ z.b - o.b ≤ 10 * n) → Kzv2.isPoint m x z = true → faL m x y k z = some t →
      Kzv2.isPoint m x t = true ∧ (-17000 ≤ t.a - o.a ∧ t.a - o.a ≤ 17000) ∧ (-10000 ≤ t.b - o.b ∧ t.b - o.b ≤ 10000)
  | 0, _, _, _, _, _, _, _, _, _, e => by cases e
  | k + 1, n, z, t, o, hn, ho, ha, hb, hp, e => by
    have f := next_facts h1 h4 hx (show MidZ z by omega) hL hp
    rw [faL_succ] at e
    by_cases c : lin m z < lin m y
    · rw [if_pos c] at e
      exact fa_facts h1 h4 hx hL k (n + 1) (nextL m x z) t o (by omega) ho (by omega) (by omega) f.1 e
    · rw [if_neg c] at e
      have e := Option.some.inj e
      subst e
      exact ⟨hp, by omega, by omega⟩
theorem fb_facts {m : Nat} (h1 : 1 ≤ m) (h4 : m ≤ 4) {x : Win} {y : Z} (hx : NearW x) (hL : LongW m x) :
    ∀ (k n : Nat) (z t o : Z), n + k ≤ 1000 → LowZ o → (-(17 * (n : Int)) ≤ z.a - o.a ∧ z.a - o.a ≤ 17 * n) → (-(10 * (n : Int)) ≤ z.b - o.b ∧ z.b - o.b ≤ 10 * n) → Kzv2.isPoint m x z = true → fbL m x y k z = some t →
      Kzv2.isPoint m x t = true ∧ (-17000 ≤ t.a - o.a ∧ t.a - o.a ≤ 17000) ∧ (-10000 ≤ t.b - o.b ∧ t.b - o.b ≤ 10000)
  | 0, _, _, _, _, _, _, _, _, _, e => by cases e
  | k + 1, n, z, t, o, hn, ho, ha, hb, hp, e => by
    have f := before_facts h1 h4 hx (show MidZ z by omega) hL hp
    rw [fbL_succ] at e
    by_cases c : lin m (beforeL m x z) < lin m y
    · rw [if_pos c] at e
      have e := Option.some.inj e
      subst e
      exact ⟨hp, by omega, by omega⟩
    · rw [if_neg c] at e
      exact fb_facts h1 h4 hx hL k (n + 1) (beforeL m x z) t o (by omega) ho (by omega) (by omega) f.1 e
theorem first_facts {m : Nat} (h1 : 1 ≤ m) (h4 : m ≤ 4) {x : Win} {y t : Z} (hx : NearW x) (hL : LongW m x) (e : firstL m x y = some t) :
    Kzv2.isPoint m x t = true ∧ (-17000 ≤ t.a - own m x ∧ t.a - own m x ≤ 17000) ∧ (-10000 ≤ t.b ∧ t.b ≤ 10000) := by
  have hp := own_point h1 h4 hx hL
  unfold firstL at e
  have g : Kzv2.isPoint m x t = true ∧ (-17000 ≤ t.a - (⟨own m x, 0⟩ : Z).a ∧ t.a - (⟨own m x, 0⟩ : Z).a ≤ 17000) ∧ (-10000 ≤ t.b - (⟨own m x, 0⟩ : Z).b ∧ t.b - (⟨own m x, 0⟩ : Z).b ≤ 10000) := by
    by_cases c : lin m ⟨own m x, 0⟩ < lin m y
    · rw [if_pos c] at e
      exact fa_facts h1 h4 hx hL 401 0 _ _ _ (by decide) (show (-30000000 : Int) ≤ 0 ∧ (0 : Int) ≤ 30000000 by decide) (by omega) (by omega) hp e
    · rw [if_neg c] at e
      exact fb_facts h1 h4 hx hL 401 0 _ _ _ (by decide) (show (-30000000 : Int) ≤ 0 ∧ (0 : Int) ≤ 30000000 by decide) (by omega) (by omega) hp e
  dsimp only at g
  exact ⟨g.1, g.2.1, by omega⟩
theorem row_of_is {m k : Int} (h : 0 ≤ m) (hk : 0 ≤ k) (x z : List Int) :
    PyKzv2.row m k x z = if right m x z = true then (if 1 ≤ k ∧ k ≤ 60 then (if Kzv2.isPoint m.toNat (winOf x) (zOf z) = true then k :: Kzv2.written (Kzv2.row m.toNat (winOf x) k.toNat (zOf z)) else [-2]) else [-22]) else [-22] := by
  show (Kzv2.withXZ m.toNat x z fun x z => if k.toNat = 0 ∨ 60 < k.toNat then Kzv1.say (-22) else if Kzv2.isPoint m.toNat x z = false then Kzv1.say (-2) else ⟨(k.toNat : Nat), Kzv2.written (Kzv2.row m.toNat x k.toNat z)⟩).value ::
    (Kzv2.withXZ m.toNat x z fun x z => if k.toNat = 0 ∨ 60 < k.toNat then Kzv1.say (-22) else if Kzv2.isPoint m.toNat x z = false then Kzv1.say (-2) else ⟨(k.toNat : Nat), Kzv2.written (Kzv2.row m.toNat x k.toNat z)⟩).nums = _
  rw [withXZ_is h]
  cases right m x z with
  | false => rfl
  | true =>
    rw [if_pos rfl, if_pos rfl]
    by_cases c : 1 ≤ k ∧ k ≤ 60
    · rw [if_pos c, if_neg (by omega)]
      cases e : Kzv2.isPoint m.toNat (winOf x) (zOf z)
      · rfl
      · show (k.toNat : Int) :: _ = k :: _
        rw [Int.toNat_of_nonneg hk]
        rfl
    · rw [if_neg c, if_pos (by omega)]
      rfl
theorem count_of_is {m : Int} (h : 0 ≤ m) (x y z : List Int) :
    PyKzv2.count m x y z = if right m x y = true ∧ told z 2 = true then (match Kzv2.first m.toNat (winOf x) (zOf y) with | none => [-75] | some p => if Kzv2.countTo m.toNat (winOf x) 400 p (zOf z) = 400 then [-75] else [(Kzv2.countTo m.toNat (winOf x) 400 p (zOf z) : Int)]) else [-22] := by
  show (Kzv2.withXZ m.toNat x y fun x y => match Kzv1.readZ z with
    | none => Kzv1.say (-22)
    | some z => match Kzv2.first m.toNat x y with
      | none => Kzv1.say (-75)
      | some p => let k := Kzv2.countTo m.toNat x 400 p z
        if k = 400 then Kzv1.say (-75) else Kzv1.say (k : Nat)).value :: (Kzv2.withXZ m.toNat x y fun x y => match Kzv1.readZ z with
    | none => Kzv1.say (-22)
    | some z => match Kzv2.first m.toNat x y with
      | none => Kzv1.say (-75)
      | some p => let k := Kzv2.countTo m.toNat x 400 p z
        if k = 400 then Kzv1.say (-75) else Kzv1.say (k : Nat)).nums = _
  rw [withXZ_is h, readZ_is]
  cases right m x y with
  | false => rfl
  | true =>
    cases told z 2 with
    | false => rfl
    | true =>
      simp only [if_true, and_self]
      cases Kzv2.first m.toNat (winOf x) (zOf y) with
      | none => rfl
      | some p =>
        dsimp only
        by_cases c : Kzv2.countTo m.toNat (winOf x) 400 p (zOf z) = 400
        · rw [if_pos c, if_pos c]
          rfl
        · rw [if_neg c, if_neg c]
          rfl
end WP
set_option maxRecDepth 100000
set_option maxHeartbeats 2000000
namespace WPy
open PySem PySem.Spec PyProof.Rows L2
open PySem.W (Codec)
open Kzv1 (Z)
open Kzv2 (Win)
def top (i : Nat) : Stmt := PySem.Challenge.pw_windowpoints_s05_row.main.body.getD i (.Pass ⟨0, 0, 0, 0⟩)
abbrev sB0 : Stmt := top 6
abbrev sBel : Stmt := top 7
abbrev sMov : Stmt := top 8
abbrev sPar : Stmt := top 9
abbrev sTold : Stmt := top 10
abbrev sWin : Stmt := top 11
abbrev sRW : Stmt := top 12
abbrev sRight : Stmt := top 13
abbrev sPt : Stmt := top 14
abbrev sSteps : Stmt := top 15
abbrev sAfter : Stmt := top 16
abbrev sPF : Stmt := top 17
abbrev sAns : Stmt := top 18
abbrev sRow : Stmt := top 19
theorem if_t {c : Bool} {A B : Prop} (hc : c = true) (h : A) : if c = true then A else B := by
  rw [if_pos hc]
  exact h
theorem if_f {c : Bool} {A B : Prop} (hc : c = false) (h : B) : if c = true then A else B := by
  rw [hc, if_neg Bool.false_ne_true]
  exact h
section
variable {P : Program} {w : World} {K : PySem.W.Frag} {mg : Str → Option Value} {base : Heap}
def spB0 : Sp := fun vs H Q _ => ∃ (m : Nat) (a b : Int), vs = [.int m, .int a, .int b] ∧ 1 ≤ m ∧ m ≤ 4 ∧ (-1000000000 ≤ a ∧ a ≤ 1000000000) ∧ WP.Near b ∧ Q (.bl (decide (WP.lin m ⟨a, b⟩ < 0))) H
theorem scB0 : FnScope ["m", "a", "b", "whole"] ["m", "a", "b"] (defScope sB0) := ⟨rfl, rfl, rfl, by decide +kernel, rfl, by decide +kernel, by decide +kernel⟩
theorem mul_bound {m : Nat} {b : Int} (h1 : 1 ≤ m) (h4 : m ≤ 4) (hb : WP.Near b) : -400000000 ≤ (m : Int) * b ∧ (m : Int) * b ≤ 400000000 := by
  rcases WP.m_cases h1 h4 with rfl | rfl | rfl | rfl <;> omega
theorem ok_b0 {f : Addr} {fd : FuncData} (F : Fun K "is_below_zero" "is_below_zero" sB0 f fd) : FnOk P w K mg base CX0 1 f fd ["m", "a", "b"] spB0 := by
  refine F.ok scB0 (fun vs H Q E h => ?_) (fun cdv A outer s H vs Q E hr h => ?_)
  · obtain ⟨m, a, b, rfl, _⟩ := h
    rfl
  · obtain ⟨m, a, b, rfl, h1, h4, ha, hb, k⟩ := h
    refine ⟨_, pss_cons (ps_set (i := 3) scB0.nd rfl (Or.inl rfl) (pe_op op_add (pe_op op_mul pe_int (pv 1)) (pe_op op_mul (pv 0) (pv 2))))
      (pss_cons (ps_if (PW.pt (pw_and (pt_cmpR op_ge (pv 3) pe_int (nomark _)) (pw_and1 (pt_cmpR op_ge (pv 2) pe_int (nomark _))))) (pss_one (ps_ret pe_bl)) pss_nil)
      (pss_cons (ps_if (PW.pt (pw_and (pt_cmpR op_le (pv 3) pe_int (nomark _)) (pw_and1 (pt_cmpR op_le (pv 2) pe_int (nomark _))))) (pss_one (ps_ret pe_bl)) pss_nil)
      (pss_cons (ps_if (pt_cmpR op_gt (pv 2) pe_int (nomark _)) (pss_one (ps_ret (pe_cmpR op_gt (pe_op op_mul (pv 3) (pv 3)) (pe_op op_mul (pe_op op_mul (pe_op op_add (pe_op op_mul (pv 0) (pv 0)) pe_int) (pv 2)) (pv 2)) (nomark _)))) pss_nil)
      (pss_one (ps_ret (pe_cmpR op_lt (pe_op op_mul (pv 3) (pv 3)) (pe_op op_mul (pe_op op_mul (pe_op op_add (pe_op op_mul (pv 0) (pv 0)) pe_int) (pv 2)) (pv 2)) (nomark _))))))), ?_⟩
    have hm := mul_bound h1 h4 hb
    have e := WP.below0_lin h1 h4 (a := a) hb
    refine ⟨_, rfl, _, _, rfl, rfl, .inl ⟨by decide, by decide⟩, _, rfl, _, rfl, _, _, rfl, rfl, .inl ⟨by omega, by omega⟩, _, _, rfl, rfl, ?_⟩
    -- the last two tests, from b's sign on
    have rest : ¬ (0 ≤ 2 * a + (m : Int) * b ∧ 0 ≤ b) → ¬ (2 * a + (m : Int) * b ≤ 0 ∧ b ≤ 0) →
        (if decide ((0 : Int) < b) = true then Q (.bl (decide (((m : Int) * m + 4) * b * b < (2 * a + (m : Int) * b) * (2 * a + (m : Int) * b)))) H
          else Q (.bl (decide ((2 * a + (m : Int) * b) * (2 * a + (m : Int) * b) < ((m : Int) * m + 4) * b * b))) H) := by
      intro n1 n2
      rw [← e] at k
      unfold WP.below0 at k
      rw [if_neg n1, if_neg n2] at k
      by_cases c : 0 < b
      · rw [if_pos c] at k
        exact if_t (decide_eq_true c) k
      · rw [if_neg c] at k
        exact if_f (decide_eq_false c) k
    have hw : -2400000000 ≤ 2 * a + (m : Int) * b ∧ 2 * a + (m : Int) * b ≤ 2400000000 := by omega
    have mm : 0 ≤ (m : Int) * m ∧ (m : Int) * m ≤ 16 := by
      rcases WP.m_cases h1 h4 with rfl | rfl | rfl | rfl <;> decide
    have mb : -2000000000 ≤ ((m : Int) * m + 4) * b ∧ ((m : Int) * m + 4) * b ≤ 2000000000 := by
      rcases WP.m_cases h1 h4 with rfl | rfl | rfl | rfl <;> omega
    have kA : 0 ≤ 2 * a + (m : Int) * b ∧ 0 ≤ b → Q (.bl false) H := fun c => by
      rw [← e] at k
      unfold WP.below0 at k
      rw [if_pos c] at k
      exact k
    have kB : ¬ (0 ≤ 2 * a + (m : Int) * b ∧ 0 ≤ b) → 2 * a + (m : Int) * b ≤ 0 ∧ b ≤ 0 → Q (.bl true) H := fun n c => by
      rw [← e] at k
      unfold WP.below0 at k
      rw [if_neg n, if_pos c] at k
      exact k
    refine ⟨_, rfl, _, _, rfl, rfl, _, rfl, ?_⟩
    by_cases d1 : 0 ≤ 2 * a + (m : Int) * b
    · refine if_t (decide_eq_true (show 0 ≤ 2 * a + (m : Int) * b by omega)) ?_
      refine ⟨_, rfl, _, _, rfl, rfl, _, rfl, ?_⟩
      by_cases d2 : 0 ≤ b
      · refine if_t (decide_eq_true (show 0 ≤ b by omega)) ?_
        exact kA ⟨d1, d2⟩
      · refine if_f (decide_eq_false (show ¬ 0 ≤ b by omega)) ?_
        refine ⟨_, rfl, _, _, rfl, rfl, _, rfl, ?_⟩
        by_cases d3 : 2 * a + (m : Int) * b ≤ 0
        · refine if_t (decide_eq_true (show 2 * a + (m : Int) * b ≤ 0 by omega)) ?_
          refine ⟨_, rfl, _, _, rfl, rfl, _, rfl, ?_⟩
          refine if_t (decide_eq_true (show b ≤ 0 by omega)) ?_
          exact kB (by omega) ⟨d3, by omega⟩
        · refine if_f (decide_eq_false (show ¬ 2 * a + (m : Int) * b ≤ 0 by omega)) ?_
          refine iteF ?_
          refine ⟨_, rfl, _, _, rfl, rfl, _, rfl, ?_⟩
          have q := rest (by omega) (by omega)
          by_cases c : 0 < b
          · rw [if_pos (decide_eq_true c)] at q
            refine if_t (decide_eq_true c) ?_
            exact ⟨_, rfl, _, rfl, _, _, rfl, rfl, .inl ⟨by omega, by omega⟩, _, rfl, _, rfl, _, _, rfl, rfl, .inl ⟨by omega, by omega⟩, _, _, rfl, rfl, _, rfl, _, _, rfl, rfl, .inl ⟨by omega, by omega⟩, _, rfl, _, _, rfl, rfl, .inl ⟨by omega, by omega⟩, _, _, rfl, rfl, q⟩
          · rw [if_neg (by rw [decide_eq_false c]; decide)] at q
            refine if_f (decide_eq_false c) ?_
            exact ⟨_, rfl, _, rfl, _, _, rfl, rfl, .inl ⟨by omega, by omega⟩, _, rfl, _, rfl, _, _, rfl, rfl, .inl ⟨by omega, by omega⟩, _, _, rfl, rfl, _, rfl, _, _, rfl, rfl, .inl ⟨by omega, by omega⟩, _, rfl, _, _, rfl, rfl, .inl ⟨by omega, by omega⟩, _, _, rfl, rfl, q⟩
    · refine if_f (decide_eq_false (show ¬ 0 ≤ 2 * a + (m : Int) * b by omega)) ?_
      refine iteF ?_
      refine ⟨_, rfl, _, _, rfl, rfl, _, rfl, ?_⟩
      refine if_t (decide_eq_true (show 2 * a + (m : Int) * b ≤ 0 by omega)) ?_
      refine ⟨_, rfl, _, _, rfl, rfl, _, rfl, ?_⟩
      by_cases d4 : b ≤ 0
      · refine if_t (decide_eq_true (show b ≤ 0 by omega)) ?_
        exact kB (by omega) ⟨by omega, d4⟩
      · refine if_f (decide_eq_false (show ¬ b ≤ 0 by omega)) ?_
        refine ⟨_, rfl, _, _, rfl, rfl, _, rfl, ?_⟩
        have q := rest (by omega) (by omega)
        by_cases c : 0 < b
        · rw [if_pos (decide_eq_true c)] at q
          refine if_t (decide_eq_true c) ?_
          exact ⟨_, rfl, _, rfl, _, _, rfl, rfl, .inl ⟨by omega, by omega⟩, _, rfl, _, rfl, _, _, rfl, rfl, .inl ⟨by omega, by omega⟩, _, _, rfl, rfl, _, rfl, _, _, rfl, rfl, .inl ⟨by omega, by omega⟩, _, rfl, _, _, rfl, rfl, .inl ⟨by omega, by omega⟩, _, _, rfl, rfl, q⟩
        · rw [if_neg (by rw [decide_eq_false c]; decide)] at q
          refine if_f (decide_eq_false c) ?_
          exact ⟨_, rfl, _, rfl, _, _, rfl, rfl, .inl ⟨by omega, by omega⟩, _, rfl, _, rfl, _, _, rfl, rfl, .inl ⟨by omega, by omega⟩, _, _, rfl, rfl, _, rfl, _, _, rfl, rfl, .inl ⟨by omega, by omega⟩, _, rfl, _, _, rfl, rfl, .inl ⟨by omega, by omega⟩, _, _, rfl, rfl, q⟩
/-- a def as a caller finds it -/
structure Cal (P : Program) (w : World) (K : PySem.W.Frag) (mg : Str → Option Value) (base : Heap) (x : Str) (k : Nat) (ps : List Str) (sp : Sp) (f : Addr) (fd : FuncData) : Prop where
  ok : FnOk P w K mg base CX0 k f fd ps sp
  mg : mg x = some (.ref f)
  kp : PySem.W.keepIn K (.ref f) = true
  b : Binds K fd ps []
def PairT (K : PySem.W.Frag) (H : Hp) (a : Addr) (z : Z) : Prop := SqT K H a [.int z.a, .int z.b]
def PairA (K : PySem.W.Frag) (H : Hp) (a : Addr) (z : Z) : Prop := SqL K H a [.int z.a, .int z.b] ∨ SqT K H a [.int z.a, .int z.b]
theorem at0 {v : V} {r : List V} : atI (v :: r) (0 : Int) = some v := at_of (j := 0) rfl rfl
theorem at1 {u v : V} {r : List V} : atI (u :: v :: r) (1 : Int) = some v := at_of (j := 1) rfl rfl
theorem at2 {t u v : V} {r : List V} : atI (t :: u :: v :: r) (2 : Int) = some v := at_of (j := 2) rfl rfl
theorem at3 {s t u v : V} {r : List V} : atI (s :: t :: u :: v :: r) (3 : Int) = some v := at_of (j := 3) rfl rfl
/-- a pair's first and second number, list or tuple -/
theorem pair0 {H : Hp} {p : Addr} {z : Z} {Q : VK} (h : PairA K H p z) (k : Q (.int z.a) H) : rIx K (.ref p) (.int 0) H Q := by
  rcases h with h | h
  · exact .inl ⟨p, _, _, _, rfl, rfl, h, at0, k⟩
  · exact .inr (.inl ⟨p, _, _, _, rfl, rfl, h, at0, k⟩)
theorem pair1 {H : Hp} {p : Addr} {z : Z} {Q : VK} (h : PairA K H p z) (k : Q (.int z.b) H) : rIx K (.ref p) (.int 1) H Q := by
  rcases h with h | h
  · exact .inl ⟨p, _, _, _, rfl, rfl, h, at1, k⟩
  · exact .inr (.inl ⟨p, _, _, _, rfl, rfl, h, at1, k⟩)
/-- a number in the range that is_below is asked in -/
abbrev InZ (z : Z) : Prop := (-400000000 ≤ z.a ∧ z.a ≤ 400000000) ∧ (-50000000 ≤ z.b ∧ z.b ≤ 50000000)
def spBel (K : PySem.W.Frag) : Sp := fun vs H Q _ => ∃ (m : Nat) (p q : Addr) (l r : Z), vs = [.int m, .ref p, .ref q] ∧ 1 ≤ m ∧ m ≤ 4 ∧ PairA K H p l ∧ PairA K H q r ∧ InZ l ∧ InZ r ∧ Q (.bl (decide (WP.lin m l < WP.lin m r))) H
theorem scBel : FnScope ["m", "left", "right"] ["m", "left", "right"] (defScope sBel) := ⟨rfl, rfl, rfl, by decide +kernel, rfl, by decide +kernel, by decide +kernel⟩
theorem ok_bel {f f0 : Addr} {fd fd0 : FuncData} (F : Fun K "is_below" "is_below" sBel f fd) (C0 : Cal P w K mg base "is_below_zero" 1 ["m", "a", "b"] spB0 f0 fd0) : FnOk P w K mg base CX0 2 f fd ["m", "left", "right"] (spBel K) := by
  refine F.ok scBel (fun vs H Q E h => ?_) (fun cdv A outer s H vs Q E hr h => ?_)
  · obtain ⟨m, p, q, l, r, rfl, _⟩ := h
    rfl
  · obtain ⟨m, p, q, l, r, rfl, h1, h4, hp, hq, hl, hr', k⟩ := h
    refine ⟨_, pss_one (ps_ret (pe_call C0.ok hr (by rfl) C0.mg C0.kp C0.b .nil pass0 (pa_cons (pv 0) (pa_cons (pe_op op_sub (pe_ix ix_seq (pv 1) pe_int (fun _ _ => rfl)) (pe_ix ix_seq (pv 2) pe_int (fun _ _ => rfl)))
      (pa_cons (pe_op op_sub (pe_ix ix_seq (pv 1) pe_int (fun _ _ => rfl)) (pe_ix ix_seq (pv 2) pe_int (fun _ _ => rfl))) pa_nil))))), ?_⟩
    refine ⟨_, rfl, _, rfl, pair0 hp ⟨_, rfl, pair0 hq ⟨_, _, rfl, rfl, _, rfl, pair1 hp ⟨_, rfl, pair1 hq ⟨_, _, rfl, rfl, m, l.a - r.a, l.b - r.b, rfl, h1, h4, by omega, by omega, ?_⟩⟩⟩⟩⟩
    have e : WP.lin m ⟨l.a - r.a, l.b - r.b⟩ = WP.lin m l - WP.lin m r := WP.lin_sub m l r
    have e2 : decide (WP.lin m ⟨l.a - r.a, l.b - r.b⟩ < 0) = decide (WP.lin m l < WP.lin m r) := by
      rw [e]
      exact decide_eq_decide.mpr (by omega)
    rw [e2]
    exact k
def spPar (K : PySem.W.Frag) : Sp := fun vs H Q _ => ∃ (m : Nat) (p : Addr) (z : Z), vs = [.int m, .ref p] ∧ 1 ≤ m ∧ m ≤ 4 ∧ PairA K H p z ∧ WP.NearZ z ∧ ∀ q, H q = none → Q (.ref q) (upd H q (.tup [.int (Kzv1.partner m z).a, .int (Kzv1.partner m z).b]))
theorem scPar : FnScope ["m", "number"] ["m", "number"] (defScope sPar) := ⟨rfl, rfl, rfl, by decide +kernel, rfl, by decide +kernel, by decide +kernel⟩
theorem ok_par {f : Addr} {fd : FuncData} (F : Fun K "partner_of" "partner_of" sPar f fd) : FnOk P w K mg base CX0 1 f fd ["m", "number"] (spPar K) := by
  refine F.ok scPar (fun vs H Q E h => ?_) (fun cdv A outer s H vs Q E hr h => ?_)
  · obtain ⟨m, p, z, rfl, _⟩ := h
    rfl
  · obtain ⟨m, p, z, rfl, h1, h4, hp, hz, k⟩ := h
    refine ⟨_, pss_one (ps_ret (pe_tup (pa_cons (pe_op op_add (pe_ix ix_seq (pv 1) pe_int (fun _ _ => rfl)) (pe_op op_mul (pv 0) (pe_ix ix_seq (pv 1) pe_int (fun _ _ => rfl))))
      (pa_cons (pe_un un_neg (pe_ix ix_seq (pv 1) pe_int (fun _ _ => rfl))) pa_nil)))), ?_⟩
    refine ⟨_, rfl, pair0 hp ⟨_, rfl, _, rfl, pair1 hp ⟨_, _, rfl, rfl, .inl ⟨by omega, by omega⟩, _, _, rfl, rfl, _, rfl, pair1 hp ⟨_, rfl, (by show 2 ≤ sizeLine; decide), fun q hq => ?_⟩⟩⟩⟩
    exact k q hq
theorem take_more {α : Type} : ∀ {l : List α} {i : Nat} {x : α}, l[i]? = some x → l.take (i + 1) = l.take i ++ [x]
  | [], i, x, h => by simp at h
  | a :: l, 0, x, h => by
    have e : a = x := Option.some.inj h
    subst e
    rfl
  | a :: l, i + 1, x, h => by
    have ih := take_more (l := l) (i := i) (x := x) h
    show a :: l.take (i + 1) = a :: l.take i ++ [x]
    rw [ih]
    rfl
theorem same_new {H : Hp} {p : Addr} {o : HO} (h : H p = none) : Same H (upd H p o) := fun b o' e => by
  rw [upd_ne (ne_of_none e h)]
  exact e
theorem item_int {ns : List Int} {i : Nat} {x : V} (hi : (ns.map V.int)[i]? = some x) : ∃ z, ns[i]? = some z ∧ x = V.int z := by
  rw [List.getElem?_map] at hi
  cases e : ns[i]? with
  | none =>
    rw [e] at hi
    cases hi
  | some z =>
    rw [e] at hi
    exact ⟨z, rfl, (Option.some.inj hi).symm⟩
theorem yes_if {σ : L2.St} {H : Hp} {A B : Hp → Prop} (h : A H) : tYes σ H fun b H3 => if b = true then A H3 else B H3 := by
  show if true = true then A H else B H
  rw [if_pos rfl]
  exact h
def spTold (K : PySem.W.Frag) : Sp := fun vs H Q _ => ∃ (p : Addr) (ns : List Int) (k : Nat), vs = [.ref p, .int k] ∧ SqL K H p (ns.map V.int) ∧ ns.length ≤ 100 ∧ ∀ H', Same H H' → Q (.bl (WP.told ns k)) H'
theorem scTold : FnScope ["told", "how_many", "part"] ["told", "how_many"] (defScope sTold) := ⟨rfl, rfl, rfl, by decide +kernel, rfl, by decide +kernel, by decide +kernel⟩
theorem ok_told {f : Addr} {fd : FuncData} {tF : Tok} (F : Fun K "is_as_told" "is_as_told" sTold f fd) (mF : mg "FARTHEST" = some (.int 1000000 tF)) (mlen : mg "len" = none) (mall : mg "all" = none) :
    FnOk P w K mg base CX0 1 f fd ["told", "how_many"] (spTold K) := by
  refine F.ok scTold (fun vs H Q E h => ?_) (fun cdv A outer s H vs Q E hr h => ?_)
  · obtain ⟨p, ns, k, rfl, _⟩ := h
    rfl
  · obtain ⟨p, ns, k, rfl, hp, hn, kk⟩ := h
    refine ⟨_, pss_one (ps_ret (pe_and (pe_cmpR op_eq (pe_callB call_len_seq (by rfl) mlen PySem.boot_len (pa_cons (pv 0) pa_nil)) (pv 1) (nomark _))
      (pe_one (pe_callB (cr_all rfl) (by rfl) mall (by decide +kernel) (pa_cons
        (pe_lc (own := [("part", 2)]) (g := gName 2) (tt := tYes) rfl scTold.nd (pi_list (pv 0)) (blkOk_by (own := [("part", 2)]) (N := ["told", "how_many", "part"]) (sc := defScope sTold) (by decide +kernel))
          (fun _ _ _ _ _ => pg_name (i := 2) scTold.nd rfl (Or.inl rfl)) (fun _ _ _ _ _ => pts_nil)
          (fun _ _ _ _ _ => pe_chain op_le op_le (pe_un un_neg (pe_glob (v := .int 1000000) (by rfl) mF ⟨_, rfl⟩)) (pv 2) (pe_glob (v := .int 1000000) (by rfl) mF ⟨_, rfl⟩))) pa_nil))))), ?_⟩
    refine ⟨_, rfl, p, _, rfl, .inl hp, _, rfl, rfl, _, rfl, ?_⟩
    by_cases c : ns.length = k
    · refine if_t (decide_eq_true (by rw [List.length_map, c])) ?_
      refine ⟨_, rfl, p, rfl, ⟨_, hp⟩, fun D hD => ?_⟩
      refine lc_list (K := K) (a := p) (xs := ns.map V.int) (fun i H' => Same H H' ∧ H' D = some (.lst (((ns.take i).map WP.inB).map V.bl))) ⟨same_new hD, upd_same⟩ (fun i H' _ q => q.1.seq hp) ?_ ?_
      · rintro i x H' hi ⟨s1, hd⟩
        obtain ⟨z, hz, rfl⟩ := item_int hi
        refine ⟨rfl, ?_⟩
        refine yes_if ?_
        have fin : ∀ b : Bool, b = WP.inB z → ∃ acc, H' D = some (.lst acc) ∧ acc.length < sizeLine ∧ Same H (upd H' D (.lst (acc ++ [.bl b]))) ∧ upd H' D (.lst (acc ++ [.bl b])) D = some (.lst (((ns.take (i + 1)).map WP.inB).map V.bl)) := by
          rintro b rfl
          refine ⟨_, hd, ?_, fun b o e => ?_, ?_⟩
          · rw [List.length_map, List.length_map, List.length_take]
            exact small1000 (by omega)
          · have ne : b ≠ D := fun q => by
              rw [q, hD] at e
              cases e
            rw [upd_ne ne]
            exact s1 b o e
          · rw [upd_same, take_more hz, List.map_append, List.map_append]
            rfl
        refine ⟨_, rfl, _, rfl, _, _, rfl, rfl, _, rfl, ?_⟩
        by_cases c1 : -1000000 ≤ z
        · refine if_t (decide_eq_true c1) ?_
          refine ⟨_, _, rfl, rfl, ?_⟩
          exact fin _ (by unfold WP.inB; rw [decide_eq_true c1]; rfl)
        · refine if_f (decide_eq_false c1) ?_
          exact fin _ (by unfold WP.inB; rw [decide_eq_false c1]; rfl)
      · rintro H' ⟨s1, hd⟩
        rw [List.length_map, List.take_length] at hd
        refine ⟨D, ns.map WP.inB, rfl, .inl (.inl hd), ?_⟩
        have e : WP.told ns k = (ns.map WP.inB).all id := by
          unfold WP.told
          rw [decide_eq_true c, List.all_map]
          rfl
        rw [← e]
        exact kk _ s1
    · refine if_f (decide_eq_false (by intro q; rw [List.length_map] at q; exact c (by injection q with q; exact Int.ofNat.inj q))) ?_
      have e : WP.told ns k = false := by
        unfold WP.told
        rw [decide_eq_false c]
        rfl
      have q := kk H (Same.refl H)
      rw [e] at q
      exact q
/-- what stands in four ints' list -/
theorem told4 {ns : List Int} (h : WP.told ns 4 = true) : ∃ a b c d : Int, ns = [a, b, c, d] ∧ (-1000000 ≤ a ∧ a ≤ 1000000) ∧ (-1000000 ≤ b ∧ b ≤ 1000000) ∧ (-1000000 ≤ c ∧ c ≤ 1000000) ∧ (-1000000 ≤ d ∧ d ≤ 1000000) := by
  unfold WP.told at h
  simp only [Bool.and_eq_true, decide_eq_true_eq] at h
  match ns, h with
  | [a, b, c, d], h =>
    have k := h.2
    simp only [List.all_cons, List.all_nil, Bool.and_eq_true, WP.inB_iff, and_true] at k
    exact ⟨a, b, c, d, rfl, k.1, k.2.1, k.2.2.1, k.2.2.2⟩
theorem new_tup {K : PySem.W.Frag} {H : Hp} {p : Addr} {xs : List V} : SqT K (upd H p (.tup xs)) p xs := SqT.of upd_same
theorem sTup {K : PySem.W.Frag} {H H' : Hp} {a : Addr} {xs : List V} (e : Same H H') (h : SqT K H a xs) : SqT K H' a xs := by
  rcases h with (h | ⟨o, h⟩) | h
  · exact .inl (.inl (e _ _ h))
  · exact .inl (.inr ⟨o, e _ _ h⟩)
  · exact .inr h
def spWin (K : PySem.W.Frag) : Sp := fun vs H Q _ => ∃ (m : Nat) (p : Addr) (ns : List Int), vs = [.int m, .ref p] ∧ 1 ≤ m ∧ m ≤ 4 ∧ SqL K H p (ns.map V.int) ∧ ns.length ≤ 100 ∧ ∀ H', Same H H' → Q (.bl (WP.isWin m ns)) H'
theorem scWin : FnScope ["m", "x", "length", "square_of_w"] ["m", "x"] (defScope sWin) := ⟨rfl, rfl, rfl, by decide +kernel, rfl, by decide +kernel, by decide +kernel⟩
theorem ok_win {f fT fB : Addr} {fd fdT fdB : FuncData} (F : Fun K "is_window" "is_window" sWin f fd) (CT : Cal P w K mg base "is_as_told" 1 ["told", "how_many"] (spTold K) fT fdT)
    (CB : Cal P w K mg base "is_below" 2 ["m", "left", "right"] (spBel K) fB fdB) : FnOk P w K mg base CX0 3 f fd ["m", "x"] (spWin K) := by
  refine F.ok scWin (fun vs H Q E h => ?_) (fun cdv A outer s H vs Q E hr h => ?_)
  · obtain ⟨m, p, ns, rfl, _⟩ := h
    rfl
  · obtain ⟨m, p, ns, rfl, h1, h4, hp, hn, kk⟩ := h
    have hr1 : Room 1 _ := hr.mono (by decide)
    refine ⟨_, pss_cons (ps_if (pt_not (pt_val (pe_call CT.ok hr1 (by rfl) CT.mg CT.kp CT.b .nil pass0 (pa_cons (pv 1) (pa_cons pe_int pa_nil))))) (pss_one (ps_ret pe_bl)) pss_nil)
      (pss_cons (ps_set (i := 2) scWin.nd rfl (Or.inl rfl) (pe_tup (pa_cons (pe_op op_sub (pe_ix ix_list (pv 1) pe_int (fun _ _ => rfl)) (pe_ix ix_list (pv 1) pe_int (fun _ _ => rfl)))
        (pa_cons (pe_op op_sub (pe_ix ix_list (pv 1) pe_int (fun _ _ => rfl)) (pe_ix ix_list (pv 1) pe_int (fun _ _ => rfl))) pa_nil))))
      (pss_cons (ps_set (i := 3) scWin.nd rfl (Or.inl rfl) (pe_tup (pa_cons pe_int (pa_cons (pv 0) pa_nil))))
      (pss_one (ps_ret (pe_and (pe_not (pe_call CB.ok hr (by rfl) CB.mg CB.kp CB.b .nil pass0 (pa_cons (pv 0) (pa_cons (pv 2) (pa_cons (pe_tup (pa_cons pe_int (pa_cons pe_int pa_nil))) pa_nil)))))
        (pe_one (pe_call CB.ok hr (by rfl) CB.mg CB.kp CB.b .nil pass0 (pa_cons (pv 0) (pa_cons (pv 2) (pa_cons (pv 3) pa_nil)))))))))), ?_⟩
    refine ⟨_, rfl, p, ns, 4, rfl, hp, hn, fun H1 s1 => ⟨_, rfl, ?_⟩⟩
    cases c : WP.told ns 4 with
    | false =>
      refine iteT ?_
      have q := kk H1 s1
      unfold WP.isWin at q
      rw [c] at q
      exact q
    | true =>
      refine iteF ?_
      obtain ⟨a, b, c', d, rfl, ba, bb, bc, bd⟩ := told4 c
      have hp1 := s1.seq hp
      refine ⟨_, rfl, p, _, _, _, rfl, rfl, hp1, at2, _, rfl, p, _, _, _, rfl, rfl, hp1, at0, _, _, rfl, rfl, _, rfl, p, _, _, _, rfl, rfl, hp1, at3, _, rfl, p, _, _, _, rfl, rfl, hp1, at1, _, _, rfl, rfl, (by show 2 ≤ sizeLine; decide), fun p1 n1 => ?_⟩
      refine ⟨_, rfl, (by show 2 ≤ sizeLine; decide), fun p2 n2 => ?_⟩
      refine ⟨_, rfl, _, rfl, (by show 2 ≤ sizeLine; decide), fun p3 n3 => ?_⟩
      have e1 := same_new (o := .tup [.int (c' - a), .int (d - b)]) n1
      have e2 := same_new (o := .tup [.int 1, .int m]) n2
      have e3 := same_new (o := .tup [.int 1, .int 0]) n3
      have t1 : SqT K _ p1 [.int (c' - a), .int (d - b)] := sTup (e2.trans e3) new_tup
      have t2 : SqT K _ p2 [.int 1, .int m] := sTup e3 new_tup
      have q := kk _ (s1.trans (e1.trans (e2.trans e3)))
      unfold WP.isWin at q
      rw [c, Bool.true_and, WP.okWin_lin h1 h4 (by show -40000000 ≤ d - b ∧ d - b ≤ 40000000; omega)] at q
      refine ⟨m, p1, p3, ⟨c' - a, d - b⟩, ⟨1, 0⟩, rfl, h1, h4, .inr t1, .inr (SqT.of upd_same), ⟨by dsimp only; omega, by dsimp only; omega⟩, by decide, _, rfl, _, rfl, ?_⟩
      have el : Kzv2.long (WP.winOf [a, b, c', d]) = ⟨c' - a, d - b⟩ := rfl
      have eo : Kzv1.one = ⟨1, 0⟩ := rfl
      rw [el, eo] at q
      by_cases cc : WP.lin m ⟨c' - a, d - b⟩ < WP.lin m ⟨1, 0⟩
      · rw [decide_eq_false (show ¬ WP.lin m ⟨1, 0⟩ ≤ WP.lin m ⟨c' - a, d - b⟩ by omega)] at q
        refine if_f (by rw [decide_eq_true cc]; rfl) ?_
        exact q
      · rw [decide_eq_true (show WP.lin m ⟨1, 0⟩ ≤ WP.lin m ⟨c' - a, d - b⟩ by omega), Bool.true_and] at q
        refine if_t (by rw [decide_eq_false cc]; rfl) ?_
        exact ⟨_, rfl, _, rfl, _, rfl, m, p1, p2, ⟨c' - a, d - b⟩, ⟨1, m⟩, rfl, h1, h4, .inr t1, .inr t2, ⟨by dsimp only; omega, by dsimp only; omega⟩, ⟨by dsimp only; omega, by dsimp only; omega⟩, q⟩
/-- is_right_window's -/
def spRW (K : PySem.W.Frag) : Sp := fun vs H Q _ => ∃ (m : Int) (p : Addr) (xs : List Int), vs = [.int m, .ref p] ∧ SqL K H p (xs.map V.int) ∧ xs.length ≤ 100 ∧ ∀ H', Same H H' → Q (.bl (decide (1 ≤ m) && decide (m ≤ 4) && WP.isWin m.toNat xs)) H'
theorem scRW : FnScope ["m", "x"] ["m", "x"] (defScope sRW) := ⟨rfl, rfl, rfl, by decide +kernel, rfl, by decide +kernel, by decide +kernel⟩
theorem ok_rw {f fW : Addr} {fd fdW : FuncData} (F : Fun K "is_right_window" "is_right_window" sRW f fd)
    (CW : Cal P w K mg base "is_window" 3 ["m", "x"] (spWin K) fW fdW) : FnOk P w K mg base CX0 4 f fd ["m", "x"] (spRW K) := by
  refine F.ok scRW (fun vs H Q E h => ?_) (fun cdv A outer s H vs Q E hr h => ?_)
  · obtain ⟨m, p, xs, rfl, _⟩ := h
    rfl
  · obtain ⟨m, p, xs, rfl, hp, hx, kk⟩ := h
    refine ⟨_, pss_one (ps_ret (pe_and (pe_chain op_le op_le pe_int (pv 0) pe_int) (pe_one (pe_call CW.ok hr (by rfl) CW.mg CW.kp CW.b .nil pass0 (pa_cons (pv 0) (pa_cons (pv 1) pa_nil)))))), ?_⟩
    refine ⟨_, rfl, _, _, rfl, rfl, _, rfl, ?_⟩
    by_cases c1 : 1 ≤ m
    · rw [decide_eq_true c1] at kk
      refine if_t (decide_eq_true c1) ?_
      refine ⟨_, _, rfl, rfl, _, rfl, ?_⟩
      by_cases c4 : m ≤ 4
      · rw [decide_eq_true c4] at kk
        refine if_t (decide_eq_true c4) ?_
        obtain ⟨n, rfl⟩ : ∃ n : Nat, m = (n : Int) := ⟨m.toNat, by omega⟩
        exact ⟨_, rfl, _, rfl, n, p, xs, rfl, by omega, by omega, hp, hx, fun H1 s1 => kk H1 s1⟩
      · rw [decide_eq_false c4] at kk
        refine if_f (decide_eq_false c4) ?_
        exact kk H (Same.refl H)
    · rw [decide_eq_false c1] at kk
      refine if_f (decide_eq_false c1) ?_
      exact ⟨_, rfl, iteF (kk H (Same.refl H))⟩
/-- a window's four numbers -/
def wList (x : Win) : List V := [.int x.u.a, .int x.u.b, .int x.v.a, .int x.v.b]
/-- a number in the range that is_point is asked in -/
abbrev InP (z : Z) : Prop := (-100000000 ≤ z.a ∧ z.a ≤ 100000000) ∧ (-40000000 ≤ z.b ∧ z.b ≤ 40000000)
def spRight (K : PySem.W.Frag) : Sp := fun vs H Q _ => ∃ (m : Int) (p q : Addr) (xs zs : List Int), vs = [.int m, .ref p, .ref q] ∧ SqL K H p (xs.map V.int) ∧ SqL K H q (zs.map V.int) ∧ xs.length ≤ 100 ∧ zs.length ≤ 100 ∧ ∀ H', Same H H' → Q (.bl (WP.right m xs zs)) H'
theorem scRight : FnScope ["m", "x", "number"] ["m", "x", "number"] (defScope sRight) := ⟨rfl, rfl, rfl, by decide +kernel, rfl, by decide +kernel, by decide +kernel⟩
theorem ok_right {f fT fW : Addr} {fd fdT fdW : FuncData} (F : Fun K "are_right" "are_right" sRight f fd) (CT : Cal P w K mg base "is_as_told" 1 ["told", "how_many"] (spTold K) fT fdT)
    (CW : Cal P w K mg base "is_right_window" 4 ["m", "x"] (spRW K) fW fdW) : FnOk P w K mg base CX0 5 f fd ["m", "x", "number"] (spRight K) := by
  refine F.ok scRight (fun vs H Q E h => ?_) (fun cdv A outer s H vs Q E hr h => ?_)
  · obtain ⟨m, p, q, xs, zs, rfl, _⟩ := h
    rfl
  · obtain ⟨m, p, q, xs, zs, rfl, hp, hq, hx, hz, kk⟩ := h
    have hr1 : Room 1 _ := hr.mono (by decide)
    refine ⟨_, pss_one (ps_ret (pe_and (pe_call CW.ok hr (by rfl) CW.mg CW.kp CW.b .nil pass0 (pa_cons (pv 0) (pa_cons (pv 1) pa_nil)))
      (pe_one (pe_call CT.ok hr1 (by rfl) CT.mg CT.kp CT.b .nil pass0 (pa_cons (pv 2) (pa_cons pe_int pa_nil)))))), ?_⟩
    refine ⟨_, rfl, _, rfl, m, p, xs, rfl, hp, hx, fun H1 s1 => ⟨_, rfl, ?_⟩⟩
    unfold WP.right at kk
    cases cw : (decide (1 ≤ m) && decide (m ≤ 4) && WP.isWin m.toNat xs) with
    | false =>
      rw [cw] at kk
      exact iteF (kk H1 s1)
    | true =>
      rw [cw] at kk
      refine iteT ?_
      exact ⟨_, rfl, q, zs, 2, rfl, s1.seq hq, hz, fun H2 s2 => kk H2 (s1.trans s2)⟩
def spPt (K : PySem.W.Frag) : Sp := fun vs H Q _ => ∃ (m : Nat) (p q : Addr) (x : Win) (z : Z), vs = [.int m, .ref p, .ref q] ∧ 1 ≤ m ∧ m ≤ 4 ∧ SqL K H p (wList x) ∧ PairA K H q z ∧ InP x.u ∧ InP x.v ∧ InP z ∧ ∀ H', Same H H' → Q (.bl (Kzv2.isPoint m x z)) H'
theorem scPt : FnScope ["m", "x", "number", "partner"] ["m", "x", "number"] (defScope sPt) := ⟨rfl, rfl, rfl, by decide +kernel, rfl, by decide +kernel, by decide +kernel⟩
theorem ok_pt {f fP fB : Addr} {fd fdP fdB : FuncData} (F : Fun K "is_point" "is_point" sPt f fd) (CP : Cal P w K mg base "partner_of" 1 ["m", "number"] (spPar K) fP fdP)
    (CB : Cal P w K mg base "is_below" 2 ["m", "left", "right"] (spBel K) fB fdB) : FnOk P w K mg base CX0 3 f fd ["m", "x", "number"] (spPt K) := by
  refine F.ok scPt (fun vs H Q E h => ?_) (fun cdv A outer s H vs Q E hr h => ?_)
  · obtain ⟨m, p, q, x, z, rfl, _⟩ := h
    rfl
  · obtain ⟨m, p, q, x, z, rfl, h1, h4, hp, hq, hu, hv, hz, kk⟩ := h
    have hr1 : Room 1 _ := hr.mono (by decide)
    refine ⟨_, pss_cons (ps_set (i := 3) scPt.nd rfl (Or.inl rfl) (pe_call CP.ok hr1 (by rfl) CP.mg CP.kp CP.b .nil pass0 (pa_cons (pv 0) (pa_cons (pv 2) pa_nil))))
      (pss_one (ps_ret (pe_and (pe_not (pe_call CB.ok hr (by rfl) CB.mg CB.kp CB.b .nil pass0 (pa_cons (pv 0) (pa_cons (pv 3) (pa_cons (pe_tup (pa_cons (pe_ix ix_list (pv 1) pe_int (fun _ _ => rfl)) (pa_cons (pe_ix ix_list (pv 1) pe_int (fun _ _ => rfl)) pa_nil))) pa_nil)))))
        (pe_one (pe_call CB.ok hr (by rfl) CB.mg CB.kp CB.b .nil pass0 (pa_cons (pv 0) (pa_cons (pv 3) (pa_cons (pe_tup (pa_cons (pe_ix ix_list (pv 1) pe_int (fun _ _ => rfl)) (pa_cons (pe_ix ix_list (pv 1) pe_int (fun _ _ => rfl)) pa_nil))) pa_nil)))))))), ?_⟩
    refine ⟨_, rfl, _, rfl, m, q, z, rfl, h1, h4, hq, by omega, fun p1 n1 => ?_⟩
    have e1 := same_new (o := .tup [.int (Kzv1.partner m z).a, .int (Kzv1.partner m z).b]) n1
    have hp1 := e1.seq hp
    refine ⟨_, rfl, _, rfl, _, rfl, p, _, _, _, rfl, rfl, hp1, at0, _, rfl, p, _, _, _, rfl, rfl, hp1, at1, (by show 2 ≤ sizeLine; decide), fun p2 n2 => ?_⟩
    have e2 := same_new (o := .tup [.int x.u.a, .int x.u.b]) n2
    have mb := mul_bound h1 h4 (b := z.b) (by omega)
    have mb2 : -160000000 ≤ (m : Int) * z.b ∧ (m : Int) * z.b ≤ 160000000 := by
      rcases WP.m_cases h1 h4 with rfl | rfl | rfl | rfl <;> omega
    have iz : InZ (Kzv1.partner m z) := by
      show (-400000000 ≤ z.a + (m : Int) * z.b ∧ z.a + (m : Int) * z.b ≤ 400000000) ∧ (-50000000 ≤ -z.b ∧ -z.b ≤ 50000000)
      omega
    have q2 := fun H' s' => kk H' s'
    rw [WP.isPoint_lin h1 h4 (by omega) (by omega)] at q2
    unfold WP.lp at q2
    refine ⟨m, p1, p2, Kzv1.partner m z, x.u, rfl, h1, h4, .inr (sTup e2 new_tup), .inr new_tup, iz, by omega, _, rfl, _, rfl, ?_⟩
    by_cases cc : WP.lin m (Kzv1.partner m z) < WP.lin m x.u
    · rw [decide_eq_false (show ¬ WP.lin m x.u ≤ WP.lin m (Kzv1.partner m z) by omega)] at q2
      refine if_f (by rw [decide_eq_true cc]; rfl) ?_
      exact q2 _ (e1.trans e2)
    · rw [decide_eq_true (show WP.lin m x.u ≤ WP.lin m (Kzv1.partner m z) by omega), Bool.true_and] at q2
      refine if_t (by rw [decide_eq_false cc]; rfl) ?_
      have hp2 := e2.seq hp1
      refine ⟨_, rfl, _, rfl, _, rfl, p, _, _, _, rfl, rfl, hp2, at2, _, rfl, p, _, _, _, rfl, rfl, hp2, at3, (by show 2 ≤ sizeLine; decide), fun p3 n3 => ?_⟩
      have e3 := same_new (o := .tup [.int x.v.a, .int x.v.b]) n3
      exact ⟨m, p1, p3, Kzv1.partner m z, x.v, rfl, h1, h4, .inr (sTup (e2.trans e3) new_tup), .inr new_tup, iz, by omega, q2 _ (e1.trans (e2.trans e3))⟩
theorem samePair {K : PySem.W.Frag} {H H' : Hp} {a : Addr} {z : Z} (e : Same H H') (h : PairA K H a z) : PairA K H' a z := by
  rcases h with h | h
  · exact .inl (e.seq h)
  · exact .inr (sTup e h)
/-! ### Pairs that stand while one list grows -/
/-- all but what stands at D stays -/
def Off (D : Addr) (H H' : Hp) : Prop := ∀ b o, b ≠ D → H b = some o → H' b = some o
theorem Off.refl (D : Addr) (H : Hp) : Off D H H := fun _ _ _ e => e
theorem Off.trans {D : Addr} {H H1 H2 : Hp} (a : Off D H H1) (b : Off D H1 H2) : Off D H H2 := fun c o n e => b c o n (a c o n e)
theorem off_same {D : Addr} {H H' : Hp} (e : Same H H') : Off D H H' := fun b o _ h => e b o h
theorem off_upd {D : Addr} {H : Hp} {o : HO} : Off D H (upd H D o) := fun b o' n e => by
  rw [upd_ne n]
  exact e
/-- what is new at D is no change of what stood before -/
theorem same_off {D : Addr} {H H1 H2 : Hp} (hD : H D = none) (a : Same H H1) (b : Off D H1 H2) : Same H H2 := fun c o e => b c o (ne_of_none e hD) (a c o e)
/-- a pair, whatever becomes of D -/
def PairO (K : PySem.W.Frag) (D : Addr) (H : Hp) (a : Addr) (z : Z) : Prop := ∀ H', Off D H H' → PairA K H' a z
theorem PairO.now {K : PySem.W.Frag} {D : Addr} {H : Hp} {a : Addr} {z : Z} (h : PairO K D H a z) : PairA K H a z := h H (Off.refl D H)
theorem PairO.mono {K : PySem.W.Frag} {D : Addr} {H H' : Hp} {a : Addr} {z : Z} (e : Off D H H') (h : PairO K D H a z) : PairO K D H' a z := fun H2 e2 => h H2 (e.trans e2)
theorem rd_off {D : Addr} {H H' : Hp} {a : Addr} {u : HO} (n : ∀ o, H a = some o → a ≠ D) (e : Off D H H') (h : Rd H a u) : Rd H' a u := by
  rcases h with h | ⟨o, h⟩
  · exact .inl (e _ _ (n _ h) h)
  · exact .inr ⟨o, e _ _ (n _ h) h⟩
theorem pairO_ne {K : PySem.W.Frag} {D : Addr} {H : Hp} {a : Addr} {z : Z} (n : ∀ o, H a = some o → a ≠ D) (h : PairA K H a z) : PairO K D H a z := fun H' e => by
  rcases h with (h | h) | (h | h)
  · exact .inl (.inl (rd_off n e h))
  · exact .inl (.inr h)
  · exact .inr (.inl (rd_off n e h))
  · exact .inr (.inr h)
theorem pairO_new {K : PySem.W.Frag} {D : Addr} {H : Hp} {a : Addr} {z : Z} (hD : H D = none) (h : PairA K H a z) : PairO K D H a z := pairO_ne (fun _ e => ne_of_none e hD) h
theorem pairO_tup {K : PySem.W.Frag} {D : Addr} {H : Hp} {a : Addr} {z : Z} {us : List V} (hD : H D = some (.lst us)) (h : H a = some (.tup [.int z.a, .int z.b])) : PairO K D H a z :=
  pairO_ne (fun _ _ q => by rw [q, hD] at h; cases h) (.inr (SqT.of h))
/-- a pair of the module's own -/
def KPair (K : PySem.W.Frag) (a : Addr) (z : Z) : Prop := ∃ (o : Obj) (its : Array Value) (n : Nat), K.lookup a = some o ∧ o.cls = .type "tuple" ∧ o.data = .seq its n ∧ its.size ≤ sizeLine ∧ Vals [.int z.a, .int z.b] its.toList
theorem KPair.pair {K : PySem.W.Frag} {a : Addr} {z : Z} {H : Hp} (h : KPair K a z) : PairA K H a z := .inr (.inr h)
theorem KPair.pairO {K : PySem.W.Frag} {D a : Addr} {z : Z} {H : Hp} (h : KPair K a z) : PairO K D H a z := fun _ _ => h.pair
/-- a row of pairs -/
def PairsAt (K : PySem.W.Frag) (D : Addr) (H : Hp) : List V → List Z → Prop
  | [], [] => True
  | v :: vs, g :: gs => (∃ r, v = .ref r ∧ PairO K D H r g) ∧ PairsAt K D H vs gs
  | _, _ => False
theorem pairs_off {K : PySem.W.Frag} {D : Addr} {H H' : Hp} (e : Off D H H') : ∀ {vs : List V} {gs : List Z}, PairsAt K D H vs gs → PairsAt K D H' vs gs
  | [], [], _ => trivial
  | _ :: _, _ :: _, ⟨⟨r, hr, hh⟩, t⟩ => ⟨⟨r, hr, hh.mono e⟩, pairs_off e t⟩
  | [], _ :: _, h => h.elim
  | _ :: _, [], h => h.elim
theorem pairs_append {K : PySem.W.Frag} {D : Addr} {H : Hp} : ∀ {vs us : List V} {gs hs : List Z}, PairsAt K D H vs gs → PairsAt K D H us hs → PairsAt K D H (vs ++ us) (gs ++ hs)
  | [], _, [], _, _, t => t
  | _ :: _, _, _ :: _, _, ⟨a, b⟩, t => ⟨a, pairs_append b t⟩
  | [], _, _ :: _, _, h, _ => h.elim
  | _ :: _, _, [], _, h, _ => h.elim
theorem pairs_len {K : PySem.W.Frag} {D : Addr} {H : Hp} : ∀ {vs : List V} {gs : List Z}, PairsAt K D H vs gs → vs.length = gs.length
  | [], [], _ => rfl
  | _ :: _, _ :: _, ⟨_, t⟩ => congrArg (· + 1) (pairs_len t)
  | [], _ :: _, h => h.elim
  | _ :: _, [], h => h.elim
theorem pairs_get {K : PySem.W.Frag} {D : Addr} {H : Hp} : ∀ {vs : List V} {gs : List Z} {i : Nat} {v : V}, PairsAt K D H vs gs → vs[i]? = some v → ∃ g r, gs[i]? = some g ∧ v = .ref r ∧ PairO K D H r g
  | v :: _, g :: _, 0, u, ⟨⟨r, hr, hh⟩, _⟩, e => by
    have e : v = u := Option.some.inj e
    subst e
    exact ⟨g, r, rfl, hr, hh⟩
  | _ :: _, _ :: _, i + 1, _, ⟨_, t⟩, e => pairs_get (i := i) t e
  | [], [], i, _, _, e => by simp at e
  | [], _ :: _, _, _, h, _ => h.elim
  | _ :: _, [], _, _, h, _ => h.elim
/-- a row of tuples: each a number of two -/
def TupsAt (H : Hp) : List V → List Z → Prop
  | [], [] => True
  | v :: vs, g :: gs => (∃ r, v = .ref r ∧ H r = some (.tup [.int g.a, .int g.b])) ∧ TupsAt H vs gs
  | _, _ => False
theorem tups_mono {H H' : Hp} (e : ∀ r z, H r = some (.tup z) → H' r = some (.tup z)) : ∀ {vs : List V} {gs : List Z}, TupsAt H vs gs → TupsAt H' vs gs
  | [], [], _ => trivial
  | _ :: _, _ :: _, ⟨⟨r, hr, hh⟩, t⟩ => ⟨⟨r, hr, e r _ hh⟩, tups_mono e t⟩
  | [], _ :: _, h => h.elim
  | _ :: _, [], h => h.elim
theorem tups_same {H H' : Hp} (e : Same H H') {vs : List V} {gs : List Z} (t : TupsAt H vs gs) : TupsAt H' vs gs := tups_mono (fun r _ h => e r _ h) t
theorem tups_append {H : Hp} : ∀ {vs us : List V} {gs hs : List Z}, TupsAt H vs gs → TupsAt H us hs → TupsAt H (vs ++ us) (gs ++ hs)
  | [], _, [], _, _, t => t
  | _ :: _, _, _ :: _, _, ⟨a, b⟩, t => ⟨a, tups_append b t⟩
  | [], _, _ :: _, _, h, _ => h.elim
  | _ :: _, _, [], _, h, _ => h.elim
theorem tups_len {H : Hp} : ∀ {vs : List V} {gs : List Z}, TupsAt H vs gs → vs.length = gs.length
  | [], [], _ => rfl
  | _ :: _, _ :: _, ⟨_, t⟩ => congrArg (· + 1) (tups_len t)
  | [], _ :: _, h => h.elim
  | _ :: _, [], h => h.elim
theorem tups_get {H : Hp} : ∀ {vs : List V} {gs : List Z} {i : Nat} {v : V}, TupsAt H vs gs → vs[i]? = some v → ∃ g r, gs[i]? = some g ∧ v = .ref r ∧ H r = some (.tup [.int g.a, .int g.b])
  | v :: _, g :: _, 0, u, ⟨⟨r, hr, hh⟩, _⟩, e => by
    have e : v = u := Option.some.inj e
    subst e
    exact ⟨g, r, rfl, hr, hh⟩
  | _ :: _, _ :: _, i + 1, _, ⟨_, t⟩, e => tups_get (i := i) t e
  | [], [], i, _, _, e => by simp at e
  | [], _ :: _, _, _, h, _ => h.elim
  | _ :: _, [], _, _, h, _ => h.elim
/-- one tuple more in the row that grows at D -/
theorem tups_push {H : Hp} {D p : Addr} {vs : List V} {gs : List Z} {g : Z} (hD : H D = some (.lst vs)) (np : H p = none) (t : TupsAt H vs gs) :
    TupsAt (upd (upd H p (.tup [.int g.a, .int g.b])) D (.lst (vs ++ [.ref p]))) (vs ++ [.ref p]) (gs ++ [g]) := by
  have nDp : p ≠ D := fun q => by
    rw [q, hD] at np
    cases np
  refine tups_append (tups_mono (fun r z h => ?_) t) ⟨⟨p, rfl, ?_⟩, trivial⟩
  · have n1 : r ≠ D := fun q => by
      rw [q, hD] at h
      cases h
    rw [upd_ne n1, upd_ne (ne_of_none h np)]
    exact h
  · rw [upd_ne nDp]
    exact upd_same
theorem same_push {H H1 : Hp} {D p : Addr} {vs : List V} {o : HO} (s : Same H H1) (hD : H D = none) (np : H1 p = none) : Same H (upd (upd H1 p o) D (.lst vs)) := fun b o' e => by
  have n1 : b ≠ D := ne_of_none e hD
  have n2 : b ≠ p := ne_of_none (s _ _ e) np
  rw [upd_ne n1, upd_ne n2]
  exact s _ _ e
def spSteps : Sp := fun vs H Q _ => ∃ (m : Nat), vs = [.int m] ∧ 1 ≤ m ∧ m ≤ 4 ∧ ∀ (H' : Hp) (l : Addr) (us : List V), Same H H' → H' l = some (.lst us) → TupsAt H' us (WP.short m) → Q (.ref l) H'
theorem scSteps : FnScope ["m", "up_to_one", "up_to_w", "j", "k"] ["m"] (defScope sSteps) := ⟨rfl, rfl, rfl, by decide +kernel, rfl, by decide +kernel, by decide +kernel⟩
theorem ok_steps {f : Addr} {fd : FuncData} (F : Fun K "steps_below_longest" "steps_below_longest" sSteps f fd) (mr : mg "range" = none) : FnOk P w K mg base CX0 1 f fd ["m"] spSteps := by
  refine F.ok scSteps (fun vs H Q E h => ?_) (fun cdv A outer s H vs Q E hr h => ?_)
  · obtain ⟨m, rfl, _⟩ := h
    rfl
  · obtain ⟨m, rfl, h1, h4, k⟩ := h
    refine ⟨_, pss_cons (ps_setLc (i := 1) (own := [("j", 3)]) (g := gName 3) (tt := tYes) rfl scSteps.nd rfl rfl (sw_true rfl rfl rfl (by decide +kernel))
        (pi_range3 rfl mr (pa_cons (pe_op op_sub (pv 0) pe_int) (pa_cons (pe_un un_neg pe_int) (pa_cons (pe_un un_neg pe_int) pa_nil))))
        (blkOk_by (own := [("j", 3)]) (N := ["m", "up_to_one", "up_to_w", "j", "k"]) (sc := defScope sSteps) (by decide +kernel))
        (fun _ _ _ _ _ => pg_name (i := 3) scSteps.nd rfl (Or.inl rfl)) (fun _ _ _ _ _ => pts_nil)
        (fun _ _ _ _ _ => pe_tup (pa_cons (pe_op op_add pe_int (pe_op op_mul (pv 3) (pv 0))) (pa_cons (pe_un un_neg (pv 3)) pa_nil))))
      (pss_cons (ps_setLc (i := 2) (own := [("k", 4)]) (g := gName 4) (tt := tYes) rfl scSteps.nd rfl rfl (sw_true rfl rfl rfl (by decide +kernel))
        (pi_range3 rfl mr (pa_cons (pe_op op_sub (pv 0) pe_int) (pa_cons (pe_un un_neg pe_int) (pa_cons (pe_un un_neg pe_int) pa_nil))))
        (blkOk_by (own := [("k", 4)]) (N := ["m", "up_to_one", "up_to_w", "j", "k"]) (sc := defScope sSteps) (by decide +kernel))
        (fun _ _ _ _ _ => pg_name (i := 4) scSteps.nd rfl (Or.inl rfl)) (fun _ _ _ _ _ => pts_nil)
        (fun _ _ _ _ _ => pe_tup (pa_cons (pe_un un_neg (pv 4)) (pa_cons pe_int pa_nil))))
      (pss_one (ps_ret (pe_op op_cat (pe_op op_cat (pe_lst (pa_cons (pe_tup (pa_cons (pe_un un_neg (pv 0)) (pa_cons pe_int pa_nil))) pa_nil)) (pv 1)) (pv 2))))), ?_⟩
    have rg : RgC ((m : Int) - 1) (-1) (-1) m := by
      have q := RgC.neg (i := (m : Int) - 1) (j := -1) (by omega) (by omega) (by decide) (by decide)
      have e : ((m : Int) - 1 - -1).toNat = m := by omega
      rw [e] at q
      exact q
    refine ⟨_, rfl, _, _, rfl, rfl, _, rfl, _, rfl, _, _, _, m, rfl, rg, fun D hD => ?_⟩
    refine lc_it walk_rangeC (fun i H' => Same H H' ∧ ∃ us, H' D = some (.lst us) ∧ TupsAt H' us ((List.range i).map (fun (i : Nat) => (⟨1 + ((m : Int) - 1 - i) * m, -((m : Int) - 1 - i)⟩ : Z)))) ⟨same_new hD, [], upd_same, trivial⟩ (fun _ _ _ _ => trivial) ?_ ?_
    · rintro i x H1 H' hi ⟨s1, us, hd, t⟩ ⟨rfl, rfl⟩
      refine ⟨rfl, yes_if ?_⟩
      refine ⟨_, rfl, _, rfl, _, _, rfl, rfl, .inl ⟨by omega, by omega⟩, _, _, rfl, rfl, _, rfl, _, rfl, (by show 2 ≤ sizeLine; decide), fun p np => ?_⟩
      have ej : (m : Int) - 1 + (i : Nat) * -1 = (m : Int) - 1 - i := by omega
      rw [ej]
      have len := tups_len t
      rw [List.length_map, List.length_range] at len
      refine ⟨us, ?_, small1000 (by omega), same_push s1 hD np, _, upd_same, ?_⟩
      · rw [upd_ne (ne_of_none hd np)]
        exact hd
      · rw [List.range_succ, List.map_append]
        exact tups_push (g := ⟨1 + ((m : Int) - 1 - i) * m, -((m : Int) - 1 - i)⟩) hd np t
    · rintro H1 ⟨s1, us1, hd1, t1⟩
      refine ⟨_, rfl, _, _, rfl, rfl, _, rfl, _, rfl, _, _, _, m, rfl, rg, fun D2 hD2 => ?_⟩
      refine lc_it walk_rangeC (fun i H' => Same H1 H' ∧ ∃ us, H' D2 = some (.lst us) ∧ TupsAt H' us ((List.range i).map (fun (i : Nat) => (⟨-((m : Int) - 1 - i), 1⟩ : Z)))) ⟨same_new hD2, [], upd_same, trivial⟩ (fun _ _ _ _ => trivial) ?_ ?_
      · rintro i x H2 H' hi ⟨s2, us, hd, t⟩ ⟨rfl, rfl⟩
        refine ⟨rfl, yes_if ?_⟩
        refine ⟨_, rfl, _, rfl, (by show 2 ≤ sizeLine; decide), fun p np => ?_⟩
        have ej : (m : Int) - 1 + (i : Nat) * -1 = (m : Int) - 1 - i := by omega
        rw [ej]
        have len := tups_len t
        rw [List.length_map, List.length_range] at len
        refine ⟨us, ?_, small1000 (by omega), same_push s2 hD2 np, _, upd_same, ?_⟩
        · rw [upd_ne (ne_of_none hd np)]
          exact hd
        · rw [List.range_succ, List.map_append]
          exact tups_push (g := ⟨-((m : Int) - 1 - i), 1⟩) hd np t
      · rintro H2 ⟨s2, us2, hd2, t2⟩
        have l1 := tups_len t1
        have l2 := tups_len t2
        rw [List.length_map, List.length_range] at l1 l2
        refine ⟨_, rfl, _, rfl, (by show 2 ≤ sizeLine; decide), fun p3 n3 => ⟨(by show 1 ≤ sizeLine; decide), fun p4 n4 => ?_⟩⟩
        have e3 := same_new (o := .tup [.int (-(m : Int)), .int 1]) n3
        have e4 := same_new (o := .lst [.ref p3]) n4
        have b1 := e4 _ _ (e3 _ _ (s2 _ _ hd1))
        have b2 := e4 _ _ (e3 _ _ hd2)
        refine ⟨_, rfl, p4, D, _, _, rfl, rfl, upd_same, b1, (by show 1 + us1.length ≤ sizeLine; exact Nat.le_of_lt (small1000 (by omega))), fun p5 n5 => ?_⟩
        have e5 := same_new (o := .lst ([.ref p3] ++ us1)) n5
        refine ⟨_, rfl, p5, D2, _, _, rfl, rfl, upd_same, e5 _ _ b2, (by rw [List.length_append]; show 1 + us1.length + us2.length ≤ sizeLine; exact Nat.le_of_lt (small1000 (by omega))), fun p6 n6 => ?_⟩
        have e6 := same_new (o := .lst ([.ref p3] ++ us1 ++ us2)) n6
        have u3 : Same _ _ := e4.trans (e5.trans e6)
        refine k _ p6 _ (s1.trans (s2.trans (e3.trans (e4.trans (e5.trans e6))))) upd_same ?_
        refine tups_append (tups_append ⟨⟨p3, rfl, ?_⟩, trivial⟩ ?_) ?_
        · exact u3 _ _ upd_same
        · exact tups_same (s2.trans (e3.trans u3)) t1
        · exact tups_same (e3.trans u3) t2
theorem find_first {α : Type} {p : α → Bool} : ∀ {l : List α} {i : Nat} {g : α}, l[i]? = some g → p g = true → (∀ h ∈ l.take i, p h = false) → l.find? p = some g
  | [], i, g, e, _, _ => by simp at e
  | a :: l, 0, g, e, hp, _ => by
    have e : a = g := Option.some.inj e
    subst e
    rw [List.find?_cons, hp]
  | a :: l, i + 1, g, e, hp, hn => by
    have h0 : p a = false := hn a (by rw [List.take_succ_cons]; exact List.mem_cons_self ..)
    rw [List.find?_cons, h0]
    exact find_first (i := i) e hp fun h hh => hn h (by rw [List.take_succ_cons]; exact List.mem_cons_of_mem _ hh)
/-- a number in the range that point_after is asked in -/
abbrev InM (z : Z) : Prop := (-90000000 ≤ z.a ∧ z.a ≤ 90000000) ∧ (-30000000 ≤ z.b ∧ z.b ≤ 30000000)
def spMov (K : PySem.W.Frag) : Sp := fun vs H Q _ => ∃ (p q : Addr) (z g : Z), vs = [.ref p, .ref q] ∧ PairA K H p z ∧ PairA K H q g ∧ ∀ r, H r = none → Q (.ref r) (upd H r (.tup [.int (Kzv1.add z g).a, .int (Kzv1.add z g).b]))
theorem scMov : FnScope ["number", "step"] ["number", "step"] (defScope sMov) := ⟨rfl, rfl, rfl, by decide +kernel, rfl, by decide +kernel, by decide +kernel⟩
theorem ok_mov {f : Addr} {fd : FuncData} (F : Fun K "moved" "moved" sMov f fd) : FnOk P w K mg base CX0 1 f fd ["number", "step"] (spMov K) := by
  refine F.ok scMov (fun vs H Q E h => ?_) (fun cdv A outer s H vs Q E hr h => ?_)
  · obtain ⟨p, q, z, g, rfl, _⟩ := h
    rfl
  · obtain ⟨p, q, z, g, rfl, hp, hq, k⟩ := h
    refine ⟨_, pss_one (ps_ret (pe_tup (pa_cons (pe_op op_add (pe_ix ix_seq (pv 0) pe_int (fun _ _ => rfl)) (pe_ix ix_seq (pv 1) pe_int (fun _ _ => rfl)))
      (pa_cons (pe_op op_add (pe_ix ix_seq (pv 0) pe_int (fun _ _ => rfl)) (pe_ix ix_seq (pv 1) pe_int (fun _ _ => rfl))) pa_nil)))), ?_⟩
    refine ⟨_, rfl, pair0 hp ⟨_, rfl, pair0 hq ⟨_, _, rfl, rfl, _, rfl, pair1 hp ⟨_, rfl, pair1 hq ⟨_, _, rfl, rfl, (by show 2 ≤ sizeLine; decide), fun r hr => ?_⟩⟩⟩⟩⟩
    exact k r hr
def spAfter (K : PySem.W.Frag) : Sp := fun vs H Q _ => ∃ (m : Nat) (p q : Addr) (x : Win) (z : Z), vs = [.int m, .ref p, .ref q] ∧ 1 ≤ m ∧ m ≤ 4 ∧ SqL K H p (wList x) ∧ PairA K H q z ∧ InP x.u ∧ InP x.v ∧ InM z ∧
  ∀ (H' : Hp) (r : Addr), Same H H' → H' r = some (.tup [.int (WP.nextL m x z).a, .int (WP.nextL m x z).b]) → Q (.ref r) H'
theorem scAfter : FnScope ["m", "x", "number", "step", "ahead"] ["m", "x", "number"] (defScope sAfter) := ⟨rfl, rfl, rfl, by decide +kernel, rfl, by decide +kernel, by decide +kernel⟩
theorem ok_after {f fS fM fP aL : Addr} {fd fdS fdM fdP : FuncData} (F : Fun K "point_after" "point_after" sAfter f fd) (CS : Cal P w K mg base "steps_below_longest" 1 ["m"] spSteps fS fdS)
    (CM : Cal P w K mg base "moved" 1 ["number", "step"] (spMov K) fM fdM) (CP : Cal P w K mg base "is_point" 3 ["m", "x", "number"] (spPt K) fP fdP)
    (mL : mg "LONGEST_STEP" = some (.ref aL)) (tL : KPair K aL ⟨1, 1⟩) : FnOk P w K mg base CX0 4 f fd ["m", "x", "number"] (spAfter K) := by
  refine F.ok scAfter (fun vs H Q E h => ?_) (fun cdv A outer s H vs Q E hr h => ?_)
  · obtain ⟨m, p, q, x, z, rfl, _⟩ := h
    rfl
  · obtain ⟨m, p, q, x, z, rfl, h1, h4, hp, hq, hu, hv, hz, kk⟩ := h
    have hr1 : Room 1 _ := hr.mono (by decide)
    refine ⟨_, pss_cons (ps_for PassesOwn.never rfl (pi_list (pe_call CS.ok hr1 (by rfl) CS.mg CS.kp CS.b .nil pass0 (pa_cons (pv 0) pa_nil))) (pg_name (i := 3) scAfter.nd rfl (Or.inl rfl))
        (pss_cons (ps_set (i := 4) scAfter.nd rfl (Or.inl rfl) (pe_call CM.ok hr1 (by rfl) CM.mg CM.kp CM.b .nil pass0 (pa_cons (pv 2) (pa_cons (pv 3) pa_nil))))
        (pss_one (ps_if (pt_val (pe_call CP.ok hr (by rfl) CP.mg CP.kp CP.b .nil pass0 (pa_cons (pv 0) (pa_cons (pv 1) (pa_cons (pv 4) pa_nil))))) (pss_one (ps_ret (pv 4))) pss_nil))))
      (pss_one (ps_ret (pe_call CM.ok hr1 (by rfl) CM.mg CM.kp CM.b .nil pass0 (pa_cons (pv 2) (pa_cons (pe_glob (v := .ref aL) (by rfl) mL rfl) pa_nil))))), ?_⟩
    refine ⟨_, rfl, m, rfl, h1, h4, fun H1 l us s1 hl t => ⟨l, rfl, ⟨_, .inl (.inl hl)⟩, ?_⟩⟩
    refine for_list (K := K) (a := l) (xs := us) (fun i σ H' => (∃ v3 v4 : Option V, σ = [some (.int m), some (.ref p), some (.ref q), v3, v4]) ∧ Same H1 H' ∧ ∀ g ∈ (WP.short m).take i, Kzv2.isPoint m x (Kzv1.add z g) = false)
      ⟨⟨none, none, rfl⟩, Same.refl H1, by simp⟩ (fun i σ H' _ h => .inl (.inl (h.2.1 _ _ hl))) ?_ ?_
    · rintro i y σ H' hi ⟨⟨v3, v4, rfl⟩, s2, hn⟩
      obtain ⟨g, r, hg, rfl, hr'⟩ := tups_get t hi
      have gs := WP.short_small h1 h4 g (List.mem_of_getElem? hg)
      refine ⟨_, rfl, _, rfl, q, r, z, g, rfl, samePair (s1.trans s2) hq, .inr (SqT.of (s2 _ _ hr')), fun a na => ?_⟩
      have e3 := same_new (o := .tup [.int (Kzv1.add z g).a, .int (Kzv1.add z g).b]) na
      have iz : InP (Kzv1.add z g) := by
        show (-100000000 ≤ z.a + g.a ∧ z.a + g.a ≤ 100000000) ∧ (-40000000 ≤ z.b + g.b ∧ z.b + g.b ≤ 40000000)
        omega
      refine ⟨_, rfl, _, rfl, _, rfl, m, p, a, x, Kzv1.add z g, rfl, h1, h4, (s1.trans (s2.trans e3)).seq hp, .inr new_tup, hu, hv, iz, fun H4 s4 => ⟨_, rfl, ?_⟩⟩
      cases c : Kzv2.isPoint m x (Kzv1.add z g) with
      | true =>
        refine iteT ?_
        refine ⟨_, rfl, kk H4 a (s1.trans (s2.trans (e3.trans s4))) ?_⟩
        have ef : WP.nextL m x z = Kzv1.add z g := by
          unfold WP.nextL
          rw [find_first hg c hn]
          rfl
        rw [ef]
        exact s4 _ _ upd_same
      | false =>
        refine iteF ?_
        refine ⟨⟨_, _, rfl⟩, s2.trans (e3.trans s4), fun h hh => ?_⟩
        rw [take_more hg] at hh
        rcases List.mem_append.mp hh with hh | hh
        · exact hn h hh
        · rw [List.mem_singleton.mp hh]
          exact c
    · rintro σ H' ⟨⟨v3, v4, rfl⟩, s2, hn⟩
      rw [tups_len t, List.take_length] at hn
      refine ⟨_, rfl, q, aL, z, ⟨1, 1⟩, rfl, samePair (s1.trans s2) hq, tL.pair, fun r nr => ?_⟩
      have e4 := same_new (o := .tup [.int (Kzv1.add z ⟨1, 1⟩).a, .int (Kzv1.add z ⟨1, 1⟩).b]) nr
      refine kk _ r (s1.trans (s2.trans e4)) ?_
      have ef : WP.nextL m x z = Kzv1.add z ⟨1, 1⟩ := by
        unfold WP.nextL
        rw [List.find?_eq_none.mpr (fun g hg => by rw [hn g hg]; decide)]
        rfl
      rw [ef]
      exact upd_same
/-- answer_of's -/
def spAns (K : PySem.W.Frag) : Sp := fun vs H Q _ => ∃ (n : Int) (p D0 : Addr) (us : List V) (gs : List Z), vs = [.int n, .ref p] ∧ SqL K H p us ∧ PairsAt K D0 H us gs ∧ gs.length ≤ 400 ∧
  ∀ (H' : Hp) (l : Addr), H' l = some (.lst ((n :: Kzv2.written gs).map V.int)) → Q (.ref l) H'
theorem scAns : FnScope ["leading", "numbers", "answer", "number"] ["leading", "numbers"] (defScope sAns) := ⟨rfl, rfl, rfl, by decide +kernel, rfl, by decide +kernel, by decide +kernel⟩
theorem written_len : ∀ gs : List Z, (Kzv2.written gs).length = 2 * gs.length
  | [] => rfl
  | g :: gs => by
    have ih := written_len gs
    show (g.a :: g.b :: Kzv2.written gs).length = 2 * (gs.length + 1)
    rw [List.length_cons, List.length_cons, ih]
    omega
theorem written_snoc (gs : List Z) (g : Z) : Kzv2.written (gs ++ [g]) = Kzv2.written gs ++ [g.a, g.b] := by
  unfold Kzv2.written
  rw [List.flatMap_append]
  rfl
theorem ok_ans {f : Addr} {fd : FuncData} (F : Fun K "answer_of" "answer_of" sAns f fd) : FnOk P w K mg base CX0 1 f fd ["leading", "numbers"] (spAns K) := by
  refine F.ok scAns (fun vs H Q E h => ?_) (fun cdv A outer s H vs Q E hr h => ?_)
  · obtain ⟨n, p, D0, us, gs, rfl, _⟩ := h
    rfl
  · obtain ⟨n, p, D0, us, gs, rfl, hp, t, hl, kk⟩ := h
    refine ⟨_, pss_cons (ps_set (i := 2) scAns.nd rfl (Or.inl rfl) (pe_lst (pa_cons (pv 0) pa_nil)))
      (pss_cons (ps_for PassesOwn.never rfl (pi_list (pv 1)) (pg_name (i := 3) scAns.nd rfl (Or.inl rfl))
        (pss_one (ps_expr (pe_bm PySem.F.plainAttrs_list PySem.F.slot_list_extend PySem.F.type_list_extend mt_extend (pv 2)
          (pa_cons (pe_lst (pa_cons (pe_ix ix_seq (pv 3) pe_int (fun _ _ => rfl)) (pa_cons (pe_ix ix_seq (pv 3) pe_int (fun _ _ => rfl)) pa_nil))) pa_nil)))))
      (pss_one (ps_ret (pv 2)))), ?_⟩
    refine ⟨_, rfl, (by show 1 ≤ sizeLine; decide), fun D hD => ?_⟩
    have e0 := same_new (o := .lst [.int n]) hD
    refine ⟨_, rfl, p, rfl, ⟨_, e0.seq hp⟩, ?_⟩
    have ul := pairs_len t
    refine for_list (K := K) (a := p) (xs := us) (fun i σ H' => (∃ v3 : Option V, σ = [some (.int n), some (.ref p), some (.ref D), v3]) ∧ Same H H' ∧ H' D = some (.lst ((n :: Kzv2.written (gs.take i)).map V.int)))
      ⟨⟨none, rfl⟩, e0, upd_same⟩ (fun i σ H' _ h => h.2.1.seq hp) ?_ ?_
    · rintro i y σ H' hi ⟨⟨v3, rfl⟩, s1, hd⟩
      obtain ⟨g, r, hg, rfl, hr'⟩ := pairs_get t hi
      have hr1 : PairA K H' r g := samePair s1 hr'.now
      refine ⟨_, rfl, .inl ⟨rfl, _, SqL.of hd⟩, _, rfl, pair0 hr1 ⟨_, rfl, pair1 hr1 ⟨(by show 2 ≤ sizeLine; decide), fun b nb => ?_⟩⟩⟩
      have e1 := same_new (o := .lst [.int g.a, .int g.b]) nb
      have il : i < gs.length := by
        rcases List.getElem?_eq_some_iff.mp hg with ⟨q, _⟩
        exact q
      refine ⟨D, b, _, _, rfl, rfl, e1 _ _ hd, upd_same, ?_, ⟨_, rfl⟩, same_off hD (s1.trans e1) off_upd, ?_⟩
      · rw [List.length_map, List.length_cons, written_len, List.length_take]
        exact Nat.le_of_lt (small1000 (by show 2 * min i gs.length + 1 + 2 ≤ 1000; omega))
      · rw [upd_same, take_more hg, written_snoc, ← List.cons_append, List.map_append]
        rfl
    · rintro σ H' ⟨⟨v3, rfl⟩, s1, hd⟩
      rw [ul, List.take_length] at hd
      exact ⟨_, rfl, kk _ D hd⟩
/-- points_from's -/
def spPF (K : PySem.W.Frag) : Sp := fun vs H Q _ => ∃ (m : Nat) (p q : Addr) (x : Win) (z : Z) (k : Nat), vs = [.int m, .ref p, .ref q, .int k] ∧ 1 ≤ m ∧ m ≤ 4 ∧ SqL K H p (wList x) ∧ PairA K H q z ∧ InP x.u ∧ InP x.v ∧ WP.LongW m x ∧
  ((-1000000 ≤ z.a ∧ z.a ≤ 1000000) ∧ (-1000000 ≤ z.b ∧ z.b ≤ 1000000)) ∧ Kzv2.isPoint m x z = true ∧ 1 ≤ k ∧ k ≤ 60 ∧
  ∀ (H' : Hp) (D : Addr) (us : List V), H' D = some (.lst us) → PairsAt K D H' us (WP.rowL m x k z) → Q (.ref D) H'
theorem scPF : FnScope ["m", "x", "start", "how_many", "points"] ["m", "x", "start", "how_many"] (defScope sPF) := ⟨rfl, rfl, rfl, by decide +kernel, rfl, by decide +kernel, by decide +kernel⟩
theorem ok_pf {f fA : Addr} {fd fdA : FuncData} (F : Fun K "points_from" "points_from" sPF f fd) (CA : Cal P w K mg base "point_after" 4 ["m", "x", "number"] (spAfter K) fA fdA)
    (mlen : mg "len" = none) : FnOk P w K mg base CX0 5 f fd ["m", "x", "start", "how_many"] (spPF K) := by
  refine F.ok scPF (fun vs H Q E h => ?_) (fun cdv A outer s H vs Q E hr h => ?_)
  · obtain ⟨m, p, q, x, z, k, rfl, _⟩ := h
    rfl
  · obtain ⟨m, p, q, x, z, k, rfl, h1, h4, hp, hq, hu, hv, hL, hz, hpt, k1, k60, kk⟩ := h
    refine ⟨_, pss_cons (ps_set (i := 4) scPF.nd rfl (Or.inl rfl) (pe_lst (pa_cons (pv 2) pa_nil)))
      (pss_cons (ps_while PassesOwn.never (pt_cmpR op_lt (pe_callB call_len_seq (by rfl) mlen PySem.boot_len (pa_cons (pv 4) pa_nil)) (pv 3) (nomark _))
        (pss_one (ps_expr (pe_bm PySem.F.plainAttrs_list PySem.F.slot_list_append PySem.F.type_list_append mt_append (pv 4)
          (pa_cons (pe_call CA.ok hr (by rfl) CA.mg CA.kp CA.b .nil pass0 (pa_cons (pv 0) (pa_cons (pv 1) (pa_cons (pe_ix ix_list (pv 4) (pe_un un_neg pe_int) (fun _ _ => rfl)) pa_nil)))) pa_nil)))))
      (pss_one (ps_ret (pv 4)))), ?_⟩
    refine ⟨_, rfl, (by show 1 ≤ sizeLine; decide), fun D hD => ?_⟩
    have e0 := same_new (o := .lst [.ref q]) hD
    refine ⟨fun n σ H' => σ = [some (.int m), some (.ref p), some (.ref q), some (.int k), some (.ref D)] ∧ Same H H' ∧ ∃ (j : Nat) (us : List V) (r : Addr), H' D = some (.lst (us ++ [.ref r])) ∧ PairsAt K D H' us (WP.rowL m x j z) ∧ PairO K D H' r (WP.nthL m x j z) ∧ j + 1 ≤ k ∧ n = k - j,
      ⟨_, rfl, e0, 0, [], q, upd_same, trivial, (pairO_new hD hq).mono off_upd, by omega, rfl⟩, ?_⟩
    rintro n σ H1 ⟨rfl, s1, j, us, r, hd, t, hr', jk, rfl⟩
    have ul := pairs_len t
    rw [WP.row_len] at ul
    refine ⟨_, rfl, D, _, rfl, .inl (SqL.of hd), _, rfl, _, _, rfl, rfl, _, rfl, ?_⟩
    have el : (us ++ [V.ref r]).length = j + 1 := by
      rw [List.length_append, ul]
      rfl
    rw [el]
    by_cases c : j + 1 < k
    · refine if_t (decide_eq_true (by omega)) ?_
      refine ⟨fun σ' H' => ∃ m', m' < k - j ∧ (σ' = [some (.int m), some (.ref p), some (.ref q), some (.int k), some (.ref D)] ∧ Same H H' ∧ ∃ (j : Nat) (us : List V) (r : Addr), H' D = some (.lst (us ++ [.ref r])) ∧ PairsAt K D H' us (WP.rowL m x j z) ∧ PairO K D H' r (WP.nthL m x j z) ∧ j + 1 ≤ k ∧ m' = k - j),
        fun σ' H' h => h, ?_⟩
      have nf := WP.nth_facts h1 h4 (x := x) (z := z) (by omega) (by omega) hL hpt j (by omega)
      refine ⟨_, rfl, .inl ⟨rfl, _, SqL.of hd⟩, _, rfl, _, rfl, _, rfl, _, rfl, D, _, _, _, rfl, rfl, SqL.of hd, atI_last us (.ref r), ?_⟩
      refine ⟨m, p, r, x, WP.nthL m x j z, rfl, h1, h4, s1.seq hp, hr'.now, hu, hv, by omega, fun H2 b s2 hb => ?_⟩
      have hd2 := s2 _ _ hd
      refine ⟨D, _, _, rfl, rfl, hd2, small1000 (by omega), k - (j + 1), by omega, rfl, same_off hD (s1.trans s2) off_upd, j + 1, us ++ [.ref r], b, upd_same, ?_, ?_, by omega, rfl⟩
      · rw [WP.row_snoc]
        exact pairs_append (pairs_off ((off_same s2).trans off_upd) t) ⟨⟨r, rfl, hr'.mono ((off_same s2).trans off_upd)⟩, trivial⟩
      · rw [WP.nth_succ]
        exact (pairO_tup hd2 hb).mono off_upd
    · refine if_f (decide_eq_false (by omega)) ?_
      have ej : k = j + 1 := by omega
      subst ej
      refine ⟨_, rfl, kk _ D _ hd ?_⟩
      rw [WP.row_snoc]
      exact pairs_append t ⟨⟨r, rfl, hr'⟩, trivial⟩
def spRow (K : PySem.W.Frag) : Sp := fun vs H Q _ => ∃ (m k : Int) (p q : Addr) (xs zs : List Int), vs = [.int m, .int k, .ref p, .ref q] ∧ 0 ≤ m ∧ 0 ≤ k ∧ SqL K H p (xs.map V.int) ∧ SqL K H q (zs.map V.int) ∧ xs.length ≤ 100 ∧ zs.length ≤ 100 ∧
  ∀ (H' : Hp) (l : Addr), H' l = some (.lst ((PyKzv2.row m k xs zs).map V.int)) → Q (.ref l) H'
theorem scRow : FnScope ["m", "k", "x", "z"] ["m", "k", "x", "z"] (defScope sRow) := ⟨rfl, rfl, rfl, by decide +kernel, rfl, by decide +kernel, by decide +kernel⟩
theorem ok_row {f fR fP fA fN : Addr} {fd fdR fdP fdA fdN : FuncData} {tN tP tL : Tok} (F : Fun K "row" "row" sRow f fd) (CR : Cal P w K mg base "are_right" 5 ["m", "x", "number"] (spRight K) fR fdR)
    (CP : Cal P w K mg base "is_point" 3 ["m", "x", "number"] (spPt K) fP fdP) (CA : Cal P w K mg base "points_from" 5 ["m", "x", "start", "how_many"] (spPF K) fA fdA)
    (CN : Cal P w K mg base "answer_of" 1 ["leading", "numbers"] (spAns K) fN fdN)
    (mN : mg "NOT_AS_TOLD" = some (.int (-22) tN)) (mP : mg "NOT_A_POINT" = some (.int (-2) tP)) (mL : mg "LONGEST_ROW" = some (.int 60 tL)) : FnOk P w K mg base CX0 6 f fd ["m", "k", "x", "z"] (spRow K) := by
  refine F.ok scRow (fun vs H Q E h => ?_) (fun cdv A outer s H vs Q E hr h => ?_)
  · obtain ⟨m, k, p, q, xs, zs, rfl, _⟩ := h
    rfl
  · obtain ⟨m, k, p, q, xs, zs, rfl, hm, hk, hp, hq, hx, hz, kk⟩ := h
    have hr1 : Room 1 _ := hr.mono (by decide)
    have hr3 : Room 3 _ := hr.mono (by decide)
    refine ⟨_, pss_cons (ps_if (PW.pt (pw_or (pt_not (pt_val (pe_call CR.ok hr (by rfl) CR.mg CR.kp CR.b .nil pass0 (pa_cons (pv 0) (pa_cons (pv 2) (pa_cons (pv 3) pa_nil))))))
        (pw_or1 (pt_not (pt_chain op_le op_le pe_int (pv 1) (pe_glob (v := .int 60) (by rfl) mL ⟨_, rfl⟩)))))) (pss_one (ps_ret (pe_lst (pa_cons (pe_glob (v := .int (-22)) (by rfl) mN ⟨_, rfl⟩) pa_nil)))) pss_nil)
      (pss_cons (ps_if (pt_not (pt_val (pe_call CP.ok hr3 (by rfl) CP.mg CP.kp CP.b .nil pass0 (pa_cons (pv 0) (pa_cons (pv 2) (pa_cons (pv 3) pa_nil)))))) (pss_one (ps_ret (pe_lst (pa_cons (pe_glob (v := .int (-2)) (by rfl) mP ⟨_, rfl⟩) pa_nil)))) pss_nil)
      (pss_one (ps_ret (pe_call CN.ok hr1 (by rfl) CN.mg CN.kp CN.b .nil pass0 (pa_cons (pv 1) (pa_cons (pe_call CA.ok hr (by rfl) CA.mg CA.kp CA.b .nil pass0 (pa_cons (pv 0) (pa_cons (pv 2) (pa_cons (pv 3) (pa_cons (pv 1) pa_nil))))) pa_nil)))))), ?_⟩
    refine ⟨_, rfl, _, rfl, _, rfl, m, p, q, xs, zs, rfl, hp, hq, hx, hz, fun H1 s1 => ⟨_, rfl, ?_⟩⟩
    rw [WP.row_of_is hm hk] at kk
    cases c : WP.right m xs zs with
    | false =>
      rw [c] at kk
      refine iteT ?_
      refine iteT ?_
      exact ⟨(by show 1 ≤ sizeLine; decide), fun l hl => kk _ l upd_same⟩
    | true =>
      rw [c, if_pos rfl] at kk
      refine iteF ?_
      have bad : ¬ (1 ≤ k ∧ k ≤ 60) → ∀ (l : Addr), H1 l = none → Q (.ref l) (upd H1 l (.lst [.int (-22)])) := fun n l hl => by
        rw [if_neg n] at kk
        exact kk _ l upd_same
      refine ⟨_, rfl, _, _, rfl, rfl, _, rfl, ?_⟩
      by_cases c1 : 1 ≤ k
      · refine if_t (decide_eq_true c1) ?_
        refine ⟨_, _, rfl, rfl, _, rfl, ?_⟩
        by_cases c2 : k ≤ 60
        · refine if_f (by rw [decide_eq_true c2]; rfl) ?_
          rw [if_pos ⟨c1, c2⟩] at kk
          obtain ⟨n, a, b, c', d, e, g, rfl, n1, n4, rfl, rfl, ba, bb, bc, bd, be, bg, hL⟩ := WP.right_of c
          obtain ⟨j, rfl⟩ : ∃ j : Nat, k = (j : Int) := ⟨k.toNat, by omega⟩
          have hu : InP ⟨a, b⟩ := ⟨by dsimp only; omega, by dsimp only; omega⟩
          have hv : InP ⟨c', d⟩ := ⟨by dsimp only; omega, by dsimp only; omega⟩
          refine ⟨_, rfl, _, rfl, _, rfl, n, p, q, ⟨⟨a, b⟩, ⟨c', d⟩⟩, ⟨e, g⟩, rfl, n1, n4, s1.seq hp, .inl (s1.seq hq), hu, hv, ⟨by dsimp only; omega, by dsimp only; omega⟩, fun H2 s2 => ⟨_, rfl, ?_⟩⟩
          have en : (n : Int).toNat = n := rfl
          have ej : (j : Int).toNat = j := rfl
          have ex : WP.winOf [a, b, c', d] = ⟨⟨a, b⟩, ⟨c', d⟩⟩ := rfl
          have ez : WP.zOf [e, g] = ⟨e, g⟩ := rfl
          rw [en, ej, ex, ez] at kk
          cases cp : Kzv2.isPoint n ⟨⟨a, b⟩, ⟨c', d⟩⟩ ⟨e, g⟩ with
          | false =>
            rw [cp] at kk
            refine iteT ?_
            exact ⟨(by show 1 ≤ sizeLine; decide), fun l hl => kk _ l upd_same⟩
          | true =>
            rw [cp, if_pos rfl, WP.row_is n1 n4 (x := ⟨⟨a, b⟩, ⟨c', d⟩⟩) ⟨(show -50000000 ≤ b ∧ b ≤ 50000000 by omega), (show -50000000 ≤ d ∧ d ≤ 50000000 by omega)⟩ hL j 0 ⟨e, g⟩ (by omega) (by show -(2000000 + 10 * (0 : Int)) ≤ g ∧ g ≤ 2000000 + 10 * 0; omega) cp] at kk
            refine iteF ?_
            refine ⟨_, rfl, _, rfl, _, rfl, _, rfl, _, rfl, n, p, q, ⟨⟨a, b⟩, ⟨c', d⟩⟩, ⟨e, g⟩, j, rfl, n1, n4, (s1.trans s2).seq hp, .inl ((s1.trans s2).seq hq), hu, hv, hL, ⟨be, bg⟩, cp, by omega, by omega, fun H3 D us hd t => ?_⟩
            exact ⟨j, D, D, us, _, rfl, SqL.of hd, t, by rw [WP.row_len]; omega, fun H' l hl => kk H' l hl⟩
        · refine if_t (by rw [decide_eq_false c2]; rfl) ?_
          exact ⟨(by show 1 ≤ sizeLine; decide), fun l hl => bad (fun z => c2 z.2) l hl⟩
      · refine if_f (decide_eq_false c1) ?_
        refine ⟨_, rfl, ?_⟩
        refine iteT ?_
        exact ⟨(by show 1 ≤ sizeLine; decide), fun l hl => bad (fun z => c1 z.1) l hl⟩
end
theorem all_mk {P : Program} {w : World} {K : PySem.W.Frag} {h : Heap} {mg : Str → Option Value} {fa f0 f1 f2 f3 f4 f5 f6 f7 f8 f9 f10 f11 f12 f13 : Addr} (X : K.In h) (G : h.Ns mainGlobals mg) (hfa : mg "row" = some (.ref fa))
    {od0 an0 od1 an1 od2 an2 od3 an3 od4 an4 od5 an5 od6 an6 od7 an7 od8 an8 od9 an9 od10 an10 od11 an11 od12 an12 od13 an13 : Option Addr} {sl0 sl1 sl2 sl3 sl4 sl5 sl6 sl7 sl8 sl9 sl10 sl11 sl12 sl13 : Array (Option Value)} {oc0 kV0 dc0 pm0 cd0 ct0 oc1 kV1 dc1 pm1 cd1 ct1 oc2 kV2 dc2 pm2 cd2 ct2 oc3 kV3 dc3 pm3 cd3 ct3 oc4 kV4 dc4 pm4 cd4 ct4 oc5 kV5 dc5 pm5 cd5 ct5 oc6 kV6 dc6 pm6 cd6 ct6 oc7 kV7 dc7 pm7 cd7 ct7 oc8 kV8 dc8 pm8 cd8 ct8 oc9 kV9 dc9 pm9 cd9 ct9 oc10 kV10 dc10 pm10 cd10 ct10 oc11 kV11 dc11 pm11 cd11 ct11 oc12 kV12 dc12 pm12 cd12 ct12 oc13 kV13 dc13 pm13 cd13 ct13 : Value} {t0 t2 t3 t4 : Tok}
    (a0 : PySem.W.nsIn K mainGlobals "is_below_zero" = some (some (.ref f0))) (l0 : K.lookup f0 = some ⟨oc0, od0, .func (PySem.W.fnOf "is_below_zero" "is_below_zero" (defArgs sB0) (defBody sB0) (defScope sB0) .none kV0 dc0 pm0 an0 cd0 ct0), sl0⟩) (c0 : PySem.W.codeIn K cd0 "is_below_zero" = true) (k0 : PySem.W.keepIn K (.ref f0) = true)
    (a1 : PySem.W.nsIn K mainGlobals "is_below" = some (some (.ref f1))) (l1 : K.lookup f1 = some ⟨oc1, od1, .func (PySem.W.fnOf "is_below" "is_below" (defArgs sBel) (defBody sBel) (defScope sBel) .none kV1 dc1 pm1 an1 cd1 ct1), sl1⟩) (c1 : PySem.W.codeIn K cd1 "is_below" = true) (k1 : PySem.W.keepIn K (.ref f1) = true)
    (a2 : PySem.W.nsIn K mainGlobals "moved" = some (some (.ref f2))) (l2 : K.lookup f2 = some ⟨oc2, od2, .func (PySem.W.fnOf "moved" "moved" (defArgs sMov) (defBody sMov) (defScope sMov) .none kV2 dc2 pm2 an2 cd2 ct2), sl2⟩) (c2 : PySem.W.codeIn K cd2 "moved" = true) (k2 : PySem.W.keepIn K (.ref f2) = true)
    (a3 : PySem.W.nsIn K mainGlobals "partner_of" = some (some (.ref f3))) (l3 : K.lookup f3 = some ⟨oc3, od3, .func (PySem.W.fnOf "partner_of" "partner_of" (defArgs sPar) (defBody sPar) (defScope sPar) .none kV3 dc3 pm3 an3 cd3 ct3), sl3⟩) (c3 : PySem.W.codeIn K cd3 "partner_of" = true) (k3 : PySem.W.keepIn K (.ref f3) = true)
    (a4 : PySem.W.nsIn K mainGlobals "is_as_told" = some (some (.ref f4))) (l4 : K.lookup f4 = some ⟨oc4, od4, .func (PySem.W.fnOf "is_as_told" "is_as_told" (defArgs sTold) (defBody sTold) (defScope sTold) .none kV4 dc4 pm4 an4 cd4 ct4), sl4⟩) (c4 : PySem.W.codeIn K cd4 "is_as_told" = true) (k4 : PySem.W.keepIn K (.ref f4) = true)
    (a5 : PySem.W.nsIn K mainGlobals "is_window" = some (some (.ref f5))) (l5 : K.lookup f5 = some ⟨oc5, od5, .func (PySem.W.fnOf "is_window" "is_window" (defArgs sWin) (defBody sWin) (defScope sWin) .none kV5 dc5 pm5 an5 cd5 ct5), sl5⟩) (c5 : PySem.W.codeIn K cd5 "is_window" = true) (k5 : PySem.W.keepIn K (.ref f5) = true)
    (a6 : PySem.W.nsIn K mainGlobals "is_right_window" = some (some (.ref f6))) (l6 : K.lookup f6 = some ⟨oc6, od6, .func (PySem.W.fnOf "is_right_window" "is_right_window" (defArgs sRW) (defBody sRW) (defScope sRW) .none kV6 dc6 pm6 an6 cd6 ct6), sl6⟩) (c6 : PySem.W.codeIn K cd6 "is_right_window" = true) (k6 : PySem.W.keepIn K (.ref f6) = true)
    (a7 : PySem.W.nsIn K mainGlobals "are_right" = some (some (.ref f7))) (l7 : K.lookup f7 = some ⟨oc7, od7, .func (PySem.W.fnOf "are_right" "are_right" (defArgs sRight) (defBody sRight) (defScope sRight) .none kV7 dc7 pm7 an7 cd7 ct7), sl7⟩) (c7 : PySem.W.codeIn K cd7 "are_right" = true) (k7 : PySem.W.keepIn K (.ref f7) = true)
    (a8 : PySem.W.nsIn K mainGlobals "is_point" = some (some (.ref f8))) (l8 : K.lookup f8 = some ⟨oc8, od8, .func (PySem.W.fnOf "is_point" "is_point" (defArgs sPt) (defBody sPt) (defScope sPt) .none kV8 dc8 pm8 an8 cd8 ct8), sl8⟩) (c8 : PySem.W.codeIn K cd8 "is_point" = true) (k8 : PySem.W.keepIn K (.ref f8) = true)
    (a9 : PySem.W.nsIn K mainGlobals "steps_below_longest" = some (some (.ref f9))) (l9 : K.lookup f9 = some ⟨oc9, od9, .func (PySem.W.fnOf "steps_below_longest" "steps_below_longest" (defArgs sSteps) (defBody sSteps) (defScope sSteps) .none kV9 dc9 pm9 an9 cd9 ct9), sl9⟩) (c9 : PySem.W.codeIn K cd9 "steps_below_longest" = true) (k9 : PySem.W.keepIn K (.ref f9) = true)
    (a10 : PySem.W.nsIn K mainGlobals "point_after" = some (some (.ref f10))) (l10 : K.lookup f10 = some ⟨oc10, od10, .func (PySem.W.fnOf "point_after" "point_after" (defArgs sAfter) (defBody sAfter) (defScope sAfter) .none kV10 dc10 pm10 an10 cd10 ct10), sl10⟩) (c10 : PySem.W.codeIn K cd10 "point_after" = true) (k10 : PySem.W.keepIn K (.ref f10) = true)
    (a11 : PySem.W.nsIn K mainGlobals "points_from" = some (some (.ref f11))) (l11 : K.lookup f11 = some ⟨oc11, od11, .func (PySem.W.fnOf "points_from" "points_from" (defArgs sPF) (defBody sPF) (defScope sPF) .none kV11 dc11 pm11 an11 cd11 ct11), sl11⟩) (c11 : PySem.W.codeIn K cd11 "points_from" = true) (k11 : PySem.W.keepIn K (.ref f11) = true)
    (a12 : PySem.W.nsIn K mainGlobals "answer_of" = some (some (.ref f12))) (l12 : K.lookup f12 = some ⟨oc12, od12, .func (PySem.W.fnOf "answer_of" "answer_of" (defArgs sAns) (defBody sAns) (defScope sAns) .none kV12 dc12 pm12 an12 cd12 ct12), sl12⟩) (c12 : PySem.W.codeIn K cd12 "answer_of" = true) (k12 : PySem.W.keepIn K (.ref f12) = true)
    (a13 : PySem.W.nsIn K mainGlobals "row" = some (some (.ref f13))) (l13 : K.lookup f13 = some ⟨oc13, od13, .func (PySem.W.fnOf "row" "row" (defArgs sRow) (defBody sRow) (defScope sRow) .none kV13 dc13 pm13 an13 cd13 ct13), sl13⟩) (c13 : PySem.W.codeIn K cd13 "row" = true) (k13 : PySem.W.keepIn K (.ref f13) = true)
    (gc0 : PySem.W.nsIn K mainGlobals "FARTHEST" = some (some (.int 1000000 t0)))
    {pa1 : Addr} {po1 : Option Addr} {pt1 pu1 : Tok} {pn1 : Nat} {ps1 : Array (Option Value)}
    (gc1 : PySem.W.nsIn K mainGlobals "LONGEST_STEP" = some (some (.ref pa1))) (pl1 : K.lookup pa1 = some ⟨.type "tuple", po1, .seq #[.int 1 pt1, .int 1 pu1] pn1, ps1⟩)
    (gc2 : PySem.W.nsIn K mainGlobals "NOT_AS_TOLD" = some (some (.int (-22) t2)))
    (gc3 : PySem.W.nsIn K mainGlobals "NOT_A_POINT" = some (some (.int (-2) t3)))
    (gc4 : PySem.W.nsIn K mainGlobals "LONGEST_ROW" = some (some (.int 60 t4)))
    (z0 : PySem.W.nsIn K mainGlobals "len" = some none)
    (z1 : PySem.W.nsIn K mainGlobals "all" = some none)
    (z2 : PySem.W.nsIn K mainGlobals "range" = some none) :
    ∃ fd : FuncData, (∀ (s : Shared) (us : List Value), us.length = (["m", "k", "x", "z"] : List Str).length → BindsTo s fd ⟨us, []⟩ ((["m", "k", "x", "z"] : List Str).zip us)) ∧ ∀ base : Heap, K.In base → base.Ns mainGlobals mg → FnOk P w K mg base CX0 6 fa fd ["m", "k", "x", "z"] (spRow K) := by
  have e := hfa.symm.trans (PySem.W.mg_of X G a13)
  cases e
  have F0 := fun_mk (st := sB0) l0 c0 k0
  have F1 := fun_mk (st := sBel) l1 c1 k1
  have F2 := fun_mk (st := sMov) l2 c2 k2
  have F3 := fun_mk (st := sPar) l3 c3 k3
  have F4 := fun_mk (st := sTold) l4 c4 k4
  have F5 := fun_mk (st := sWin) l5 c5 k5
  have F6 := fun_mk (st := sRW) l6 c6 k6
  have F7 := fun_mk (st := sRight) l7 c7 k7
  have F8 := fun_mk (st := sPt) l8 c8 k8
  have F9 := fun_mk (st := sSteps) l9 c9 k9
  have F10 := fun_mk (st := sAfter) l10 c10 k10
  have F11 := fun_mk (st := sPF) l11 c11 k11
  have F12 := fun_mk (st := sAns) l12 c12 k12
  have F13 := fun_mk (st := sRow) l13 c13 k13
  refine ⟨PySem.W.fnOf "row" "row" (defArgs sRow) (defBody sRow) (defScope sRow) .none kV13 dc13 pm13 an13 cd13 ct13, fun s us hu => match us, hu with | [_, _, _, _], _ => .of_eq rfl, fun base _ _ => ?_⟩
  have C4 : Cal P w K mg base "is_as_told" 1 ["told", "how_many"] (spTold K) f4 _ := ⟨ok_told F4 (PySem.W.mg_of X G gc0) (PySem.W.mg_none_of X G z0) (PySem.W.mg_none_of X G z1), PySem.W.mg_of X G a4, k4, F4.binds fun _ _ _ _ _ _ us hl => match us, hl with | [_, _], _ => rfl⟩
  have C0 : Cal P w K mg base "is_below_zero" 1 ["m", "a", "b"] spB0 f0 _ := ⟨ok_b0 F0, PySem.W.mg_of X G a0, k0, F0.binds fun _ _ _ _ _ _ us hl => match us, hl with | [_, _, _], _ => rfl⟩
  have C1 : Cal P w K mg base "is_below" 2 ["m", "left", "right"] (spBel K) f1 _ := ⟨ok_bel F1 C0, PySem.W.mg_of X G a1, k1, F1.binds fun _ _ _ _ _ _ us hl => match us, hl with | [_, _, _], _ => rfl⟩
  have C5 : Cal P w K mg base "is_window" 3 ["m", "x"] (spWin K) f5 _ := ⟨ok_win F5 C4 C1, PySem.W.mg_of X G a5, k5, F5.binds fun _ _ _ _ _ _ us hl => match us, hl with | [_, _], _ => rfl⟩
  have C6 : Cal P w K mg base "is_right_window" 4 ["m", "x"] (spRW K) f6 _ := ⟨ok_rw F6 C5, PySem.W.mg_of X G a6, k6, F6.binds fun _ _ _ _ _ _ us hl => match us, hl with | [_, _], _ => rfl⟩
  have C7 : Cal P w K mg base "are_right" 5 ["m", "x", "number"] (spRight K) f7 _ := ⟨ok_right F7 C4 C6, PySem.W.mg_of X G a7, k7, F7.binds fun _ _ _ _ _ _ us hl => match us, hl with | [_, _, _], _ => rfl⟩
  have C3 : Cal P w K mg base "partner_of" 1 ["m", "number"] (spPar K) f3 _ := ⟨ok_par F3, PySem.W.mg_of X G a3, k3, F3.binds fun _ _ _ _ _ _ us hl => match us, hl with | [_, _], _ => rfl⟩
  have C8 : Cal P w K mg base "is_point" 3 ["m", "x", "number"] (spPt K) f8 _ := ⟨ok_pt F8 C3 C1, PySem.W.mg_of X G a8, k8, F8.binds fun _ _ _ _ _ _ us hl => match us, hl with | [_, _, _], _ => rfl⟩
  have C9 : Cal P w K mg base "steps_below_longest" 1 ["m"] spSteps f9 _ := ⟨ok_steps F9 (PySem.W.mg_none_of X G z2), PySem.W.mg_of X G a9, k9, F9.binds fun _ _ _ _ _ _ us hl => match us, hl with | [_], _ => rfl⟩
  have C2 : Cal P w K mg base "moved" 1 ["number", "step"] (spMov K) f2 _ := ⟨ok_mov F2, PySem.W.mg_of X G a2, k2, F2.binds fun _ _ _ _ _ _ us hl => match us, hl with | [_, _], _ => rfl⟩
  have C10 : Cal P w K mg base "point_after" 4 ["m", "x", "number"] (spAfter K) f10 _ := ⟨ok_after F10 C9 C2 C8 (PySem.W.mg_of X G gc1) ⟨_, _, _, pl1, rfl, rfl, by show 2 ≤ sizeLine; decide, .cons ⟨_, rfl⟩ (.cons ⟨_, rfl⟩ .nil)⟩, PySem.W.mg_of X G a10, k10, F10.binds fun _ _ _ _ _ _ us hl => match us, hl with | [_, _, _], _ => rfl⟩
  have C11 : Cal P w K mg base "points_from" 5 ["m", "x", "start", "how_many"] (spPF K) f11 _ := ⟨ok_pf F11 C10 (PySem.W.mg_none_of X G z0), PySem.W.mg_of X G a11, k11, F11.binds fun _ _ _ _ _ _ us hl => match us, hl with | [_, _, _, _], _ => rfl⟩
  have C12 : Cal P w K mg base "answer_of" 1 ["leading", "numbers"] (spAns K) f12 _ := ⟨ok_ans F12, PySem.W.mg_of X G a12, k12, F12.binds fun _ _ _ _ _ _ us hl => match us, hl with | [_, _], _ => rfl⟩
  exact ok_row F13 C7 C8 C11 C12 (PySem.W.mg_of X G gc2) (PySem.W.mg_of X G gc3) (PySem.W.mg_of X G gc4)
end WPy
open PySem PySem.W PyProof.Rows
set_option maxRecDepth 100000 in
set_option maxHeartbeats 8000000 in
theorem PySem.Challenge.cw_windowpoints_s05_row_holds : PySem.Challenge.rw_windowpoints_s05_row.Holds := by
  w_on; k_headS; (case hw => exact ⟨[.int 0, .int 0, .list [], .list []], by decide +kernel, by decide +kernel⟩)
  k_fillS
  refine L2.walk_specK (r := PySem.Challenge.rw_windowpoints_s05_row) (k := 6) (CX := L2.CX0) (ps := ["m", "k", "x", "z"]) (sp := WPy.spRow) (by decide +kernel) rfl rfl ⟨rfl, by decide, by decide⟩ (fun w h Y => PySem.W.kIn_of Y) ?F ?S (fun _ _ _ _ z => z)
  case F =>
    intro w mg fa h Y KX G hmg
    refine' WPy.all_mk KX G hmg ?a0 ?l0 ?c0 ?k0 ?a1 ?l1 ?c1 ?k1 ?a2 ?l2 ?c2 ?k2 ?a3 ?l3 ?c3 ?k3 ?a4 ?l4 ?c4 ?k4 ?a5 ?l5 ?c5 ?k5 ?a6 ?l6 ?c6 ?k6 ?a7 ?l7 ?c7 ?k7 ?a8 ?l8 ?c8 ?k8 ?a9 ?l9 ?c9 ?k9 ?a10 ?l10 ?c10 ?k10 ?a11 ?l11 ?c11 ?k11 ?a12 ?l12 ?c12 ?k12 ?a13 ?l13 ?c13 ?k13 ?gc0 ?gc1 ?pl1 ?gc2 ?gc3 ?gc4 ?z0 ?z1 ?z2
    (case a0 => k_is)
    (case l0 => k_is)
    (case c0 => k_is)
    (case k0 => k_is)
    (case a1 => k_is)
    (case l1 => k_is)
    (case c1 => k_is)
    (case k1 => k_is)
    (case a2 => k_is)
    (case l2 => k_is)
    (case c2 => k_is)
    (case k2 => k_is)
    (case a3 => k_is)
    (case l3 => k_is)
    (case c3 => k_is)
    (case k3 => k_is)
    (case a4 => k_is)
    (case l4 => k_is)
    (case c4 => k_is)
    (case k4 => k_is)
    (case a5 => k_is)
    (case l5 => k_is)
    (case c5 => k_is)
    (case k5 => k_is)
    (case a6 => k_is)
    (case l6 => k_is)
    (case c6 => k_is)
    (case k6 => k_is)
    (case a7 => k_is)
    (case l7 => k_is)
    (case c7 => k_is)
    (case k7 => k_is)
    (case a8 => k_is)
    (case l8 => k_is)
    (case c8 => k_is)
    (case k8 => k_is)
    (case a9 => k_is)
    (case l9 => k_is)
    (case c9 => k_is)
    (case k9 => k_is)
    (case a10 => k_is)
    (case l10 => k_is)
    (case c10 => k_is)
    (case k10 => k_is)
    (case a11 => k_is)
    (case l11 => k_is)
    (case c11 => k_is)
    (case k11 => k_is)
    (case a12 => k_is)
    (case l12 => k_is)
    (case c12 => k_is)
    (case k12 => k_is)
    (case a13 => k_is)
    (case l13 => k_is)
    (case c13 => k_is)
    (case k13 => k_is)
    (case gc0 => k_is)
    (case gc1 => k_is)
    (case pl1 => k_is)
    (case gc2 => k_is)
    (case gc3 => k_is)
    (case gc4 => k_is)
    (case z0 => k_is)
    (case z1 => k_is)
    (case z2 => k_is)
  case S =>
    intro K H xs a hO hwi hask hx
    obtain ⟨A0, A1, A2, A3, u⟩ := a
    cases hx with
    | cons h0 r0 =>
      cases r0 with
      | cons h1 r1 =>
        cases r1 with
        | cons h2 r2 =>
          cases r2 with
          | cons h3 r3 =>
            cases r3
            cases h0
            cases h1
            cases h2 with
            | lst hs2 ha2 =>
              have e2 := L2.ints_dw A2 _ ha2
              subst e2
              cases h3 with
              | lst hs3 ha3 =>
                have e3 := L2.ints_dw A3 _ ha3
                subst e3
                have q : (Codec.inInt 0 4294967295 A0 && (Codec.inInt 0 4294967295 A1 && ((Codec.inLen 0 8 A2 && A2.all (Codec.inInt (-2147483647) 2147483647)) && ((Codec.inLen 0 8 A3 && A3.all (Codec.inInt (-2147483647) 2147483647)) && true)))) = true := hwi
                rw [Bool.and_eq_true, Bool.and_eq_true, Bool.and_eq_true, Bool.and_eq_true, Bool.and_eq_true, Bool.and_eq_true] at q
                have q0 : 0 ≤ A0 := by
                  have := q.1
                  unfold Codec.inInt at this
                  simp only [Bool.and_eq_true, decide_eq_true_eq] at this
                  exact this.1
                have q1 : 0 ≤ A1 := by
                  have := q.2.1
                  unfold Codec.inInt at this
                  simp only [Bool.and_eq_true, decide_eq_true_eq] at this
                  exact this.1
                have q2 := (Codec.inNat_iff.mp q.2.2.1.1).2
                have q3 := (Codec.inNat_iff.mp q.2.2.2.1.1).2
                exact ⟨A0, A1, _, _, A2, A3, rfl, q0, q1, hs2, hs3, by omega, by omega, fun H' p hp => .lst (L2.SqL.of hp) (L2.dw_ints _)⟩
#print axioms PySem.Challenge.cw_windowpoints_s05_row_holds
