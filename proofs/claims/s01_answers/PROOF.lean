import PyProof.Rows.All
import Wide.All
import OpenK.AllK
import Wide.FinOn
import Open.SpecLaws
import KE.OsGo
import KE.GoesRaise
import HandS.ForSpec
import HandS.Comp
import HandS.TryMany
import HandS.Wide
import PySem.Challenge.RW_threebouts_s01_answers
set_option Elab.async false
set_option linter.all false
set_option maxRecDepth 100000
set_option maxHeartbeats 4000000
/-! The mathematics of the play-off: what the program reckons is what the specification tells. No Python here. -/
namespace TB
open Sj12
/-- strengths that the program may hold -/
def Ok (t : Three) : Prop := t.a ≤ 100 ∧ t.b ≤ 100 ∧ t.c ≤ 100
theorem ok_init : Ok Sj12.init := ⟨by decide, by decide, by decide⟩
theorem pairs {i k : Nat} (hi : i < 3) (hk : k < 3) (ne : i ≠ k) : (i = 0 ∧ k = 1) ∨ (i = 0 ∧ k = 2) ∨ (i = 1 ∧ k = 0) ∨ (i = 1 ∧ k = 2) ∨ (i = 2 ∧ k = 0) ∨ (i = 2 ∧ k = 1) := by omega
theorem wins_le {t : Three} (h : Ok t) (i k : Nat) : t.wins i k ≤ 100 := by
  obtain ⟨h1, h2, h3⟩ := h
  unfold Three.wins
  split <;> (try split) <;> (try split) <;> (try split) <;> (try split) <;> (try split) <;> omega
theorem wins_sum {t : Three} (h : Ok t) {i k : Nat} (hi : i < 3) (hk : k < 3) (ne : i ≠ k) : t.wins i k + t.wins k i = 100 := by
  obtain ⟨h1, h2, h3⟩ := h
  rcases pairs hi hk ne with ⟨rfl, rfl⟩ | ⟨rfl, rfl⟩ | ⟨rfl, rfl⟩ | ⟨rfl, rfl⟩ | ⟨rfl, rfl⟩ | ⟨rfl, rfl⟩ <;> simp [Three.wins] <;> omega
def lst (t : Three) : List Nat := [t.a, t.b, t.c]
/-- how the program looks a strength up -/
theorem share_fwd {t : Three} {i k : Nat} (hi : i < 3) (hk : k < 3) (e : k = (i + 1) % 3) : (lst t)[i]? = some (t.wins i k) := by
  have : i = 0 ∨ i = 1 ∨ i = 2 := by omega
  rcases this with rfl | rfl | rfl <;> subst e <;> rfl
theorem share_back {t : Three} {i k : Nat} (hi : i < 3) (hk : k < 3) (ne : i ≠ k) (e : k ≠ (i + 1) % 3) : ∃ z, (lst t)[k]? = some z ∧ t.wins i k = 100 - z := by
  rcases pairs hi hk ne with ⟨rfl, rfl⟩ | ⟨rfl, rfl⟩ | ⟨rfl, rfl⟩ | ⟨rfl, rfl⟩ | ⟨rfl, rfl⟩ | ⟨rfl, rfl⟩ <;>
    first
    | exact absurd rfl e
    | exact ⟨_, rfl, rfl⟩
/-! ### a time round -/
structure S where
  h : Nat
  b : Nat
  l : Nat
  n : Nat
  w : List Int
def S.next (t : Three) (s : S) : S :=
  ⟨3 - s.h - s.b, s.h, s.l * t.wins (3 - s.h - s.b) s.h / 100, s.n + s.l, s.w.set s.h ((s.l : Int) - (s.l * t.wins (3 - s.h - s.b) s.h / 100 : Nat))⟩
def S.at_ (t : Three) (i k : Nat) : Nat → S
  | 0 => ⟨i, k, 1000000, 0, [0, 0, 0]⟩
  | m + 1 => (S.at_ t i k m).next t
structure S.Good (s : S) : Prop where
  h : s.h < 3
  b : s.b < 3
  ne : s.h ≠ s.b
  w : s.w.length = 3
  l : s.l ≤ 1000000
theorem S.good {t : Three} (o : Ok t) {i k : Nat} (hi : i < 3) (hk : k < 3) (ne : i ≠ k) : ∀ m, (S.at_ t i k m).Good
  | 0 => ⟨hi, hk, ne, rfl, Nat.le_refl _⟩
  | m + 1 => by
    have g := S.good o hi hk ne m
    generalize e : S.at_ t i k m = s at g
    show (S.next t (S.at_ t i k m)).Good
    rw [e]
    obtain ⟨g1, g2, g3, g4, g5⟩ := g
    refine ⟨?_, g1, ?_, ?_, ?_⟩
    · show 3 - s.h - s.b < 3
      omega
    · show 3 - s.h - s.b ≠ s.h
      omega
    · show (s.w.set s.h _).length = 3
      rw [List.length_set]
      exact g4
    · show s.l * t.wins (3 - s.h - s.b) s.h / 100 ≤ 1000000
      have w := wins_le o (3 - s.h - s.b) s.h
      have : s.l * t.wins (3 - s.h - s.b) s.h ≤ 1000000 * 100 := Nat.mul_le_mul g5 w
      omega
/-- of a million rounds, how many each wins -/
def won (t : Three) (i k x : Nat) : Nat := if x = i then t.at_ i k else if x = k then t.last i k else t.next i k
def long3 (t : Three) (i k : Nat) : Nat := t.at_ i k + 2 * t.next i k + 3 * (t.last i k + t.back i k)
theorem three_done {t : Three} (o : Ok t) {i k : Nat} (hi : i < 3) (hk : k < 3) (ne : i ≠ k) :
    (S.at_ t i k 3).n = long3 t i k ∧ (S.at_ t i k 3).w = [(won t i k 0 : Int), (won t i k 1 : Int), (won t i k 2 : Int)] ∧ won t i k 0 + won t i k 1 + won t i k 2 = 1000000 - t.back i k ∧ t.back i k ≤ 1000000 := by
  have e3 : 3 - i - k < 3 := by omega
  have n1 : 3 - i - k ≠ i := by omega
  have n2 : 3 - i - k ≠ k := by omega
  have s1 := wins_sum o e3 hi n1
  have s2 := wins_sum o hk e3 (Ne.symm n2)
  have s3 := wins_sum o hi hk ne
  have q1 : 3 - (3 - i - k) - i = k := by omega
  have q2 : 3 - k - (3 - i - k) = i := by omega
  obtain ⟨x, hx⟩ : ∃ x, t.wins (3 - i - k) i = x := ⟨_, rfl⟩
  obtain ⟨y, hy⟩ : ∃ y, t.wins k (3 - i - k) = y := ⟨_, rfl⟩
  obtain ⟨z, hz⟩ : ∃ z, t.wins i k = z := ⟨_, rfl⟩
  have hx' : t.wins i (3 - i - k) = 100 - x := by omega
  have hy' : t.wins (3 - i - k) k = 100 - y := by omega
  have hz' : t.wins k i = 100 - z := by omega
  have bx : x ≤ 100 := by omega
  have by' : y ≤ 100 := by omega
  have bz : z ≤ 100 := by omega
  have m1 : x * y ≤ 100 * 100 := Nat.mul_le_mul bx by'
  have a1 : t.at_ i k = 10000 * (100 - x) := by simp only [Three.at_, other, hx']
  have a2 : t.next i k = 100 * (x * 100 - x * y) := by simp only [Three.next, other, hx, hy', Nat.mul_sub]
  have a3 : t.last i k = x * y * 100 - x * y * z := by simp only [Three.last, other, hx, hy, hz', Nat.mul_sub, Nat.mul_assoc]
  have a4 : t.back i k = x * y * z := by simp only [Three.back, other, hx, hy, hz, Nat.mul_assoc]
  obtain ⟨p, hp⟩ : ∃ p, x * y = p := ⟨_, rfl⟩
  have pb : p ≤ x * 100 := by rw [← hp]; exact Nat.mul_le_mul (Nat.le_refl _) by'
  obtain ⟨r, hr⟩ : ∃ r, p * z = r := ⟨_, rfl⟩
  have rb : r ≤ p * 100 := by rw [← hr]; exact Nat.mul_le_mul (Nat.le_refl _) bz
  rw [hp] at a2 a3 a4 m1
  rw [hr] at a3 a4
  have d1 : 1000000 * x / 100 = 10000 * x := by omega
  have d2 : 10000 * x * y / 100 = 100 * p := by rw [Nat.mul_assoc, hp]; omega
  have d3 : 100 * p * z / 100 = r := by rw [Nat.mul_assoc, hr]; omega
  have st : S.at_ t i k 3 = ⟨i, k, r, 0 + 1000000 + 10000 * x + 100 * p, ((([0, 0, 0] : List Int).set i ((1000000 : Nat) - (10000 * x : Nat) : Int)).set (3 - i - k) ((10000 * x : Nat) - (100 * p : Nat) : Int)).set k ((100 * p : Nat) - (r : Nat) : Int)⟩ := by
    simp only [S.at_, S.next, q1, q2, hx, hy, hz, d1, d2, d3]
  refine ⟨?_, ?_, ?_, ?_⟩
  · rw [st]
    show 0 + 1000000 + 10000 * x + 100 * p = long3 t i k
    unfold long3
    omega
  · rw [st]
    show (((([0, 0, 0] : List Int).set i ((1000000 : Nat) - (10000 * x : Nat) : Int)).set (3 - i - k) ((10000 * x : Nat) - (100 * p : Nat) : Int)).set k ((100 * p : Nat) - (r : Nat) : Int)) = _
    have c1 : ((1000000 : Nat) - (10000 * x : Nat) : Int) = (t.at_ i k : Nat) := by omega
    have c2 : ((10000 * x : Nat) - (100 * p : Nat) : Int) = (t.next i k : Nat) := by omega
    have c3 : ((100 * p : Nat) - (r : Nat) : Int) = (t.last i k : Nat) := by omega
    rw [c1, c2, c3]
    rcases pairs hi hk ne with ⟨rfl, rfl⟩ | ⟨rfl, rfl⟩ | ⟨rfl, rfl⟩ | ⟨rfl, rfl⟩ | ⟨rfl, rfl⟩ | ⟨rfl, rfl⟩ <;> simp [won, List.set]
  · have : won t i k 0 + won t i k 1 + won t i k 2 = t.at_ i k + t.next i k + t.last i k := by
      rcases pairs hi hk ne with ⟨rfl, rfl⟩ | ⟨rfl, rfl⟩ | ⟨rfl, rfl⟩ | ⟨rfl, rfl⟩ | ⟨rfl, rfl⟩ | ⟨rfl, rfl⟩ <;> simp [won] <;> omega
    omega
  · omega
end TB
namespace TB
open Sj12
/-! ### fractions -/
structure Low (f : Frac) : Prop where
  pos : 0 < f.d
  cop : Nat.gcd f.n f.d = 1
theorem frac_eq {n d : Nat} (h : 0 < d) : frac n d = ⟨n / Nat.gcd n d, d / Nat.gcd n d⟩ := by
  have g : 0 < Nat.gcd n d := Nat.gcd_pos_of_pos_right _ h
  show (if Nat.gcd n d = 0 then (⟨0, 1⟩ : Frac) else _) = _
  rw [if_neg (by omega)]
theorem frac_low {n d : Nat} (h : 0 < d) : Low (frac n d) := by
  have g : 0 < Nat.gcd n d := Nat.gcd_pos_of_pos_right _ h
  rw [frac_eq h]
  refine ⟨Nat.div_pos (Nat.le_of_dvd h (Nat.gcd_dvd_right n d)) g, ?_⟩
  show Nat.gcd (n / Nat.gcd n d) (d / Nat.gcd n d) = 1
  rw [Nat.gcd_div (Nat.gcd_dvd_left n d) (Nat.gcd_dvd_right n d), Nat.div_self g]
theorem frac_d_le {n d : Nat} (h : 0 < d) : (frac n d).d ≤ d := by
  rw [frac_eq h]
  exact Nat.div_le_self _ _
theorem frac_n_le {n d : Nat} (h : 0 < d) : (frac n d).n ≤ n := by
  rw [frac_eq h]
  exact Nat.div_le_self _ _
theorem frac_back {f : Frac} (l : Low f) {c : Nat} (h : 0 < c) : frac (c * f.n) (c * f.d) = f := by
  have g : Nat.gcd (c * f.n) (c * f.d) = c := by rw [Nat.gcd_mul_left, l.cop, Nat.mul_one]
  rw [frac_eq (Nat.mul_pos h l.pos), g, Nat.mul_div_cancel_left _ h, Nat.mul_div_cancel_left _ h]
/-- the two ways of a first bout, together -/
def meanF (p : Nat) (u v : Frac) : Frac := frac (p * u.n * v.d + (100 - p) * v.n * u.d) (100 * u.d * v.d)
def meanO (p : Nat) : Option Frac → Option Frac → Option Frac
  | some u, some v => some (meanF p u v)
  | _, _ => none
theorem mean_mix {p : Nat} {x y : Option Frac} (hx : x = none → p = 100) (hy : y = none → p = 0) (lx : ∀ u, x = some u → Low u) (ly : ∀ v, y = some v → Low v) : meanO p x y = mix p x y := by
  unfold mix
  cases x with
  | none =>
    have e := hx rfl
    subst e
    rw [if_neg (by decide), if_pos rfl]
    rfl
  | some u =>
    cases y with
    | none =>
      have e := hy rfl
      subst e
      rw [if_pos rfl]
      rfl
    | some v =>
      have lu := lx u rfl
      have lv := ly v rfl
      by_cases h0 : p = 0
      · subst h0
        rw [if_pos rfl]
        show some (frac (0 * u.n * v.d + 100 * v.n * u.d) (100 * u.d * v.d)) = some v
        have e : 0 * u.n * v.d + 100 * v.n * u.d = 100 * u.d * v.n := by
          rw [Nat.zero_mul, Nat.zero_mul, Nat.zero_add, Nat.mul_assoc, Nat.mul_comm v.n, ← Nat.mul_assoc]
        rw [e, frac_back lv (Nat.mul_pos (by decide) lu.pos)]
      · rw [if_neg h0]
        by_cases h1 : p = 100
        · subst h1
          rw [if_pos rfl]
          show some (frac (100 * u.n * v.d + 0 * v.n * u.d) (100 * u.d * v.d)) = some u
          have e : 100 * u.n * v.d + 0 * v.n * u.d = 100 * v.d * u.n := by
            rw [Nat.zero_mul, Nat.zero_mul, Nat.add_zero, Nat.mul_assoc, Nat.mul_comm u.n, ← Nat.mul_assoc]
          have e2 : 100 * u.d * v.d = 100 * v.d * u.d := by rw [Nat.mul_assoc, Nat.mul_comm u.d, ← Nat.mul_assoc]
          rw [e, e2, frac_back lu (Nat.mul_pos (by decide) lv.pos)]
        · rw [if_neg h1]
          rfl
/-! ### for ever -/
theorem prod_full {x y z : Nat} (hx : x ≤ 100) (hy : y ≤ 100) (hz : z ≤ 100) (e : 1000000 ≤ x * (y * z)) : x = 100 ∧ y = 100 ∧ z = 100 := by
  have a : y * z ≤ 100 * z := Nat.mul_le_mul hy (Nat.le_refl _)
  have b : y * z ≤ y * 100 := Nat.mul_le_mul (Nat.le_refl _) hz
  have c : x * (y * z) ≤ 100 * (y * z) := Nat.mul_le_mul hx (Nat.le_refl _)
  have d : x * (y * z) ≤ x * (100 * 100) := Nat.mul_le_mul (Nat.le_refl _) (Nat.mul_le_mul hy hz)
  omega
def Ever (t : Three) : Prop := (t.a = 100 ∧ t.b = 100 ∧ t.c = 100) ∨ (t.a = 0 ∧ t.b = 0 ∧ t.c = 0)
theorem back_full {t : Three} (o : Ok t) {i k : Nat} (e : 1000000 ≤ t.back i k) : t.wins (other i k) i = 100 ∧ t.wins k (other i k) = 100 ∧ t.wins i k = 100 :=
  prod_full (wins_le o _ _) (wins_le o _ _) (wins_le o _ _) e
theorem ever_of {t : Three} (o : Ok t) {i k : Nat} (hi : i < 3) (hk : k < 3) (ne : i ≠ k) (e : 1000000 ≤ t.back i k) : Ever t := by
  obtain ⟨h1, h2, h3⟩ := back_full o e
  obtain ⟨o1, o2, o3⟩ := o
  unfold Ever
  rcases pairs hi hk ne with ⟨rfl, rfl⟩ | ⟨rfl, rfl⟩ | ⟨rfl, rfl⟩ | ⟨rfl, rfl⟩ | ⟨rfl, rfl⟩ | ⟨rfl, rfl⟩ <;> simp [Three.wins, other] at h1 h2 h3 <;> omega
theorem of_ever {t : Three} (v : Ever t) {i k : Nat} (hi : i < 3) (hk : k < 3) (ne : i ≠ k) : t.back i k = 1000000 ∨ t.back k i = 1000000 := by
  obtain ⟨a, b, c⟩ := t
  rcases v with ⟨h1, h2, h3⟩ | ⟨h1, h2, h3⟩ <;> simp only at h1 h2 h3 <;> subst h1 h2 h3 <;>
    rcases pairs hi hk ne with ⟨rfl, rfl⟩ | ⟨rfl, rfl⟩ | ⟨rfl, rfl⟩ | ⟨rfl, rfl⟩ | ⟨rfl, rfl⟩ | ⟨rfl, rfl⟩ <;> first | exact Or.inl (by decide) | exact Or.inr (by decide)
/-! ### from when one has won -/
def rest (t : Three) (i k : Nat) : Nat := 1000000 - t.back i k
theorem from_eq (t : Three) (i k x : Nat) : t.from_ i k x = if rest t i k = 0 then none else some (frac (won t i k x) (rest t i k)) := rfl
theorem longFrom_eq (t : Three) (i k : Nat) : t.longFrom i k = if rest t i k = 0 then none else some (frac (long3 t i k) (rest t i k)) := rfl
theorem rest_le (t : Three) (i k : Nat) : rest t i k ≤ 1000000 := Nat.sub_le _ _
theorem from_none {t : Three} (o : Ok t) {i k x : Nat} (e : t.from_ i k x = none) : t.wins i k = 100 := by
  rw [from_eq] at e
  by_cases h : rest t i k = 0
  · exact (back_full o (by unfold rest at h; omega)).2.2
  · rw [if_neg h] at e; cases e
theorem longFrom_none {t : Three} (o : Ok t) {i k : Nat} (e : t.longFrom i k = none) : t.wins i k = 100 := by
  rw [longFrom_eq] at e
  by_cases h : rest t i k = 0
  · exact (back_full o (by unfold rest at h; omega)).2.2
  · rw [if_neg h] at e; cases e
theorem from_some {t : Three} {i k x : Nat} {u : Frac} (e : t.from_ i k x = some u) : Low u ∧ u.n ≤ won t i k x ∧ u.d ≤ 1000000 := by
  rw [from_eq] at e
  by_cases h : rest t i k = 0
  · rw [if_pos h] at e; cases e
  · rw [if_neg h] at e
    cases e
    have p : 0 < rest t i k := Nat.pos_of_ne_zero h
    exact ⟨frac_low p, frac_n_le p, Nat.le_trans (frac_d_le p) (rest_le t i k)⟩
theorem longFrom_some {t : Three} {i k : Nat} {u : Frac} (e : t.longFrom i k = some u) : Low u ∧ u.n ≤ long3 t i k ∧ u.d ≤ 1000000 := by
  rw [longFrom_eq] at e
  by_cases h : rest t i k = 0
  · rw [if_pos h] at e; cases e
  · rw [if_neg h] at e
    cases e
    have p : 0 < rest t i k := Nat.pos_of_ne_zero h
    exact ⟨frac_low p, frac_n_le p, Nat.le_trans (frac_d_le p) (rest_le t i k)⟩
theorem won_le {t : Three} (o : Ok t) {i k : Nat} (hi : i < 3) (hk : k < 3) (ne : i ≠ k) {x : Nat} (hx : x < 3) : won t i k x ≤ 1000000 := by
  obtain ⟨_, _, s, _⟩ := three_done o hi hk ne
  have : x = 0 ∨ x = 1 ∨ x = 2 := by omega
  rcases this with rfl | rfl | rfl <;> omega
theorem long3_le {t : Three} (o : Ok t) {i k : Nat} (hi : i < 3) (hk : k < 3) (ne : i ≠ k) : long3 t i k ≤ 3000000 := by
  have g0 := S.good o hi hk ne 0
  have g1 := S.good o hi hk ne 1
  have g2 := S.good o hi hk ne 2
  obtain ⟨e, _⟩ := three_done o hi hk ne
  rw [← e]
  show (S.at_ t i k 0).n + (S.at_ t i k 0).l + (S.at_ t i k 1).l + (S.at_ t i k 2).l ≤ 3000000
  have z : (S.at_ t i k 0).n = 0 := rfl
  have l0 := g0.l
  have l1 := g1.l
  have l2 := g2.l
  omega
/-! ### from the beginning -/
theorem odds_eq {t : Three} (o : Ok t) {i k x : Nat} (hi : i < 3) (hk : k < 3) (ne : i ≠ k) : t.odds i k x = meanO (t.wins i k) (t.from_ i k x) (t.from_ k i x) := by
  refine (mean_mix (fun e => from_none o e) (fun e => ?_) (fun u e => (from_some e).1) fun v e => (from_some e).1).symm
  have a := from_none o e
  have b := wins_sum o hi hk ne
  omega
theorem long_eq {t : Three} (o : Ok t) {i k : Nat} (hi : i < 3) (hk : k < 3) (ne : i ≠ k) : t.long i k = (meanO (t.wins i k) (t.longFrom i k) (t.longFrom k i)).map fun f => frac (f.n + f.d) f.d := by
  unfold Three.long
  rw [mean_mix (fun e => longFrom_none o e) (fun e => ?_) (fun u e => (longFrom_some e).1) fun v e => (longFrom_some e).1]
  have a := longFrom_none o e
  have b := wins_sum o hi hk ne
  omega
theorem meanF_low {p : Nat} {u v : Frac} (lu : Low u) (lv : Low v) : Low (meanF p u v) := frac_low (Nat.mul_pos (Nat.mul_pos (by decide) lu.pos) lv.pos)
theorem meanF_d {p : Nat} {u v : Frac} (lu : Low u) (lv : Low v) (hu : u.d ≤ 1000000) (hv : v.d ≤ 1000000) : (meanF p u v).d ≤ 100000000000000 := by
  refine Nat.le_trans (frac_d_le (Nat.mul_pos (Nat.mul_pos (by decide) lu.pos) lv.pos)) ?_
  exact Nat.le_trans (Nat.mul_le_mul (Nat.mul_le_mul (Nat.le_refl 100) hu) hv) (by decide)
theorem meanF_n {p m : Nat} {u v : Frac} (hp : p ≤ 100) (lu : Low u) (lv : Low v) (hu : u.d ≤ 1000000) (hv : v.d ≤ 1000000) (nu : u.n ≤ m) (nv : v.n ≤ m) : (meanF p u v).n ≤ 200000000 * m := by
  refine Nat.le_trans (frac_n_le (Nat.mul_pos (Nat.mul_pos (by decide) lu.pos) lv.pos)) ?_
  have a : p * u.n * v.d ≤ 100 * m * 1000000 := Nat.mul_le_mul (Nat.mul_le_mul hp nu) hv
  have b : (100 - p) * v.n * u.d ≤ 100 * m * 1000000 := Nat.mul_le_mul (Nat.mul_le_mul (Nat.sub_le _ _) nv) hu
  omega
theorem odds_none {t : Three} (o : Ok t) {i k x : Nat} (hi : i < 3) (hk : k < 3) (ne : i ≠ k) : t.odds i k x = none ↔ Ever t := by
  rw [odds_eq o hi hk ne]
  constructor
  · intro e
    cases h1 : t.from_ i k x with
    | none =>
      rw [from_eq] at h1
      by_cases h : rest t i k = 0
      · exact ever_of o hi hk ne (by unfold rest at h; omega)
      · rw [if_neg h] at h1; cases h1
    | some u =>
      cases h2 : t.from_ k i x with
      | none =>
        rw [from_eq] at h2
        by_cases h : rest t k i = 0
        · exact ever_of o hk hi (Ne.symm ne) (by unfold rest at h; omega)
        · rw [if_neg h] at h2; cases h2
      | some v => rw [h1, h2] at e; cases e
  · intro v
    rcases of_ever v hi hk ne with h | h
    · have e : t.from_ i k x = none := by rw [from_eq, if_pos (by unfold rest; omega)]
      rw [e]
      rfl
    · have e : t.from_ k i x = none := by rw [from_eq, if_pos (by unfold rest; omega)]
      rw [e]
      cases t.from_ i k x <;> rfl
/-- bounds of what odds tells -/
theorem odds_some {t : Three} (o : Ok t) {i k x : Nat} (hi : i < 3) (hk : k < 3) (ne : i ≠ k) (hx : x < 3) {f : Frac} (e : t.odds i k x = some f) : Low f ∧ f.n ≤ 200000000000000 ∧ f.d ≤ 100000000000000 := by
  rw [odds_eq o hi hk ne] at e
  cases h1 : t.from_ i k x with
  | none => rw [h1] at e; cases e
  | some u =>
    cases h2 : t.from_ k i x with
    | none => rw [h1, h2] at e; cases e
    | some v =>
      rw [h1, h2] at e
      cases e
      obtain ⟨a1, a2, a3⟩ := from_some h1
      obtain ⟨b1, b2, b3⟩ := from_some h2
      exact ⟨meanF_low a1 b1, meanF_n (wins_le o _ _) a1 b1 a3 b3 (Nat.le_trans a2 (won_le o hi hk ne hx)) (Nat.le_trans b2 (won_le o hk hi (Ne.symm ne) hx)), meanF_d a1 b1 a3 b3⟩
/-! ### who waits -/
/-- the best of the first n + 1 -/
def best (f : Nat → Frac) : Nat → Nat
  | 0 => 0
  | n + 1 => if less (f (best f n)) (f (n + 1)) = true then n + 1 else best f n
theorem best_le (f : Nat → Frac) : ∀ n, best f n ≤ n
  | 0 => Nat.le_refl _
  | n + 1 => by
    have := best_le f n
    unfold best
    split <;> omega
theorem wait_none {t : Three} (o : Ok t) {x : Nat} (v : Ever t) : t.wait x = none := by
  have e : ∀ w, w < 3 → t.odds ((w + 1) % 3) ((w + 2) % 3) x = none := fun w hw => (odds_none o (Nat.mod_lt _ (by decide)) (Nat.mod_lt _ (by decide)) (by omega)).mpr v
  unfold Three.wait
  simp only [List.filterMap_cons, List.filterMap_nil, e 0 (by decide), e 1 (by decide), e 2 (by decide), Option.map_none, List.foldl_nil]
theorem wait_some {t : Three} {x : Nat} {f : Nat → Frac} (e : ∀ w, w < 3 → t.odds ((w + 1) % 3) ((w + 2) % 3) x = some (f w)) : t.wait x = some (best f 2, f (best f 2)) := by
  unfold Three.wait
  simp only [List.filterMap_cons, List.filterMap_nil, e 0 (by decide), e 1 (by decide), e 2 (by decide), Option.map_some, List.foldl_cons, List.foldl_nil]
  show (match (if less (f 0) (f 1) = true then some (1, f 1) else some (0, f 0)) with | none => some (2, f 2) | some z => if less z.2 (f 2) = true then some (2, f 2) else some z) = some ((if less (f (if less (f 0) (f 1) = true then 1 else 0)) (f 2) = true then 2 else (if less (f 0) (f 1) = true then 1 else 0)), _)
  by_cases h : less (f 0) (f 1) = true
  · simp only [best, h, if_true]
    by_cases h2 : less (f 1) (f 2) = true
    · simp only [h2, if_true]
    · simp only [h2, if_false, Bool.false_eq_true]
  · simp only [best, h, if_false, Bool.false_eq_true]
    by_cases h2 : less (f 0) (f 2) = true
    · simp only [h2, if_true]
    · simp only [h2, if_false, Bool.false_eq_true]
end TB
namespace TB
/-! ### the calls, as they lie -/
def cN : List Nat → Option Sj12.Call
  | [0, a, b, c] => some (.begins a b c)
  | [1, i, k, x] => some (.odds i k x)
  | [2, i, k] => some (.long i k)
  | [3, x] => some (.wait x)
  | 4 :: i :: k :: r => if r.length ≤ 20 then some (.check i k r) else none
  | _ => none
theorem callOf_eq (l : List Int) : Sj12Neutral.callOf l = cN (l.map Int.toNat) := by
  unfold Sj12Neutral.callOf cN
  rfl
theorem cN_some {p : Nat} {xs : List Nat} {q : Sj12.Call} (h : cN (p :: xs) = some q) :
    (∃ a b c, p = 0 ∧ xs = [a, b, c] ∧ q = .begins a b c) ∨ (∃ i k x, p = 1 ∧ xs = [i, k, x] ∧ q = .odds i k x) ∨ (∃ i k, p = 2 ∧ xs = [i, k] ∧ q = .long i k) ∨ (∃ x, p = 3 ∧ xs = [x] ∧ q = .wait x) ∨
    ∃ i k r, p = 4 ∧ xs = i :: k :: r ∧ r.length ≤ 20 ∧ q = .check i k r := by
  unfold cN at h
  split at h
  · rename_i e; cases e; cases h; exact .inl ⟨_, _, _, rfl, rfl, rfl⟩
  · rename_i e; cases e; cases h; exact .inr (.inl ⟨_, _, _, rfl, rfl, rfl⟩)
  · rename_i e; cases e; cases h; exact .inr (.inr (.inl ⟨_, _, rfl, rfl, rfl⟩))
  · rename_i e; cases e; cases h; exact .inr (.inr (.inr (.inl ⟨_, rfl, rfl, rfl⟩)))
  · rename_i e
    cases e
    split at h
    · cases h
      exact .inr (.inr (.inr (.inr ⟨_, _, _, rfl, rfl, by assumption, rfl⟩)))
    · cases h
  · cases h
theorem nat_list : ∀ {l : List Int}, (∀ z ∈ l, 0 ≤ z) → ∃ m : List Nat, l = m.map fun (n : Nat) => (n : Int)
  | [], _ => ⟨[], rfl⟩
  | z :: l, h => by
    obtain ⟨m, e⟩ := nat_list (l := l) fun y hy => h y (List.mem_cons_of_mem _ hy)
    have := h z List.mem_cons_self
    exact ⟨z.toNat :: m, by rw [List.map_cons, ← e, Int.toNat_of_nonneg this]⟩
theorem toNat_back (m : List Nat) : (m.map fun (n : Nat) => (n : Int)).map Int.toNat = m := by
  rw [List.map_map]
  induction m with
  | nil => rfl
  | cons a m ih => rw [List.map_cons, ih]; rfl
/-- what is asked of one call -/
def good (c : List (List Int)) : Bool := PySj12.fits c && Sj12Neutral.asked1 c
theorem good_nat {p : Int} {xs : List Int} (h : good [p :: xs] = true) : ∃ (P : Nat) (X : List Nat) (q : Sj12.Call), p = P ∧ xs = (X.map fun (n : Nat) => (n : Int)) ∧ cN (P :: X) = some q ∧ Sj12Neutral.callOf (p :: xs) = some q := by
  unfold good Sj12Neutral.asked1 at h
  simp only [Bool.and_eq_true, List.headD_cons] at h
  obtain ⟨_, _, h1, h2⟩ := h
  have nn : ∀ z ∈ p :: xs, 0 ≤ z := fun z hz => by
    have := List.all_eq_true.mp h1 z hz
    unfold Sj12Neutral.natural at this
    simp only [Bool.and_eq_true, decide_eq_true_eq] at this
    exact this.1
  obtain ⟨m, e⟩ := nat_list nn
  cases m with
  | nil => cases e
  | cons P X =>
    rw [List.map_cons] at e
    obtain ⟨e1, e2⟩ := List.cons.inj e
    obtain ⟨q, hq⟩ := Option.isSome_iff_exists.mp h2
    refine ⟨P, X, q, e1, e2, ?_, hq⟩
    rw [callOf_eq, e1, e2] at hq
    rw [← hq]
    show cN (P :: X) = cN (((P : Nat) : Int).toNat :: ((X.map fun (n : Nat) => (n : Int)).map Int.toNat))
    rw [toNat_back, Int.toNat_natCast]
/-- one call off the front -/
theorem calls_step : ∀ {f : Nat} {l : List Int} {cs : List (List (List Int))}, PyWide.calls f l = some cs → cs.all good = true → (l = [] ∧ cs = []) ∨
    ∃ f' p xs t cs', l = p :: (xs.length : Int) :: (xs ++ 0 :: t) ∧ cs = [p :: xs] :: cs' ∧ good [p :: xs] = true ∧ PyWide.calls f' t = some cs' ∧ cs'.all good = true := by
  intro f l cs h hg
  cases l with
  | nil =>
    have e : cs = [] := by
      cases f <;> (unfold PyWide.calls at h; cases h; rfl)
    exact .inl ⟨rfl, e⟩
  | cons p r =>
    refine .inr ?_
    cases f with
    | zero => unfold PyWide.calls at h; cases h
    | succ f =>
      unfold PyWide.calls at h
      cases hc : PyWide.call (p :: r) with
      | none => rw [hc] at h; cases h
      | some ct =>
        obtain ⟨c, t⟩ := ct
        rw [hc] at h
        simp only at h
        cases hr : PyWide.calls f t with
        | none => rw [hr] at h; cases h
        | some cs' =>
          rw [hr] at h
          cases h
          rw [List.all_cons, Bool.and_eq_true] at hg
          obtain ⟨g1, g2⟩ := hg
          unfold PyWide.call at hc
          simp only at hc
          cases hw : PyFlat.row r with
          | none => rw [hw] at hc; cases hc
          | some nk =>
            obtain ⟨ns, kt⟩ := nk
            rw [hw] at hc
            cases kt with
            | nil => cases hc
            | cons k u =>
              simp only at hc
              by_cases hk : 0 ≤ k
              · rw [if_pos hk] at hc
                cases hrow : PyFlat.rows k.toNat u with
                | none => rw [hrow] at hc; cases hc
                | some xu =>
                  obtain ⟨rows, v⟩ := xu
                  rw [hrow] at hc
                  cases hc
                  -- no lists
                  have len1 : rows = [] := by
                    have a1 : Sj12Neutral.asked1 ((p :: ns) :: rows) = true := by
                      unfold good at g1
                      exact (Bool.and_eq_true_iff.mp g1).2
                    unfold Sj12Neutral.asked1 at a1
                    have a2 := (Bool.and_eq_true_iff.mp a1).1
                    have a3 : ((p :: ns) :: rows).length = 1 := by simpa using a2
                    cases rows with
                    | nil => rfl
                    | cons _ _ => simp at a3
                  subst len1
                  have k0 : k.toNat = 0 := by
                    cases hz : k.toNat with
                    | zero => rfl
                    | succ n =>
                      rw [hz] at hrow
                      unfold PyFlat.rows at hrow
                      cases hx : PyFlat.row u with
                      | none => rw [hx] at hrow; cases hrow
                      | some y =>
                        obtain ⟨y1, y2⟩ := y
                        rw [hx] at hrow
                        simp only at hrow
                        cases hy : PyFlat.rows n y2 with
                        | none => rw [hy] at hrow; cases hrow
                        | some z => rw [hy] at hrow; cases hrow
                  have uv : u = t := by
                    rw [k0] at hrow
                    unfold PyFlat.rows at hrow
                    cases hrow
                    rfl
                  have kz : k = 0 := by omega
                  subst uv kz
                  unfold PyFlat.row at hw
                  cases r with
                  | nil => cases hw
                  | cons n r' =>
                    simp only at hw
                    by_cases hn : 0 ≤ n ∧ n.toNat ≤ r'.length
                    · rw [if_pos hn] at hw
                      obtain ⟨e1, e2⟩ := Prod.mk.inj (Option.some.inj hw)
                      subst e1
                      refine ⟨f, p, r'.take n.toNat, u, cs', ?_, rfl, g1, hr, g2⟩
                      have e3 : ((r'.take n.toNat).length : Int) = n := by
                        rw [List.length_take]
                        omega
                      rw [e3]
                      refine congrArg _ (congrArg _ ?_)
                      rw [← e2]
                      exact (List.take_append_drop n.toNat r').symm
                    · rw [if_neg hn] at hw; cases hw
              · rw [if_neg hk] at hc; cases hc
/-- what a call answers -/
theorem step_eq {t : Sj12.Three} {p : Int} {xs : List Int} {q : Sj12.Call} (h : Sj12Neutral.callOf (p :: xs) = some q) :
    Sj12Neutral.step t [p :: xs] = ((Sj12.step t q).1, (Sj12.step t q).2.v :: (Sj12.step t q).2.l) := by
  unfold Sj12Neutral.step
  rw [List.headD_cons, h]
theorem asked_parts {l : List Int} (h : PySj12.answers_asked l = true) : ∃ cs, PySj12.calls l = some cs ∧ cs.all good = true ∧ (PySj12.answers l).length ≤ 10000000 ∧ PySj12.answers l = PyFlat.told (PyFlat.played Sj12Neutral.step Sj12Neutral.start cs) := by
  unfold PySj12.answers_asked at h
  cases hc : PySj12.calls l with
  | none => rw [hc] at h; cases h
  | some cs =>
    rw [hc] at h
    simp only [Bool.and_eq_true] at h
    obtain ⟨⟨⟨⟨h0, h1⟩, h2⟩, h3⟩, h4⟩ := h
    refine ⟨cs, rfl, ?_, ?_, ?_⟩
    · unfold Sj12Neutral.asked at h3
      rw [Bool.and_eq_true] at h3
      refine List.all_eq_true.mpr fun c hc' => ?_
      unfold good
      rw [List.all_eq_true.mp h1 c hc', List.all_eq_true.mp h3.1 c hc']
      rfl
    · unfold PyFlat.short at h4
      exact of_decide_eq_true h4
    · unfold PySj12.answers
      rw [hc]
end TB
/-! An exception that leaves a list comprehension: it comes out of a call in the element, the block is let go, and it is in the air of the def. -/
namespace TBX
open PySem PySem.Spec PyProof.Rows L2
/-- what a call in the block Y let out -/
def OutOf (Y : Cx) (W : XK) (u : Value) (s' : Shared) : Prop :=
  ∃ (pins : List (Addr × Obj)) (σ : L2.St) (H : Hp) (s : Shared), Inv Y pins σ H s ∧ L2.CX Y.prog Y.w Y.stack H s W u s'
/-- the block's context, where a call in it may let something out -/
abbrev lets (Y : Cx) (W : XK) : Cx := Y.wish (OutOf Y W)
theorem passes_lets {Y : Cx} {W : XK} : Passes (L2.CX Y.prog Y.w) (lets Y W) W := fun pins σ H s _ _ I c => ⟨pins, σ, H, s, I.unwish, c⟩
theorem ns_data {h : Heap} {C : Addr} {m : Str → Option Value} (n : h.Ns C m) : ∃ o, h.get? C = some o ∧ ∀ vs, o.data ≠ .fields vs := by
  obtain ⟨o, es, ep, ho, hd, _⟩ := n
  exact ⟨o, ho, fun vs q => by rw [hd] at q; cases q⟩
section
variable {X : Cx} {pins : List (Addr × Obj)} {σ : L2.St} {H3 : Hp} {s3 s' : Shared} {scope : Scope} {ce : Env} {fp : List Addr} {W : XK} {u : Value}
theorem out_fails (hs : X.stack = X.env :: X.outer) (hf : X.env.frame = some X.env.locals) (tk : Takes X fun cls d _ H => W cls d H)
    (I3 : Inv X pins σ H3 s3) (f3 : ∀ b ∈ fp, FpOk X pins H3 b ∧ b < s3.heap.objs.size) (hL : ce.locals = s3.heap.objs.size) (hF : ce.frame = X.env.frame)
    (x : OutOf (X.blk s3 H3 scope ce fp) W u s') :
    notedBy (model X.prog X.w) X.A ce (CompFails (model X.prog X.w) X.A X.xe ce) u s' := by
  obtain ⟨pins', σ', H, s, I, a, B, H', cls, d, rfl, fl, hok, ub, na, os, ag, w⟩ := x
  have hfr : X.A.frames = some (X.env :: X.outer) := by rw [I3.ok.frames, hs]
  have base : Un (frs X.stack) fp H3 H s3.heap s.heap := I.base
  have ub' : UB (frs X.stack) H H' s.heap B s'.heap := ub
  have fl' : HandSPX.FlyingZ B X.stack a (Zc cls d) s'.heap := fl
  have hCn : H ce.locals = none := I.free
  have cnf : ∀ b ∈ frs X.stack, b ≠ ce.locals := fun b hb z => by
    obtain ⟨_, ob, stands, _⟩ := I.ok.funs.mem hb
    have lt : b < s3.heap.objs.size := Heap.lt_size stands
    rw [z, hL] at lt
    exact Nat.lt_irrefl _ lt
  obtain ⟨m, hn, _⟩ := I.loc
  have hn : s.heap.Ns ce.locals m := hn
  obtain ⟨oC, es, ep, hoC, hdC, rC⟩ := id hn
  have bC : B.get? ce.locals = some oC := ub'.keep _ _ hoC hCn fun z => cnf _ z rfl
  have hn' : s'.heap.Ns ce.locals m := ⟨oC, es, ep, fl'.1 _ _ bC, hdC, rC⟩
  have hC' : H' ce.locals = none := ub'.free _ _ hoC hCn
  -- the ground without the block's names
  obtain ⟨G, g1, g2⟩ := restrict B fun b => decide (b ≠ ce.locals)
  have gk : ∀ b o, b ≠ ce.locals → B.get? b = some o → G.get? b = some o := fun b o hb e => (g1 b (decide_eq_true hb)).trans e
  have gC : G.get? ce.locals = none := g2 _ (by simp)
  have og : ∀ b o, G.get? b = some o → b ≠ ce.locals ∧ B.get? b = some o := fun b o e => by
    have hb : b ≠ ce.locals := fun z => by rw [z, gC] at e; cases e
    exact ⟨hb, (g1 b (decide_eq_true hb)).symm.trans e⟩
  have gn : ∀ b, B.get? b = none → G.get? b = none := fun b e => by
    cases q : G.get? b with
    | none => rfl
    | some o => rw [(og b o q).2] at e; cases e
  have stG : G.StaysIn s'.heap := fun b o e => fl'.1 b o (og b o e).2
  have flG : HandSPX.FlyingZ G (X.env :: X.outer) a (Zc cls d) s'.heap := by
    obtain ⟨k1, k2, k3, oe, vs, T, oT, ts, he, hz, hd, e1, nT, Te, hT, hdT, e3⟩ := fl'
    rw [hs] at k3
    exact ⟨stG, gn _ k2, funFrames_none k3 fun b hb => gn b (k3.mem hb).1, oe, vs, T, oT, ts, he, hz, hd, e1, gn _ nT, Te, hT, hdT, e3⟩
  show wpAny (model X.prog X.w) X.A (noteFrame (.ref a) ce) _ _ s'
  rw [noteFrame_env _ hF]
  refine HandSPX.looks_onZ Zc.steady hfr hf flG fun h1 hh1 up1 => ?_
  have n1 : h1.Ns ce.locals m := hn'.upToSlots up1
  refine ⟨m, n1, fun h2 m2 hn2 sb2 => ?_⟩
  obtain ⟨k1, k2, k3, oe, vs, T, oT, ts, he, hz, hd, e1, nT, Te, hT, hdT, e3⟩ := hh1
  obtain ⟨oC1, hoC1, nd1⟩ := ns_data n1
  have aC : a ≠ ce.locals := fun z => by
    have he' := he
    rw [z] at he'
    have e : oC1 = oe := Option.some.inj (hoC1.symm.trans he')
    exact nd1 vs (by rw [e]; exact hd)
  have tC : T ≠ ce.locals := fun z => by
    have hT' := hT
    rw [z] at hT'
    have e : oC1 = oT := Option.some.inj (hoC1.symm.trans hT')
    exact nd1 ts (by rw [e]; exact hdT)
  have he2 : h2.get? a = some oe := (sb2.2 a aC).trans he
  have hh2 : HandSPX.HeldZ G (X.env :: X.outer) a (Zc cls d) X.env.locals h2 :=
    ⟨fun b o e => (sb2.2 b (og b o e).1).trans (k1 b o e), k2, Heap.FunFrames.sameBut sb2 hn2 k3, oe, vs, T, oT, ts, he2, hz, hd, e1, nT, Te, (sb2.2 T tC).trans hT, hdT, e3⟩
  unfold PySem.passOn
  refine wpAny_bind (wpAny_field he2 hd e1 ?_)
  rw [if_neg (by simp : ¬ ((Value.ref T == Value.none) = true))]
  rw [hF, hf]
  refine wpAny_bind (HandSPX.setFlight_onZ hh2 fun h3 hh3 up3 => wpAny_throw (tk _ _ ?_))
  -- the state without the exception
  obtain ⟨J, j1, j2⟩ := restrict s'.heap fun b => (G.get? b).isSome || decide (b ∈ frs X.stack)
  have jG : ∀ b o, G.get? b = some o → J.get? b = some o := fun b o e => by
    rw [j1 b (by simp [e])]
    exact stG b o e
  have jF : ∀ b, b ∈ frs X.stack → J.get? b = s'.heap.get? b := fun b hb => j1 b (by simp [hb])
  have oj : ∀ b o, J.get? b = some o → s'.heap.get? b = some o ∧ ((G.get? b).isSome = true ∨ b ∈ frs X.stack) := fun b o e => by
    cases q : ((G.get? b).isSome || decide (b ∈ frs X.stack)) with
    | false => rw [j2 b q] at e; cases e
    | true =>
      rw [j1 b q] at e
      exact ⟨e, (Bool.or_eq_true _ _ ▸ q).imp id fun z => of_decide_eq_true z⟩
  have old : ∀ b o, s3.heap.get? b = some o → b ≠ ce.locals := fun b o e z => by
    have lt := Heap.lt_size e
    rw [z, hL] at lt
    exact Nat.lt_irrefl _ lt
  have un : Un (frs X.stack) fp H3 H' s3.heap J := by
    refine ⟨fun b o e n hb hx => ?_, fun b o e n hb hx => ?_, fun b o e n hx => ?_, fun b o e hx => ?_, fun b xs e => ub'.tups b xs (base.tups b xs e), fun b o z e => ub'.frzs b o z (base.frzs b o z e), fun b ps e => ?_⟩
    · exact jG b o (gk b o (old b o e) (ub'.keep b o (base.keep b o e n hb hx) (base.free b o e n hx) hb))
    · obtain ⟨sl, q1⟩ := base.slot b o e n hb hx
      obtain ⟨sl2, q2⟩ := ub'.slot b _ q1 hb
      exact ⟨sl2, by rw [jF b hb]; exact q2⟩
    · obtain ⟨o', q1⟩ := base.there b o e hx
      exact ub'.free b o' q1 (base.free b o e n hx)
    · obtain ⟨o', q1⟩ := base.there b o e hx
      by_cases hb : b ∈ frs X.stack
      · obtain ⟨sl2, q2⟩ := ub'.slot b o' q1 hb
        exact ⟨_, by rw [jF b hb]; exact q2⟩
      · obtain ⟨o2, q2⟩ := ub'.there b o' q1 hb
        exact ⟨o2, jG b o2 (gk b o2 (old b o e) q2)⟩
    · obtain ⟨m1, q1⟩ := base.tbls b ps e
      obtain ⟨m2', q2⟩ := ub'.tbls b _ q1
      exact ⟨m1 ++ m2', by rw [q2, Array.append_assoc]⟩
  have hokJ : HOk X.prog X.w H' J := fun b o q => (hok b o q).stay (fun c v hc r => jG c v (gk c v (fun z => by
    rcases hc with hc | hc
    · rw [← hc, z, hC'] at q; cases q
    · rw [z, hC'] at hc; cases hc) r)) (fun _ r => r) fun _ _ r => r
  have IX : Inv X pins σ H' { s' with heap := J } := I3.call' (ch := fp) (show s'.os = s3.os from os.trans I.os) un hokJ ag fun b hb => ⟨(f3 b hb).1.2.2.2.1, (f3 b hb).1.2.1, (f3 b hb).1.2.2.2.2.1, (f3 b hb).1.2.2.2.2.2⟩
  refine ⟨a, G, { s' with heap := J }, pins, σ, H', cls, d, rfl, IX, fun b o e hb => ?_, fun b o e nf => ?_, .inr (.inr (by rw [hs]; exact hh3)), na, rfl, ag, w⟩
  · obtain ⟨e', h | h⟩ := oj b o e
    · obtain ⟨ob, q⟩ := Option.isSome_iff_exists.mp h
      have z := stG b ob q
      rw [e'] at z; cases z
      exact q
    · exact absurd h hb
  · obtain ⟨e', h⟩ := oj b o e
    have bc : b ≠ ce.locals := by
      rcases h with h | h
      · obtain ⟨ob, q⟩ := Option.isSome_iff_exists.mp h
        exact (og b ob q).1
      · exact cnf b h
    obtain ⟨sl1, q1⟩ := up1 b o e' nf
    obtain ⟨sl3, q3⟩ := up3 b _ ((sb2.2 b bc).trans q1) nf
    exact ⟨sl3, q3⟩
end
end TBX
namespace TBX
open PySem PySem.Spec PyProof.Rows L2
section
variable {X : Cx} {W : XK} {elt tg iter : Expr} {ifs : List Expr} {scope : Scope} {own : List (Str × Nat)} {pos pos' : Pos} {wi : TI} {g : TG} {tt : TT} {te : TE}
/-- the block of [elt for tg in iter if ..] whose element may let something out: its wishes are the def's -/
theorem lcX {pinned : List (Addr × Obj)} {s : Shared} {τ : L2.St} {H : Hp} {Q : VK} {use : Option (Value → Sem Unit)} {Qf : Value → Shared → Prop}
    (calm : X.calm = true) (nodup : X.N.Nodup) (stk : X.stack = X.env :: X.outer) (own_fr : X.env.frame = some X.env.locals) (tk : Takes X fun cls d _ H => W cls d H)
    (I : Inv X pinned τ H s) (walks : PI X tg iter wi) (ok : BlkOk X.N X.env.scope scope own)
    (tgt : ∀ (s : Shared) (H : Hp) (C : Addr) (cl : List (Str × Addr)) (fp : List Addr), PG (X.blk s H scope (compEnvC scope cl C X.env) fp) tg g)
    (tst : ∀ (s : Shared) (H : Hp) (C : Addr) (cl : List (Str × Addr)) (fp : List Addr), PTs (X.blk s H scope (compEnvC scope cl C X.env) fp) ifs tt)
    (elm : ∀ (s : Shared) (H : Hp) (C : Addr) (cl : List (Str × Addr)) (fp : List Addr), PE (lets (X.blk s H scope (compEnvC scope cl C X.env) fp) W) elt te)
    (fold : ∀ x, foldedSetIterable iter X.env x = pure x) (h : tLc wi g tt te (own.map (·.2)) τ H Q)
    (ends : ∀ D ce u' m G', Inv X pinned τ G' u' → Q (.ref D) G' → u'.heap.Ns ce.locals m → FpOk X pinned G' ce.locals → compEnds (model X.prog X.w) X.A X.xe use Qf (.ref D) ce (.ok .next) u') :
    wpAny (model X.prog X.w) X.A
      (comprehension (.ListComp elt [⟨tg, iter, ifs, 0⟩] scope pos) scope X.env pos' (newList []) false (eval iter X.env) use)
      Qf X.xe s := by
  refine comprehension_at (use := use) rfl fold (closure_ok (env := X.env) fun y atY e => ?fr) ok.kind (fun y atY e => by rw [ok.uniq y atY, e]) ?main
  case fr =>
    rcases ok.free y atY e with k | k
    · exact I.ok.has _ (.inl k)
    · exact I.ok.has _ (.inr k)
  case main =>
    refine thn (walks.run pinned s τ H _ I h) fun xv u1 hx => thn hx fun itv u2 y2 => ?_
    obtain ⟨itr, fp, turnAt, J, G2, rfl, V2, T, at2, k2, q⟩ := y2
    refine wpAny_newObj_type (newEnv_comp ?_) (Nat.zero_le _)
    obtain ⟨D, eqD⟩ : ∃ D, u2.heap.objs.size = D := ⟨_, rfl⟩
    obtain ⟨Wt, ⟨m0, wt0⟩, each⟩ := q D (V2.hok.fresh (Nat.le_of_eq eqD))
    rw [eqD]
    obtain ⟨u3, eq3⟩ : ∃ u3 : Shared, u3 = { u2 with heap := u2.heap.push { cls := .type "list", data := .seq ([] : List Value).toArray } } := ⟨_, rfl⟩
    have keep3 : ∀ b o, u2.heap.get? b = some o → u3.heap.get? b = some o := fun b o e => by rw [eq3]; exact Heap.get?_push_of_some _ e
    have size3 : u3.heap.objs.size = u2.heap.objs.size + 1 := by rw [eq3]; exact Heap.size_push ..
    have V3 : Inv X pinned τ (upd G2 D (.lst [])) u3 := by
      rw [eq3]
      refine V2.laid (t' := u2.toks) (fun b o e => Heap.get?_push_of_some _ e) (Nat.le_of_eq eqD) ⟨Nat.zero_le _, [], 0, .nil, ?_⟩
      rw [← eqD]
      exact Heap.get?_push_size _ rfl
    have k3 : ∀ b ∈ fp, FpOk X pinned (upd G2 D (.lst [])) b ∧ b < u3.heap.objs.size := fun b hb => by
      obtain ⟨o, e, _⟩ := T.obj _ _ at2 b hb
      have lt := Heap.lt_size e
      have ne : b ≠ D := by rw [← eqD]; exact Nat.ne_of_lt lt
      exact ⟨⟨(upd_ne ne).trans (k2 b hb).1, (k2 b hb).2⟩, by rw [size3]; exact Nat.lt_succ_of_lt lt⟩
    have at3 : turnAt 0 u3.heap := T.keep _ _ _ at2 fun b _ o e => keep3 b o e
    have V4 := block_start V3 ok nodup k3
    rw [← eq3]
    show codeAny _ _ (.compStart (.ListComp elt [⟨tg, iter, ifs, 0⟩] scope pos) 0 (.ref itr) (.ref D) (compEnvC scope (cellsFrom (u3.heap.objs.size + 1) scope.names (cloFrom X.env.cells scope.names [])) u3.heap.objs.size X.env))
      (compEnds (model X.prog X.w) X.A X.xe use Qf (.ref D) (compEnvC scope (cellsFrom (u3.heap.objs.size + 1) scope.names (cloFrom X.env.cells scope.names [])) u3.heap.objs.size X.env)) { u3 with heap := pushCells (u3.heap.push { cls := .type "dict", data := .dict #[] }) scope.names }
    obtain ⟨G3, eqG3⟩ : ∃ G3, upd G2 D (.lst []) = G3 := ⟨_, rfl⟩
    rw [eqG3] at V3 k3 V4 wt0
    have rg := tgt u3 G3 u3.heap.objs.size (cellsFrom (u3.heap.objs.size + 1) scope.names (cloFrom X.env.cells scope.names [])) fp
    have rtst := tst u3 G3 u3.heap.objs.size (cellsFrom (u3.heap.objs.size + 1) scope.names (cloFrom X.env.cells scope.names [])) fp
    have rel := elm u3 G3 u3.heap.objs.size (cellsFrom (u3.heap.objs.size + 1) scope.names (cloFrom X.env.cells scope.names [])) fp
    generalize eqC : compEnvC scope (cellsFrom (u3.heap.objs.size + 1) scope.names (cloFrom X.env.cells scope.names [])) u3.heap.objs.size X.env = ce at V4 rg rtst rel ⊢
    have locC : ce.locals = u3.heap.objs.size := by rw [← eqC]; rfl
    have frC : ce.frame = X.env.frame := by rw [← eqC]; rfl
    have V4 : Inv (X.blk u3 G3 scope ce fp) [] (wipe τ (own.map (·.2))) G3 { u3 with heap := pushCells (u3.heap.push { cls := .type "dict", data := .dict #[] }) scope.names } := V4
    have at4 : turnAt 0 (pushCells (u3.heap.push { cls := .type "dict", data := .dict #[] }) scope.names) := T.keep _ _ _ at3 fun b _ o e => pushCells_keeps _ _ _ _ (Heap.get?_push_of_some _ e)
    generalize eq4 : ({ u3 with heap := pushCells (u3.heap.push { cls := .type "dict", data := .dict #[] }) scope.names } : Shared) = u4 at V4 ⊢
    have at4 : turnAt 0 u4.heap := by rw [← eq4]; exact at4
    have fpo : ∀ {τ' : L2.St} {G' : Hp} {u' : Shared}, Inv (X.blk u3 G3 scope ce fp) [] τ' G' u' → (∀ b ∈ fp, G' b = none) → ∀ b ∈ fp, FpOk (X.blk u3 G3 scope ce fp) [] G' b := fun V' hn b hb =>
      ⟨hn b hb, (V'.ok.exf b hb).1, V'.ok.exfs b hb, .inl hb, fun x c e => (V'.ok.exf b hb).2 x c e, fun p hp => by cases (show p ∈ ([] : List (Addr × Obj)) from hp)⟩
    have leaves : ∀ {u' : Shared} {u : Value}, OutOf (X.blk u3 G3 scope ce fp) W u u' → notedBy (model X.prog X.w) X.A ce (CompFails (model X.prog X.w) X.A X.xe ce) u u' :=
      fun x => out_fails stk own_fr tk V3 k3 locC frC x
    have walk : codeAny (model X.prog X.w) X.A (.compLoop (.ListComp elt [⟨tg, iter, ifs, 0⟩] scope pos) 0 (.ref itr) (.ref D) ce) (compEnds (model X.prog X.w) X.A X.xe use Qf (.ref D) ce) u4 := by
      refine compLoop_any (fun n u' => ∃ i G', Inv (X.blk u3 G3 scope ce fp) [] (wipe τ (own.map (·.2))) G' u' ∧ turnAt i u'.heap ∧ (∀ b ∈ fp, G' b = none) ∧ Wt i n G') ?_ m0 ⟨0, G3, V4, at4, fun b hb => (k3 b hb).1.1, wt0⟩
      rintro n u5 ⟨i, G5, V5, at5, fr5, wt5⟩
      rcases each i n G5 wt5 with ⟨over, qq⟩ | ⟨more, Nxt, toNxt, goes⟩
      · refine thnF (T.done (X.blk u3 G3 scope ce fp) rfl rfl rfl calm i [] u5 _ G5 (fun _ _ => False) V5 (fpo V5 fr5) at5 over) fun r u6 ⟨hr, V6⟩ => ?_
        subst hr
        have V7 : Inv X pinned τ G5 u6 := V3.call' (ch := fp) V6.os V6.base V6.hok V6.bare fun b hb => ⟨(k3 b hb).1.2.2.2.1, (k3 b hb).1.2.1, (k3 b hb).1.2.2.2.2.1, (k3 b hb).1.2.2.2.2.2⟩
        have freC : G5 ce.locals = none := V6.free
        obtain ⟨m, hn, _⟩ := V6.loc
        refine ends D ce u6 m G5 V7 qq hn ?_
        exact V3.fpOk (Nat.le_of_eq locC.symm) freC
      · refine thnF (T.item (X.blk u3 G3 scope ce fp) rfl rfl rfl calm i [] u5 _ G5 (fun _ _ => False) V5 (fpo V5 fr5) at5 more) fun r u6 ⟨u, hr, y6⟩ => ?_
        subst hr
        refine thnF y6 fun _ u7 ⟨x, G7, V7, rel7, yl7, at7, fr7⟩ => ?_
        have V7' := V7.pinned (fpo V7 fr7) (T.obj _ _ at7)
        refine thnF (rg.run _ u7 _ G7 x u _ V7' rel7 (goes x G7 yl7)) fun _ u8 ⟨τ8, G8, V8, wp8, ask8⟩ => ?_
        refine thnF (rtst.run _ u8 τ8 G8 _ V8 ask8) fun b u9 ⟨G9, V9, ask9⟩ => ?_
        have onward : ∀ {sz : Shared} {Hz : Hp}, Inv (X.blk u3 G3 scope ce fp) ([] ++ pinsAt fp u7.heap) τ8 Hz sz → Nxt Hz →
            ∃ m, m < n ∧ ∃ i G', Inv (X.blk u3 G3 scope ce fp) [] (wipe τ (own.map (·.2))) G' sz ∧ turnAt i sz.heap ∧ (∀ b ∈ fp, G' b = none) ∧ Wt i m G' := fun {sz Hz} Iz reached => by
          obtain ⟨m', hm, w'⟩ := toNxt Hz reached
          have pinned : ∀ b ∈ fp, ∀ o, u7.heap.get? b = some o → sz.heap.get? b = some o ∧ Hz b = none := fun b hb o e => by
            have z := Iz.pin (b, o) (List.mem_append_right _ (List.mem_append_right _ (mem_pinsAt hb e)))
            exact ⟨z.1, z.2.1⟩
          have len8 : (wipe τ (own.map (·.2))).length = τ8.length := by rw [← wp8, wipe_length]
          refine ⟨m', hm, i + 1, Hz, (Iz.unpinned (pins := [])).weak len8 fun j v e => ?_, T.keep _ _ _ at7 fun b hb o e => (pinned b hb o e).1, fun b hb => ?_, w'⟩
          · rw [← wp8] at e
            exact (wipe_some e).1
          · obtain ⟨o, e, _⟩ := T.obj _ _ at7 b hb
            exact (pinned b hb o e).2
        cases b with
        | false =>
          rw [if_neg Bool.false_ne_true] at ask9 ⊢
          exact onward V9 ask9
        | true =>
          rw [if_pos rfl] at ask9 ⊢
          refine wpAny_mono (rel.run _ u9 τ8 G9 _ (V9.wish _) ask9) (fun z u10 hz => ?_) fun e u10 x => leaves x
          obtain ⟨yv, G10, V10, rel10, acc, eD10, ez10, reached⟩ := hz
          exact app_ok (X := X.blk u3 G3 scope ce fp) V10.unwish eD10 ez10 rel10 fun u11 V11 => onward V11 reached
    exact codeAny_compStart_list walk (T.self X.A 0 _ _ _ at4 walk)
/-- name = [..] on one line, the name a local of the def; the element may let something out -/
theorem ps_setLcX {i : Nat} {y : Str} {py spos : Pos} (calm : X.calm = true) (nodup : X.N.Nodup) (stk : X.stack = X.env :: X.outer) (own_fr : X.env.frame = some X.env.locals) (tk : Takes X fun cls d _ H => W cls d H)
    (atY : X.N[i]? = some y) (locY : X.env.scope.names.lookup y = some .local)
    (swp : swapsWith (.ListComp elt [⟨tg, iter, ifs, 0⟩] scope pos) (some (.Name y py)) spos.line X.env = pure true) (walks : PI X tg iter wi) (ok : BlkOk X.N X.env.scope scope own)
    (tgt : ∀ (s : Shared) (H : Hp) (C : Addr) (cl : List (Str × Addr)) (fp : List Addr), PG (X.blk s H scope (compEnvC scope cl C X.env) fp) tg g)
    (tst : ∀ (s : Shared) (H : Hp) (C : Addr) (cl : List (Str × Addr)) (fp : List Addr), PTs (X.blk s H scope (compEnvC scope cl C X.env) fp) ifs tt)
    (elm : ∀ (s : Shared) (H : Hp) (C : Addr) (cl : List (Str × Addr)) (fp : List Addr), PE (lets (X.blk s H scope (compEnvC scope cl C X.env) fp) W) elt te)
    (fold : ∀ x, foldedSetIterable iter X.env x = pure x := by intro _; rfl) :
    PS X (.Assign [.Name y py] (.ListComp elt [⟨tg, iter, ifs, 0⟩] scope pos) spos)
      (tAsg (tLc wi g tt te (own.map (·.2))) (gName i)) := by
  refine ⟨fun pinned s τ H D I h => ?_⟩
  rw [exec_Assign_Name_used _ _ _ _ swp]
  refine wpAny_bind (wpAny_standAt (wpAny_bind ?_))
  have h : tLc wi g tt te (own.map (·.2)) τ H (fun x G1 => gName i x τ G1 D.nx) := h
  show wpAny _ X.A (do
    let _ ← comprehension (.ListComp elt [⟨tg, iter, ifs, 0⟩] scope pos) scope X.env (firstIterPos [⟨tg, iter, ifs, 0⟩] pos) (newList []) false (eval iter X.env) (some (assign (.Name y py) X.env))) _ _ s
  refine wpAny_bind (thn (lcX (Qf := fun _ u' => SP X pinned D .next u') calm nodup stk own_fr tk I walks ok tgt tst elm fold h fun L ce u' m G' V' q hn f => ?_) fun _ u' hq => wpAny_pure (wpAny_pure hq))
  refine wpAny_assign_Name (env := X.env) (store_ok2 (v := V.ref L) V' nodup atY (.inl locY) rfl (fun u2 V2 ⟨a, sb, ha⟩ => ?_) (.inr locY))
  obtain ⟨k0, k1, k2, k3, k4, k5⟩ := f
  have ne : ce.locals ≠ a := by
    rcases ha with z | z
    · rw [z]
      exact k1
    · exact fun e => k4 y a z e.symm
  exact ⟨m, hn.sameBut sb ne, fun y3 sb3 => ⟨_, G', V2.turned (t' := u2.toks) (fun b o hb e => (sb3.2 b hb).trans e) k0 k1 k3 k4 k5, q⟩⟩
end
end TBX
/-! The text by its places; callees by name; what lies in the heap; what each def promises. -/
namespace TB
open PySem PySem.Spec PyProof.Rows L2
/-! ### the text -/
def top (i : Nat) : Stmt := PySem.Challenge.pw_threebouts_s01_answers.main.body.getD i (.Pass ⟨0, 0, 0, 0⟩)
abbrev sFInit : Stmt := inClass (top 8) 0
abbrev sExceeds : Stmt := inClass (top 8) 1
abbrev sTold : Stmt := inClass (top 8) 2
abbrev sTInit : Stmt := inClass (top 9) 0
abbrev sEnded : Stmt := inClass (top 9) 1
abbrev sTChance : Stmt := inClass (top 9) 2
abbrev sTLength : Stmt := inClass (top 9) 3
abbrev sPInit : Stmt := inClass (top 10) 0
abbrev sShare : Stmt := inClass (top 10) 1
abbrev sRound : Stmt := inClass (top 10) 2
abbrev sChance : Stmt := inClass (top 10) 3
abbrev sLength : Stmt := inClass (top 10) 4
abbrev sBegins : Stmt := inClass (top 10) 5
abbrev sOdds : Stmt := inClass (top 10) 6
abbrev sLong : Stmt := inClass (top 10) 7
abbrev sWait : Stmt := inClass (top 10) 8
abbrev sGcd : Stmt := top 11
abbrev sMean : Stmt := top 12
abbrev sThird : Stmt := top 13
abbrev sNeedW : Stmt := top 14
abbrev sNeedP : Stmt := top 15
abbrev sNeedB : Stmt := top 16
abbrev sCheck : Stmt := top 17
abbrev sTaken : Stmt := top 18
abbrev sAnswer : Stmt := top 19
abbrev sAnswers : Stmt := top 20
/-! ### callees by name -/
section
variable (P : Program) (w : World) (K : PySem.W.Frag) (mg : Str → Option Value) (base : Heap) (CX : CXT)
/-- the module's def x keeps the promise sp within k rooms -/
def DefAt (k : Nat) (x : Str) (ps : List Str) (sp : Sp) : Prop :=
  ∃ f fd, FnOk P w K mg base CX k f fd ps sp ∧ mg x = some (.ref f) ∧ PySem.W.keepIn K (.ref f) = true ∧ Binds K fd ps []
/-- the method m of the class at C .. -/
def MethAt (k : Nat) (C : Addr) (m : Str) (ps : List Str) (sp : Sp) : Prop :=
  ∃ f fd, FnOk P w K mg base CX k f fd ps sp ∧ Meth K C m f ∧ Binds K fd ps []
/-- the class x at C is made by an __init__ that .. -/
def MakeAt (k : Nat) (x : Str) (C : Addr) (ps : List Str) (sp : Sp) : Prop :=
  ∃ f fd, FnOk P w K mg base CX k f fd ps sp ∧ Mk K C f ∧ mg x = some (.ref C) ∧ Binds K fd ps []
end
section
variable {X : Cx} {CX : CXT} {k : Nat} {C : Addr} {ps : List Str} {sp : Sp} {E : XK} {x m : Str} {p pos apos : Pos} {e o : Expr} {es : List Expr} {ta : TE} {t : TA}
theorem call_at (F : DefAt X.prog X.w X.K X.mg X.base CX k x ps sp) (hr : Room k X.A) (hx : Passes CX X E) (ha : PA X (e :: es) t) (hg : Gl X x := by rfl) (hdb : (x == ("__debug__" : Str)) = false := by decide)
    (he : starEach (e :: es) X.env = (false, eval e X.env) :: starEach es X.env := by rfl) (hpl : (backTo pos (starEach es X.env)).any (·.1) = false := by rfl) : PE X (.Call (.Name x p) (e :: es) [] pos) (tCall sp [] E t) := by
  obtain ⟨f, fd, F, hm, hk, hb⟩ := F
  exact pe_call F hr hg hm hk hb .nil hx ha hdb he hpl
theorem callS_at {E : L2.St → XK} (F : DefAt X.prog X.w X.K X.mg X.base CX k x ps sp) (hr : Room k X.A) (hx : ∀ σ, PassesAt CX X σ (E σ)) (ha : PA X (e :: es) t) (hg : Gl X x := by rfl) (hdb : (x == ("__debug__" : Str)) = false := by decide)
    (he : starEach (e :: es) X.env = (false, eval e X.env) :: starEach es X.env := by rfl) (hpl : (backTo pos (starEach es X.env)).any (·.1) = false := by rfl) : PE X (.Call (.Name x p) (e :: es) [] pos) (tCallS sp E t) := by
  obtain ⟨f, fd, F, hm, hk, hb⟩ := F
  exact pe_callS F hr hg hm hk hb hx ha hdb he hpl
theorem meth_at {pl : Sem Bool} (F : MethAt X.prog X.w X.K X.mg X.base CX k C m ps sp) (c : Cls X.K C) (hr : Room k X.A) (hx : Passes CX X E) (hO : PE X o ta) (ha : PA X (e :: es) t)
    (hst : starEach (e :: es) X.env = (false, eval e X.env) :: starEach es X.env := by rfl) (hpl : (backTo pos (starEach es X.env)).any (·.1) = false := by rfl)
    (ht : eval (.Call (.Attribute o m apos) (e :: es) [] pos) X.env = (do
      let ov ← eval o X.env
      standAt apos.atName
      let (f, first) ← holding [ov] (getMethod ov m pl)
      callWith pos f first (backTo pos (starEach (e :: es) X.env)) (backToKw pos (keywordEach [] X.env))) := by rfl) : PE X (.Call (.Attribute o m apos) (e :: es) [] pos) (tMeth C m sp [] E ta t) := by
  obtain ⟨f, fd, F, hm, hb⟩ := F
  exact pe_meth hO c hm F hr hb .nil hx ha hst hpl ht
theorem meth0_at {pl : Sem Bool} (F : MethAt X.prog X.w X.K X.mg X.base CX k C m ps sp) (c : Cls X.K C) (hr : Room k X.A) (hx : Passes CX X E) (hO : PE X o ta)
    (ht : eval (.Call (.Attribute o m apos) [] [] pos) X.env = (do
      let ov ← eval o X.env
      standAt apos.atName
      let (f, first) ← holding [ov] (getMethod ov m pl)
      callWith pos f first (backTo pos (starEach [] X.env)) (backToKw pos (keywordEach [] X.env))) := by rfl) : PE X (.Call (.Attribute o m apos) [] [] pos) (tMeth C m sp [] E ta tNil) := by
  obtain ⟨f, fd, F, hm, hb⟩ := F
  exact pe_meth0 hO c hm F hr hb .nil hx ht
theorem make_at (F : MakeAt X.prog X.w X.K X.mg X.base CX k x C ps sp) (hr : Room (k + 1) X.A) (hx : Passes CX X E) (ha : PA X (e :: es) t) (hg : Gl X x := by rfl) (hdb : (x == ("__debug__" : Str)) = false := by decide)
    (he : starEach (e :: es) X.env = (false, eval e X.env) :: starEach es X.env := by rfl) (hpl : (backTo pos (starEach es X.env)).any (·.1) = false := by rfl) : PE X (.Call (.Name x p) (e :: es) [] pos) (tMake C sp [] E t) := by
  obtain ⟨f, fd, F, M, hm, hb⟩ := F
  exact pe_make M F hr hg hm hb .nil hx ha hdb he hpl
theorem make0_at (F : MakeAt X.prog X.w X.K X.mg X.base CX k x C ps sp) (hr : Room (k + 1) X.A) (hx : Passes CX X E) (hg : Gl X x := by rfl) (hdb : (x == ("__debug__" : Str)) = false := by decide) : PE X (.Call (.Name x p) [] [] pos) (tMake C sp [] E tNil) := by
  obtain ⟨f, fd, F, M, hm, hb⟩ := F
  exact pe_make0 M F hr hg hm hb .nil hx hdb
end
/-! ### own errors: x() -/
/-- what the top has written of the error class x at C -/
structure ErrAt (K : PySem.W.Frag) (mg : Str → Option Value) (x : Str) (C : Addr) : Prop where
  ex : PySem.W.excIn K C [.type "Exception", .type "BaseException", .type "object"] "Exception.__new__" = true
  g : mg x = some (.ref C)
  k : PySem.W.keepIn K (.ref C) = true
  b : PySem.W.subIn K (.ref C) (.type "BaseException") = some true
  t : PySem.W.typeIn K (.ref C) = some (.type "type")
theorem err_made {X : Cx} {C : Addr} {x : Str} {p pos : Pos} (T : ErrAt X.K X.mg x C) (hg : Gl X x := by rfl) (hdb : (x == ("__debug__" : Str)) = false := by decide) :
    PMk X (.Call (.Name x p) [] [] pos) (fun _ H Q => Q (.ref C) none H) := by
  intro pins s σ H Q I h
  refine wpAny_Call_Name_kw (ld_glob I hg T.g ?_ hdb)
  refine PySem.W.callWith_K0 I.kIn T.k ?_
  obtain ⟨bm, N, nm, qn, bs, hdct, sn, sub, ab, col, dd, k0, k1, k2, k3, k5, mN, hC, hN, hni, tl⟩ := exc_obj I.kIn T.ex
  exact wpAny_call_exc_subT PySem.F.excBase_Exception tl hC hN hni (fun h' e hm => mk_of I hm (raises_own T.b T.t) h (I.hok.gone hm.new)) (Nat.zero_le _)
theorem ps_err {X : Cx} {W : WX} {C : Addr} {x : Str} {p pos rp : Pos} (hc : X.calm = true) (tk : Takes X W) (T : ErrAt X.K X.mg x C) (hg : Gl X x := by rfl) (hdb : (x == ("__debug__" : Str)) = false := by decide) :
    PS X (.Raise (some (.Call (.Name x p) [] [] pos)) none rp) (fun _ σ H => W (.ref C) none σ H) := ps_raise hc tk (err_made T hg hdb)
/-! ### the heap -/
def FrF (f : Sj12.Frac) : List (Str × V) := [("above", .int f.n), ("below", .int f.d)]
def Fr (C : Addr) (H : Hp) (a : Addr) (f : Sj12.Frac) : Prop := ∃ dx, H a = some (.ins C dx (FrF f))
def TrF (w : Addr) (b : Int) : List (Str × V) := [("won", .ref w), ("bouts", .int b)]
def Tr (C : Addr) (H : Hp) (a w : Addr) (ns : List Int) (b : Int) : Prop := (∃ dx, H a = some (.ins C dx (TrF w b))) ∧ H w = some (.lst (ns.map V.int))
def PoF (w : Addr) : List (Str × V) := [("wins", .ref w)]
def nats (l : List Nat) : List V := l.map fun (n : Nat) => V.int n
def Po (C : Addr) (H : Hp) (a w : Addr) (t : Sj12.Three) : Prop := (∃ dx, H a = some (.ins C dx (PoF w))) ∧ H w = some (.lst (nats (lst t))) ∧ Ok t
theorem Fr.same {C : Addr} {H H' : Hp} {a : Addr} {f : Sj12.Frac} (s : Same H H') (x : Fr C H a f) : Fr C H' a f := let ⟨dx, e⟩ := x; ⟨dx, s _ _ e⟩
theorem Tr.same {C : Addr} {H H' : Hp} {a w : Addr} {ns : List Int} {b : Int} (s : Same H H') (x : Tr C H a w ns b) : Tr C H' a w ns b := let ⟨⟨dx, e⟩, h⟩ := x; ⟨⟨dx, s _ _ e⟩, s _ _ h⟩
theorem Po.same {C : Addr} {H H' : Hp} {a w : Addr} {t : Sj12.Three} (s : Same H H') (x : Po C H a w t) : Po C H' a w t := let ⟨⟨dx, e⟩, h, o⟩ := x; ⟨⟨dx, s _ _ e⟩, s _ _ h, o⟩
theorem lk_here {k : Str} {v : V} {r : List (Str × V)} : List.lookup k ((k, v) :: r) = some v := by
  have e : (k == k) = true := beq_self_eq_true k
  simp only [List.lookup, e]
theorem lk_past {k g : Str} {v : V} {r : List (Str × V)} (h : (k == g) = false) : List.lookup k ((g, v) :: r) = List.lookup k r := by
  simp only [List.lookup, h]
theorem put_here {f : Str} {v x : V} {r : List (Str × V)} : putF f v ((f, x) :: r) = (f, v) :: r := if_pos rfl
theorem put_past {f g : Str} {v x : V} {r : List (Str × V)} (h : ¬ g = f) : putF f v ((g, x) :: r) = (g, x) :: putF f v r := if_neg h
theorem if_true_of {c : Bool} {A B : Prop} (hc : c = true) (h : A) : if c = true then A else B := by
  rw [if_pos hc]
  exact h
theorem if_false_of {c : Bool} {A B : Prop} (hc : c = false) (h : B) : if c = true then A else B := by
  rw [hc, if_neg Bool.false_ne_true]
  exact h
theorem same_upd {H : Hp} {p : Addr} {o : HO} (h : H p = none) : Same H (upd H p o) := fun b u e => by
  rw [upd_ne (ne_of_none e h)]
  exact e
theorem same_upd2 {H H' : Hp} {p : Addr} {o : HO} (s : Same H H') (h : H p = none) : Same H (upd H' p o) := fun b u e => by
  rw [upd_ne (ne_of_none e h)]
  exact s b u e
/-! ### what the top has written -/
structure Txt (K : PySem.W.Frag) (mg : Str → Option Value) (CF CT CP CW CN CG : Addr) : Prop where
  cF : Cls K CF
  cT : Cls K CT
  cP : Cls K CP
  nAbove : NoAttr K CF "above"
  nBelow : NoAttr K CF "below"
  nWon : NoAttr K CT "won"
  nBouts : NoAttr K CT "bouts"
  nWins : NoAttr K CP "wins"
  eW : ErrAt K mg "WrongNumber" CW
  eN : ErrAt K mg "NoWrestler" CN
  eG : ErrAt K mg "GoesForEver" CG
  m3 : ∃ t, mg "WRESTLERS" = some (.int 3 t)
  mNo : ∃ t, mg "NOBODY" = some (.int 3 t)
  m100 : ∃ t, mg "HUNDRED" = some (.int 100 t)
  mMil : ∃ t, mg "MILLION" = some (.int 1000000 t)
  bSum : mg "sum" = none
  bMax : mg "max" = none
  bLen : mg "len" = none
  bRange : mg "range" = none
  bList : mg "list" = none
  xWW : PySem.W.exmOne K (.ref CW) (.ref CW) = some true
  xNW : PySem.W.exmOne K (.ref CN) (.ref CW) = some false
  xNN : PySem.W.exmOne K (.ref CN) (.ref CN) = some true
  xGW : PySem.W.exmOne K (.ref CG) (.ref CW) = some false
  xGN : PySem.W.exmOne K (.ref CG) (.ref CN) = some false
  xGG : PySem.W.exmOne K (.ref CG) (.ref CG) = some true
section
variable {X : Cx} {x : Str} {i : Int} {pos : Pos}
theorem cst (hm : ∃ t, X.mg x = some (.int i t)) (hg : Gl X x := by rfl) (hd : (x == ("__debug__" : Str)) = false := by decide) : PE X (.Name x pos) (tC (.int i)) := by
  obtain ⟨t, hm⟩ := hm
  exact pe_glob hg hm ⟨t, rfl⟩ hd
end
/-- what a def lets out, its callers take -/
abbrev WD (E : XK) : WX := fun cls d _ H => E cls d H
theorem pass_on {X : Cx} {E : XK} (tk : Takes X (WD E)) : Passes (L2.CX X.prog X.w) X E := passes_call tk fun _ _ _ _ h => h
end TB
namespace TB
open PySem PySem.Spec PyProof.Rows L2
section
variable {P : Program} {w : World} {K : PySem.W.Frag} {mg : Str → Option Value} {base : Heap} {CF CT CP CW CN CG : Addr}
/-! ### common_divisor -/
def spGcd : Sp := fun vs H Q _ => ∃ a b : Nat, vs = [.int a, .int b] ∧ Q (.int (Nat.gcd a b : Nat)) H
theorem scGcd : FnScope ["one", "other", "rest"] ["one", "other"] (defScope sGcd) := ⟨rfl, rfl, rfl, by decide +kernel, rfl, by decide +kernel, by decide +kernel⟩
theorem ok_gcd {f : Addr} {fd : FuncData} (F : Fun K "common_divisor" "common_divisor" sGcd f fd) : FnOk P w K mg base CX0 1 f fd ["one", "other"] spGcd := by
  refine F.ok scGcd (fun vs H Q E ⟨a, b, e, _⟩ => by rw [e]; rfl) (fun cdv A outer s H vs Q E hr h => ⟨_,
    pss_cons (ps_while PassesOwn.never (pt_cmpR op_ne (pv 1) pe_int (nomark _))
      (pss_cons (ps_set (i := 2) scGcd.nd rfl (Or.inl rfl) (pe_op op_mod (pv 0) (pv 1)))
      (pss_cons (ps_set (i := 0) scGcd.nd rfl (Or.inl rfl) (pv 1))
      (pss_one (ps_set (i := 1) scGcd.nd rfl (Or.inl rfl) (pv 2))))))
    (pss_one (ps_ret (pv 0))), ?_⟩)
  obtain ⟨a, b, rfl, q⟩ := h
  refine ⟨fun m σ H' => ∃ (x y : Nat) (v : Option V), m = y ∧ H' = H ∧ σ = [some (.int x), some (.int y), v] ∧ Nat.gcd x y = Nat.gcd a b, ⟨b, a, b, none, rfl, rfl, rfl, rfl⟩, ?_⟩
  rintro m σ H' ⟨x, y, v, rfl, rfl, rfl, e⟩
  refine ⟨_, rfl, rfl, _, rfl, ?_⟩
  by_cases h0 : m = 0
  · subst h0
    refine if_false_of (by simp) ⟨_, rfl, ?_⟩
    rw [Nat.gcd_zero_right] at e
    show Q (.int x) H'
    rw [e]
    exact q
  · refine if_true_of (by rw [decide_eq_false (fun z => h0 (by injection z with z; omega))]; rfl) ⟨_, fun σ' H2 h => h, ?_⟩
    refine ⟨_, rfl, _, rfl, _, _, rfl, rfl, by show (0 : Int) < m; omega, _, rfl, _, rfl, ?_⟩
    refine ⟨x % m, Nat.mod_lt _ (Nat.pos_of_ne_zero h0), m, x % m, some (.int (x % m : Nat)), rfl, rfl, ?_, ?_⟩
    · show [some (V.int m), some (V.int ((x : Int) % (m : Int))), some (V.int ((x : Int) % (m : Int)))] = _
      rw [Int.natCast_emod]
    · rw [← e, Nat.gcd_comm x m, Nat.gcd_rec m x, Nat.gcd_comm]
/-! ### third -/
def spThird : Sp := fun vs H Q _ => ∃ i k : Nat, vs = [.int i, .int k] ∧ i < 3 ∧ k < 3 ∧ i ≠ k ∧ Q (.int (3 - i - k : Nat)) H
theorem scThird : FnScope ["one", "other"] ["one", "other"] (defScope sThird) := ⟨rfl, rfl, rfl, by decide +kernel, rfl, by decide +kernel, by decide +kernel⟩
theorem ok_third {f : Addr} {fd : FuncData} (F : Fun K "third" "third" sThird f fd) : FnOk P w K mg base CX0 1 f fd ["one", "other"] spThird := by
  refine F.ok scThird (fun vs H Q E ⟨a, b, e, _⟩ => by rw [e]; rfl) (fun cdv A outer s H vs Q E hr h => ⟨_, pss_one (ps_ret (pe_op op_sub (pe_op op_sub pe_int (pv 0)) (pv 1))), ?_⟩)
  obtain ⟨i, k, rfl, hi, hk, ne, q⟩ := h
  refine ⟨_, rfl, _, _, rfl, rfl, _, rfl, _, _, rfl, rfl, ?_⟩
  have e : (3 : Int) - i - k = (3 - i - k : Nat) := by omega
  show Q (.int ((3 : Int) - i - k)) H
  rw [e]
  exact q
/-! ### Fraction -/
def spTold (C : Addr) : Sp := fun vs H Q _ => ∃ (a : Addr) (f : Sj12.Frac), vs = [.ref a] ∧ Fr C H a f ∧ ∀ p, H p = none → Q (.ref p) (upd H p (.lst [.int f.n, .int f.d]))
theorem scTold : FnScope ["self"] ["self"] (defScope sTold) := ⟨rfl, rfl, rfl, by decide +kernel, rfl, by decide +kernel, by decide +kernel⟩
theorem lk_above (f : Sj12.Frac) : (FrF f).lookup ("above" : Str) = some (.int f.n) := lk_here
theorem lk_below (f : Sj12.Frac) : (FrF f).lookup ("below" : Str) = some (.int f.d) := (lk_past (by decide +kernel)).trans lk_here
theorem lk_exceeds (f : Sj12.Frac) : (FrF f).lookup ("exceeds" : Str) = none := (lk_past (by decide +kernel)).trans ((lk_past (by decide +kernel)).trans rfl)
theorem lk_told (f : Sj12.Frac) : (FrF f).lookup ("told" : Str) = none := (lk_past (by decide +kernel)).trans ((lk_past (by decide +kernel)).trans rfl)
theorem ok_told (T : Txt K mg CF CT CP CW CN CG) {f : Addr} {fd : FuncData} (F : Fun K "told" "Fraction.told" sTold f fd) : FnOk P w K mg base CX0 1 f fd ["self"] (spTold CF) := by
  refine F.ok scTold (fun vs H Q E ⟨a, b, e, _⟩ => by rw [e]; rfl) (fun cdv A outer s H vs Q E hr h => ⟨_, pss_one (ps_ret (pe_lst (pa_cons (pe_fld (pv 0) rfl) (pa_cons (pe_fld (pv 0) rfl) pa_nil)))), ?_⟩)
  obtain ⟨a, f, rfl, ⟨dx, ha⟩, q⟩ := h
  exact ⟨_, rfl, a, CF, dx, _, _, rfl, ha, T.cF, T.nAbove, lk_above f, _, rfl, a, CF, dx, _, _, rfl, ha, T.cF, T.nBelow, lk_below f, by show 2 ≤ sizeLine; decide, q⟩
def spExceeds (C : Addr) : Sp := fun vs H Q _ => ∃ (a b : Addr) (f g : Sj12.Frac), vs = [.ref a, .ref b] ∧ Fr C H a f ∧ Fr C H b g ∧ f.n < 2 ^ 62 ∧ g.n < 2 ^ 62 ∧ Q (.bl (Sj12.less g f)) H
theorem scExceeds : FnScope ["self", "other"] ["self", "other"] (defScope sExceeds) := ⟨rfl, rfl, rfl, by decide +kernel, rfl, by decide +kernel, by decide +kernel⟩
theorem ok_exceeds (T : Txt K mg CF CT CP CW CN CG) {f : Addr} {fd : FuncData} (F : Fun K "exceeds" "Fraction.exceeds" sExceeds f fd) : FnOk P w K mg base CX0 1 f fd ["self", "other"] (spExceeds CF) := by
  refine F.ok scExceeds (fun vs H Q E ⟨a, b, _, _, e, _⟩ => by rw [e]; rfl) (fun cdv A outer s H vs Q E hr h => ⟨_,
    pss_one (ps_ret (pe_cmpR op_gt (pe_op op_mul (pe_fld (pv 0) rfl) (pe_fld (pv 1) rfl)) (pe_op op_mul (pe_fld (pv 1) rfl) (pe_fld (pv 0) rfl)) (nomark _))), ?_⟩)
  obtain ⟨a, b, f, g, rfl, ⟨dx, ha⟩, ⟨dy, hb⟩, bf, bg, q⟩ := h
  refine ⟨_, rfl, a, CF, dx, _, _, rfl, ha, T.cF, T.nAbove, lk_above f, _, rfl, b, CF, dy, _, _, rfl, hb, T.cF, T.nBelow, lk_below g, _, _, rfl, rfl, .inl ⟨by omega, by omega⟩, ?_⟩
  refine ⟨_, rfl, b, CF, dy, _, _, rfl, hb, T.cF, T.nAbove, lk_above g, _, rfl, a, CF, dx, _, _, rfl, ha, T.cF, T.nBelow, lk_below f, _, _, rfl, rfl, .inl ⟨by omega, by omega⟩, _, _, rfl, rfl, ?_⟩
  have e : decide ((g.n : Int) * f.d < f.n * g.d) = Sj12.less g f := by
    unfold Sj12.less
    rw [← Int.natCast_mul, ← Int.natCast_mul]
    exact decide_eq_decide.mpr Int.ofNat_lt
  show Q (.bl (decide ((g.n : Int) * f.d < f.n * g.d))) H
  rw [e]
  exact q
def spFInit (C : Addr) : Sp := fun vs H Q _ => ∃ (p dx : Addr) (n d : Nat), vs = [.ref p, .int n, .int d] ∧ H p = some (.ins C dx []) ∧ 0 < d ∧ d < 2 ^ 62 ∧
  ∀ H', Fr C H' p (Sj12.frac n d) → (∀ b o, H b = some o → b ≠ p → H' b = some o) → Q .non H'
theorem scFInit : FnScope ["self", "above", "below", "divisor"] ["self", "above", "below"] (defScope sFInit) := ⟨rfl, rfl, rfl, by decide +kernel, rfl, by decide +kernel, by decide +kernel⟩
theorem ok_finit (T : Txt K mg CF CT CP CW CN CG) (G : DefAt P w K mg base CX0 1 "common_divisor" ["one", "other"] spGcd) {f : Addr} {fd : FuncData} (F : Fun K "__init__" "Fraction.__init__" sFInit f fd) :
    FnOk P w K mg base CX0 2 f fd ["self", "above", "below"] (spFInit CF) := by
  refine F.ok scFInit (fun vs H Q E ⟨a, b, _, _, e, _⟩ => by rw [e]; rfl) (fun cdv A outer s H vs Q E hr h => ⟨_,
    pss_cons (ps_set (i := 3) scFInit.nd rfl (Or.inl rfl) (call_at G hr pass0 (pa_cons (pv 1) (pa_cons (pv 2) pa_nil))))
    (pss_cons (ps_fld (pv 0) (pe_op op_fdivW (pv 1) (pv 3)) rfl)
    (pss_one (ps_fld (pv 0) (pe_op op_fdivW (pv 2) (pv 3)) rfl))), ?_⟩)
  obtain ⟨p, dx, n, d, rfl, hp, d0, d1, q⟩ := h
  have g0 : 0 < Nat.gcd n d := Nat.gcd_pos_of_pos_right _ d0
  have g1 : Nat.gcd n d ≤ d := Nat.le_of_dvd d0 (Nat.gcd_dvd_right n d)
  have gW : ∀ z : Int, CDivW z (Nat.gcd n d : Nat) := fun z => wide_div (b := 62) (by omega) (by rw [Int.natAbs_natCast]; omega) (by decide) (by decide)
  refine ⟨_, rfl, _, rfl, n, d, rfl, ?_⟩
  refine ⟨_, rfl, _, rfl, _, _, rfl, rfl, gW _, _, rfl, p, CF, dx, [], rfl, hp, T.cF, T.nAbove, by show 0 < 1000; decide, ?_⟩
  refine ⟨_, rfl, _, rfl, _, _, rfl, rfl, gW _, _, rfl, p, CF, dx, _, rfl, upd_same, T.cF, T.nBelow, by show 1 < 1000; decide, ?_⟩
  refine q _ ⟨dx, ?_⟩ fun b o e hb => by rw [upd_ne hb, upd_ne hb]; exact e
  rw [upd_same, frac_eq d0]
  have e1 : putF ("above" : Str) (V.int ((n : Int) / (Nat.gcd n d : Nat))) [] = [(("above" : Str), V.int ((n : Int) / (Nat.gcd n d : Nat)))] := rfl
  have e2 : putF ("below" : Str) (V.int ((d : Int) / (Nat.gcd n d : Nat))) [(("above" : Str), V.int ((n : Int) / (Nat.gcd n d : Nat)))] = FrF ⟨n / Nat.gcd n d, d / Nat.gcd n d⟩ := by
    rw [put_past (by decide +kernel)]
    unfold FrF
    rw [Int.natCast_ediv, Int.natCast_ediv]
    rfl
  exact congrArg (fun z => some (HO.ins CF dx z)) ((congrArg (putF ("below" : Str) _) e1).trans e2)
end
end TB
namespace TB
open PySem PySem.Spec PyProof.Rows L2
theorem lk_won (w : Addr) (b : Int) : (TrF w b).lookup ("won" : Str) = some (.ref w) := lk_here
theorem lk_bouts (w : Addr) (b : Int) : (TrF w b).lookup ("bouts" : Str) = some (.int b) := (lk_past (by decide +kernel)).trans lk_here
theorem lkT_none (w : Addr) (b : Int) {m : Str} (h1 : (m == ("won" : Str)) = false) (h2 : (m == ("bouts" : Str)) = false) : (TrF w b).lookup m = none := (lk_past h1).trans ((lk_past h2).trans rfl)
theorem lk_wins (w : Addr) : (PoF w).lookup ("wins" : Str) = some (.ref w) := lk_here
theorem lkP_none (w : Addr) {m : Str} (h1 : (m == ("wins" : Str)) = false) : (PoF w).lookup m = none := (lk_past h1).trans rfl
section
variable {P : Program} {w : World} {K : PySem.W.Frag} {mg : Str → Option Value} {base : Heap} {CF CT CP CW CN CG : Addr}
/-! ### TimeRound -/
def spTInit (C : Addr) : Sp := fun vs H Q _ => ∃ (p dx : Addr), vs = [.ref p] ∧ H p = some (.ins C dx []) ∧
  ∀ H' q, H q = none → Tr C H' p q [0, 0, 0] 0 → (∀ b o, H b = some o → b ≠ p → H' b = some o) → Q .non H'
theorem scTInit : FnScope ["self"] ["self"] (defScope sTInit) := ⟨rfl, rfl, rfl, by decide +kernel, rfl, by decide +kernel, by decide +kernel⟩
theorem ok_tinit (T : Txt K mg CF CT CP CW CN CG) {f : Addr} {fd : FuncData} (F : Fun K "__init__" "TimeRound.__init__" sTInit f fd) : FnOk P w K mg base CX0 1 f fd ["self"] (spTInit CT) := by
  refine F.ok scTInit (fun vs H Q E ⟨a, b, e, _⟩ => by rw [e]; rfl) (fun cdv A outer s H vs Q E hr h => ⟨_,
    pss_cons (ps_fld (pv 0) (pe_lst (pa_cons pe_int (pa_cons pe_int (pa_cons pe_int pa_nil)))) rfl) (pss_one (ps_fld (pv 0) pe_int rfl)), ?_⟩)
  obtain ⟨p, dx, rfl, hp, q⟩ := h
  refine ⟨by show 3 ≤ sizeLine; decide, fun l hl => ?_⟩
  have pl : p ≠ l := ne_of_none hp hl
  refine ⟨_, rfl, p, CT, dx, [], rfl, (upd_ne pl).trans hp, T.cT, T.nWon, by show 0 < 1000; decide, ?_⟩
  refine ⟨_, rfl, p, CT, dx, _, rfl, upd_same, T.cT, T.nBouts, by show 1 < 1000; decide, ?_⟩
  refine q _ l hl ⟨⟨dx, upd_same.trans ?_⟩, ?_⟩ fun b o e hb => ?_
  · exact congrArg (fun z => some (HO.ins CT dx z)) ((put_past (f := "bouts") (v := .int 0) (x := .ref l) (r := []) (show ¬ ("won" : Str) = "bouts" by decide +kernel)).trans rfl)
  · exact (upd_ne pl.symm).trans ((upd_ne pl.symm).trans upd_same)
  · rw [upd_ne hb, upd_ne hb, upd_ne (ne_of_none e hl)]
    exact e
def spEnded (C CG : Addr) : Sp := fun vs H Q E => ∃ (a l : Addr) (ns : List Int) (b : Int), vs = [.ref a] ∧ Tr C H a l ns b ∧ (ns.sum = 0 → E (.ref CG) none H) ∧ (ns.sum ≠ 0 → Q (.int ns.sum) H)
theorem scEnded : FnScope ["self", "wins"] ["self"] (defScope sEnded) := ⟨rfl, rfl, rfl, by decide +kernel, rfl, by decide +kernel, by decide +kernel⟩
theorem ok_ended (T : Txt K mg CF CT CP CW CN CG) {f : Addr} {fd : FuncData} (F : Fun K "ended" "TimeRound.ended" sEnded f fd) : FnOk P w K mg base (L2.CX P w) 1 f fd ["self"] (spEnded CT CG) := by
  refine F.okX scEnded (fun vs H Q E ⟨a, b, _, _, e, _⟩ => by rw [e]; rfl) (fun cdv A outer s H vs Q E hr h => ⟨_,
    pss_cons (ps_set (i := 1) scEnded.nd rfl (Or.inl rfl) (pe_callB (cr_sum rfl) (by rfl) T.bSum (by decide +kernel) (pa_cons (pe_fld (pv 0) rfl) pa_nil)))
    (pss_cons (ps_if (pt_cmpR op_eq (pv 1) pe_int (nomark _)) (pss_one (ps_err rfl (takes_of (E := E) rfl rfl rfl rfl) T.eG)) pss_nil)
    (pss_one (ps_ret (pv 1)))), ?_⟩)
  obtain ⟨a, l, ns, b, rfl, ⟨⟨dx, ha⟩, hl⟩, kE, kQ⟩ := h
  refine ⟨_, rfl, a, CT, dx, _, _, rfl, ha, T.cT, T.nWon, lk_won l b, l, ns, rfl, SqL.of hl, ?_⟩
  refine ⟨_, rfl, rfl, _, rfl, ?_⟩
  by_cases c : ns.sum = 0
  · exact if_true_of (by rw [c]; rfl) (kE c)
  · exact if_false_of (decide_eq_false fun z => c (by injection z)) ⟨_, rfl, kQ c⟩
def wons (t : Sj12.Three) (i k : Nat) : List Int := [(won t i k 0 : Int), (won t i k 1 : Int), (won t i k 2 : Int)]
theorem wons_sum {t : Sj12.Three} (o : Ok t) {i k : Nat} (hi : i < 3) (hk : k < 3) (ne : i ≠ k) : (wons t i k).sum = (rest t i k : Int) := by
  obtain ⟨_, _, h, _⟩ := three_done o hi hk ne
  have e : (wons t i k).sum = (won t i k 0 : Int) + ((won t i k 1 : Int) + ((won t i k 2 : Int) + 0)) := rfl
  unfold rest
  omega
theorem wons_at (t : Sj12.Three) (i k : Nat) {x : Nat} (hx : x < 3) : ((wons t i k).map V.int)[x]? = some (.int (won t i k x)) := by
  have : x = 0 ∨ x = 1 ∨ x = 2 := by omega
  rcases this with rfl | rfl | rfl <;> rfl
def spTChance (CF CT CG : Addr) : Sp := fun vs H Q E => ∃ (a l : Addr) (t : Sj12.Three) (i k x : Nat) (b : Int), vs = [.ref a, .int x] ∧ Tr CT H a l (wons t i k) b ∧ Ok t ∧ i < 3 ∧ k < 3 ∧ i ≠ k ∧ x < 3 ∧
  (t.from_ i k x = none → E (.ref CG) none H) ∧ (∀ u, t.from_ i k x = some u → ∀ H' p, H p = none → Same H H' → Fr CF H' p u → Q (.ref p) H')
theorem scTChance : FnScope ["self", "wrestler"] ["self", "wrestler"] (defScope sTChance) := ⟨rfl, rfl, rfl, by decide +kernel, rfl, by decide +kernel, by decide +kernel⟩
theorem ok_tchance (T : Txt K mg CF CT CP CW CN CG) (GF : MakeAt P w K mg base CX0 2 "Fraction" CF ["self", "above", "below"] (spFInit CF)) (GE : MethAt P w K mg base (L2.CX P w) 1 CT "ended" ["self"] (spEnded CT CG))
    {f : Addr} {fd : FuncData} (F : Fun K "chance" "TimeRound.chance" sTChance f fd) : FnOk P w K mg base (L2.CX P w) 4 f fd ["self", "wrestler"] (spTChance CF CT CG) := by
  refine F.okX scTChance (fun vs H Q E ⟨a, b, _, _, _, _, _, e, _⟩ => by rw [e]; rfl) (fun cdv A outer s H vs Q E hr h => ⟨_,
    pss_one (ps_ret (make_at GF hr pass0 (pa_cons (pe_ix ix_list (pe_fld (pv 0) rfl) (pv 1) (fun _ _ => rfl)) (pa_cons (meth0_at GE T.cT (hr.mono (by decide)) (pass_on (E := E) (takes_of rfl rfl rfl rfl)) (pv 0)) pa_nil)))), ?_⟩)
  obtain ⟨a, l, t, i, k, x, b, rfl, ⟨⟨dx, ha⟩, hl⟩, o, hi, hk, ne, hx, kE, kQ⟩ := h
  have sm := wons_sum o hi hk ne
  refine ⟨_, rfl, a, CT, dx, _, _, rfl, ha, T.cT, T.nWon, lk_won l b, _, rfl, l, _, _, _, rfl, rfl, SqL.of hl, atI_nat (wons_at t i k hx), ?_⟩
  refine ⟨_, rfl, a, dx, _, rfl, ha, lkT_none l b (by decide +kernel) (by decide +kernel), a, l, wons t i k, b, rfl, ⟨⟨dx, ha⟩, hl⟩, fun z => kE ?_, fun z => ?_⟩
  · rw [from_eq, if_pos (by omega)]
  · rw [sm]
    have r0 : rest t i k ≠ 0 := by omega
    have r1 := rest_le t i k
    intro y dy ny nd ney
    refine ⟨y, dy, won t i k x, rest t i k, rfl, upd_same, Nat.pos_of_ne_zero r0, Nat.lt_of_le_of_lt r1 (by decide), fun H' hF kp => ⟨rfl, ?_⟩⟩
    exact kQ _ (by rw [from_eq, if_neg r0]) H' y ny (Same.made ny nd kp) hF
def spTLength (CF CT CG : Addr) : Sp := fun vs H Q E => ∃ (a l : Addr) (t : Sj12.Three) (i k : Nat), vs = [.ref a] ∧ Tr CT H a l (wons t i k) (long3 t i k) ∧ Ok t ∧ i < 3 ∧ k < 3 ∧ i ≠ k ∧
  (t.longFrom i k = none → E (.ref CG) none H) ∧ (∀ u, t.longFrom i k = some u → ∀ H' p, H p = none → Same H H' → Fr CF H' p u → Q (.ref p) H')
theorem scTLength : FnScope ["self"] ["self"] (defScope sTLength) := ⟨rfl, rfl, rfl, by decide +kernel, rfl, by decide +kernel, by decide +kernel⟩
theorem ok_tlength (T : Txt K mg CF CT CP CW CN CG) (GF : MakeAt P w K mg base CX0 2 "Fraction" CF ["self", "above", "below"] (spFInit CF)) (GE : MethAt P w K mg base (L2.CX P w) 1 CT "ended" ["self"] (spEnded CT CG))
    {f : Addr} {fd : FuncData} (F : Fun K "length" "TimeRound.length" sTLength f fd) : FnOk P w K mg base (L2.CX P w) 4 f fd ["self"] (spTLength CF CT CG) := by
  refine F.okX scTLength (fun vs H Q E ⟨a, b, _, _, _, e, _⟩ => by rw [e]; rfl) (fun cdv A outer s H vs Q E hr h => ⟨_,
    pss_one (ps_ret (make_at GF hr pass0 (pa_cons (pe_fld (pv 0) rfl) (pa_cons (meth0_at GE T.cT (hr.mono (by decide)) (pass_on (E := E) (takes_of rfl rfl rfl rfl)) (pv 0)) pa_nil)))), ?_⟩)
  obtain ⟨a, l, t, i, k, rfl, ⟨⟨dx, ha⟩, hl⟩, o, hi, hk, ne, kE, kQ⟩ := h
  have sm := wons_sum o hi hk ne
  refine ⟨_, rfl, a, CT, dx, _, _, rfl, ha, T.cT, T.nBouts, lk_bouts l _, ?_⟩
  refine ⟨_, rfl, a, dx, _, rfl, ha, lkT_none l _ (by decide +kernel) (by decide +kernel), a, l, wons t i k, _, rfl, ⟨⟨dx, ha⟩, hl⟩, fun z => kE ?_, fun z => ?_⟩
  · rw [longFrom_eq, if_pos (by omega)]
  · rw [sm]
    have r0 : rest t i k ≠ 0 := by omega
    have r1 := rest_le t i k
    intro y dy ny nd ney
    refine ⟨y, dy, long3 t i k, rest t i k, rfl, upd_same, Nat.pos_of_ne_zero r0, Nat.lt_of_le_of_lt r1 (by decide), fun H' hF kp => ⟨rfl, ?_⟩⟩
    exact kQ _ (by rw [longFrom_eq, if_neg r0]) H' y ny (Same.made ny nd kp) hF
/-! ### share -/
def spShare (C : Addr) : Sp := fun vs H Q _ => ∃ (a l : Addr) (t : Sj12.Three) (i k : Nat), vs = [.ref a, .int i, .int k] ∧ Po C H a l t ∧ i < 3 ∧ k < 3 ∧ i ≠ k ∧ Q (.int (t.wins i k : Nat)) H
theorem scShare : FnScope ["self", "winner", "loser"] ["self", "winner", "loser"] (defScope sShare) := ⟨rfl, rfl, rfl, by decide +kernel, rfl, by decide +kernel, by decide +kernel⟩
theorem nats_at {l : List Nat} {i z : Nat} (h : l[i]? = some z) : (nats l)[i]? = some (.int z) := by
  unfold nats
  rw [List.getElem?_map, h]
  rfl
theorem ok_share (T : Txt K mg CF CT CP CW CN CG) {f : Addr} {fd : FuncData} (F : Fun K "share" "PlayOff.share" sShare f fd) : FnOk P w K mg base CX0 1 f fd ["self", "winner", "loser"] (spShare CP) := by
  refine F.ok scShare (fun vs H Q E ⟨a, b, _, _, _, e, _⟩ => by rw [e]; rfl) (fun cdv A outer s H vs Q E hr h => ⟨_,
    pss_cons (ps_if (pt_cmpR op_eq (pv 2) (pe_op op_mod (pe_op op_add (pv 1) pe_int) (cst T.m3)) (nomark _)) (pss_one (ps_ret (pe_ix ix_list (pe_fld (pv 0) rfl) (pv 1) (fun _ _ => rfl)))) pss_nil)
    (pss_one (ps_ret (pe_op op_sub (cst T.m100) (pe_ix ix_list (pe_fld (pv 0) rfl) (pv 2) (fun _ _ => rfl))))), ?_⟩)
  obtain ⟨a, l, t, i, k, rfl, ⟨⟨dx, ha⟩, hl, o⟩, hi, hk, ne, q⟩ := h
  have em : ((i : Int) + 1) % 3 = ((i + 1) % 3 : Nat) := by omega
  refine ⟨_, rfl, _, rfl, _, _, rfl, rfl, _, _, rfl, rfl, by show (0 : Int) < 3; decide, rfl, _, rfl, ?_⟩
  by_cases c : k = (i + 1) % 3
  · refine if_true_of (decide_eq_true ?_) ?_
    · show V.int (k : Int) = V.int (((i : Int) + 1) % 3)
      rw [em, c]
    · exact ⟨_, rfl, a, CP, dx, _, _, rfl, ha, T.cP, T.nWins, lk_wins l, _, rfl, l, _, _, _, rfl, rfl, SqL.of hl, atI_nat (nats_at (share_fwd hi hk c)), q⟩
  · obtain ⟨z, hz, ez⟩ := share_back (t := t) hi hk ne c
    refine if_false_of (decide_eq_false fun y => c ?_) ?_
    · have y' : (k : Int) = ((i : Int) + 1) % 3 := by injection y
      omega
    · refine ⟨_, rfl, a, CP, dx, _, _, rfl, ha, T.cP, T.nWins, lk_wins l, _, rfl, l, _, _, _, rfl, rfl, SqL.of hl, atI_nat (nats_at hz), _, _, rfl, rfl, ?_⟩
      have zl : z ≤ 100 := by
        obtain ⟨o1, o2, o3⟩ := o
        have mem : z ∈ lst t := List.mem_of_getElem? hz
        simp only [lst, List.mem_cons, List.not_mem_nil, or_false] at mem
        omega
      have e : (100 : Int) - z = (t.wins i k : Nat) := by omega
      show Q (.int ((100 : Int) - z)) H
      rw [e]
      exact q
end
end TB
namespace TB
open PySem PySem.Spec PyProof.Rows L2
section
variable {P : Program} {w : World} {K : PySem.W.Frag} {mg : Str → Option Value} {base : Heap} {CF CT CP CW CN CG : Addr}
/-! ### time_round -/
def spRound (CP CT : Addr) : Sp := fun vs H Q _ => ∃ (a l : Addr) (t : Sj12.Three) (i k : Nat), vs = [.ref a, .int i, .int k] ∧ Po CP H a l t ∧ i < 3 ∧ k < 3 ∧ i ≠ k ∧
  ∀ H' p q, Same H H' → Tr CT H' p q (wons t i k) (long3 t i k) → Q (.ref p) H'
def N_round : List Str := ["self", "winner", "loser", "gone", "left", "holder", "beaten", "bout", "comer", "lost"]
theorem scRound : FnScope N_round ["self", "winner", "loser"] (defScope sRound) := ⟨rfl, rfl, rfl, by decide +kernel, rfl, by decide +kernel, by decide +kernel⟩
theorem ok_round (T : Txt K mg CF CT CP CW CN CG) (GT : MakeAt P w K mg base CX0 1 "TimeRound" CT ["self"] (spTInit CT)) (GS : MethAt P w K mg base CX0 1 CP "share" ["self", "winner", "loser"] (spShare CP))
    (G3 : DefAt P w K mg base CX0 1 "third" ["one", "other"] spThird)
    {f : Addr} {fd : FuncData} (F : Fun K "time_round" "PlayOff.time_round" sRound f fd) : FnOk P w K mg base CX0 3 f fd ["self", "winner", "loser"] (spRound CP CT) := by
  refine F.ok scRound (fun vs H Q E ⟨a, b, _, _, _, e, _⟩ => by rw [e]; rfl) (fun cdv A outer s H vs Q E hr h => ⟨_,
    pss_cons (ps_set (i := 3) scRound.nd rfl (Or.inl rfl) (make0_at GT hr pass0))
    (pss_cons (ps_set (i := 4) scRound.nd rfl (Or.inl rfl) (cst T.mMil))
    (pss_cons (ps_set (i := 5) scRound.nd rfl (Or.inl rfl) (pv 1))
    (pss_cons (ps_set (i := 6) scRound.nd rfl (Or.inl rfl) (pv 2))
    (pss_cons (ps_for PassesOwn.never rfl (pi_range1 rfl T.bRange (pa_cons (cst T.m3) pa_nil)) (pg_name (i := 7) scRound.nd rfl (Or.inl rfl))
      (pss_cons (ps_set (i := 8) scRound.nd rfl (Or.inl rfl) (call_at G3 (hr.mono (by decide)) pass0 (pa_cons (pv 5) (pa_cons (pv 6) pa_nil))))
      (pss_cons (ps_set (i := 9) scRound.nd rfl (Or.inl rfl) (pe_op op_fdiv (pe_op op_mul (pv 4) (meth_at GS T.cP (hr.mono (by decide)) pass0 (pv 0) (pa_cons (pv 8) (pa_cons (pv 5) pa_nil)))) (cst T.m100)))
      (pss_cons (ps_asg (pe_op op_sub (pv 4) (pv 9)) (pg_sub (pe_fld (pv 3) rfl) (pv 5) set_list))
      (pss_cons (ps_fld (pv 3) (pe_op op_add (pe_fld (pv 3) rfl) (pv 4)) rfl)
      (pss_cons (ps_set (i := 4) scRound.nd rfl (Or.inl rfl) (pv 9))
      (pss_cons (ps_set (i := 6) scRound.nd rfl (Or.inl rfl) (pv 5))
      (pss_one (ps_set (i := 5) scRound.nd rfl (Or.inl rfl) (pv 8))))))))))
    (pss_one (ps_ret (pv 3))))))), ?_⟩)
  obtain ⟨a, l, t, i, k, rfl, hpo, hi, hk, ne, q⟩ := h
  intro g dg ng nd neg
  refine ⟨g, dg, rfl, upd_same, fun H1 r nr hT kp => ⟨rfl, ?_⟩⟩
  have hpo' := hpo
  obtain ⟨_, _, o⟩ := hpo'
  have s1 : Same H H1 := Same.made ng nd kp
  have gr : g ≠ r := fun z => by rw [← z, upd_same] at nr; cases nr
  have nrH : H r = none := by
    cases e : H r with
    | none => rfl
    | some u =>
      have z1 : r ≠ dg := ne_of_none e nd
      rw [upd_ne gr.symm, upd_ne z1, e] at nr
      cases nr
  refine ⟨_, rfl, _, rfl, 3, rfl, by decide, by decide, for_range (n := 3) (fun m σ H' => ∃ v7 v8 v9 : Option V,
    σ = [some (.ref a), some (.int i), some (.int k), some (.ref g), some (.int (S.at_ t i k m).l), some (.int (S.at_ t i k m).h), some (.int (S.at_ t i k m).b), v7, v8, v9] ∧
    Same H H' ∧ Tr CT H' g r (S.at_ t i k m).w (S.at_ t i k m).n) ⟨none, none, none, rfl, s1, hT⟩ ?_ ?_⟩
  · rintro m σ H' hm ⟨v7, v8, v9, rfl, s2, ⟨dx, hg⟩, hrl⟩
    have gd := S.good o hi hk ne m
    have wl := wins_le o (3 - (S.at_ t i k m).h - (S.at_ t i k m).b) (S.at_ t i k m).h
    obtain ⟨sm, hsm⟩ : ∃ sm, S.at_ t i k m = sm := ⟨_, rfl⟩
    have hnx : S.at_ t i k (m + 1) = sm.next t := by rw [← hsm]; rfl
    rw [hsm] at hg hrl gd wl
    rw [hnx, hsm]
    obtain ⟨g1, g2, g3, g4, g5⟩ := gd
    refine ⟨_, rfl, _, rfl, sm.h, sm.b, rfl, g1, g2, g3, ?_⟩
    refine ⟨_, rfl, _, rfl, a, _, _, rfl, s2 _ _ hpo.1.choose_spec, lkP_none l (by decide +kernel), _, rfl, _, rfl, a, l, t, 3 - sm.h - sm.b, sm.h, rfl, hpo.same s2, by omega, g1, by omega, ?_⟩
    refine ⟨_, _, rfl, rfl, .inl ⟨by omega, by omega⟩, _, _, rfl, rfl, ⟨by decide, by decide⟩, ?_⟩
    have lost : (sm.l : Int) * (t.wins (3 - sm.h - sm.b) sm.h : Nat) / 100 = (sm.l * t.wins (3 - sm.h - sm.b) sm.h / 100 : Nat) := by
      rw [Int.natCast_ediv, Int.natCast_mul]
      rfl
    refine ⟨_, rfl, _, rfl, _, _, rfl, rfl, _, rfl, g, CT, dx, _, _, rfl, hg, T.cT, T.nWon, lk_won r _, _, rfl, r, _, _, sm.h, rfl, rfl, hrl, ?_, ?_⟩
    · unfold ixN
      rw [if_pos (by omega), if_pos (by rw [List.length_map, g4]; omega)]
      exact congrArg some (Int.toNat_natCast _)
    refine ⟨_, rfl, g, CT, dx, _, _, rfl, (upd_ne gr).trans hg, T.cT, T.nBouts, lk_bouts r _, _, rfl, _, _, rfl, rfl, _, rfl, g, CT, dx, _, rfl, (upd_ne gr).trans hg, T.cT, T.nBouts, by show 2 < 1000; decide, ?_⟩
    refine ⟨_, rfl, _, rfl, _, rfl, some (.int (0 + (m : Int))), some (.int (3 - sm.h - sm.b : Nat)), some (.int (sm.l * t.wins (3 - sm.h - sm.b) sm.h / 100 : Nat)), ?_, ?_, ⟨dx, upd_same.trans ?_⟩, ?_⟩
    · show [some (V.ref a), some (.int i), some (.int k), some (.ref g), some (V.int ((sm.l : Int) * (t.wins (3 - sm.h - sm.b) sm.h : Nat) / 100)), some (.int (3 - sm.h - sm.b : Nat)), some (.int sm.h), some (.int (0 + (m : Int))), some (.int (3 - sm.h - sm.b : Nat)), some (V.int ((sm.l : Int) * (t.wins (3 - sm.h - sm.b) sm.h : Nat) / 100))] = _
      rw [lost]
      rfl
    · exact same_upd2 (same_upd2 s2 nrH) ng
    · refine congrArg (fun z => some (HO.ins CT dx z)) ((put_past (show ¬ ("won" : Str) = "bouts" by decide +kernel)).trans ?_)
      show _ = [(("won" : Str), V.ref r), (("bouts" : Str), V.int ((sm.n + sm.l : Nat) : Int))]
      rw [Int.natCast_add]
      exact congrArg _ put_here
    · refine (upd_ne gr.symm).trans (upd_same.trans (congrArg (fun z => some (HO.lst z)) ?_))
      show (sm.w.map V.int).set sm.h (V.int ((sm.l : Int) - (sm.l : Int) * (t.wins (3 - sm.h - sm.b) sm.h : Nat) / 100)) = _
      rw [lost]
      show _ = (sm.w.set sm.h ((sm.l : Int) - (sm.l * t.wins (3 - sm.h - sm.b) sm.h / 100 : Nat))).map V.int
      rw [List.map_set]
  · rintro σ H' ⟨v7, v8, v9, rfl, s2, hT2⟩
    obtain ⟨e1, e2, _, _⟩ := three_done o hi hk ne
    rw [e1, e2] at hT2
    exact ⟨_, rfl, q H' g r s2 hT2⟩
/-! ### mean -/
def spMean (CF : Addr) : Sp := fun vs H Q _ => ∃ (p : Nat) (a b : Addr) (u v : Sj12.Frac), vs = [.int p, .ref a, .ref b] ∧ p ≤ 100 ∧ Fr CF H a u ∧ Fr CF H b v ∧ Low u ∧ Low v ∧ u.d ≤ 1000000 ∧ v.d ≤ 1000000 ∧
  ∀ H' q, H q = none → Same H H' → Fr CF H' q (meanF p u v) → Q (.ref q) H'
theorem scMean : FnScope ["share", "ahead", "behind", "above"] ["share", "ahead", "behind"] (defScope sMean) := ⟨rfl, rfl, rfl, by decide +kernel, rfl, by decide +kernel, by decide +kernel⟩
theorem ok_mean (T : Txt K mg CF CT CP CW CN CG) (GF : MakeAt P w K mg base CX0 2 "Fraction" CF ["self", "above", "below"] (spFInit CF))
    {f : Addr} {fd : FuncData} (F : Fun K "mean" "mean" sMean f fd) : FnOk P w K mg base CX0 4 f fd ["share", "ahead", "behind"] (spMean CF) := by
  refine F.ok scMean (fun vs H Q E ⟨p, a, b, _, _, e, _⟩ => by rw [e]; rfl) (fun cdv A outer s H vs Q E hr h => ⟨_,
    pss_cons (ps_set (i := 3) scMean.nd rfl (Or.inl rfl) (pe_op op_add
      (pe_op op_mul (pe_op op_mul (pv 0) (pe_fld (pv 1) rfl)) (pe_fld (pv 2) rfl))
      (pe_op op_mul (pe_op op_mul (pe_op op_sub (cst T.m100) (pv 0)) (pe_fld (pv 2) rfl)) (pe_fld (pv 1) rfl))))
    (pss_one (ps_ret (make_at GF hr pass0 (pa_cons (pv 3) (pa_cons (pe_op op_mul (pe_op op_mul (cst T.m100) (pe_fld (pv 1) rfl)) (pe_fld (pv 2) rfl)) pa_nil))))), ?_⟩)
  obtain ⟨p, a, b, u, v, rfl, hp, ⟨dx, ha⟩, ⟨dy, hb⟩, lu, lv, bu, bv, q⟩ := h
  refine ⟨_, rfl, _, rfl, a, CF, dx, _, _, rfl, ha, T.cF, T.nAbove, lk_above u, _, _, rfl, rfl, .inl ⟨by omega, by omega⟩, _, rfl, b, CF, dy, _, _, rfl, hb, T.cF, T.nBelow, lk_below v, _, _, rfl, rfl, .inr ⟨by omega, by omega⟩, ?_⟩
  refine ⟨_, rfl, _, _, rfl, rfl, _, rfl, b, CF, dy, _, _, rfl, hb, T.cF, T.nAbove, lk_above v, _, _, rfl, rfl, .inl ⟨by omega, by omega⟩, _, rfl, a, CF, dx, _, _, rfl, ha, T.cF, T.nBelow, lk_below u, _, _, rfl, rfl, .inr ⟨by omega, by omega⟩, ?_⟩
  refine ⟨_, _, rfl, rfl, ?_⟩
  refine ⟨_, rfl, _, rfl, a, CF, dx, _, _, rfl, ha, T.cF, T.nBelow, lk_below u, _, _, rfl, rfl, .inl ⟨by decide, by decide⟩, _, rfl, b, CF, dy, _, _, rfl, hb, T.cF, T.nBelow, lk_below v, _, _, rfl, rfl, .inr ⟨by omega, by omega⟩, ?_⟩
  intro y dz ny nd ney
  have ps : (100 : Int) - p = (100 - p : Nat) := by omega
  have e1 : (p : Int) * u.n * v.d + (100 - p) * v.n * u.d = (p * u.n * v.d + (100 - p) * v.n * u.d : Nat) := by
    rw [ps, Int.natCast_add, Int.natCast_mul, Int.natCast_mul, Int.natCast_mul, Int.natCast_mul]
  have e2 : (100 : Int) * u.d * v.d = (100 * u.d * v.d : Nat) := by
    rw [Int.natCast_mul, Int.natCast_mul]
    rfl
  have d0 : 0 < 100 * u.d * v.d := Nat.mul_pos (Nat.mul_pos (by decide) lu.pos) lv.pos
  have d1 : 100 * u.d * v.d ≤ 100 * 1000000 * 1000000 := Nat.mul_le_mul (Nat.mul_le_mul (Nat.le_refl 100) bu) bv
  refine ⟨y, dz, p * u.n * v.d + (100 - p) * v.n * u.d, 100 * u.d * v.d, ?_, upd_same, d0, Nat.lt_of_le_of_lt d1 (by decide), fun H' hF kp => ⟨rfl, q H' y ny (Same.made ny nd kp) hF⟩⟩
  show [V.ref y, V.int ((p : Int) * u.n * v.d + (100 - p) * v.n * u.d), V.int ((100 : Int) * u.d * v.d)] = _
  rw [e1, e2]
end
end TB
namespace TB
open PySem PySem.Spec PyProof.Rows L2
theorem fresh_of {H H' : Hp} {p : Addr} (s : Same H H') (h : H' p = none) : H p = none := Same.free s h
section
variable {P : Program} {w : World} {K : PySem.W.Frag} {mg : Str → Option Value} {base : Heap} {CF CT CP CW CN CG : Addr}
/-! ### PlayOff -/
def spPInit (C : Addr) : Sp := fun vs H Q _ => ∃ (p dx : Addr), vs = [.ref p] ∧ H p = some (.ins C dx []) ∧
  ∀ H' q, H q = none → Po C H' p q Sj12.init → (∀ b o, H b = some o → b ≠ p → H' b = some o) → Q .non H'
theorem scPInit : FnScope ["self"] ["self"] (defScope sPInit) := ⟨rfl, rfl, rfl, by decide +kernel, rfl, by decide +kernel, by decide +kernel⟩
theorem ok_pinit (T : Txt K mg CF CT CP CW CN CG) {f : Addr} {fd : FuncData} (F : Fun K "__init__" "PlayOff.__init__" sPInit f fd) : FnOk P w K mg base CX0 1 f fd ["self"] (spPInit CP) := by
  refine F.ok scPInit (fun vs H Q E ⟨a, b, e, _⟩ => by rw [e]; rfl) (fun cdv A outer s H vs Q E hr h => ⟨_,
    pss_one (ps_fld (pv 0) (pe_lst (pa_cons pe_int (pa_cons pe_int (pa_cons pe_int pa_nil)))) rfl), ?_⟩)
  obtain ⟨p, dx, rfl, hp, q⟩ := h
  refine ⟨by show 3 ≤ sizeLine; decide, fun l hl => ?_⟩
  have pl : p ≠ l := ne_of_none hp hl
  refine ⟨_, rfl, p, CP, dx, [], rfl, (upd_ne pl).trans hp, T.cP, T.nWins, by show 0 < 1000; decide, ?_⟩
  refine q _ l hl ⟨⟨dx, upd_same⟩, (upd_ne pl.symm).trans upd_same, ok_init⟩ fun b o e hb => ?_
  rw [upd_ne hb, upd_ne (ne_of_none e hl)]
  exact e
def spChance (CP CF CG : Addr) : Sp := fun vs H Q E => ∃ (a l : Addr) (t : Sj12.Three) (i k x : Nat), vs = [.ref a, .int i, .int k, .int x] ∧ Po CP H a l t ∧ i < 3 ∧ k < 3 ∧ i ≠ k ∧ x < 3 ∧
  (t.odds i k x = none → ∀ H', Same H H' → E (.ref CG) none H') ∧ (∀ u, t.odds i k x = some u → ∀ H' p, H p = none → Same H H' → Fr CF H' p u → Q (.ref p) H')
theorem scChance : FnScope ["self", "one", "other", "wrestler", "ahead", "behind"] ["self", "one", "other", "wrestler"] (defScope sChance) := ⟨rfl, rfl, rfl, by decide +kernel, rfl, by decide +kernel, by decide +kernel⟩
theorem ok_chance (T : Txt K mg CF CT CP CW CN CG) (GR : MethAt P w K mg base CX0 3 CP "time_round" ["self", "winner", "loser"] (spRound CP CT)) (GS : MethAt P w K mg base CX0 1 CP "share" ["self", "winner", "loser"] (spShare CP))
    (GC : MethAt P w K mg base (L2.CX P w) 4 CT "chance" ["self", "wrestler"] (spTChance CF CT CG)) (GM : DefAt P w K mg base CX0 4 "mean" ["share", "ahead", "behind"] (spMean CF))
    {f : Addr} {fd : FuncData} (F : Fun K "chance" "PlayOff.chance" sChance f fd) : FnOk P w K mg base (L2.CX P w) 5 f fd ["self", "one", "other", "wrestler"] (spChance CP CF CG) := by
  refine F.okX scChance (fun vs H Q E ⟨a, b, _, _, _, _, e, _⟩ => by rw [e]; rfl) (fun cdv A outer s H vs Q E hr h => ⟨_,
    pss_cons (ps_set (i := 4) scChance.nd rfl (Or.inl rfl) (meth_at GC T.cT hr (pass_on (E := E) (takes_of rfl rfl rfl rfl)) (meth_at GR T.cP (hr.mono (by decide)) pass0 (pv 0) (pa_cons (pv 1) (pa_cons (pv 2) pa_nil))) (pa_cons (pv 3) pa_nil)))
    (pss_cons (ps_set (i := 5) scChance.nd rfl (Or.inl rfl) (meth_at GC T.cT hr (pass_on (E := E) (takes_of rfl rfl rfl rfl)) (meth_at GR T.cP (hr.mono (by decide)) pass0 (pv 0) (pa_cons (pv 2) (pa_cons (pv 1) pa_nil))) (pa_cons (pv 3) pa_nil)))
    (pss_one (ps_ret (call_at GM hr pass0 (pa_cons (meth_at GS T.cP (hr.mono (by decide)) pass0 (pv 0) (pa_cons (pv 1) (pa_cons (pv 2) pa_nil))) (pa_cons (pv 4) (pa_cons (pv 5) pa_nil))))))), ?_⟩)
  obtain ⟨a, l, t, i, k, x, rfl, hpo, hi, hk, ne, hx, kE, kQ⟩ := h
  obtain ⟨⟨dx, ha⟩, hl, o⟩ := id hpo
  have oe := odds_eq (x := x) o hi hk ne
  refine ⟨_, rfl, a, dx, _, rfl, ha, lkP_none l (by decide +kernel), _, rfl, _, rfl, a, l, t, i, k, rfl, hpo, hi, hk, ne, fun H1 p1 q1 s1 hT1 => ?_⟩
  obtain ⟨⟨d1, h1⟩, h1'⟩ := id hT1
  refine ⟨p1, d1, _, rfl, h1, lkT_none q1 _ (by decide +kernel) (by decide +kernel), _, rfl, p1, q1, t, i, k, x, _, rfl, hT1, o, hi, hk, ne, hx, fun z => kE ?_ H1 s1, fun u eu H2 p2 n2 s2 hF2 => ?_⟩
  · rw [oe, z]
    rfl
  have s12 := s1.trans s2
  refine ⟨_, rfl, a, dx, _, rfl, s12 _ _ ha, lkP_none l (by decide +kernel), _, rfl, _, rfl, a, l, t, k, i, rfl, hpo.same s12, hk, hi, ne.symm, fun H3 p3 q3 s3 hT3 => ?_⟩
  obtain ⟨⟨d3, h3⟩, h3'⟩ := id hT3
  have s13 := s12.trans s3
  refine ⟨p3, d3, _, rfl, h3, lkT_none q3 _ (by decide +kernel) (by decide +kernel), _, rfl, p3, q3, t, k, i, x, _, rfl, hT3, o, hk, hi, ne.symm, hx, fun z => kE ?_ H3 s13, fun v ev H4 p4 n4 s4 hF4 => ?_⟩
  · rw [oe, eu, z]
    rfl
  have s14 := s13.trans s4
  refine ⟨_, rfl, a, dx, _, rfl, s14 _ _ ha, lkP_none l (by decide +kernel), _, rfl, _, rfl, a, l, t, i, k, rfl, hpo.same s14, hi, hk, ne, ?_⟩
  obtain ⟨lu, _, bu⟩ := from_some eu
  obtain ⟨lv, _, bv⟩ := from_some ev
  refine ⟨_, rfl, _, rfl, t.wins i k, p2, p4, u, v, rfl, wins_le o _ _, hF2.same (s3.trans s4), hF4, lu, lv, bu, bv, fun H5 p5 n5 s5 hF5 => ?_⟩
  refine kQ (meanF (t.wins i k) u v) ?_ H5 p5 (fresh_of s14 n5) (s14.trans s5) hF5
  rw [oe, eu, ev]
  rfl
def spLength (CP CF CG : Addr) : Sp := fun vs H Q E => ∃ (a l : Addr) (t : Sj12.Three) (i k : Nat), vs = [.ref a, .int i, .int k] ∧ Po CP H a l t ∧ i < 3 ∧ k < 3 ∧ i ≠ k ∧
  (t.long i k = none → ∀ H', Same H H' → E (.ref CG) none H') ∧ (∀ u, t.long i k = some u → ∀ H' p, H p = none → Same H H' → Fr CF H' p u → Q (.ref p) H')
theorem scLength : FnScope ["self", "one", "other", "ahead", "behind", "later"] ["self", "one", "other"] (defScope sLength) := ⟨rfl, rfl, rfl, by decide +kernel, rfl, by decide +kernel, by decide +kernel⟩
theorem ok_length (T : Txt K mg CF CT CP CW CN CG) (GR : MethAt P w K mg base CX0 3 CP "time_round" ["self", "winner", "loser"] (spRound CP CT)) (GS : MethAt P w K mg base CX0 1 CP "share" ["self", "winner", "loser"] (spShare CP))
    (GL : MethAt P w K mg base (L2.CX P w) 4 CT "length" ["self"] (spTLength CF CT CG)) (GM : DefAt P w K mg base CX0 4 "mean" ["share", "ahead", "behind"] (spMean CF))
    (GF : MakeAt P w K mg base CX0 2 "Fraction" CF ["self", "above", "below"] (spFInit CF))
    {f : Addr} {fd : FuncData} (F : Fun K "length" "PlayOff.length" sLength f fd) : FnOk P w K mg base (L2.CX P w) 5 f fd ["self", "one", "other"] (spLength CP CF CG) := by
  refine F.okX scLength (fun vs H Q E ⟨a, b, _, _, _, e, _⟩ => by rw [e]; rfl) (fun cdv A outer s H vs Q E hr h => ⟨_,
    pss_cons (ps_set (i := 3) scLength.nd rfl (Or.inl rfl) (meth0_at GL T.cT hr (pass_on (E := E) (takes_of rfl rfl rfl rfl)) (meth_at GR T.cP (hr.mono (by decide)) pass0 (pv 0) (pa_cons (pv 1) (pa_cons (pv 2) pa_nil)))))
    (pss_cons (ps_set (i := 4) scLength.nd rfl (Or.inl rfl) (meth0_at GL T.cT hr (pass_on (E := E) (takes_of rfl rfl rfl rfl)) (meth_at GR T.cP (hr.mono (by decide)) pass0 (pv 0) (pa_cons (pv 2) (pa_cons (pv 1) pa_nil)))))
    (pss_cons (ps_set (i := 5) scLength.nd rfl (Or.inl rfl) (call_at GM hr pass0 (pa_cons (meth_at GS T.cP (hr.mono (by decide)) pass0 (pv 0) (pa_cons (pv 1) (pa_cons (pv 2) pa_nil))) (pa_cons (pv 3) (pa_cons (pv 4) pa_nil)))))
    (pss_one (ps_ret (make_at GF (hr.mono (by decide)) pass0 (pa_cons (pe_op op_add (pe_fld (pv 5) rfl) (pe_fld (pv 5) rfl)) (pa_cons (pe_fld (pv 5) rfl) pa_nil))))))), ?_⟩)
  obtain ⟨a, l, t, i, k, rfl, hpo, hi, hk, ne, kE, kQ⟩ := h
  obtain ⟨⟨dx, ha⟩, hl, o⟩ := id hpo
  have oe := long_eq o hi hk ne
  refine ⟨_, rfl, a, dx, _, rfl, ha, lkP_none l (by decide +kernel), _, rfl, _, rfl, a, l, t, i, k, rfl, hpo, hi, hk, ne, fun H1 p1 q1 s1 hT1 => ?_⟩
  obtain ⟨⟨d1, h1⟩, h1'⟩ := id hT1
  refine ⟨p1, d1, _, rfl, h1, lkT_none q1 _ (by decide +kernel) (by decide +kernel), p1, q1, t, i, k, rfl, hT1, o, hi, hk, ne, fun z => kE ?_ H1 s1, fun u eu H2 p2 n2 s2 hF2 => ?_⟩
  · rw [oe, z]
    rfl
  have s12 := s1.trans s2
  refine ⟨_, rfl, a, dx, _, rfl, s12 _ _ ha, lkP_none l (by decide +kernel), _, rfl, _, rfl, a, l, t, k, i, rfl, hpo.same s12, hk, hi, ne.symm, fun H3 p3 q3 s3 hT3 => ?_⟩
  obtain ⟨⟨d3, h3⟩, h3'⟩ := id hT3
  have s13 := s12.trans s3
  refine ⟨p3, d3, _, rfl, h3, lkT_none q3 _ (by decide +kernel) (by decide +kernel), p3, q3, t, k, i, rfl, hT3, o, hk, hi, ne.symm, fun z => kE ?_ H3 s13, fun v ev H4 p4 n4 s4 hF4 => ?_⟩
  · rw [oe, eu, z]
    rfl
  have s14 := s13.trans s4
  refine ⟨_, rfl, a, dx, _, rfl, s14 _ _ ha, lkP_none l (by decide +kernel), _, rfl, _, rfl, a, l, t, i, k, rfl, hpo.same s14, hi, hk, ne, ?_⟩
  obtain ⟨lu, _, bu⟩ := longFrom_some eu
  obtain ⟨lv, _, bv⟩ := longFrom_some ev
  refine ⟨_, rfl, _, rfl, t.wins i k, p2, p4, u, v, rfl, wins_le o _ _, hF2.same (s3.trans s4), hF4, lu, lv, bu, bv, fun H5 p5 n5 s5 hF5 => ?_⟩
  obtain ⟨m, hm⟩ : ∃ m, meanF (t.wins i k) u v = m := ⟨_, rfl⟩
  have lm : Low m := by rw [← hm]; exact meanF_low lu lv
  have dm : m.d ≤ 100000000000000 := by rw [← hm]; exact meanF_d lu lv bu bv
  rw [hm] at hF5
  obtain ⟨d5, h5⟩ := hF5
  have s15 := s14.trans s5
  refine ⟨_, rfl, p5, CF, d5, _, _, rfl, h5, T.cF, T.nAbove, lk_above m, _, rfl, p5, CF, d5, _, _, rfl, h5, T.cF, T.nBelow, lk_below m, _, _, rfl, rfl, ?_⟩
  refine ⟨_, rfl, p5, CF, d5, _, _, rfl, h5, T.cF, T.nBelow, lk_below m, ?_⟩
  intro y dy ny nd ney
  refine ⟨y, dy, m.n + m.d, m.d, rfl, upd_same, lm.pos, Nat.lt_of_le_of_lt dm (by decide), fun H6 hF6 kp => ⟨rfl, ?_⟩⟩
  refine kQ (Sj12.frac (m.n + m.d) m.d) ?_ H6 y (fresh_of s15 ny) (s15.trans (Same.made ny nd kp)) hF6
  rw [oe, eu, ev]
  show some (Sj12.frac ((meanF (t.wins i k) u v).n + (meanF (t.wins i k) u v).d) (meanF (t.wins i k) u v).d) = _
  rw [hm]
def spBegins (K : PySem.W.Frag) (CP CW : Addr) : Sp := fun vs H Q E => ∃ (a b l : Addr) (t : Sj12.Three) (x y z : Nat), vs = [.ref a, .ref b] ∧ Po CP H a l t ∧ SqL K H b (nats [x, y, z]) ∧
  ((100 < x ∨ 100 < y ∨ 100 < z) → E (.ref CW) none H) ∧
  (¬ (100 < x ∨ 100 < y ∨ 100 < z) → ∀ H' l' r, H l' = none → H r = none → (∀ c o, H c = some o → c ≠ a → H' c = some o) → Po CP H' a l' ⟨x, y, z⟩ → H' r = some (.lst [.int 0]) → Q (.ref r) H')
theorem scBegins : FnScope ["self", "wins"] ["self", "wins"] (defScope sBegins) := ⟨rfl, rfl, rfl, by decide +kernel, rfl, by decide +kernel, by decide +kernel⟩
theorem ok_begins (T : Txt K mg CF CT CP CW CN CG) {f : Addr} {fd : FuncData} (F : Fun K "begins" "PlayOff.begins" sBegins f fd) : FnOk P w K mg base (L2.CX P w) 1 f fd ["self", "wins"] (spBegins K CP CW) := by
  refine F.okX scBegins (fun vs H Q E ⟨a, b, _, _, _, _, _, e, _⟩ => by rw [e]; rfl) (fun cdv A outer s H vs Q E hr h => ⟨_,
    pss_cons (ps_if (pt_cmpR op_gt (pe_callB (cr_max rfl) (by rfl) T.bMax (by decide +kernel) (pa_cons (pv 1) pa_nil)) (cst T.m100) (nomark _)) (pss_one (ps_err rfl (takes_of (E := E) rfl rfl rfl rfl) T.eW)) pss_nil)
    (pss_cons (ps_fld (pv 0) (pe_callTy call_list_of (by rfl) T.bList (by decide +kernel) (pa_cons (pv 1) pa_nil)) rfl)
    (pss_one (ps_ret (pe_lst (pa_cons pe_int pa_nil))))), ?_⟩)
  obtain ⟨a, b, l, t, x, y, z, rfl, ⟨⟨dx, ha⟩, hl, o⟩, hb, kE, kQ⟩ := h
  refine ⟨_, rfl, b, [(x : Int), (y : Int), (z : Int)], rfl, hb, (by show 0 < 3; decide), fun m hm hle => ?_⟩
  refine ⟨_, _, rfl, rfl, _, rfl, ?_⟩
  have hx := hle x (by simp)
  have hy := hle y (by simp)
  have hz := hle z (by simp)
  simp only [List.mem_cons, List.not_mem_nil, or_false] at hm
  by_cases c : (100 : Int) < m
  · exact if_true_of (decide_eq_true c) (kE (by omega))
  · refine if_false_of (decide_eq_false c) ?_
    have nc : ¬ (100 < x ∨ 100 < y ∨ 100 < z) := by omega
    refine ⟨_, rfl, b, _, rfl, .inl hb, fun l' hl' => ?_⟩
    have al : a ≠ l' := ne_of_none ha hl'
    refine ⟨_, rfl, a, CP, dx, _, rfl, (upd_ne al).trans ha, T.cP, T.nWins, by show 1 < 1000; decide, ?_⟩
    refine ⟨by show 1 ≤ sizeLine; decide, fun r hr' => ?_⟩
    have ra : r ≠ a := fun e => by rw [e, upd_same] at hr'; cases hr'
    have rl : r ≠ l' := fun e => by rw [e, upd_ne al.symm, upd_same] at hr'; cases hr'
    have nr : H r = none := by
      rw [upd_ne ra, upd_ne rl] at hr'
      exact hr'
    refine kQ nc _ l' r hl' nr (fun c' o' e hc => ?_) ⟨⟨dx, ?_⟩, ?_, ?_⟩ upd_same
    · rw [upd_ne (ne_of_none e nr), upd_ne hc, upd_ne (ne_of_none e hl')]
      exact e
    · rw [upd_ne ra.symm, upd_same]
      exact congrArg (fun z => some (HO.ins CP dx z)) put_here
    · rw [upd_ne rl.symm, upd_ne al.symm, upd_same]
      rfl
    · exact ⟨by show x ≤ 100; omega, by show y ≤ 100; omega, by show z ≤ 100; omega⟩
/-! ### what is asked ahead -/
def spNeedW (CN : Addr) : Sp := fun vs H Q E => ∃ x : Nat, vs = [.int x] ∧ (3 ≤ x → E (.ref CN) none H) ∧ (x < 3 → Q .non H)
theorem scNeedW : FnScope ["wrestler"] ["wrestler"] (defScope sNeedW) := ⟨rfl, rfl, rfl, by decide +kernel, rfl, by decide +kernel, by decide +kernel⟩
theorem ok_needw (T : Txt K mg CF CT CP CW CN CG) {f : Addr} {fd : FuncData} (F : Fun K "need_wrestler" "need_wrestler" sNeedW f fd) : FnOk P w K mg base (L2.CX P w) 1 f fd ["wrestler"] (spNeedW CN) := by
  refine F.okX scNeedW (fun vs H Q E ⟨a, e, _⟩ => by rw [e]; rfl) (fun cdv A outer s H vs Q E hr h => ⟨_,
    pss_one (ps_if (pt_cmpR op_ge (pv 0) (cst T.m3) (nomark _)) (pss_one (ps_err rfl (takes_of (E := E) rfl rfl rfl rfl) T.eN)) pss_nil), ?_⟩)
  obtain ⟨x, rfl, kE, kQ⟩ := h
  refine ⟨_, rfl, _, _, rfl, rfl, _, rfl, ?_⟩
  by_cases c : (3 : Int) ≤ x
  · exact if_true_of (decide_eq_true c) (kE (by omega))
  · exact if_false_of (decide_eq_false c) (kQ (by omega))
def spNeedP (CN : Addr) : Sp := fun vs H Q E => ∃ i k : Nat, vs = [.int i, .int k] ∧ (Sj12.two i k = false → E (.ref CN) none H) ∧ (Sj12.two i k = true → Q .non H)
theorem two_iff {i k : Nat} : Sj12.two i k = true ↔ i < 3 ∧ k < 3 ∧ i ≠ k := by
  unfold Sj12.two
  simp
theorem scNeedP : FnScope ["one", "other"] ["one", "other"] (defScope sNeedP) := ⟨rfl, rfl, rfl, by decide +kernel, rfl, by decide +kernel, by decide +kernel⟩
theorem ok_needp (T : Txt K mg CF CT CP CW CN CG) (GW : DefAt P w K mg base (L2.CX P w) 1 "need_wrestler" ["wrestler"] (spNeedW CN)) {f : Addr} {fd : FuncData} (F : Fun K "need_pair" "need_pair" sNeedP f fd) :
    FnOk P w K mg base (L2.CX P w) 2 f fd ["one", "other"] (spNeedP CN) := by
  refine F.okX scNeedP (fun vs H Q E ⟨a, b, e, _⟩ => by rw [e]; rfl) (fun cdv A outer s H vs Q E hr h => ⟨_,
    pss_cons (ps_expr (call_at GW hr (pass_on (E := E) (takes_of rfl rfl rfl rfl)) (pa_cons (pv 0) pa_nil)))
    (pss_cons (ps_expr (call_at GW hr (pass_on (E := E) (takes_of rfl rfl rfl rfl)) (pa_cons (pv 1) pa_nil)))
    (pss_one (ps_if (pt_cmpR op_eq (pv 0) (pv 1) (nomark _)) (pss_one (ps_err rfl (takes_of (E := E) rfl rfl rfl rfl) T.eN)) pss_nil))), ?_⟩)
  obtain ⟨i, k, rfl, kE, kQ⟩ := h
  have no : ¬ (i < 3 ∧ k < 3 ∧ i ≠ k) → E (.ref CN) none H := fun z => kE (by
    cases e : Sj12.two i k with
    | false => rfl
    | true => exact absurd (two_iff.mp e) z)
  refine ⟨_, rfl, i, rfl, fun c => no (by omega), fun c1 => ?_⟩
  refine ⟨_, rfl, k, rfl, fun c => no (by omega), fun c2 => ?_⟩
  refine ⟨_, rfl, _, rfl, rfl, _, rfl, ?_⟩
  by_cases c : i = k
  · exact if_true_of (by rw [c]; exact decide_eq_true rfl) (no (by omega))
  · exact if_false_of (decide_eq_false fun z => c (by injection z; omega)) (kQ (two_iff.mpr ⟨c1, c2, c⟩))
end
end TB
namespace TB
open PySem PySem.Spec PyProof.Rows L2
theorem nats_get {o : List Nat} {i : Nat} {y : V} (h : (nats o)[i]? = some y) : ∃ z, o[i]? = some z ∧ y = .int (z : Nat) := by
  unfold nats at h
  rw [List.getElem?_map] at h
  cases e : o[i]? with
  | none => rw [e] at h; cases h
  | some z =>
    rw [e] at h
    exact ⟨z, rfl, (Option.some.inj h).symm⟩
theorem nats_len (o : List Nat) : (nats o).length = o.length := by
  unfold nats
  rw [List.length_map]
theorem take_more {α : Type} : ∀ {l : List α} {i : Nat} {x : α}, l[i]? = some x → l.take (i + 1) = l.take i ++ [x]
  | [], i, x, h => by simp at h
  | a :: l, 0, x, h => by
    have e : a = x := Option.some.inj h
    subst e
    rfl
  | a :: l, i + 1, x, h => by
    show a :: l.take (i + 1) = a :: l.take i ++ [x]
    rw [take_more (l := l) (i := i) (x := x) h]
    rfl
section
variable {P : Program} {w : World} {K : PySem.W.Frag} {mg : Str → Option Value} {base : Heap} {CF CT CP CW CN CG : Addr}
def bits (o : List Nat) : Bool := o.all fun x => decide (x < 2)
def spNeedB (K : PySem.W.Frag) (CW : Addr) : Sp := fun vs H Q E => ∃ (b : Addr) (o : List Nat), vs = [.ref b] ∧ SqL K H b (nats o) ∧ (o = [] ∨ bits o = false → E (.ref CW) none H) ∧ (o ≠ [] → bits o = true → Q .non H)
theorem scNeedB : FnScope ["bouts", "bout"] ["bouts"] (defScope sNeedB) := ⟨rfl, rfl, rfl, by decide +kernel, rfl, by decide +kernel, by decide +kernel⟩
theorem ok_needb (T : Txt K mg CF CT CP CW CN CG) {f : Addr} {fd : FuncData} (F : Fun K "need_bouts" "need_bouts" sNeedB f fd) : FnOk P w K mg base (L2.CX P w) 1 f fd ["bouts"] (spNeedB K CW) := by
  refine F.okX scNeedB (fun vs H Q E ⟨a, b, e, _⟩ => by rw [e]; rfl) (fun cdv A outer s H vs Q E hr h => ⟨_,
    pss_cons (ps_if (pt_cmpR op_eq (pe_callB call_len_seq (by rfl) T.bLen PySem.boot_len (pa_cons (pv 0) pa_nil)) pe_int (nomark _)) (pss_one (ps_err rfl (takes_of (E := E) rfl rfl rfl rfl) T.eW)) pss_nil)
    (pss_one (ps_for (passes_of rfl) rfl (pi_list (pv 0)) (pg_name (i := 1) scNeedB.nd rfl (Or.inl rfl))
      (pss_one (ps_if (pt_cmpR op_gt (pv 1) pe_int (nomark _)) (pss_one (ps_err rfl (takes_of (E := E) rfl rfl rfl rfl) T.eW)) pss_nil)))), ?_⟩)
  obtain ⟨b, o, rfl, hb, kE, kQ⟩ := h
  refine ⟨_, rfl, b, _, rfl, .inl hb, rfl, _, rfl, ?_⟩
  rw [nats_len]
  by_cases c : o = []
  · subst c
    exact if_true_of (by decide) (kE (.inl rfl))
  · have lp : o.length ≠ 0 := fun z => c (List.length_eq_zero_iff.mp z)
    refine if_false_of (decide_eq_false fun z => lp (by injection z; omega)) ?_
    refine ⟨_, rfl, b, rfl, ⟨_, hb⟩, for_list (K := K) (a := b) (xs := nats o) (fun i σ H' => ∃ v : Option V, σ = [some (.ref b), v] ∧ H' = H ∧ bits (o.take i) = true) ⟨none, rfl, rfl, rfl⟩ (fun i σ H' _ ⟨_, _, e, _⟩ => by rw [e]; exact hb) ?_ ?_⟩
    · rintro i y σ H' hi ⟨v, rfl, rfl, ht⟩
      obtain ⟨z, hz, rfl⟩ := nats_get hi
      refine ⟨_, rfl, _, _, rfl, rfl, _, rfl, ?_⟩
      by_cases c1 : (1 : Int) < (z : Nat)
      · refine if_true_of (decide_eq_true c1) (kE (.inr ?_))
        have m : z ∈ o := List.mem_of_getElem? hz
        cases e : bits o with
        | false => rfl
        | true =>
          have q := List.all_eq_true.mp e z m
          have q2 := of_decide_eq_true q
          omega
      · refine if_false_of (decide_eq_false c1) ⟨some (.int z), rfl, rfl, ?_⟩
        rw [take_more hz]
        unfold bits at ht ⊢
        rw [List.all_append, ht]
        have : z < 2 := by omega
        simp [this]
    · rintro σ H' ⟨v, rfl, rfl, ht⟩
      rw [nats_len, List.take_length] at ht
      exact kQ c ht
/-! ### odds, long -/
def spOdds (CP CN CG : Addr) : Sp := fun vs H Q E => ∃ (a l : Addr) (t : Sj12.Three) (i k x : Nat), vs = [.ref a, .int i, .int k, .int x] ∧ Po CP H a l t ∧ (Sj12.two i k = false ∨ 3 ≤ x → E (.ref CN) none H) ∧
  (Sj12.two i k = true → x < 3 → t.odds i k x = none → ∀ H', Same H H' → E (.ref CG) none H') ∧
  (Sj12.two i k = true → x < 3 → ∀ u, t.odds i k x = some u → ∀ H' r, H r = none → Same H H' → H' r = some (.lst [.int 0, .int u.n, .int u.d]) → Q (.ref r) H')
theorem scOdds : FnScope ["self", "one", "other", "wrestler"] ["self", "one", "other", "wrestler"] (defScope sOdds) := ⟨rfl, rfl, rfl, by decide +kernel, rfl, by decide +kernel, by decide +kernel⟩
theorem ok_odds (T : Txt K mg CF CT CP CW CN CG) (GP : DefAt P w K mg base (L2.CX P w) 2 "need_pair" ["one", "other"] (spNeedP CN)) (GW : DefAt P w K mg base (L2.CX P w) 1 "need_wrestler" ["wrestler"] (spNeedW CN))
    (GC : MethAt P w K mg base (L2.CX P w) 5 CP "chance" ["self", "one", "other", "wrestler"] (spChance CP CF CG)) (GT : MethAt P w K mg base CX0 1 CF "told" ["self"] (spTold CF))
    {f : Addr} {fd : FuncData} (F : Fun K "odds" "PlayOff.odds" sOdds f fd) : FnOk P w K mg base (L2.CX P w) 6 f fd ["self", "one", "other", "wrestler"] (spOdds CP CN CG) := by
  refine F.okX scOdds (fun vs H Q E ⟨a, b, _, _, _, _, e, _⟩ => by rw [e]; rfl) (fun cdv A outer s H vs Q E hr h => ⟨_,
    pss_cons (ps_expr (call_at GP (hr.mono (by decide)) (pass_on (E := E) (takes_of rfl rfl rfl rfl)) (pa_cons (pv 1) (pa_cons (pv 2) pa_nil))))
    (pss_cons (ps_expr (call_at GW (hr.mono (by decide)) (pass_on (E := E) (takes_of rfl rfl rfl rfl)) (pa_cons (pv 3) pa_nil)))
    (pss_one (ps_ret (pe_op op_cat (pe_lst (pa_cons pe_int pa_nil)) (meth0_at GT T.cF (hr.mono (by decide)) pass0 (meth_at GC T.cP hr (pass_on (E := E) (takes_of rfl rfl rfl rfl)) (pv 0) (pa_cons (pv 1) (pa_cons (pv 2) (pa_cons (pv 3) pa_nil))))))))), ?_⟩)
  obtain ⟨a, l, t, i, k, x, rfl, hpo, kN, kG, kQ⟩ := h
  refine ⟨_, rfl, _, rfl, i, k, rfl, fun c => kN (.inl c), fun c1 => ?_⟩
  refine ⟨_, rfl, x, rfl, fun c => kN (.inr c), fun c2 => ?_⟩
  obtain ⟨hi, hk, ne⟩ := two_iff.mp c1
  obtain ⟨⟨dx, ha⟩, hl, o⟩ := id hpo
  refine ⟨by show 1 ≤ sizeLine; decide, fun p0 n0 => ?_⟩
  have s0 : Same H (upd H p0 (.lst [.int 0])) := same_upd n0
  refine ⟨_, rfl, a, dx, _, rfl, s0 _ _ ha, lkP_none l (by decide +kernel), _, rfl, _, rfl, _, rfl, a, l, t, i, k, x, rfl, hpo.same s0, hi, hk, ne, c2, fun z H1 s1 => kG c1 c2 z H1 (s0.trans s1), fun u eu H1 p1 n1 s1 hF1 => ?_⟩
  obtain ⟨d1, h1⟩ := id hF1
  refine ⟨p1, d1, _, rfl, h1, lk_told u, p1, u, rfl, hF1, fun p2 n2 => ?_⟩
  have s2 : Same (upd H p0 (.lst [.int 0])) (upd H1 p2 (.lst [.int u.n, .int u.d])) := s1.trans (same_upd n2)
  refine ⟨p0, p2, _, _, rfl, rfl, s2 _ _ upd_same, upd_same, by show 3 ≤ sizeLine; decide, fun r nr => ?_⟩
  exact kQ c1 c2 u eu _ r (fresh_of (s0.trans s2) nr) ((s0.trans s2).trans (same_upd nr)) upd_same
def spLong (CP CN CG : Addr) : Sp := fun vs H Q E => ∃ (a l : Addr) (t : Sj12.Three) (i k : Nat), vs = [.ref a, .int i, .int k] ∧ Po CP H a l t ∧ (Sj12.two i k = false → E (.ref CN) none H) ∧
  (Sj12.two i k = true → t.long i k = none → ∀ H', Same H H' → E (.ref CG) none H') ∧
  (Sj12.two i k = true → ∀ u, t.long i k = some u → ∀ H' r, H r = none → Same H H' → H' r = some (.lst [.int 0, .int u.n, .int u.d]) → Q (.ref r) H')
theorem scLong : FnScope ["self", "one", "other"] ["self", "one", "other"] (defScope sLong) := ⟨rfl, rfl, rfl, by decide +kernel, rfl, by decide +kernel, by decide +kernel⟩
theorem ok_long (T : Txt K mg CF CT CP CW CN CG) (GP : DefAt P w K mg base (L2.CX P w) 2 "need_pair" ["one", "other"] (spNeedP CN))
    (GL : MethAt P w K mg base (L2.CX P w) 5 CP "length" ["self", "one", "other"] (spLength CP CF CG)) (GT : MethAt P w K mg base CX0 1 CF "told" ["self"] (spTold CF))
    {f : Addr} {fd : FuncData} (F : Fun K "long" "PlayOff.long" sLong f fd) : FnOk P w K mg base (L2.CX P w) 6 f fd ["self", "one", "other"] (spLong CP CN CG) := by
  refine F.okX scLong (fun vs H Q E ⟨a, b, _, _, _, e, _⟩ => by rw [e]; rfl) (fun cdv A outer s H vs Q E hr h => ⟨_,
    pss_cons (ps_expr (call_at GP (hr.mono (by decide)) (pass_on (E := E) (takes_of rfl rfl rfl rfl)) (pa_cons (pv 1) (pa_cons (pv 2) pa_nil))))
    (pss_one (ps_ret (pe_op op_cat (pe_lst (pa_cons pe_int pa_nil)) (meth0_at GT T.cF (hr.mono (by decide)) pass0 (meth_at GL T.cP hr (pass_on (E := E) (takes_of rfl rfl rfl rfl)) (pv 0) (pa_cons (pv 1) (pa_cons (pv 2) pa_nil))))))), ?_⟩)
  obtain ⟨a, l, t, i, k, rfl, hpo, kN, kG, kQ⟩ := h
  refine ⟨_, rfl, _, rfl, i, k, rfl, fun c => kN c, fun c1 => ?_⟩
  obtain ⟨hi, hk, ne⟩ := two_iff.mp c1
  obtain ⟨⟨dx, ha⟩, hl, o⟩ := id hpo
  refine ⟨by show 1 ≤ sizeLine; decide, fun p0 n0 => ?_⟩
  have s0 : Same H (upd H p0 (.lst [.int 0])) := same_upd n0
  refine ⟨_, rfl, a, dx, _, rfl, s0 _ _ ha, lkP_none l (by decide +kernel), _, rfl, _, rfl, a, l, t, i, k, rfl, hpo.same s0, hi, hk, ne, fun z H1 s1 => kG c1 z H1 (s0.trans s1), fun u eu H1 p1 n1 s1 hF1 => ?_⟩
  obtain ⟨d1, h1⟩ := id hF1
  refine ⟨p1, d1, _, rfl, h1, lk_told u, p1, u, rfl, hF1, fun p2 n2 => ?_⟩
  have s2 : Same (upd H p0 (.lst [.int 0])) (upd H1 p2 (.lst [.int u.n, .int u.d])) := s1.trans (same_upd n2)
  refine ⟨p0, p2, _, _, rfl, rfl, s2 _ _ upd_same, upd_same, by show 3 ≤ sizeLine; decide, fun r nr => ?_⟩
  exact kQ c1 u eu _ r (fresh_of (s0.trans s2) nr) ((s0.trans s2).trans (same_upd nr)) upd_same
end
end TB
namespace TB
open PySem PySem.Spec PyProof.Rows L2
section
variable {P : Program} {w : World} {K : PySem.W.Frag} {mg : Str → Option Value} {base : Heap} {CF CT CP CW CN CG : Addr}
def od (t : Sj12.Three) (x j : Nat) : Option Sj12.Frac := t.odds ((j + 1) % 3) ((j + 2) % 3) x
def odf (t : Sj12.Three) (x j : Nat) : Sj12.Frac := (od t x j).getD ⟨0, 1⟩
theorem od_pair (j : Nat) : (j + 1) % 3 < 3 ∧ (j + 2) % 3 < 3 ∧ (j + 1) % 3 ≠ (j + 2) % 3 := by omega
def spWait (CP CN CG : Addr) : Sp := fun vs H Q E => ∃ (a l : Addr) (t : Sj12.Three) (x : Nat), vs = [.ref a, .int x] ∧ Po CP H a l t ∧ (3 ≤ x → E (.ref CN) none H) ∧
  (x < 3 → t.wait x = none → ∀ H', Same H H' → E (.ref CG) none H') ∧
  (x < 3 → ∀ y, t.wait x = some y → ∀ H' r, H r = none → Same H H' → H' r = some (.lst [.int y.1, .int y.2.n, .int y.2.d]) → Q (.ref r) H')
def N_wait : List Str := ["self", "wrestler", "who", "chances", "best"]
theorem scWait : FnScope N_wait ["self", "wrestler"] (defScope sWait) := ⟨rfl, rfl, rfl, by decide +kernel, rfl, by decide +kernel, by decide +kernel⟩
theorem ok_wait (T : Txt K mg CF CT CP CW CN CG) (GW : DefAt P w K mg base (L2.CX P w) 1 "need_wrestler" ["wrestler"] (spNeedW CN))
    (GC : MethAt P w K mg base (L2.CX P w) 5 CP "chance" ["self", "one", "other", "wrestler"] (spChance CP CF CG)) (GT : MethAt P w K mg base CX0 1 CF "told" ["self"] (spTold CF))
    (GX : MethAt P w K mg base CX0 1 CF "exceeds" ["self", "other"] (spExceeds CF))
    {f : Addr} {fd : FuncData} (F : Fun K "wait" "PlayOff.wait" sWait f fd) : FnOk P w K mg base (L2.CX P w) 6 f fd ["self", "wrestler"] (spWait CP CN CG) := by
  refine F.okX scWait (fun vs H Q E ⟨a, b, _, _, e, _⟩ => by rw [e]; rfl) (fun cdv A outer s H vs Q E hr h => ⟨_,
    pss_cons (ps_expr (call_at GW (hr.mono (by decide)) (pass_on (E := E) (takes_of rfl rfl rfl rfl)) (pa_cons (pv 1) pa_nil)))
    (pss_cons (TBX.ps_setLcX (W := E) (i := 3) (own := [("who", 2)]) (g := gName 2) (tt := tYes) rfl scWait.nd rfl rfl (takes_of rfl rfl rfl rfl) rfl rfl (sw_true rfl rfl rfl (by decide +kernel))
      (pi_range1 rfl T.bRange (pa_cons (cst T.m3) pa_nil)) (blkOk_by (own := [("who", 2)]) (N := N_wait) (sc := defScope sWait) (by decide +kernel))
      (fun _ _ _ _ _ => pg_name (i := 2) scWait.nd rfl (Or.inl rfl)) (fun _ _ _ _ _ => pts_nil)
      (fun _ _ _ _ _ => meth_at GC T.cP hr TBX.passes_lets (pv 0) (pa_cons (pe_op op_mod (pe_op op_add (pv 2) pe_int) (cst T.m3)) (pa_cons (pe_op op_mod (pe_op op_add (pv 2) pe_int) (cst T.m3)) (pa_cons (pv 1) pa_nil)))))
    (pss_cons (ps_set (i := 4) scWait.nd rfl (Or.inl rfl) pe_int)
    (pss_cons (ps_for (passes_of rfl) rfl (pi_range2 rfl T.bRange (pa_cons pe_int (pa_cons (cst T.m3) pa_nil))) (pg_name (i := 2) scWait.nd rfl (Or.inl rfl))
      (pss_one (ps_if (pt_val (meth_at GX T.cF (hr.mono (by decide)) pass0 (pe_ix ix_list (pv 3) (pv 2) (fun _ _ => rfl)) (pa_cons (pe_ix ix_list (pv 3) (pv 4) (fun _ _ => rfl)) pa_nil)))
        (pss_one (ps_set (i := 4) scWait.nd rfl (Or.inl rfl) (pv 2))) pss_nil)))
    (pss_one (ps_ret (pe_op op_cat (pe_lst (pa_cons (pv 4) pa_nil)) (meth0_at GT T.cF (hr.mono (by decide)) pass0 (pe_ix ix_list (pv 3) (pv 4) (fun _ _ => rfl))))))))), ?_⟩)
  obtain ⟨a, l, t, x, rfl, hpo, kN, kG, kQ⟩ := h
  obtain ⟨⟨dx, ha⟩, hl, o⟩ := id hpo
  refine ⟨_, rfl, x, rfl, fun c => kN c, fun hx => ?_⟩
  refine ⟨3, rfl, by decide, by decide, fun D hD => ?_⟩
  refine lc_range (lo := 0) (n := 3) (fun m H' => Same H H' ∧ ∃ ps : List Addr, ps.length = m ∧ H' D = some (.lst (ps.map V.ref)) ∧ ∀ j p, ps[j]? = some p → ∃ u, od t x j = some u ∧ Fr CF H' p u)
    ⟨same_upd hD, [], rfl, upd_same, fun j p e => by simp at e⟩ ?_ ?_
  · rintro m H1 hm ⟨s1, ps, hps, h1D, hF⟩
    refine ⟨rfl, ?_⟩
    show _
    refine ⟨_, rfl, a, dx, _, rfl, s1 _ _ ha, lkP_none l (by decide +kernel), ?_⟩
    refine ⟨_, rfl, _, _, rfl, rfl, _, _, rfl, rfl, by show (0 : Int) < 3; decide, _, rfl, _, _, rfl, rfl, _, _, rfl, rfl, by show (0 : Int) < 3; decide, _, rfl, ?_⟩
    obtain ⟨c1, c2, c3⟩ := od_pair m
    have e1 : ((0 : Int) + m + 1) % 3 = ((m + 1) % 3 : Nat) := by omega
    have e2 : ((0 : Int) + m + 2) % 3 = ((m + 2) % 3 : Nat) := by omega
    refine ⟨a, l, t, (m + 1) % 3, (m + 2) % 3, x, ?_, hpo.same s1, c1, c2, c3, hx, fun z H2 s2 => ?_, fun u eu H2 p n2 s2 hF2 => ?_⟩
    · show [V.ref a, V.int (((0 : Int) + m + 1) % 3), V.int (((0 : Int) + m + 2) % 3), V.int x] = _
      rw [e1, e2]
    · exact kG hx (wait_none o ((odds_none o c1 c2 c3).mp z)) H2 (s1.trans s2)
    · refine ⟨ps.map V.ref, s2 _ _ h1D, by rw [List.length_map, hps]; exact Nat.lt_of_lt_of_le hm (by decide), ?_, ps ++ [p], by rw [List.length_append, hps]; rfl, ?_, ?_⟩
      · exact same_upd2 (s1.trans s2) hD
      · rw [upd_same, List.map_append]
        rfl
      · intro j q hq
        have stay : ∀ {p' : Addr} {u' : Sj12.Frac}, Fr CF H2 p' u' → Fr CF (upd H2 D (.lst (ps.map V.ref ++ [V.ref p]))) p' u' := fun {p' u'} ⟨d', e'⟩ =>
          ⟨d', by rw [upd_ne (ne_of e' (s2 _ _ h1D) (by intro z; cases z))]; exact e'⟩
        by_cases hj : j < ps.length
        · rw [List.getElem?_append_left hj] at hq
          obtain ⟨u', eu', hu'⟩ := hF j q hq
          exact ⟨u', eu', stay (hu'.same s2)⟩
        · rw [List.getElem?_append_right (by omega)] at hq
          have j0 : j - ps.length = 0 := by
            cases hz : j - ps.length with
            | zero => rfl
            | succ n => rw [hz] at hq; simp at hq
          rw [j0] at hq
          have : p = q := Option.some.inj hq
          subst this
          have jm : j = m := by omega
          subst jm
          exact ⟨u, eu, stay hF2⟩
  · rintro H1 ⟨s1, ps, hps, h1D, hF⟩
    have all : ∀ j, j < 3 → ∃ p, ps[j]? = some p ∧ od t x j = some (odf t x j) ∧ Fr CF H1 p (odf t x j) := fun j hj => by
      have e : ps[j]? = some (ps[j]'(by omega)) := List.getElem?_eq_getElem (by omega)
      obtain ⟨u, eu, hu⟩ := hF j _ e
      have e2 : odf t x j = u := by unfold odf; rw [eu]; rfl
      rw [e2]
      exact ⟨_, e, eu, hu⟩
    have hw : t.wait x = some (best (odf t x) 2, odf t x (best (odf t x) 2)) := wait_some fun j hj => by
      obtain ⟨_, _, e, _⟩ := all j hj
      exact e
    have small : ∀ j, j < 3 → (odf t x j).n < 2 ^ 62 := fun j hj => by
      obtain ⟨_, _, e, _⟩ := all j hj
      obtain ⟨c1, c2, c3⟩ := od_pair j
      exact Nat.lt_of_le_of_lt (odds_some o c1 c2 c3 hx e).2.1 (by decide)
    have at_ : ∀ {j : Nat} {p : Addr}, ps[j]? = some p → (ps.map V.ref)[j]? = some (.ref p) := fun {j p} e => by rw [List.getElem?_map, e]; rfl
    refine ⟨1, 3, rfl, ⟨by decide, by decide, by decide, by decide⟩, for_range (lo := 1) (n := 2) (fun m σ H' => ∃ v2 : Option V, σ = [some (.ref a), some (.int x), v2, some (.ref D), some (.int (best (odf t x) m))] ∧ H' = H1) ⟨none, rfl, rfl⟩ ?_ ?_⟩
    · rintro m σ H' hm ⟨v2, rfl, rfl⟩
      have bl := best_le (odf t x) m
      obtain ⟨p, ep, _, hp⟩ := all (m + 1) (by omega)
      obtain ⟨q, eq, _, hq⟩ := all (best (odf t x) m) (by omega)
      obtain ⟨dp, hp'⟩ := id hp
      have e1 : (1 : Int) + m = (m + 1 : Nat) := by omega
      refine ⟨_, rfl, _, rfl, D, _, _, _, rfl, rfl, SqL.of h1D, at_of e1 (at_ ep), p, dp, _, rfl, hp', lk_exceeds _, _, rfl, _, rfl, D, _, _, _, rfl, rfl, SqL.of h1D, atI_nat (at_ eq), ?_⟩
      refine ⟨p, q, _, _, rfl, hp, hq, small _ (by omega), small _ (by omega), _, rfl, ?_⟩
      by_cases c : Sj12.less (odf t x (best (odf t x) m)) (odf t x (m + 1)) = true
      · refine if_true_of c ⟨_, rfl, some (.int (1 + (m : Int))), ?_, rfl⟩
        show [some (V.ref a), some (.int x), some (.int (1 + (m : Int))), some (.ref D), some (.int (1 + (m : Int)))] = _
        rw [show best (odf t x) (m + 1) = m + 1 from if_pos c, e1]
      · refine if_false_of (by simpa using c) ⟨some (.int (1 + (m : Int))), ?_, rfl⟩
        rw [show best (odf t x) (m + 1) = best (odf t x) m from if_neg c]
        rfl
    · rintro σ H' ⟨v2, rfl, rfl⟩
      have bl := best_le (odf t x) 2
      obtain ⟨q, eq, _, hq⟩ := all (best (odf t x) 2) (by omega)
      obtain ⟨dq, hq'⟩ := id hq
      refine ⟨_, rfl, by show 1 ≤ sizeLine; decide, fun p0 n0 => ?_⟩
      have s0 : Same H' (upd H' p0 (.lst [.int (best (odf t x) 2)])) := same_upd n0
      refine ⟨_, rfl, _, rfl, D, _, _, _, rfl, rfl, SqL.of (s0 _ _ h1D), atI_nat (at_ eq), q, dq, _, rfl, s0 _ _ hq', lk_told _, q, _, rfl, hq.same s0, fun p2 n2 => ?_⟩
      have s2 : Same H' (upd (upd H' p0 (.lst [.int (best (odf t x) 2)])) p2 (.lst [.int (odf t x (best (odf t x) 2)).n, .int (odf t x (best (odf t x) 2)).d])) := s0.trans (same_upd n2)
      refine ⟨p0, p2, _, _, rfl, rfl, (same_upd n2) _ _ upd_same, upd_same, by show 3 ≤ sizeLine; decide, fun r nr => ?_⟩
      exact kQ hx _ hw _ r (fresh_of (s1.trans s2) nr) ((s1.trans s2).trans (same_upd nr)) upd_same
end
end TB
namespace TB
open PySem PySem.Spec PyProof.Rows L2
/-! ### check -/
/-- who holds and who is beaten behind the first bout -/
def first (i k : Nat) (o : List Nat) : Nat × Nat := if o.headD 0 = 1 then (i, k) else (k, i)
def played (i k : Nat) (o : List Nat) : (Nat × Nat × Nat) × Bool := Sj12.plays 1 (first i k o).1 (first i k o).2 (o.drop 1)
theorem played_eq (i k : Nat) (o : List Nat) : (if o.headD 0 = 1 then Sj12.plays 1 i k (o.drop 1) else Sj12.plays 1 k i (o.drop 1)) = played i k o := by
  unfold played first
  by_cases c : o.headD 0 = 1
  · rw [if_pos c, if_pos c]
  · rw [if_neg c, if_neg c]
def checked (p : (Nat × Nat × Nat) × Bool) : List V := [.int (if p.2 = true then (p.1.2.1 : Nat) else 3), .int p.1.1, .int p.1.2.1, .int p.1.2.2]
theorem drop_at {α : Type} {l : List α} {i : Nat} {x : α} (h : l[i]? = some x) : l.drop i = x :: l.drop (i + 1) := by
  obtain ⟨h1, h2⟩ := List.getElem?_eq_some_iff.mp h
  rw [List.drop_eq_getElem_cons h1, h2]
section
variable {P : Program} {w : World} {K : PySem.W.Frag} {mg : Str → Option Value} {base : Heap} {CF CT CP CW CN CG : Addr}
def spCheck (K : PySem.W.Frag) (CW CN : Addr) : Sp := fun vs H Q E => ∃ (b : Addr) (i k : Nat) (o : List Nat), vs = [.int i, .int k, .ref b] ∧ SqL K H b (nats o) ∧ o.length ≤ 1000000 ∧ (Sj12.two i k = false → E (.ref CN) none H) ∧
  (Sj12.two i k = true → o = [] ∨ bits o = false → E (.ref CW) none H) ∧
  (Sj12.two i k = true → o ≠ [] → bits o = true → ∀ H' r, H r = none → Same H H' → H' r = some (.lst (checked (played i k o))) → Q (.ref r) H')
/-- what follows the first bout, as the text has it -/
def rLen (K : PySem.W.Frag) : List V → Hp → VK → Prop := fun xs H Q => ∃ p ys, xs = [V.ref p] ∧ (SqL K H p ys ∨ SqT K H p ys) ∧ Q (.int ys.length) H
def t_tail (K : PySem.W.Frag) : TS :=
  tSeq (tFor (iRng2 (tCons (tC (.int 1)) (tCons (tCB (rLen K) (tCons (tVar 2) tNil)) tNil))) (gName 5)
      (tSeq (tAsg (tCall spThird [] E0 (tCons (tVar 3) (tCons (tVar 4) tNil))) (gName 6))
      (tSeq (tIfS (tTest (tOp L2.rEq (tOp (rIxL K) (tVar 2) (tVar 5)) (tC (.int 1))))
          (tRet (tLst (tCons (tVar 3) (tCons (tOp (rI0 fun i j => .int (i + j)) (tVar 5) (tC (.int 1))) (tCons (tVar 3) (tCons (tVar 6) tNil)))))) tNext)
        (tSeq (tAsg (tVar 3) (gName 4)) (tAsg (tVar 6) (gName 3))))))
    (tRet (tLst (tCons (tC (.int 3)) (tCons (tCB (rLen K) (tCons (tVar 2) tNil)) (tCons (tVar 3) (tCons (tVar 4) tNil))))))
theorem scCheck : FnScope ["one", "other", "bouts", "holder", "beaten", "place", "comer"] ["one", "other", "bouts"] (defScope sCheck) := ⟨rfl, rfl, rfl, by decide +kernel, rfl, by decide +kernel, by decide +kernel⟩
theorem ok_check (T : Txt K mg CF CT CP CW CN CG) (GP : DefAt P w K mg base (L2.CX P w) 2 "need_pair" ["one", "other"] (spNeedP CN)) (GB : DefAt P w K mg base (L2.CX P w) 1 "need_bouts" ["bouts"] (spNeedB K CW))
    (G3 : DefAt P w K mg base CX0 1 "third" ["one", "other"] spThird)
    {f : Addr} {fd : FuncData} (F : Fun K "check" "check" sCheck f fd) : FnOk P w K mg base (L2.CX P w) 3 f fd ["one", "other", "bouts"] (spCheck K CW CN) := by
  refine F.okX scCheck (fun vs H Q E ⟨a, b, _, _, e, _⟩ => by rw [e]; rfl) (fun cdv A outer s H vs Q E hr h => ⟨_,
    pss_cons (ps_expr (call_at GP hr (pass_on (E := E) (takes_of rfl rfl rfl rfl)) (pa_cons (pv 0) (pa_cons (pv 1) pa_nil))))
    (pss_cons (ps_expr (call_at GB (hr.mono (by decide)) (pass_on (E := E) (takes_of rfl rfl rfl rfl)) (pa_cons (pv 2) pa_nil)))
    (pss_cons (ps_set (i := 3) scCheck.nd rfl (Or.inl rfl) (pv 0))
    (pss_cons (ps_set (i := 4) scCheck.nd rfl (Or.inl rfl) (pv 1))
    (pss_cons (ps_if (pt_cmpR op_eq (pe_ix ix_list (pv 2) pe_int (fun _ _ => rfl)) pe_int (nomark _))
      (pss_cons (ps_set (i := 3) scCheck.nd rfl (Or.inl rfl) (pv 1)) (pss_one (ps_set (i := 4) scCheck.nd rfl (Or.inl rfl) (pv 0)))) pss_nil)
    (pss_cons (ps_for (passes_of rfl) rfl (pi_range2 rfl T.bRange (pa_cons pe_int (pa_cons (pe_callB call_len_seq (by rfl) T.bLen PySem.boot_len (pa_cons (pv 2) pa_nil)) pa_nil))) (pg_name (i := 5) scCheck.nd rfl (Or.inl rfl))
      (pss_cons (ps_set (i := 6) scCheck.nd rfl (Or.inl rfl) (call_at G3 (hr.mono (by decide)) pass0 (pa_cons (pv 3) (pa_cons (pv 4) pa_nil))))
      (pss_cons (ps_if (pt_cmpR op_eq (pe_ix ix_list (pv 2) (pv 5) (fun _ _ => rfl)) pe_int (nomark _))
        (pss_one (ps_ret (pe_lst (pa_cons (pv 3) (pa_cons (pe_op op_add (pv 5) pe_int) (pa_cons (pv 3) (pa_cons (pv 6) pa_nil))))))) pss_nil)
      (pss_cons (ps_set (i := 4) scCheck.nd rfl (Or.inl rfl) (pv 3))
      (pss_one (ps_set (i := 3) scCheck.nd rfl (Or.inl rfl) (pv 6)))))))
    (pss_one (ps_ret (pe_lst (pa_cons (cst T.mNo) (pa_cons (pe_callB call_len_seq (by rfl) T.bLen PySem.boot_len (pa_cons (pv 2) pa_nil)) (pa_cons (pv 3) (pa_cons (pv 4) pa_nil))))))))))))
    , ?_⟩)
  obtain ⟨b, i, k, o, rfl, hb, ho, kN, kW, kQ⟩ := h
  refine ⟨_, rfl, _, rfl, i, k, rfl, fun c => kN c, fun c1 => ?_⟩
  refine ⟨_, rfl, b, o, rfl, hb, fun c => kW c1 c, fun c2 c3 => ?_⟩
  obtain ⟨hi, hk, ne⟩ := two_iff.mp c1
  have kQ := kQ c1 c2 c3
  refine ⟨_, rfl, _, rfl, ?_⟩
  obtain ⟨z0, o', rfl⟩ : ∃ z o', o = z :: o' := by
    cases o with
    | nil => exact absurd rfl c2
    | cons z o' => exact ⟨z, o', rfl⟩
  have bz : ∀ z ∈ z0 :: o', z < 2 := fun z hz => of_decide_eq_true (List.all_eq_true.mp c3 z hz)
  -- what follows the first bout
  have go : ∀ h b' : Nat, h < 3 → b' < 3 → h ≠ b' → played i k (z0 :: o') = Sj12.plays 1 h b' o' → ∀ v5 v6 : Option V,
      t_tail K { nx := fun _ H' => Q .non H', rt := Q } [some (V.int i), some (.int k), some (.ref b), some (.int h), some (.int b'), v5, v6] H := by
    intro h b' hh hb' nh ep v5 v6
    refine ⟨_, rfl, b, _, rfl, .inl hb, 1, _, rfl, ⟨by decide, by decide, ?_, ?_⟩, ?_⟩
    · rw [nats_len]; omega
    · rw [nats_len]; omega
    refine for_range (lo := 1) (fun m σ H' => ∃ (h b' : Nat) (v5 v6 : Option V), σ = [some (.int i), some (.int k), some (.ref b), some (.int h), some (.int b'), v5, v6] ∧ H' = H ∧ h < 3 ∧ b' < 3 ∧ h ≠ b' ∧ played i k (z0 :: o') = Sj12.plays (m + 1) h b' (o'.drop m))
      ⟨h, b', v5, v6, rfl, rfl, hh, hb', nh, ep⟩ ?_ ?_
    · rintro m σ H' hm ⟨h, b', v5, v6, rfl, rfl, hh, hb', nh, ep⟩
      have ml : m < o'.length := by
        rw [nats_len] at hm
        have e : (z0 :: o').length = o'.length + 1 := rfl
        omega
      obtain ⟨z, hz⟩ : ∃ z, o'[m]? = some z := ⟨_, List.getElem?_eq_getElem ml⟩
      have hz' : (z0 :: o')[m + 1]? = some z := hz
      have e1 : (1 : Int) + m = (m + 1 : Nat) := by omega
      have zb : z < 2 := bz z (List.mem_cons_of_mem _ (List.mem_of_getElem? hz))
      rw [drop_at hz] at ep
      refine ⟨_, rfl, _, rfl, h, b', rfl, hh, hb', nh, ?_⟩
      refine ⟨_, rfl, _, rfl, b, _, _, _, rfl, rfl, hb, at_of e1 (nats_at hz'), rfl, _, rfl, ?_⟩
      by_cases c : z = 1
      · subst c
        refine if_true_of (by decide) ?_
        have ep'' : played i k (z0 :: o') = ((m + 1 + 1, h, 3 - h - b'), true) := ep.trans (if_pos rfl)
        refine ⟨_, rfl, _, rfl, _, _, rfl, rfl, _, rfl, _, rfl, by show 4 ≤ sizeLine; decide, fun r nr => ?_⟩
        refine kQ _ r nr (same_upd nr) (upd_same.trans ?_)
        rw [ep'']
        show some (HO.lst [V.int h, V.int ((1 : Int) + m + 1), V.int h, V.int (3 - h - b' : Nat)]) = some (HO.lst [V.int (if true = true then (h : Nat) else 3 : Int), V.int (m + 1 + 1 : Nat), V.int h, V.int (3 - h - b' : Nat)])
        rw [if_pos rfl, show (1 : Int) + m + 1 = (m + 1 + 1 : Nat) by omega]
      · refine if_false_of (decide_eq_false fun y => c (by injection y; omega)) ?_
        refine ⟨_, rfl, _, rfl, 3 - h - b', h, _, _, rfl, rfl, by omega, hh, by omega, ?_⟩
        rw [ep]
        exact if_neg c
    · rintro σ H' ⟨h, b', v5, v6, rfl, rfl, hh, hb', nh, ep⟩
      have el : (((nats (z0 :: o')).length : Nat) - (1 : Int)).toNat = o'.length := by
        rw [nats_len]
        have e : (z0 :: o').length = o'.length + 1 := rfl
        omega
      rw [el, List.drop_length] at ep
      have ep' : played i k (z0 :: o') = ((o'.length + 1, h, b'), false) := ep
      refine ⟨_, rfl, b, _, rfl, .inl hb, _, rfl, _, rfl, by show 4 ≤ sizeLine; decide, fun r nr => ?_⟩
      refine kQ _ r nr (same_upd nr) (upd_same.trans ?_)
      rw [ep', nats_len]
      rfl
  refine ⟨_, rfl, b, _, _, _, rfl, rfl, hb, at_of (j := 0) rfl (nats_at (l := z0 :: o') rfl), rfl, _, rfl, ?_⟩
  by_cases c : z0 = 0
  · subst c
    refine if_true_of (by decide) ?_
    refine ⟨_, rfl, _, rfl, ?_⟩
    exact go k i hk hi ne.symm rfl none none
  · have z1 : z0 = 1 := by
      have := bz z0 List.mem_cons_self
      omega
    subst z1
    refine if_false_of (by decide) ?_
    exact go i k hi hk ne rfl none none
end
end TB
namespace TB
open PySem PySem.Spec PyProof.Rows L2
/-- all but the object at a stands as it was -/
def Keep (a : Addr) (H H' : Hp) : Prop := ∀ c o, H c = some o → c ≠ a → H' c = some o
theorem keep_of {a : Addr} {H H' : Hp} (s : Same H H') : Keep a H H' := fun c o e _ => s c o e
def ErrOf (CW CN CG : Addr) (v : Int) (C : Addr) : Prop := (v = -1 ∧ C = CW) ∨ (v = -2 ∧ C = CN) ∨ (v = -6 ∧ C = CG)
def outs (an : Sj12.Ans) : List V := (an.v :: an.l).map V.int
/-- what a call promises of its answer -/
def Told (CP : Addr) (a l : Addr) (t : Sj12.Three) (q : Sj12.Call) (H : Hp) (Q : VK) : Prop :=
  ∀ t' an, Sj12.step t q = (t', an) → ∀ H' l' r, (l' = l ∨ H l' = none) → H r = none → Keep a H H' → Po CP H' a l' t' → H' r = some (.lst (outs an)) → Q (.ref r) H'
theorem cut_from {xs ys zs : List V} {j : Nat} (e : xs = ys ++ zs) (h : ys.length = j) : cutV xs (some (j : Int)) none = zs := by
  have lz : xs.length = j + zs.length := by rw [e, List.length_append, h]
  unfold cutV
  rw [HT.sIx_nat, HT.sIx_none, Nat.min_eq_left (by omega), e, List.drop_append_of_le_length (by omega), List.drop_of_length_le (by omega), List.nil_append]
  exact List.take_of_length_le (by rw [List.length_append]; omega)
theorem cut_mid {xs ys zs us : List V} {j n : Nat} (e : xs = ys ++ (zs ++ us)) (h : ys.length = j) (hn : zs.length = n) : cutV xs (some (j : Int)) (some ((j + n : Nat) : Int)) = zs := by
  have lz : xs.length = j + (n + us.length) := by rw [e, List.length_append, List.length_append, h, hn]
  unfold cutV
  rw [HT.sIx_nat, HT.sIx_nat, Nat.min_eq_left (by omega), Nat.min_eq_left (by omega), e, List.drop_append_of_le_length (by omega), List.drop_of_length_le (by omega), List.nil_append, List.take_append_of_le_length (by omega)]
  exact List.take_of_length_le (by omega)
section
variable {P : Program} {w : World} {K : PySem.W.Frag} {mg : Str → Option Value} {base : Heap} {CF CT CP CW CN CG : Addr}
def spTaken (K : PySem.W.Frag) (CP CW CN CG : Addr) : Sp := fun vs H Q E => ∃ (a b l : Addr) (t : Sj12.Three) (p : Nat) (xs : List Nat) (q : Sj12.Call), vs = [.ref a, .int p, .ref b] ∧ Po CP H a l t ∧ SqL K H b (nats xs) ∧ cN (p :: xs) = some q ∧
  (∀ v C, ErrOf CW CN CG v C → Sj12.step t q = (t, Sj12.ok v) → ∀ H', Same H H' → E (.ref C) none H') ∧ Told CP a l t q H Q
theorem scTaken : FnScope ["play_off", "call", "told"] ["play_off", "call", "told"] (defScope sTaken) := ⟨rfl, rfl, rfl, by decide +kernel, rfl, by decide +kernel, by decide +kernel⟩
theorem ok_taken (T : Txt K mg CF CT CP CW CN CG) (GB : MethAt P w K mg base (L2.CX P w) 1 CP "begins" ["self", "wins"] (spBegins K CP CW))
    (GO : MethAt P w K mg base (L2.CX P w) 6 CP "odds" ["self", "one", "other", "wrestler"] (spOdds CP CN CG)) (GL : MethAt P w K mg base (L2.CX P w) 6 CP "long" ["self", "one", "other"] (spLong CP CN CG))
    (GA : MethAt P w K mg base (L2.CX P w) 6 CP "wait" ["self", "wrestler"] (spWait CP CN CG)) (GC : DefAt P w K mg base (L2.CX P w) 3 "check" ["one", "other", "bouts"] (spCheck K CW CN))
    {f : Addr} {fd : FuncData} (F : Fun K "taken" "taken" sTaken f fd) : FnOk P w K mg base (L2.CX P w) 7 f fd ["play_off", "call", "told"] (spTaken K CP CW CN CG) := by
  refine F.okX scTaken (fun vs H Q E ⟨a, b, _, _, _, _, _, e, _⟩ => by rw [e]; rfl) (fun cdv A outer s H vs Q E hr h => ⟨_,
    pss_cons (ps_if (pt_cmpR op_eq (pv 1) pe_int (nomark _)) (pss_one (ps_ret (meth_at GB T.cP (hr.mono (by decide)) (pass_on (E := E) (takes_of rfl rfl rfl rfl)) (pv 0) (pa_cons (pv 2) pa_nil)))) pss_nil)
    (pss_cons (ps_if (pt_cmpR op_eq (pv 1) pe_int (nomark _)) (pss_one (ps_ret (meth_at GO T.cP hr (pass_on (E := E) (takes_of rfl rfl rfl rfl)) (pv 0)
      (pa_cons (pe_ix ix_list (pv 2) pe_int (fun _ _ => rfl)) (pa_cons (pe_ix ix_list (pv 2) pe_int (fun _ _ => rfl)) (pa_cons (pe_ix ix_list (pv 2) pe_int (fun _ _ => rfl)) pa_nil)))))) pss_nil)
    (pss_cons (ps_if (pt_cmpR op_eq (pv 1) pe_int (nomark _)) (pss_one (ps_ret (meth_at GL T.cP hr (pass_on (E := E) (takes_of rfl rfl rfl rfl)) (pv 0)
      (pa_cons (pe_ix ix_list (pv 2) pe_int (fun _ _ => rfl)) (pa_cons (pe_ix ix_list (pv 2) pe_int (fun _ _ => rfl)) pa_nil))))) pss_nil)
    (pss_cons (ps_if (pt_cmpR op_eq (pv 1) pe_int (nomark _)) (pss_one (ps_ret (meth_at GA T.cP hr (pass_on (E := E) (takes_of rfl rfl rfl rfl)) (pv 0) (pa_cons (pe_ix ix_list (pv 2) pe_int (fun _ _ => rfl)) pa_nil)))) pss_nil)
    (pss_one (ps_ret (call_at GC (hr.mono (by decide)) (pass_on (E := E) (takes_of rfl rfl rfl rfl)) (pa_cons (pe_ix ix_list (pv 2) pe_int (fun _ _ => rfl)) (pa_cons (pe_ix ix_list (pv 2) pe_int (fun _ _ => rfl)) (pa_cons (pe_slice sl_list (pv 2) (po_some pe_int) po_none) pa_nil)))))))))
    , ?_⟩)
  obtain ⟨a, b, l, t, p, xs, q, rfl, hpo, hb, hq, kE, kQ⟩ := h
  obtain ⟨⟨dx, ha⟩, hl, o⟩ := id hpo
  have no : ∀ {m : Int}, (p : Int) ≠ m → decide (V.int (p : Nat) = V.int m) = false := fun hm => decide_eq_false fun z => hm (by injection z)
  have ix : ∀ {j z : Nat}, xs[j]? = some z → atI (nats xs) (j : Int) = some (.int (z : Nat)) := fun e => atI_nat (nats_at e)
  rcases cN_some hq with ⟨x, y, z, rfl, rfl, rfl⟩ | ⟨i, k, x, rfl, rfl, rfl⟩ | ⟨i, k, rfl, rfl, rfl⟩ | ⟨x, rfl, rfl, rfl⟩ | ⟨i, k, r, rfl, rfl, hr20, rfl⟩
  · refine ⟨_, rfl, rfl, _, rfl, if_true_of (by decide) ?_⟩
    refine ⟨_, rfl, a, dx, _, rfl, ha, lkP_none l (by decide +kernel), _, rfl, a, b, l, t, x, y, z, rfl, hpo, hb, fun c => kE (-1) CW (.inl ⟨rfl, rfl⟩) (if_pos c) H (Same.refl H), fun c H' l' r nl nr kp hp' hr' => ?_⟩
    exact kQ _ _ (if_neg c) H' l' r (.inr nl) nr kp hp' hr'
  · refine ⟨_, rfl, rfl, _, rfl, if_false_of (no (by decide)) ⟨_, rfl, rfl, _, rfl, if_true_of (by decide) ?_⟩⟩
    refine ⟨_, rfl, a, dx, _, rfl, ha, lkP_none l (by decide +kernel), _, rfl, b, _, _, _, rfl, rfl, hb, ix (j := 0) rfl, _, rfl, b, _, _, _, rfl, rfl, hb, ix (j := 1) rfl, _, rfl, b, _, _, _, rfl, rfl, hb, ix (j := 2) rfl, ?_⟩
    refine ⟨a, l, t, i, k, x, rfl, hpo, fun c => kE (-2) CN (.inr (.inl ⟨rfl, rfl⟩)) (if_pos c) H (Same.refl H), fun c1 c2 e H' s' => kE (-6) CG (.inr (.inr ⟨rfl, rfl⟩)) ?_ H' s', fun c1 c2 u e H' r nr s' hr' => ?_⟩
    · show (if Sj12.two i k = false ∨ 3 ≤ x then _ else (t, Sj12.told (t.odds i k x))) = _
      rw [if_neg (by rw [c1]; rintro (h | h); cases h; omega), e]
      rfl
    · refine kQ t ⟨0, [u.n, u.d]⟩ ?_ H' l r (.inl rfl) nr (keep_of s') (hpo.same s') hr'
      show (if Sj12.two i k = false ∨ 3 ≤ x then _ else (t, Sj12.told (t.odds i k x))) = _
      rw [if_neg (by rw [c1]; rintro (h | h); cases h; omega), e]
      rfl
  · refine ⟨_, rfl, rfl, _, rfl, if_false_of (no (by decide)) ⟨_, rfl, rfl, _, rfl, if_false_of (no (by decide)) ⟨_, rfl, rfl, _, rfl, if_true_of (by decide) ?_⟩⟩⟩
    refine ⟨_, rfl, a, dx, _, rfl, ha, lkP_none l (by decide +kernel), _, rfl, b, _, _, _, rfl, rfl, hb, ix (j := 0) rfl, _, rfl, b, _, _, _, rfl, rfl, hb, ix (j := 1) rfl, ?_⟩
    refine ⟨a, l, t, i, k, rfl, hpo, fun c => kE (-2) CN (.inr (.inl ⟨rfl, rfl⟩)) (if_pos c) H (Same.refl H), fun c1 e H' s' => kE (-6) CG (.inr (.inr ⟨rfl, rfl⟩)) ?_ H' s', fun c1 u e H' r nr s' hr' => ?_⟩
    · show (if Sj12.two i k = false then _ else (t, Sj12.told (t.long i k))) = _
      rw [if_neg (by rw [c1]; decide), e]
      rfl
    · refine kQ t ⟨0, [u.n, u.d]⟩ ?_ H' l r (.inl rfl) nr (keep_of s') (hpo.same s') hr'
      show (if Sj12.two i k = false then _ else (t, Sj12.told (t.long i k))) = _
      rw [if_neg (by rw [c1]; decide), e]
      rfl
  · refine ⟨_, rfl, rfl, _, rfl, if_false_of (no (by decide)) ⟨_, rfl, rfl, _, rfl, if_false_of (no (by decide)) ⟨_, rfl, rfl, _, rfl, if_false_of (no (by decide)) ⟨_, rfl, rfl, _, rfl, if_true_of (by decide) ?_⟩⟩⟩⟩
    refine ⟨_, rfl, a, dx, _, rfl, ha, lkP_none l (by decide +kernel), _, rfl, b, _, _, _, rfl, rfl, hb, ix (j := 0) rfl, ?_⟩
    refine ⟨a, l, t, x, rfl, hpo, fun c => kE (-2) CN (.inr (.inl ⟨rfl, rfl⟩)) (if_pos c) H (Same.refl H), fun c1 e H' s' => kE (-6) CG (.inr (.inr ⟨rfl, rfl⟩)) ?_ H' s', fun c1 y e H' r nr s' hr' => ?_⟩
    · show (if 3 ≤ x then _ else (t, (match t.wait x with | none => Sj12.ok (-6) | some y => _))) = _
      rw [if_neg (by omega), e]
    · refine kQ t ⟨(y.1 : Nat), [y.2.n, y.2.d]⟩ ?_ H' l r (.inl rfl) nr (keep_of s') (hpo.same s') hr'
      show (if 3 ≤ x then _ else (t, (match t.wait x with | none => Sj12.ok (-6) | some y => _))) = _
      rw [if_neg (by omega), e]
      rfl
  · refine ⟨_, rfl, rfl, _, rfl, if_false_of (no (by decide)) ⟨_, rfl, rfl, _, rfl, if_false_of (no (by decide)) ⟨_, rfl, rfl, _, rfl, if_false_of (no (by decide)) ⟨_, rfl, rfl, _, rfl, if_false_of (no (by decide)) ?_⟩⟩⟩⟩
    refine ⟨_, rfl, b, _, _, _, rfl, rfl, hb, ix (j := 0) rfl, _, rfl, b, _, _, _, rfl, rfl, hb, ix (j := 1) rfl, _, rfl, _, rfl, b, _, rfl, hb, fun c nc => ?_⟩
    have cut : cutV (nats (i :: k :: r)) (some 2) none = nats r := cut_from (ys := nats [i, k]) (j := 2) rfl rfl
    rw [cut]
    have s1 : Same H (upd H c (.lst (nats r))) := same_upd nc
    refine ⟨c, i, k, r, rfl, SqL.of upd_same, by omega, fun c1 => kE (-2) CN (.inr (.inl ⟨rfl, rfl⟩)) (if_pos c1) _ s1, fun c1 c2 => kE (-1) CW (.inl ⟨rfl, rfl⟩) ?_ _ s1, fun c1 c2 c3 H' r' nr s' hr' => ?_⟩
    · show (if Sj12.two i k = false then _ else if r = [] ∨ bits r = false then (t, Sj12.ok (-1)) else _) = _
      rw [if_neg (by rw [c1]; decide), if_pos c2]
    · have nc2 : ¬ (r = [] ∨ bits r = false) := by
        rintro (h | h)
        · exact c2 h
        · rw [c3] at h; cases h
      refine kQ t ⟨if (played i k r).2 = true then ((played i k r).1.2.1 : Nat) else 3, [(played i k r).1.1, (played i k r).1.2.1, (played i k r).1.2.2]⟩ ?_ H' l r' (.inl rfl) (fresh_of s1 nr) (keep_of (s1.trans s')) (hpo.same (s1.trans s')) hr'
      show (if Sj12.two i k = false then _ else if r = [] ∨ bits r = false then _ else (t, _)) = _
      rw [if_neg (by rw [c1]; decide), if_neg nc2]
      show (t, (⟨if (if r.headD 0 = 1 then Sj12.plays 1 i k (r.drop 1) else Sj12.plays 1 k i (r.drop 1)).2 = true then _ else 3, _⟩ : Sj12.Ans)) = _
      rw [played_eq]
      rfl
end
end TB
namespace TB
open PySem PySem.Spec PyProof.Rows L2
theorem ints_nats (X : List Nat) : (X.map fun (n : Nat) => (n : Int)).map V.int = nats X := by
  unfold nats
  rw [List.map_map]
  rfl
section
variable {P : Program} {w : World} {K : PySem.W.Frag} {mg : Str → Option Value} {base : Heap} {CF CT CP CW CN CG : Addr}
def spAnswer (K : PySem.W.Frag) (CP : Addr) : Sp := fun vs H Q _ => ∃ (a b l : Addr) (t : Sj12.Three) (p : Nat) (xs : List Nat) (q : Sj12.Call), vs = [.ref a, .int p, .ref b] ∧ Po CP H a l t ∧ SqL K H b (nats xs) ∧ cN (p :: xs) = some q ∧ Told CP a l t q H Q
theorem scAnswer : FnScope ["play_off", "call", "told"] ["play_off", "call", "told"] (defScope sAnswer) := ⟨rfl, rfl, rfl, by decide +kernel, rfl, by decide +kernel, by decide +kernel⟩
theorem ok_answer (T : Txt K mg CF CT CP CW CN CG) (GT : DefAt P w K mg base (L2.CX P w) 7 "taken" ["play_off", "call", "told"] (spTaken K CP CW CN CG))
    {f : Addr} {fd : FuncData} (F : Fun K "answer" "answer" sAnswer f fd) : FnOk P w K mg base CX0 8 f fd ["play_off", "call", "told"] (spAnswer K CP) := by
  refine F.ok scAnswer (fun vs H Q E ⟨a, b, _, _, _, _, _, e, _⟩ => by rw [e]; rfl) (fun cdv A outer s H vs Q E hr h => ⟨_,
    pss_one (ps_try_many (tb := fun W => tRet (tCallS (spTaken K CP CW CN CG) (WE W) (tCons (tVar 0) (tCons (tVar 1) (tCons (tVar 2) tNil))))) (Wout := fun _ _ _ _ => False) rfl rfl takes0
      (fun W pn xe tk _ => pss_one (ps_ret (callS_at GT hr (fun σ => passAt tk σ) (by exact (pa_cons (pv 0) (pa_cons (pv 1) (pa_cons (pv 2) pa_nil)))))))
      (.cons ⟨rfl, by decide, Or.inl T.eW.g⟩ (fun a oe cls d pn _ _ => pss_one (ps_ret (pe_lst (pa_cons (pe_un un_neg pe_int) pa_nil))))
      (.cons ⟨rfl, by decide, Or.inl T.eN.g⟩ (fun a oe cls d pn _ _ => pss_one (ps_ret (pe_lst (pa_cons (pe_un un_neg pe_int) pa_nil))))
      (.cons ⟨rfl, by decide, Or.inl T.eG.g⟩ (fun a oe cls d pn _ _ => pss_one (ps_ret (pe_lst (pa_cons (pe_un un_neg pe_int) pa_nil)))) .nil)))), ?_⟩)
  obtain ⟨a, b, l, t, p, xs, q, rfl, hpo, hb, hq, kQ⟩ := h
  refine ⟨_, rfl, _, rfl, _, rfl, a, b, l, t, p, xs, q, rfl, hpo, hb, hq, fun v C ev est H' s' => ?_, kQ⟩
  have fin : ∀ {v : Int}, Sj12.step t q = (t, Sj12.ok v) → ∀ r, H' r = none → Q (.ref r) (upd H' r (.lst [.int v])) := fun est r nr =>
    kQ t _ est _ l r (.inl rfl) (fresh_of s' nr) (keep_of (s'.trans (same_upd nr))) (hpo.same (s'.trans (same_upd nr))) upd_same
  rcases ev with ⟨rfl, rfl⟩ | ⟨rfl, rfl⟩ | ⟨rfl, rfl⟩
  · exact ⟨true, T.xWW, fun _ a0 _ => ⟨_, rfl, by show 1 ≤ sizeLine; decide, fun r nr => fin est r nr⟩, fun q => Bool.noConfusion q⟩
  · exact ⟨false, T.xNW, fun q => Bool.noConfusion q, fun _ => ⟨true, T.xNN, fun _ a0 _ => ⟨_, rfl, by show 1 ≤ sizeLine; decide, fun r nr => fin est r nr⟩, fun q => Bool.noConfusion q⟩⟩
  · exact ⟨false, T.xGW, fun q => Bool.noConfusion q, fun _ => ⟨false, T.xGN, fun q => Bool.noConfusion q, fun _ => ⟨true, T.xGG, fun _ a0 _ => ⟨_, rfl, by show 1 ≤ sizeLine; decide, fun r nr => fin est r nr⟩, fun q => Bool.noConfusion q⟩⟩⟩
/-! ### answers -/
def spAnswers (K : PySem.W.Frag) : Sp := fun vs H Q _ => ∃ (a : Addr) (ns : List Int), vs = [.ref a] ∧ SqL K H a (ns.map V.int) ∧ PySj12.answers_asked ns = true ∧ ns.length ≤ 1000000 ∧
  ∀ (H' : Hp) (r : Addr), H' r = some (.lst ((PySj12.answers ns).map V.int)) → Q (.ref r) H'
def N_answers : List Str := ["calls", "play_off", "said", "place", "start", "end", "answered"]
theorem scAnswers : FnScope N_answers ["calls"] (defScope sAnswers) := ⟨rfl, rfl, rfl, by decide +kernel, rfl, by decide +kernel, by decide +kernel⟩
/-- the state ahead of a turn -/
structure At (CP : Addr) (ns : List Int) (H H' : Hp) (po sd : Addr) (pl : Nat) (done : List Int) : Prop where
  le : pl ≤ ns.length
  same : Same H H'
  said : H' sd = some (.lst (done.map V.int))
  rest : ∃ (lw : Addr) (t : Sj12.Three) (f : Nat) (cs : List (List (List Int))), Po CP H' po lw t ∧ lw ≠ sd ∧ PyWide.calls f (ns.drop pl) = some cs ∧ cs.all good = true ∧ done ++ PyFlat.told (PyFlat.played Sj12Neutral.step t cs) = PySj12.answers ns
theorem ok_answers (T : Txt K mg CF CT CP CW CN CG) (GP : MakeAt P w K mg base CX0 1 "PlayOff" CP ["self"] (spPInit CP)) (GA : DefAt P w K mg base CX0 8 "answer" ["play_off", "call", "told"] (spAnswer K CP))
    {f : Addr} {fd : FuncData} (F : Fun K "answers" "answers" sAnswers f fd) : FnOk P w K mg base CX0 9 f fd ["calls"] (spAnswers K) := by
  refine F.ok scAnswers (fun vs H Q E ⟨a, b, e, _⟩ => by rw [e]; rfl) (fun cdv A outer s H vs Q E hr h => ⟨_,
    pss_cons (ps_set (i := 1) scAnswers.nd rfl (Or.inl rfl) (make0_at GP (hr.mono (by decide)) pass0))
    (pss_cons (ps_set (i := 2) scAnswers.nd rfl (Or.inl rfl) (pe_lst pa_nil))
    (pss_cons (ps_set (i := 3) scAnswers.nd rfl (Or.inl rfl) pe_int)
    (pss_cons (ps_while PassesOwn.never (pt_cmpR op_lt (pv 3) (pe_callB call_len_seq (by rfl) T.bLen PySem.boot_len (pa_cons (pv 0) pa_nil)) (nomark _))
      (pss_cons (ps_set (i := 4) scAnswers.nd rfl (Or.inl rfl) (pe_op op_add (pv 3) pe_int))
      (pss_cons (ps_set (i := 5) scAnswers.nd rfl (Or.inl rfl) (pe_op op_add (pv 4) (pe_ix ix_list (pv 0) (pe_op op_add (pv 3) pe_int) (fun _ _ => rfl))))
      (pss_cons (ps_set (i := 6) scAnswers.nd rfl (Or.inl rfl) (call_at GA hr pass0 (pa_cons (pv 1) (pa_cons (pe_ix ix_list (pv 0) (pv 3) (fun _ _ => rfl)) (pa_cons (pe_slice sl_list (pv 0) (po_some (pv 4)) (po_some (pv 5))) pa_nil)))))
      (pss_cons (ps_expr (pe_bm PySem.F.plainAttrs_list PySem.F.slot_list_append PySem.F.type_list_append mt_append (pv 2) (pa_cons (pe_callB call_len_seq (by rfl) T.bLen PySem.boot_len (pa_cons (pv 6) pa_nil)) pa_nil)))
      (pss_cons (ps_expr (pe_bm PySem.F.plainAttrs_list PySem.F.slot_list_extend PySem.F.type_list_extend mt_extend (pv 2) (pa_cons (pv 6) pa_nil)))
      (pss_one (ps_set (i := 3) scAnswers.nd rfl (Or.inl rfl) (pe_op op_add (pv 5) pe_int)))))))))
    (pss_one (ps_ret (pv 2)))))), ?_⟩)
  obtain ⟨a, ns, rfl, hS, hask, hlen, q⟩ := h
  obtain ⟨cs0, hcs0, hg0, hsz, hans⟩ := asked_parts hask
  have room : ∀ {d e : List Int}, d ++ e = PySj12.answers ns → d.length + e.length ≤ 10000000 := fun e => by
    rw [← List.length_append, e]
    exact hsz
  have line : (10000000 : Nat) < sizeLine := by decide
  intro po dp npo ndp nep
  refine ⟨po, dp, rfl, upd_same, fun H1 lw nlw hpo kp => ⟨rfl, ?_⟩⟩
  have s1 : Same H H1 := Same.made npo ndp kp
  refine ⟨by show 0 ≤ sizeLine; decide, fun sd nsd => ?_⟩
  have sdH : H sd = none := fresh_of s1 nsd
  refine ⟨fun m σ H' => ∃ (pl : Nat) (done : List Int) (v4 v5 v6 : Option V), m = ns.length - pl ∧ σ = [some (.ref a), some (.ref po), some (.ref sd), some (.int pl), v4, v5, v6] ∧ At CP ns H H' po sd pl done,
    ⟨_, 0, [], none, none, none, rfl, rfl, Nat.zero_le _, same_upd2 s1 sdH, upd_same, lw, _, _, cs0, hpo.same (same_upd nsd), ne_of_none hpo.2.1 nsd, hcs0, hg0, ?_⟩, ?_⟩
  · rw [hans]
    rfl
  rintro m σ H' ⟨pl, done, v4, v5, v6, rfl, rfl, hle, hs, hsd, lw, t, fu, cs, hP, nlw', hcs, hg, heq⟩
  have hL := hs.seq hS
  refine ⟨_, rfl, _, rfl, a, _, rfl, .inl hL, _, _, rfl, rfl, _, rfl, ?_⟩
  rw [List.length_map]
  rcases calls_step hcs hg with ⟨e1, e2⟩ | ⟨f', p, xs, tl, cs', e1, rfl, hgood, hcs', hg'⟩
  · -- the end
    have hl : ns.length ≤ pl := List.drop_eq_nil_iff.mp e1
    refine if_false_of (decide_eq_false (by omega)) ⟨_, rfl, q H' sd ?_⟩
    subst e2
    have e3 : done = PySj12.answers ns := by
      rw [← heq]
      exact (List.append_nil done).symm
    rw [hsd, e3]
  · -- one call
    obtain ⟨P', X, qq, rfl, rfl, hcN, hcall⟩ := good_nat hgood
    have hlt : pl < ns.length := by
      apply Nat.lt_of_not_le
      intro z
      rw [List.drop_eq_nil_iff.mpr z] at e1
      cases e1
    have split : ns = ns.take pl ++ ((P' : Int) :: (X.length : Int) :: ((X.map fun (n : Nat) => (n : Int)) ++ 0 :: tl)) := by
      have := List.take_append_drop pl ns
      rw [e1, List.length_map] at this
      exact this.symm
    have lt : (ns.take pl).length = pl := by rw [List.length_take]; omega
    have total : ns.length = pl + (2 + (X.length + (1 + tl.length))) := by
      have e := congrArg List.length split
      simp only [List.length_append, List.length_cons, List.length_map, lt] at e
      omega
    have g0 : ns[pl]? = some (P' : Int) := by
      rw [split, List.getElem?_append_right (by omega), lt, Nat.sub_self]
      rfl
    have g1 : ns[pl + 1]? = some (X.length : Int) := by
      rw [split, List.getElem?_append_right (by omega), lt, Nat.add_sub_cancel_left]
      rfl
    have at_ : ∀ {j : Nat} {z : Int}, ns[j]? = some z → (ns.map V.int)[j]? = some (.int z) := fun e => by rw [List.getElem?_map, e]; rfl
    have cut : cutV (ns.map V.int) (some ((pl + 2 : Nat) : Int)) (some ((pl + 2 + X.length : Nat) : Int)) = nats X := by
      refine cut_mid (ys := (ns.take pl).map V.int ++ [.int P', .int X.length]) (us := (0 :: tl).map V.int) ?_ (by rw [List.length_append, List.length_map, lt]; rfl) (nats_len X)
      have e := congrArg (List.map V.int) split
      rw [List.map_append, List.map_cons, List.map_cons, List.map_append, ints_nats] at e
      rw [e, List.append_assoc]
      rfl
    have next : ns.drop (pl + 2 + X.length + 1) = tl := by
      have e : pl + 2 + X.length + 1 = pl + (2 + X.length + 1) := by omega
      rw [e, ← List.drop_drop, e1, List.length_map]
      rw [show 2 + X.length + 1 = X.length + 1 + 1 + 1 by omega, List.drop_succ_cons, List.drop_succ_cons, List.drop_append, List.drop_of_length_le (by rw [List.length_map]; omega), List.nil_append, List.length_map, Nat.add_sub_cancel_left]
      rfl
    refine if_true_of (decide_eq_true (by omega)) ⟨_, fun σ' H' h => h, ?_⟩
    have ep1 : (pl : Int) + 1 = (pl + 1 : Nat) := by omega
    refine ⟨_, rfl, _, _, rfl, rfl, ?_⟩
    refine ⟨_, rfl, _, rfl, _, rfl, _, _, rfl, rfl, a, _, _, _, rfl, rfl, hL, at_of ep1 (at_ g1), _, _, rfl, rfl, ?_⟩
    refine ⟨_, rfl, _, rfl, _, rfl, a, _, _, _, rfl, rfl, hL, atI_nat (at_ g0), _, rfl, _, rfl, _, rfl, _, rfl, _, rfl, a, _, rfl, hL, fun c nc => ?_⟩
    have ecut : cutV (ns.map V.int) (some ((pl : Int) + 2)) (some ((pl : Int) + 2 + (X.length : Nat))) = nats X := by
      rw [← cut]
      rfl
    have sc : Same H' (upd H' c (.lst (nats X))) := same_upd nc
    refine ⟨po, c, lw, t, P', X, qq, rfl, hP.same (same_upd nc), SqL.of (upd_same.trans (congrArg (fun z => some (HO.lst z)) ecut)), hcN, ?_⟩
    have ecut' : cutV (ns.map V.int) (some ((pl : Int) + 2)) (some ((pl : Int) + 2 + ((X.length : Nat) : Int))) = nats X := ecut
    intro t' an est H2 l2 r nl2 nr kp2 hP2 hr2
    rw [ecut'] at nl2 nr kp2
    have posd : po ≠ sd := ne_of hP.1.choose_spec hsd (by intro z; cases z)
    have sd1 : (upd H' c (.lst (nats X))) sd = some (.lst (done.map V.int)) := sc _ _ hsd
    have sd2 : H2 sd = some (.lst (done.map V.int)) := kp2 _ _ sd1 posd.symm
    have rsd : r ≠ sd := fun e => by rw [e, sd1] at nr; cases nr
    have l2sd : l2 ≠ sd := by
      rcases nl2 with e | e
      · rw [e]
        exact nlw'
      · exact fun z => by rw [z, sd1] at e; cases e
    have hs2 : Same H H2 := fun b o e => kp2 b o (sc b o (hs b o e)) fun z => by rw [z, npo] at e; cases e
    have heq2 : (done ++ (((an.v :: an.l).length : Nat) : Int) :: (an.v :: an.l)) ++ PyFlat.told (PyFlat.played Sj12Neutral.step t' cs') = PySj12.answers ns := by
      rw [← heq, List.append_assoc]
      refine congrArg (done ++ ·) ?_
      show _ = PyFlat.told ((Sj12Neutral.step t _).2 :: PyFlat.played Sj12Neutral.step (Sj12Neutral.step t _).1 cs')
      rw [step_eq hcall, est]
      rfl
    have rm := room heq2
    rw [List.length_append, List.length_cons] at rm
    refine ⟨_, rfl, .inl ⟨rfl, _, SqL.of sd2⟩, _, rfl, r, _, rfl, .inl (SqL.of hr2), sd, _, _, rfl, rfl, sd2, by rw [List.length_map]; omega, ?_⟩
    refine ⟨_, rfl, .inl ⟨rfl, _, SqL.of upd_same⟩, _, rfl, sd, r, _, _, rfl, rfl, upd_same, (upd_ne rsd).trans hr2, ?_, ?_⟩
    · unfold outs
      rw [List.length_append, List.length_map, List.length_map]
      show done.length + 1 + (an.v :: an.l).length ≤ sizeLine
      omega
    refine ⟨_, rfl, _, _, rfl, rfl, ns.length - (pl + 2 + X.length + 1), by omega, pl + 2 + X.length + 1, done ++ (((an.v :: an.l).length : Nat) : Int) :: (an.v :: an.l), some (.int ((pl : Int) + 2)), some (.int ((pl : Int) + 2 + (X.length : Nat))), some (.ref r), rfl, ?_, by omega, ?_, ?_, l2, t', f', cs', ?_, l2sd, by rw [next]; exact hcs', hg', heq2⟩
    · show [some (V.ref a), some (.ref po), some (.ref sd), some (.int ((pl : Int) + 2 + (X.length : Nat) + 1)), some (.int ((pl : Int) + 2)), some (.int ((pl : Int) + 2 + (X.length : Nat))), some (.ref r)] = _
      rw [show (pl : Int) + 2 + (X.length : Nat) + 1 = (pl + 2 + X.length + 1 : Nat) by omega]
    · exact same_upd2 (same_upd2 hs2 sdH) sdH
    · rw [upd_same]
      unfold outs
      rw [List.length_map, List.map_append, List.map_cons, List.append_assoc]
      rfl
    · obtain ⟨⟨d2, h2⟩, h3, o2⟩ := hP2
      exact ⟨⟨d2, (upd_ne posd).trans ((upd_ne posd).trans h2)⟩, (upd_ne l2sd).trans ((upd_ne l2sd).trans h3), o2⟩
end
end TB
namespace TB
open PySem PySem.Spec PyProof.Rows L2
/-! ### the end: what the top has written -/
/-- a method, a def of the module, as they stand behind the top -/
def MethOf (K : PySem.W.Frag) (C : Addr) (m qual : Str) (st : Stmt) (ps : List Str) : Prop := ∃ f fd, Fun K m qual st f fd ∧ Meth K C m f ∧ Binds K fd ps []
def DefOf (K : PySem.W.Frag) (x : Str) (st : Stmt) (ps : List Str) : Prop := ∃ f fd, Fun K x x st f fd ∧ PySem.W.nsIn K mainGlobals x = some (some (.ref f)) ∧ Binds K fd ps []
section
variable {K : PySem.W.Frag} {C f : Addr} {m x qual : Str} {st : Stmt} {ps : List Str} {oc : Value} {od an : Option Addr} {osl : Array (Option Value)} {kV doc pm cdv ct : Value}
theorem meth_mk (a : PySem.W.findIn K (.ref C) m = some (some (.ref f))) (i : PySem.W.isFn K (.ref f) = true)
    (l : K.lookup f = some ⟨oc, od, .func (PySem.W.fnOf m qual (defArgs st) (defBody st) (defScope st) .none kV doc pm an cdv ct), osl⟩) (c : PySem.W.codeIn K cdv qual = true) (k : PySem.W.keepIn K (.ref f) = true)
    (h : ∀ (kV doc pm : Value) (an : Option Addr) (cdv ct : Value) (us : List Value), us.length = ps.length → bindArgs (PySem.W.fnOf m qual (defArgs st) (defBody st) (defScope st) .none kV doc pm an cdv ct) ⟨us, []⟩ = pure (ps.zip us)) : MethOf K C m qual st ps :=
  ⟨f, _, fun_mk l c k, ⟨a, i, k⟩, (fun_mk l c k).binds h⟩
theorem def_mk (a : PySem.W.nsIn K mainGlobals x = some (some (.ref f)))
    (l : K.lookup f = some ⟨oc, od, .func (PySem.W.fnOf x x (defArgs st) (defBody st) (defScope st) .none kV doc pm an cdv ct), osl⟩) (c : PySem.W.codeIn K cdv x = true) (k : PySem.W.keepIn K (.ref f) = true)
    (h : ∀ (kV doc pm : Value) (an : Option Addr) (cdv ct : Value) (us : List Value), us.length = ps.length → bindArgs (PySem.W.fnOf x x (defArgs st) (defBody st) (defScope st) .none kV doc pm an cdv ct) ⟨us, []⟩ = pure (ps.zip us)) : DefOf K x st ps :=
  ⟨f, _, fun_mk l c k, a, (fun_mk l c k).binds h⟩
end
/-- what the clause «except S» says of an error of the class at C, from whether C stands under S -/
theorem exm_mk {K : PySem.W.Frag} {C S : Addr} {b : Bool} (h1 : PySem.W.subIn K (.ref S) (.type "BaseException") = some true) (h2 : PySem.W.isClsIn K S = true) (h3 : PySem.W.typeIn K (.ref S) = some (.type "type")) (h4 : PySem.W.subIn K (.ref C) (.ref S) = some b) :
    PySem.W.exmOne K (.ref C) (.ref S) = some b := by
  have e1 : (PySem.W.subIn K (.ref S) (.type "BaseException") == some true) = true := by rw [h1] <;> rfl
  have e2 : ((PySem.W.clsIn K S).isSome && PySem.W.typeIn K (.ref S) == some (.type "type")) = true := by
    have h2' : (PySem.W.clsIn K S).isSome = true := h2
    rw [h2', h3] <;> rfl
  show (if (PySem.W.subIn K (.ref S) (.type "BaseException") == some true) = true then (if ((PySem.W.clsIn K S).isSome && PySem.W.typeIn K (.ref S) == some (.type "type")) = true then PySem.W.subIn K (.ref C) (.ref S) else none) else none) = some b
  rw [if_pos e1, if_pos e2]
  exact h4
/-- an own error's class, without its name -/
structure ErrOn (K : PySem.W.Frag) (C : Addr) : Prop where
  ex : PySem.W.excIn K C [.type "Exception", .type "BaseException", .type "object"] "Exception.__new__" = true
  k : PySem.W.keepIn K (.ref C) = true
  b : PySem.W.subIn K (.ref C) (.type "BaseException") = some true
  t : PySem.W.typeIn K (.ref C) = some (.type "type")
  i : PySem.W.isClsIn K C = true
/-- a class that is made -/
structure ClsOn (K : PySem.W.Frag) (C : Addr) : Prop where
  c : Cls K C
  m : PySem.W.makesIn K C = true
  k : PySem.W.keepIn K (.ref C) = true
theorem all_mk {P : Program} {w : World} {K : PySem.W.Frag} {h : Heap} {mg : Str → Option Value} {fa CF CT CP CW CN CG : Addr} {t3 tNo t100 tMil : Tok} (X : K.In h) (G : h.Ns mainGlobals mg) (hfa : mg "answers" = some (.ref fa))
    (aF : PySem.W.nsIn K mainGlobals "Fraction" = some (some (.ref CF)))
    (aT : PySem.W.nsIn K mainGlobals "TimeRound" = some (some (.ref CT)))
    (aP : PySem.W.nsIn K mainGlobals "PlayOff" = some (some (.ref CP)))
    (aW : PySem.W.nsIn K mainGlobals "WrongNumber" = some (some (.ref CW)))
    (aN : PySem.W.nsIn K mainGlobals "NoWrestler" = some (some (.ref CN)))
    (aG : PySem.W.nsIn K mainGlobals "GoesForEver" = some (some (.ref CG)))
    (oF : ClsOn K CF)
    (oT : ClsOn K CT)
    (oP : ClsOn K CP)
    (n1 : NoAttr K CF "above")
    (n2 : NoAttr K CF "below")
    (n3 : NoAttr K CT "won")
    (n4 : NoAttr K CT "bouts")
    (n5 : NoAttr K CP "wins")
    (eW : ErrOn K CW)
    (eN : ErrOn K CN)
    (eG : ErrOn K CG)
    (sWW : PySem.W.subIn K (.ref CW) (.ref CW) = some true)
    (sNW : PySem.W.subIn K (.ref CN) (.ref CW) = some false)
    (sNN : PySem.W.subIn K (.ref CN) (.ref CN) = some true)
    (sGW : PySem.W.subIn K (.ref CG) (.ref CW) = some false)
    (sGN : PySem.W.subIn K (.ref CG) (.ref CN) = some false)
    (sGG : PySem.W.subIn K (.ref CG) (.ref CG) = some true)
    (k3 : PySem.W.nsIn K mainGlobals "WRESTLERS" = some (some (.int 3 t3)))
    (kNo : PySem.W.nsIn K mainGlobals "NOBODY" = some (some (.int 3 tNo)))
    (k100 : PySem.W.nsIn K mainGlobals "HUNDRED" = some (some (.int 100 t100)))
    (kMil : PySem.W.nsIn K mainGlobals "MILLION" = some (some (.int 1000000 tMil)))
    (bSum : PySem.W.nsIn K mainGlobals "sum" = some none)
    (bMax : PySem.W.nsIn K mainGlobals "max" = some none)
    (bLen : PySem.W.nsIn K mainGlobals "len" = some none)
    (bRange : PySem.W.nsIn K mainGlobals "range" = some none)
    (bList : PySem.W.nsIn K mainGlobals "list" = some none)
    (m0 : MethOf K CF "__init__" "Fraction.__init__" sFInit ["self", "above", "below"])
    (m1 : MethOf K CF "exceeds" "Fraction.exceeds" sExceeds ["self", "other"])
    (m2 : MethOf K CF "told" "Fraction.told" sTold ["self"])
    (m3 : MethOf K CT "__init__" "TimeRound.__init__" sTInit ["self"])
    (m4 : MethOf K CT "ended" "TimeRound.ended" sEnded ["self"])
    (m5 : MethOf K CT "chance" "TimeRound.chance" sTChance ["self", "wrestler"])
    (m6 : MethOf K CT "length" "TimeRound.length" sTLength ["self"])
    (m7 : MethOf K CP "__init__" "PlayOff.__init__" sPInit ["self"])
    (m8 : MethOf K CP "share" "PlayOff.share" sShare ["self", "winner", "loser"])
    (m9 : MethOf K CP "time_round" "PlayOff.time_round" sRound ["self", "winner", "loser"])
    (m10 : MethOf K CP "chance" "PlayOff.chance" sChance ["self", "one", "other", "wrestler"])
    (m11 : MethOf K CP "length" "PlayOff.length" sLength ["self", "one", "other"])
    (m12 : MethOf K CP "begins" "PlayOff.begins" sBegins ["self", "wins"])
    (m13 : MethOf K CP "odds" "PlayOff.odds" sOdds ["self", "one", "other", "wrestler"])
    (m14 : MethOf K CP "long" "PlayOff.long" sLong ["self", "one", "other"])
    (m15 : MethOf K CP "wait" "PlayOff.wait" sWait ["self", "wrestler"])
    (d0 : DefOf K "common_divisor" sGcd ["one", "other"])
    (d1 : DefOf K "mean" sMean ["share", "ahead", "behind"])
    (d2 : DefOf K "third" sThird ["one", "other"])
    (d3 : DefOf K "need_wrestler" sNeedW ["wrestler"])
    (d4 : DefOf K "need_pair" sNeedP ["one", "other"])
    (d5 : DefOf K "need_bouts" sNeedB ["bouts"])
    (d6 : DefOf K "check" sCheck ["one", "other", "bouts"])
    (d7 : DefOf K "taken" sTaken ["play_off", "call", "told"])
    (d8 : DefOf K "answer" sAnswer ["play_off", "call", "told"])
    (d9 : DefOf K "answers" sAnswers ["calls"])
    : ∃ fd : FuncData, (∀ (s : Shared) (us : List Value), us.length = (["calls"] : List Str).length → BindsTo s fd ⟨us, []⟩ ((["calls"] : List Str).zip us)) ∧ ∀ base : Heap, K.In base → base.Ns mainGlobals mg → FnOk P w K mg base CX0 9 fa fd ["calls"] (spAnswers K) := by
  have g : ∀ {x : Str} {v : Value}, PySem.W.nsIn K mainGlobals x = some (some v) → mg x = some v := fun e => PySem.W.mg_of X G e
  have gn : ∀ {x : Str}, PySem.W.nsIn K mainGlobals x = some none → mg x = none := fun e => PySem.W.mg_none_of X G e
  have eW' : ErrAt K mg "WrongNumber" CW := ⟨eW.ex, g aW, eW.k, eW.b, eW.t⟩
  have eN' : ErrAt K mg "NoWrestler" CN := ⟨eN.ex, g aN, eN.k, eN.b, eN.t⟩
  have eG' : ErrAt K mg "GoesForEver" CG := ⟨eG.ex, g aG, eG.k, eG.b, eG.t⟩
  have T : Txt K mg CF CT CP CW CN CG :=
    { cF := oF.c, cT := oT.c, cP := oP.c, nAbove := n1, nBelow := n2, nWon := n3, nBouts := n4, nWins := n5, eW := eW', eN := eN', eG := eG',
      m3 := ⟨_, g k3⟩, mNo := ⟨_, g kNo⟩, m100 := ⟨_, g k100⟩, mMil := ⟨_, g kMil⟩, bSum := gn bSum, bMax := gn bMax, bLen := gn bLen, bRange := gn bRange, bList := gn bList,
      xWW := exm_mk eW.b eW.i eW.t sWW, xNW := exm_mk eW.b eW.i eW.t sNW, xNN := exm_mk eN.b eN.i eN.t sNN, xGW := exm_mk eW.b eW.i eW.t sGW, xGN := exm_mk eN.b eN.i eN.t sGN, xGG := exm_mk eG.b eG.i eG.t sGG }
  obtain ⟨f0, fd0, F0, M0, B0⟩ := m0
  obtain ⟨f1, fd1, F1, M1, B1⟩ := m1
  obtain ⟨f2, fd2, F2, M2, B2⟩ := m2
  obtain ⟨f3, fd3, F3, M3, B3⟩ := m3
  obtain ⟨f4, fd4, F4, M4, B4⟩ := m4
  obtain ⟨f5, fd5, F5, M5, B5⟩ := m5
  obtain ⟨f6, fd6, F6, M6, B6⟩ := m6
  obtain ⟨f7, fd7, F7, M7, B7⟩ := m7
  obtain ⟨f8, fd8, F8, M8, B8⟩ := m8
  obtain ⟨f9, fd9, F9, M9, B9⟩ := m9
  obtain ⟨f10, fd10, F10, M10, B10⟩ := m10
  obtain ⟨f11, fd11, F11, M11, B11⟩ := m11
  obtain ⟨f12, fd12, F12, M12, B12⟩ := m12
  obtain ⟨f13, fd13, F13, M13, B13⟩ := m13
  obtain ⟨f14, fd14, F14, M14, B14⟩ := m14
  obtain ⟨f15, fd15, F15, M15, B15⟩ := m15
  obtain ⟨h0, hd0, D0, A0, E0⟩ := d0
  obtain ⟨h1, hd1, D1, A1, E1⟩ := d1
  obtain ⟨h2, hd2, D2, A2, E2⟩ := d2
  obtain ⟨h3, hd3, D3, A3, E3⟩ := d3
  obtain ⟨h4, hd4, D4, A4, E4⟩ := d4
  obtain ⟨h5, hd5, D5, A5, E5⟩ := d5
  obtain ⟨h6, hd6, D6, A6, E6⟩ := d6
  obtain ⟨h7, hd7, D7, A7, E7⟩ := d7
  obtain ⟨h8, hd8, D8, A8, E8⟩ := d8
  obtain ⟨h9, hd9, D9, A9, E9⟩ := d9
  have e := hfa.symm.trans (g A9)
  cases e
  refine ⟨hd9, fun s us hu => ?_, fun base hb hg => ?_⟩
  · obtain ⟨oc, od, kV, doc, pm, an, cdv, ct, osl, rfl, _⟩ := D9.ex
    exact match us, hu with | [_], _ => .of_eq rfl
  have dGcd : DefAt P w K mg base CX0 1 "common_divisor" ["one", "other"] spGcd := ⟨h0, hd0, ok_gcd D0, g A0, D0.kp, E0⟩
  have kFr : MakeAt P w K mg base CX0 2 "Fraction" CF ["self", "above", "below"] (spFInit CF) := ⟨f0, fd0, ok_finit T dGcd F0, ⟨oF.m, M0.at_, M0.fn, oF.k⟩, g aF, B0⟩
  have mExc : MethAt P w K mg base CX0 1 CF "exceeds" ["self", "other"] (spExceeds CF) := ⟨f1, fd1, ok_exceeds T F1, M1, B1⟩
  have mTold : MethAt P w K mg base CX0 1 CF "told" ["self"] (spTold CF) := ⟨f2, fd2, ok_told T F2, M2, B2⟩
  have kTr : MakeAt P w K mg base CX0 1 "TimeRound" CT ["self"] (spTInit CT) := ⟨f3, fd3, ok_tinit T F3, ⟨oT.m, M3.at_, M3.fn, oT.k⟩, g aT, B3⟩
  have mEnd : MethAt P w K mg base (L2.CX P w) 1 CT "ended" ["self"] (spEnded CT CG) := ⟨f4, fd4, ok_ended T F4, M4, B4⟩
  have mTC : MethAt P w K mg base (L2.CX P w) 4 CT "chance" ["self", "wrestler"] (spTChance CF CT CG) := ⟨f5, fd5, ok_tchance T kFr mEnd F5, M5, B5⟩
  have mTL : MethAt P w K mg base (L2.CX P w) 4 CT "length" ["self"] (spTLength CF CT CG) := ⟨f6, fd6, ok_tlength T kFr mEnd F6, M6, B6⟩
  have kPo : MakeAt P w K mg base CX0 1 "PlayOff" CP ["self"] (spPInit CP) := ⟨f7, fd7, ok_pinit T F7, ⟨oP.m, M7.at_, M7.fn, oP.k⟩, g aP, B7⟩
  have mSh : MethAt P w K mg base CX0 1 CP "share" ["self", "winner", "loser"] (spShare CP) := ⟨f8, fd8, ok_share T F8, M8, B8⟩
  have dTh : DefAt P w K mg base CX0 1 "third" ["one", "other"] spThird := ⟨h2, hd2, ok_third D2, g A2, D2.kp, E2⟩
  have mRo : MethAt P w K mg base CX0 3 CP "time_round" ["self", "winner", "loser"] (spRound CP CT) := ⟨f9, fd9, ok_round T kTr mSh dTh F9, M9, B9⟩
  have dMe : DefAt P w K mg base CX0 4 "mean" ["share", "ahead", "behind"] (spMean CF) := ⟨h1, hd1, ok_mean T kFr D1, g A1, D1.kp, E1⟩
  have mCh : MethAt P w K mg base (L2.CX P w) 5 CP "chance" ["self", "one", "other", "wrestler"] (spChance CP CF CG) := ⟨f10, fd10, ok_chance T mRo mSh mTC dMe F10, M10, B10⟩
  have mLe : MethAt P w K mg base (L2.CX P w) 5 CP "length" ["self", "one", "other"] (spLength CP CF CG) := ⟨f11, fd11, ok_length T mRo mSh mTL dMe kFr F11, M11, B11⟩
  have mBe : MethAt P w K mg base (L2.CX P w) 1 CP "begins" ["self", "wins"] (spBegins K CP CW) := ⟨f12, fd12, ok_begins T F12, M12, B12⟩
  have dNW : DefAt P w K mg base (L2.CX P w) 1 "need_wrestler" ["wrestler"] (spNeedW CN) := ⟨h3, hd3, ok_needw T D3, g A3, D3.kp, E3⟩
  have dNP : DefAt P w K mg base (L2.CX P w) 2 "need_pair" ["one", "other"] (spNeedP CN) := ⟨h4, hd4, ok_needp T dNW D4, g A4, D4.kp, E4⟩
  have dNB : DefAt P w K mg base (L2.CX P w) 1 "need_bouts" ["bouts"] (spNeedB K CW) := ⟨h5, hd5, ok_needb T D5, g A5, D5.kp, E5⟩
  have mOd : MethAt P w K mg base (L2.CX P w) 6 CP "odds" ["self", "one", "other", "wrestler"] (spOdds CP CN CG) := ⟨f13, fd13, ok_odds T dNP dNW mCh mTold F13, M13, B13⟩
  have mLo : MethAt P w K mg base (L2.CX P w) 6 CP "long" ["self", "one", "other"] (spLong CP CN CG) := ⟨f14, fd14, ok_long T dNP mLe mTold F14, M14, B14⟩
  have mWa : MethAt P w K mg base (L2.CX P w) 6 CP "wait" ["self", "wrestler"] (spWait CP CN CG) := ⟨f15, fd15, ok_wait T dNW mCh mTold mExc F15, M15, B15⟩
  have dCk : DefAt P w K mg base (L2.CX P w) 3 "check" ["one", "other", "bouts"] (spCheck K CW CN) := ⟨h6, hd6, ok_check T dNP dNB dTh D6, g A6, D6.kp, E6⟩
  have dTa : DefAt P w K mg base (L2.CX P w) 7 "taken" ["play_off", "call", "told"] (spTaken K CP CW CN CG) := ⟨h7, hd7, ok_taken T mBe mOd mLo mWa dCk D7, g A7, D7.kp, E7⟩
  have dAn : DefAt P w K mg base CX0 8 "answer" ["play_off", "call", "told"] (spAnswer K CP) := ⟨h8, hd8, ok_answer T dTa D8, g A8, D8.kp, E8⟩
  exact ok_answers T kPo dAn D9
end TB
open PySem PySem.W PyProof.Rows
set_option maxRecDepth 100000 in
set_option maxHeartbeats 16000000 in
theorem PySem.Challenge.cw_threebouts_s01_answers_holds : PySem.Challenge.rw_threebouts_s01_answers.Holds := by
  w_on; k_headS; (case hw => exact ⟨[.list [.int 4, .int 2, .int 0, .int 1, .int 0]], by decide +kernel, by decide +kernel⟩)
  k_fillS
  refine L2.walk_specK (r := PySem.Challenge.rw_threebouts_s01_answers) (k := 9) (CX := L2.CX0) (ps := ["calls"]) (sp := TB.spAnswers) (by decide +kernel) rfl rfl ⟨rfl, by decide, by decide⟩ (fun w h Y => PySem.W.kIn_of Y) ?F ?S (fun _ _ _ _ z => z)
  case F =>
    intro w mg fa h Y KX G hmg
    refine' TB.all_mk KX G hmg ?aF ?aT ?aP ?aW ?aN ?aG ?oF ?oT ?oP ?n1 ?n2 ?n3 ?n4 ?n5 ?eW ?eN ?eG ?sWW ?sNW ?sNN ?sGW ?sGN ?sGG ?k3 ?kNo ?k100 ?kMil ?bSum ?bMax ?bLen ?bRange ?bList ?m0 ?m1 ?m2 ?m3 ?m4 ?m5 ?m6 ?m7 ?m8 ?m9 ?m10 ?m11 ?m12 ?m13 ?m14 ?m15 ?d0 ?d1 ?d2 ?d3 ?d4 ?d5 ?d6 ?d7 ?d8 ?d9
    (case aF => k_is)
    (case aT => k_is)
    (case aP => k_is)
    (case aW => k_is)
    (case aN => k_is)
    (case aG => k_is)
    (case oF => exact ⟨⟨by k_is, by k_is, by k_is, by k_is⟩, by k_is, by k_is⟩)
    (case oT => exact ⟨⟨by k_is, by k_is, by k_is, by k_is⟩, by k_is, by k_is⟩)
    (case oP => exact ⟨⟨by k_is, by k_is, by k_is, by k_is⟩, by k_is, by k_is⟩)
    (case n1 => unfold L2.NoAttr; k_is)
    (case n2 => unfold L2.NoAttr; k_is)
    (case n3 => unfold L2.NoAttr; k_is)
    (case n4 => unfold L2.NoAttr; k_is)
    (case n5 => unfold L2.NoAttr; k_is)
    (case eW => exact ⟨by k_exc, by k_is, by k_is, by k_is, by k_is⟩)
    (case eN => exact ⟨by k_exc, by k_is, by k_is, by k_is, by k_is⟩)
    (case eG => exact ⟨by k_exc, by k_is, by k_is, by k_is, by k_is⟩)
    (case sWW => first | rfl | k_is)
    (case sNW => first | rfl | k_is)
    (case sNN => first | rfl | k_is)
    (case sGW => first | rfl | k_is)
    (case sGN => first | rfl | k_is)
    (case sGG => first | rfl | k_is)
    (case k3 => k_is)
    (case kNo => k_is)
    (case k100 => k_is)
    (case kMil => k_is)
    (case bSum => k_is)
    (case bMax => k_is)
    (case bLen => k_is)
    (case bRange => k_is)
    (case bList => k_is)
    (case m0 => (refine' TB.meth_mk ?a ?i ?l ?c ?k (fun _ _ _ _ _ _ us hl => match us, hl with | [_, _, _], _ => rfl)); (case a => k_is); (case i => k_is); (case l => k_is); (case c => k_is); (case k => k_is))
    (case m1 => (refine' TB.meth_mk ?a ?i ?l ?c ?k (fun _ _ _ _ _ _ us hl => match us, hl with | [_, _], _ => rfl)); (case a => k_is); (case i => k_is); (case l => k_is); (case c => k_is); (case k => k_is))
    (case m2 => (refine' TB.meth_mk ?a ?i ?l ?c ?k (fun _ _ _ _ _ _ us hl => match us, hl with | [_], _ => rfl)); (case a => k_is); (case i => k_is); (case l => k_is); (case c => k_is); (case k => k_is))
    (case m3 => (refine' TB.meth_mk ?a ?i ?l ?c ?k (fun _ _ _ _ _ _ us hl => match us, hl with | [_], _ => rfl)); (case a => k_is); (case i => k_is); (case l => k_is); (case c => k_is); (case k => k_is))
    (case m4 => (refine' TB.meth_mk ?a ?i ?l ?c ?k (fun _ _ _ _ _ _ us hl => match us, hl with | [_], _ => rfl)); (case a => k_is); (case i => k_is); (case l => k_is); (case c => k_is); (case k => k_is))
    (case m5 => (refine' TB.meth_mk ?a ?i ?l ?c ?k (fun _ _ _ _ _ _ us hl => match us, hl with | [_, _], _ => rfl)); (case a => k_is); (case i => k_is); (case l => k_is); (case c => k_is); (case k => k_is))
    (case m6 => (refine' TB.meth_mk ?a ?i ?l ?c ?k (fun _ _ _ _ _ _ us hl => match us, hl with | [_], _ => rfl)); (case a => k_is); (case i => k_is); (case l => k_is); (case c => k_is); (case k => k_is))
    (case m7 => (refine' TB.meth_mk ?a ?i ?l ?c ?k (fun _ _ _ _ _ _ us hl => match us, hl with | [_], _ => rfl)); (case a => k_is); (case i => k_is); (case l => k_is); (case c => k_is); (case k => k_is))
    (case m8 => (refine' TB.meth_mk ?a ?i ?l ?c ?k (fun _ _ _ _ _ _ us hl => match us, hl with | [_, _, _], _ => rfl)); (case a => k_is); (case i => k_is); (case l => k_is); (case c => k_is); (case k => k_is))
    (case m9 => (refine' TB.meth_mk ?a ?i ?l ?c ?k (fun _ _ _ _ _ _ us hl => match us, hl with | [_, _, _], _ => rfl)); (case a => k_is); (case i => k_is); (case l => k_is); (case c => k_is); (case k => k_is))
    (case m10 => (refine' TB.meth_mk ?a ?i ?l ?c ?k (fun _ _ _ _ _ _ us hl => match us, hl with | [_, _, _, _], _ => rfl)); (case a => k_is); (case i => k_is); (case l => k_is); (case c => k_is); (case k => k_is))
    (case m11 => (refine' TB.meth_mk ?a ?i ?l ?c ?k (fun _ _ _ _ _ _ us hl => match us, hl with | [_, _, _], _ => rfl)); (case a => k_is); (case i => k_is); (case l => k_is); (case c => k_is); (case k => k_is))
    (case m12 => (refine' TB.meth_mk ?a ?i ?l ?c ?k (fun _ _ _ _ _ _ us hl => match us, hl with | [_, _], _ => rfl)); (case a => k_is); (case i => k_is); (case l => k_is); (case c => k_is); (case k => k_is))
    (case m13 => (refine' TB.meth_mk ?a ?i ?l ?c ?k (fun _ _ _ _ _ _ us hl => match us, hl with | [_, _, _, _], _ => rfl)); (case a => k_is); (case i => k_is); (case l => k_is); (case c => k_is); (case k => k_is))
    (case m14 => (refine' TB.meth_mk ?a ?i ?l ?c ?k (fun _ _ _ _ _ _ us hl => match us, hl with | [_, _, _], _ => rfl)); (case a => k_is); (case i => k_is); (case l => k_is); (case c => k_is); (case k => k_is))
    (case m15 => (refine' TB.meth_mk ?a ?i ?l ?c ?k (fun _ _ _ _ _ _ us hl => match us, hl with | [_, _], _ => rfl)); (case a => k_is); (case i => k_is); (case l => k_is); (case c => k_is); (case k => k_is))
    (case d0 => (refine' TB.def_mk ?a ?l ?c ?k (fun _ _ _ _ _ _ us hl => match us, hl with | [_, _], _ => rfl)); (case a => k_is); (case l => k_is); (case c => k_is); (case k => k_is))
    (case d1 => (refine' TB.def_mk ?a ?l ?c ?k (fun _ _ _ _ _ _ us hl => match us, hl with | [_, _, _], _ => rfl)); (case a => k_is); (case l => k_is); (case c => k_is); (case k => k_is))
    (case d2 => (refine' TB.def_mk ?a ?l ?c ?k (fun _ _ _ _ _ _ us hl => match us, hl with | [_, _], _ => rfl)); (case a => k_is); (case l => k_is); (case c => k_is); (case k => k_is))
    (case d3 => (refine' TB.def_mk ?a ?l ?c ?k (fun _ _ _ _ _ _ us hl => match us, hl with | [_], _ => rfl)); (case a => k_is); (case l => k_is); (case c => k_is); (case k => k_is))
    (case d4 => (refine' TB.def_mk ?a ?l ?c ?k (fun _ _ _ _ _ _ us hl => match us, hl with | [_, _], _ => rfl)); (case a => k_is); (case l => k_is); (case c => k_is); (case k => k_is))
    (case d5 => (refine' TB.def_mk ?a ?l ?c ?k (fun _ _ _ _ _ _ us hl => match us, hl with | [_], _ => rfl)); (case a => k_is); (case l => k_is); (case c => k_is); (case k => k_is))
    (case d6 => (refine' TB.def_mk ?a ?l ?c ?k (fun _ _ _ _ _ _ us hl => match us, hl with | [_, _, _], _ => rfl)); (case a => k_is); (case l => k_is); (case c => k_is); (case k => k_is))
    (case d7 => (refine' TB.def_mk ?a ?l ?c ?k (fun _ _ _ _ _ _ us hl => match us, hl with | [_, _, _], _ => rfl)); (case a => k_is); (case l => k_is); (case c => k_is); (case k => k_is))
    (case d8 => (refine' TB.def_mk ?a ?l ?c ?k (fun _ _ _ _ _ _ us hl => match us, hl with | [_, _, _], _ => rfl)); (case a => k_is); (case l => k_is); (case c => k_is); (case k => k_is))
    (case d9 => (refine' TB.def_mk ?a ?l ?c ?k (fun _ _ _ _ _ _ us hl => match us, hl with | [_], _ => rfl)); (case a => k_is); (case l => k_is); (case c => k_is); (case k => k_is))
  case S =>
    intro K H xs a hO hwi hask hx
    cases hx with
    | cons h1 h2 =>
      cases h2
      cases h1 with
      | lst hs ha =>
        have e := L2.ints_dw a.1 _ ha
        subst e
        have q : ((Codec.inLen 0 2000 a.1 && a.1.all (Codec.inInt 0 4294967295)) && true) = true := hwi
        rw [Bool.and_eq_true, Bool.and_eq_true] at q
        exact ⟨_, a.1, rfl, hs, hask, Nat.le_trans (Codec.inNat_iff.mp q.1.1).2 (by decide), fun H' p hp => .lst (L2.SqL.of hp) (L2.dw_ints _)⟩
#print axioms PySem.Challenge.cw_threebouts_s01_answers_holds
