import PyProof.Rows.All
import Wide.All
import OpenK.AllK
import Wide.FinOn
import PyProof.EqAt
import PyProof.EqKinds
import PyProof.TupleCall
import Open.SpecLaws
import KE.OsGo
import HandS.ForSpec
import HandS.ForMost
import HandS.Conv
import HandS.Zip
import HandS.Walk
import HandS.Sort
import PySem.Challenge.RW_evenbeats_s01_answers
set_option Elab.async false
namespace Ev
open Sy41

/-! ### Fractions as pairs -/
abbrev FP := Int × Int
def fr (x : FP) : Frac := frac x.1 x.2.toNat
def le (x y : FP) : Prop := x.1 * y.2 ≤ y.1 * x.2
def lt (x y : FP) : Prop := x.1 * y.2 < y.1 * x.2
instance (x y : FP) : Decidable (le x y) := inferInstanceAs (Decidable (_ ≤ _))
instance (x y : FP) : Decidable (lt x y) := inferInstanceAs (Decidable (_ < _))

theorem le_refl (x : FP) : le x x := Int.le_refl _
theorem not_lt {x y : FP} : ¬ lt x y ↔ le y x := Int.not_lt
theorem lt_le {x y : FP} (h : lt x y) : le x y := Int.le_of_lt h
theorem le_trans {x y z : FP} (hx : 0 < x.2) (hy : 0 < y.2) (hz : 0 < z.2) (h1 : le x y) (h2 : le y z) : le x z := by
  have a := Int.mul_le_mul_of_nonneg_right h1 (Int.le_of_lt hz)
  have b := Int.mul_le_mul_of_nonneg_right h2 (Int.le_of_lt hx)
  refine Int.le_of_mul_le_mul_right (a := y.2) ?_ hy
  have e1 : x.1 * z.2 * y.2 = x.1 * y.2 * z.2 := by grind
  have e2 : y.1 * x.2 * z.2 = y.1 * z.2 * x.2 := by grind
  have e3 : z.1 * x.2 * y.2 = z.1 * y.2 * x.2 := by grind
  omega
theorem lt_of_lt_of_le {x y z : FP} (hx : 0 < x.2) (hy : 0 < y.2) (hz : 0 < z.2) (h1 : lt x y) (h2 : le y z) : lt x z := by
  have a := Int.mul_lt_mul_of_pos_right h1 hz
  have b := Int.mul_le_mul_of_nonneg_right h2 (Int.le_of_lt hx)
  refine Int.lt_of_mul_lt_mul_right (a := y.2) ?_ (Int.le_of_lt hy)
  have e1 : x.1 * z.2 * y.2 = x.1 * y.2 * z.2 := by grind
  have e2 : y.1 * x.2 * z.2 = y.1 * z.2 * x.2 := by grind
  have e3 : z.1 * x.2 * y.2 = z.1 * y.2 * x.2 := by grind
  omega
theorem lt_of_le_of_lt {x y z : FP} (hx : 0 < x.2) (hy : 0 < y.2) (hz : 0 < z.2) (h1 : le x y) (h2 : lt y z) : lt x z := by
  have a := Int.mul_le_mul_of_nonneg_right h1 (Int.le_of_lt hz)
  have b := Int.mul_lt_mul_of_pos_right h2 hx
  refine Int.lt_of_mul_lt_mul_right (a := y.2) ?_ (Int.le_of_lt hy)
  have e1 : x.1 * z.2 * y.2 = x.1 * y.2 * z.2 := by grind
  have e2 : y.1 * x.2 * z.2 = y.1 * z.2 * x.2 := by grind
  have e3 : z.1 * x.2 * y.2 = z.1 * y.2 * x.2 := by grind
  omega

/-! ### The specification's fractions -/
theorem frac_pos {n : Int} {d : Nat} (h : 0 < d) : ∃ g : Nat, 0 < g ∧ n = (frac n d).n * g ∧ d = (frac n d).d * g ∧ 0 < (frac n d).d ∧ Nat.gcd (frac n d).n.natAbs (frac n d).d = 1 := by
  have hg : 0 < Nat.gcd n.natAbs d := Nat.gcd_pos_of_pos_right _ h
  have e : frac n d = ⟨n / ((Nat.gcd n.natAbs d : Nat) : Int), d / Nat.gcd n.natAbs d⟩ := by
    unfold frac
    rw [if_neg (by omega)]
  have d1 : ((Nat.gcd n.natAbs d : Nat) : Int) ∣ n := Int.natAbs_dvd_natAbs.mp (by simpa using Nat.gcd_dvd_left n.natAbs d)
  have d2 : Nat.gcd n.natAbs d ∣ d := Nat.gcd_dvd_right _ _
  refine ⟨Nat.gcd n.natAbs d, hg, ?_, ?_, ?_, ?_⟩
  · rw [e]
    exact (Int.ediv_mul_cancel d1).symm
  · rw [e]
    exact (Nat.div_mul_cancel d2).symm
  · rw [e]
    exact Nat.div_pos (Nat.le_of_dvd h d2) hg
  · rw [e]
    show Nat.gcd (n / ((Nat.gcd n.natAbs d : Nat) : Int)).natAbs (d / Nat.gcd n.natAbs d) = 1
    rw [Int.natAbs_ediv_of_dvd d1]
    exact Nat.coprime_div_gcd_div_gcd hg

theorem frac_d_pos {n : Int} {d : Nat} (h : 0 < d) : 0 < (frac n d).d := by
  obtain ⟨g, _, _, _, h4, _⟩ := frac_pos (n := n) h
  exact h4

theorem atMost_frac {n m : Int} {d e : Nat} (hd : 0 < d) (he : 0 < e) : atMost (frac n d) (frac m e) = decide (n * (e : Int) ≤ m * (d : Int)) := by
  obtain ⟨g, g0, gn, gd, _, _⟩ := frac_pos (n := n) hd
  obtain ⟨k, k0, kn, kd, _, _⟩ := frac_pos (n := m) he
  unfold atMost
  refine decide_eq_decide.mpr ?_
  have hgk : (0 : Int) < (g : Int) * (k : Int) := Int.mul_pos (by omega) (by omega)
  have e1 : n * (e : Int) = (frac n d).n * ((frac m e).d : Int) * ((g : Int) * (k : Int)) := by
    have : (e : Int) = ((frac m e).d : Int) * (k : Int) := by exact_mod_cast congrArg (fun (z : Nat) => (z : Int)) kd
    rw [this]
    conv => lhs; rw [gn]
    grind
  have e2 : m * (d : Int) = (frac m e).n * ((frac n d).d : Int) * ((g : Int) * (k : Int)) := by
    have : (d : Int) = ((frac n d).d : Int) * (g : Int) := by exact_mod_cast congrArg (fun (z : Nat) => (z : Int)) gd
    rw [this]
    conv => lhs; rw [kn]
    grind
  rw [e1, e2]
  exact (Int.mul_le_mul_right hgk).symm

/-- what is in lowest terms is told by its value -/
theorem low_eq {a b : Frac} (ha : 0 < a.d) (hb : 0 < b.d) (ga : Nat.gcd a.n.natAbs a.d = 1) (gb : Nat.gcd b.n.natAbs b.d = 1) (h : a.n * (b.d : Int) = b.n * (a.d : Int)) : a = b := by
  have hn : a.n.natAbs * b.d = b.n.natAbs * a.d := by
    have := congrArg Int.natAbs h
    simpa [Int.natAbs_mul] using this
  have d1 : a.d ∣ b.d := by
    have : a.d ∣ a.n.natAbs * b.d := by rw [hn]; exact Nat.dvd_mul_left _ _
    exact Nat.Coprime.dvd_of_dvd_mul_left (k := a.d) (n := b.d) (m := a.n.natAbs) (by rw [Nat.coprime_comm]; exact ga) this
  have d2 : b.d ∣ a.d := by
    have : b.d ∣ b.n.natAbs * a.d := by rw [← hn]; exact Nat.dvd_mul_left _ _
    exact Nat.Coprime.dvd_of_dvd_mul_left (k := b.d) (n := a.d) (m := b.n.natAbs) (by rw [Nat.coprime_comm]; exact gb) this
  have ed : a.d = b.d := Nat.dvd_antisymm d1 d2
  have en : a.n = b.n := by
    rw [ed] at h
    exact Int.eq_of_mul_eq_mul_right (by omega) h
  cases a
  cases b
  cases ed
  cases en
  rfl

theorem frac_eq {n m : Int} {d e : Nat} (hd : 0 < d) (he : 0 < e) (h : n * (e : Int) = m * (d : Int)) : frac n d = frac m e := by
  obtain ⟨g, g0, gn, gd, a1, a2⟩ := frac_pos (n := n) hd
  obtain ⟨k, k0, kn, kd, b1, b2⟩ := frac_pos (n := m) he
  refine low_eq a1 b1 a2 b2 ?_
  have h1 : atMost (frac n d) (frac m e) = true := by
    rw [atMost_frac hd he]
    exact decide_eq_true (by omega)
  have h2 : atMost (frac m e) (frac n d) = true := by
    rw [atMost_frac he hd]
    exact decide_eq_true (by omega)
  unfold atMost at h1 h2
  have h3 := of_decide_eq_true h1
  have h4 := of_decide_eq_true h2
  omega

theorem low_frac {a : Frac} (ha : 0 < a.d) (ga : Nat.gcd a.n.natAbs a.d = 1) : frac a.n a.d = a := by
  obtain ⟨g, g0, gn, gd, a1, a2⟩ := frac_pos (n := a.n) ha
  refine low_eq a1 ha a2 ga ?_
  have h1 : (a.d : Int) = ((frac a.n a.d).d : Int) * (g : Int) := by exact_mod_cast congrArg (fun (z : Nat) => (z : Int)) gd
  generalize frac a.n a.d = f at *
  rw [h1, gn]
  grind

theorem down_frac {n : Int} {d : Nat} (hd : 0 < d) : down (frac n d) = n / (d : Int) := by
  obtain ⟨g, g0, gn, gd, a1, _⟩ := frac_pos (n := n) hd
  unfold down
  have h1 : (d : Int) = ((frac n d).d : Int) * (g : Int) := by exact_mod_cast congrArg (fun (z : Nat) => (z : Int)) gd
  generalize frac n d = f at *
  rw [h1, gn, Int.mul_ediv_mul_of_pos_left _ _ (by omega)]
theorem up_frac {n : Int} {d : Nat} (hd : 0 < d) : up (frac n d) = -((-n) / (d : Int)) := by
  obtain ⟨g, g0, gn, gd, a1, _⟩ := frac_pos (n := n) hd
  unfold up
  have h1 : (d : Int) = ((frac n d).d : Int) * (g : Int) := by exact_mod_cast congrArg (fun (z : Nat) => (z : Int)) gd
  generalize frac n d = f at *
  rw [h1, gn, ← Int.neg_mul, Int.mul_ediv_mul_of_pos_left _ _ (by omega)]

/-! ### Pairs and the specification's fractions -/
theorem fr_le {x y : FP} (hx : 0 < x.2) (hy : 0 < y.2) : atMost (fr x) (fr y) = decide (le x y) := by
  unfold fr
  rw [atMost_frac (by omega) (by omega)]
  refine decide_eq_decide.mpr ?_
  unfold le
  rw [Int.toNat_of_nonneg (by omega), Int.toNat_of_nonneg (by omega)]
theorem fr_eq {x y : FP} (hx : 0 < x.2) (hy : 0 < y.2) (h : x.1 * y.2 = y.1 * x.2) : fr x = fr y := by
  unfold fr
  refine frac_eq (by omega) (by omega) ?_
  rw [Int.toNat_of_nonneg (by omega), Int.toNat_of_nonneg (by omega)]
  exact h
theorem fr_whole (n : Int) : fr (n, 1) = whole n := by
  unfold fr frac whole
  simp

def isLess (x y : FP) : Bool := decide (x.1 * y.2 < y.1 * x.2)
def greater (x y : FP) : FP := if isLess x y = true then y else x
def lesser (x y : FP) : FP := if isLess y x = true then y else x
theorem isLess_iff {x y : FP} : isLess x y = true ↔ lt x y := by
  unfold isLess lt
  exact decide_eq_true_iff
theorem isLess_iff_not {x y : FP} : isLess x y = false ↔ le y x := by
  unfold isLess le
  rw [decide_eq_false_iff_not, Int.not_lt]
theorem greater_pos {x y : FP} (hx : 0 < x.2) (hy : 0 < y.2) : 0 < (greater x y).2 := by
  unfold greater; split <;> assumption
theorem lesser_pos {x y : FP} (hx : 0 < x.2) (hy : 0 < y.2) : 0 < (lesser x y).2 := by
  unfold lesser; split <;> assumption
theorem greater_left {x y : FP} : le x (greater x y) := by
  unfold greater
  by_cases h : isLess x y = true
  · rw [if_pos h]; exact lt_le (isLess_iff.mp h)
  · rw [if_neg h]; exact le_refl x
theorem greater_right {x y : FP} : le y (greater x y) := by
  unfold greater
  by_cases h : isLess x y = true
  · rw [if_pos h]; exact le_refl y
  · rw [if_neg h]; exact isLess_iff_not.mp (by simpa using h)
theorem lesser_left {x y : FP} : le (lesser x y) x := by
  unfold lesser
  by_cases h : isLess y x = true
  · rw [if_pos h]; exact lt_le (isLess_iff.mp h)
  · rw [if_neg h]; exact le_refl x
theorem lesser_right {x y : FP} : le (lesser x y) y := by
  unfold lesser
  by_cases h : isLess y x = true
  · rw [if_pos h]; exact le_refl y
  · rw [if_neg h]; exact isLess_iff_not.mp (by simpa using h)
theorem fr_greater {x y : FP} (hx : 0 < x.2) (hy : 0 < y.2) : fr (greater x y) = greatest (fr x) (fr y) := by
  unfold greatest
  rw [fr_le hx hy]
  unfold greater
  by_cases h : isLess x y = true
  · have h2 := isLess_iff.mp h
    rw [if_pos h, if_pos (decide_eq_true (lt_le h2))]
  · have h2 := isLess_iff_not.mp (by simpa using h)
    rw [if_neg h]
    by_cases h3 : le x y
    · rw [if_pos (decide_eq_true h3)]
      unfold le at h2 h3
      exact fr_eq hx hy (by omega)
    · rw [if_neg (by simpa using h3)]
theorem fr_lesser {x y : FP} (hx : 0 < x.2) (hy : 0 < y.2) : fr (lesser x y) = least (fr x) (fr y) := by
  unfold least
  rw [fr_le hx hy]
  unfold lesser
  by_cases h : isLess y x = true
  · have h2 := isLess_iff.mp h
    rw [if_pos h, if_neg (fun q => absurd (of_decide_eq_true q) (fun q2 => by unfold lt at h2; unfold le at q2; omega))]
  · have h2 := isLess_iff_not.mp (by simpa using h)
    rw [if_neg h, if_pos (decide_eq_true h2)]
/-- upper and lower whole numbers of a number by a fraction -/
def dDown (n : Int) (f : FP) : Int := n * f.2 / f.1
def dUp (n : Int) (f : FP) : Int := -(-n * f.2 / f.1)
theorem fr_n_pos {x : FP} (h1 : 0 < x.1) (h2 : 0 < x.2) : 0 < (fr x).n := by
  obtain ⟨g, g0, gn, gd, a1, _⟩ := frac_pos (n := x.1) (d := x.2.toNat) (by omega)
  show 0 < (frac x.1 x.2.toNat).n
  by_cases h : 0 < (frac x.1 x.2.toNat).n
  · exact h
  · have : (frac x.1 x.2.toNat).n * (g : Int) ≤ 0 := Int.mul_nonpos_of_nonpos_of_nonneg (by omega) (by omega)
    omega
theorem fr_split {x : FP} (h1 : 0 < x.1) (h2 : 0 < x.2) : ∃ g : Int, 0 < g ∧ x.1 = ((fr x).n.toNat : Int) * g ∧ x.2 = ((fr x).d : Int) * g := by
  have hp := fr_n_pos h1 h2
  obtain ⟨g, g0, gn, gd, a1, _⟩ := frac_pos (n := x.1) (d := x.2.toNat) (by omega)
  refine ⟨(g : Int), by omega, ?_, ?_⟩
  · rw [Int.toNat_of_nonneg (by omega)]
    exact gn
  · have h3 : ((x.2.toNat : Nat) : Int) = ((frac x.1 x.2.toNat).d : Int) * (g : Int) := by exact_mod_cast congrArg (fun (z : Nat) => (z : Int)) gd
    rw [Int.toNat_of_nonneg (by omega)] at h3
    exact h3
theorem down_by {n : Int} {x : FP} (h1 : 0 < x.1) (h2 : 0 < x.2) : down (frac (n * ((fr x).d : Int)) (fr x).n.toNat) = dDown n x := by
  have hp := fr_n_pos h1 h2
  obtain ⟨g, g0, e1, e2⟩ := fr_split h1 h2
  rw [down_frac (by omega)]
  unfold dDown
  generalize fr x = f at *
  rw [e1, e2, ← Int.mul_assoc, Int.mul_ediv_mul_of_pos_left _ _ g0]
theorem up_by {n : Int} {x : FP} (h1 : 0 < x.1) (h2 : 0 < x.2) : up (frac (n * ((fr x).d : Int)) (fr x).n.toNat) = dUp n x := by
  have hp := fr_n_pos h1 h2
  obtain ⟨g, g0, e1, e2⟩ := fr_split h1 h2
  rw [up_frac (by omega)]
  unfold dUp
  generalize fr x = f at *
  rw [e1, e2, ← Int.mul_assoc, Int.mul_ediv_mul_of_pos_left _ _ g0, Int.neg_mul]
/-- what the two mean -/
theorem le_dDown {n k : Int} {x : FP} (h1 : 0 < x.1) : k ≤ dDown n x ↔ k * x.1 ≤ n * x.2 := by
  unfold dDown
  exact Int.le_ediv_iff_mul_le h1
theorem dUp_le {n k : Int} {x : FP} (h1 : 0 < x.1) : dUp n x ≤ k ↔ n * x.2 ≤ k * x.1 := by
  unfold dUp
  have := Int.le_ediv_iff_mul_le (a := -k) (b := -n * x.2) h1
  rw [Int.neg_mul, Int.neg_mul] at this
  rw [Int.neg_mul]
  omega
end Ev
set_option Elab.async false
namespace Ev
open Sy41

/-! ### The mirror of the program's stretches -/
structure S where
  a : FP
  b : FP
  row : List Int
def rangeDown (most least : Int) : List Int := (List.range (most - least + 1).toNat).map fun (i : Nat) => most - (i : Int)
def tries (s : S) (ts : List Nat) (t : Nat) (slack : Int) : List Int := match ts with
  | [] => [0]
  | t0 :: _ => rangeDown (dDown ((t : Int) - (t0 : Int) + slack) s.a) (dUp ((t : Int) - (t0 : Int) - slack) s.b)
def narrowGo (t : Nat) (beat slack : Int) : List (Nat × Int) → FP → FP → Option (FP × FP)
  | [], a, b => some (a, b)
  | y :: l, a, b =>
    if beat - y.2 > 0 then narrowGo t beat slack l (greater a ((t : Int) - (y.1 : Int) - slack, beat - y.2)) (lesser b ((t : Int) - (y.1 : Int) + slack, beat - y.2))
    else if (t : Int) - (y.1 : Int) > slack then none else narrowGo t beat slack l a b
def narrowed (s : S) (ts : List Nat) (t : Nat) (slack beat : Int) : Option S := match narrowGo t beat slack (ts.zip s.row) s.a s.b with
  | none => none
  | some x => if isLess x.2 x.1 = true then none else some ⟨x.1, x.2, s.row ++ [beat]⟩
def parts (ts : List Nat) (t : Nat) (slack : Int) (s : S) : List S := (tries s ts t slack).filterMap (narrowed s ts t slack)
def grow (slack : Int) : List Nat → List Nat → List S → List S
  | _, [], l => l
  | got, t :: r, l => grow slack (got ++ [t]) r (l.flatMap (parts got t slack))
def firstS (lo hi : Nat) : S := ⟨((lo : Int), 1), ((hi : Int), 1), []⟩
def found (lo hi off : Nat) (ts : List Nat) : List S := grow (2 * (off : Int)) [] ts [firstS lo hi]
def toSpec (s : S) : Stretch := ⟨fr s.a, fr s.b, s.row⟩

/-! ### What holds of a stretch -/
structure Good (lo off t0 : Nat) (got : List Nat) (s : S) : Prop where
  pa : 0 < s.a.2
  pb : 0 < s.b.2
  ge : (lo : Int) * s.a.2 ≤ s.a.1
  ab : le s.a s.b
  len : s.row.length = got.length
  row : ∀ y ∈ got.zip s.row, 0 ≤ y.2 ∧ s.b.1 * y.2 ≤ ((y.1 : Int) - (t0 : Int) + 2 * (off : Int)) * s.b.2 ∧ ((y.1 : Int) - (t0 : Int) - 2 * (off : Int)) * s.a.2 ≤ s.a.1 * y.2

theorem Good.a1 {lo off t0 : Nat} {got : List Nat} {s : S} (g : Good lo off t0 got s) (hlo : 4 * off < lo) : 0 < s.a.1 := by
  have h := g.ge
  have h2 := Int.mul_pos (a := (lo : Int)) (b := s.a.2) (by omega) g.pa
  omega
theorem Good.b1 {lo off t0 : Nat} {got : List Nat} {s : S} (g : Good lo off t0 got s) (hlo : 4 * off < lo) : 0 < s.b.1 := by
  have h := g.ab
  unfold le at h
  have h2 := Int.mul_pos (g.a1 hlo) g.pb
  by_cases h3 : 0 < s.b.1
  · exact h3
  · have := Int.mul_nonpos_of_nonpos_of_nonneg (a := s.b.1) (b := s.a.2) (by omega) (Int.le_of_lt g.pa)
    omega
theorem Good.geB {lo off t0 : Nat} {got : List Nat} {s : S} (g : Good lo off t0 got s) : (lo : Int) * s.b.2 ≤ s.b.1 := by
  have h1 : le ((lo : Int), 1) s.a := by
    have := g.ge
    unfold le
    show (lo : Int) * s.a.2 ≤ s.a.1 * 1
    omega
  have h2 := le_trans (x := ((lo : Int), 1)) Int.one_pos g.pa g.pb h1 g.ab
  unfold le at h2
  have h3 : (lo : Int) * s.b.2 ≤ s.b.1 * 1 := h2
  omega

/-! ### The beats that are tried -/
theorem mem_rangeDown {most least n : Int} : n ∈ rangeDown most least ↔ least ≤ n ∧ n ≤ most := by
  unfold rangeDown
  rw [List.mem_map]
  constructor
  · rintro ⟨i, hi, rfl⟩
    rw [List.mem_range] at hi
    omega
  · rintro ⟨h1, h2⟩
    exact ⟨(most - n).toNat, by rw [List.mem_range]; omega, by omega⟩
theorem rangeDown_pw {most least : Int} : (rangeDown most least).Pairwise (fun x y => x > y) := by
  unfold rangeDown
  rw [List.pairwise_map]
  refine List.Pairwise.imp ?_ List.pairwise_lt_range
  intro a b h
  omega
theorem rangeDown_rev (lo hi : Int) : rangeDown hi lo = ((List.range (hi - lo + 1).toNat).map fun (i : Nat) => lo + (i : Int)).reverse := by
  unfold rangeDown
  apply List.ext_getElem
  · simp
  · intro i h1 h2
    simp at h1
    simp
    omega

theorem tries_mem {lo off t0 t : Nat} {r : List Nat} {s : S} {n : Int} (hlo : 4 * off < lo) (g : Good lo off t0 (t0 :: r) s) :
    n ∈ tries s (t0 :: r) t (2 * (off : Int)) ↔ ((t : Int) - (t0 : Int) - 2 * (off : Int)) * s.b.2 ≤ n * s.b.1 ∧ n * s.a.1 ≤ ((t : Int) - (t0 : Int) + 2 * (off : Int)) * s.a.2 := by
  show n ∈ rangeDown _ _ ↔ _
  rw [mem_rangeDown, le_dDown (g.a1 hlo), dUp_le (g.b1 hlo)]

/-- two beats of two periods, the one period not above the other -/
theorem beats_mono {lo off : Nat} {p q : FP} {g1 g2 n1 n2 : Int} (hlo : 4 * off < lo) (hp : 0 < p.2) (hq : 0 < q.2) (hp1 : (lo : Int) * p.2 ≤ p.1) (hq1 : (lo : Int) * q.2 ≤ q.1) (hpq : le p q) (hg : g1 ≤ g2) (hn : 0 ≤ n1)
    (h1 : (g2 - 2 * (off : Int)) * p.2 ≤ p.1 * n2) (h2 : q.1 * n1 ≤ (g1 + 2 * (off : Int)) * q.2) (hn1 : 0 ≤ p.1) : n1 ≤ n2 := by
  -- else n2 + 1 ≤ n1
  refine Classical.byContradiction fun hc => ?_
  have hc : n2 + 1 ≤ n1 := by omega
  unfold le at hpq
  -- all with p.2 * q.2 below
  have a1 := Int.mul_le_mul_of_nonneg_right h1 (Int.le_of_lt hq)
  have a2 := Int.mul_le_mul_of_nonneg_right h2 (Int.le_of_lt hp)
  have a3 : 0 ≤ (g2 - g1) * (p.2 * q.2) := Int.mul_nonneg (by omega) (Int.mul_nonneg (Int.le_of_lt hp) (Int.le_of_lt hq))
  have q0 : 0 ≤ q.1 := by
    have := Int.mul_nonneg (a := (lo : Int)) (b := q.2) (by omega) (by omega)
    omega
  by_cases hn2 : 0 ≤ n2
  · have a4 := Int.mul_le_mul_of_nonneg_right hpq hn2
    have a5 : 0 ≤ (n1 - (n2 + 1)) * (q.1 * p.2) := Int.mul_nonneg (by omega) (Int.mul_nonneg q0 (Int.le_of_lt hp))
    have a6 : (4 * (off : Int) + 1) * q.2 ≤ q.1 := by
      have := Int.mul_le_mul_of_nonneg_right (show 4 * (off : Int) + 1 ≤ (lo : Int) by omega) (Int.le_of_lt hq)
      omega
    have a7 := Int.mul_le_mul_of_nonneg_right a6 (Int.le_of_lt hp)
    have a8 := Int.mul_pos hp hq
    grind
  · have b1 : 0 ≤ p.1 * (-(n2 + 1)) := Int.mul_nonneg hn1 (by omega)
    have a4 : p.1 * n2 ≤ - p.1 := by grind
    have a5 : 0 ≤ q.1 * n1 := Int.mul_nonneg q0 hn
    have a6 : 0 ≤ g1 + 2 * (off : Int) := by
      refine Classical.byContradiction fun hc => ?_
      have := Int.mul_neg_of_neg_of_pos (a := g1 + 2 * (off : Int)) (b := q.2) (by omega) hq
      omega
    have a7 : (4 * (off : Int) + 1) * p.2 ≤ p.1 := by
      have := Int.mul_le_mul_of_nonneg_right (show 4 * (off : Int) + 1 ≤ (lo : Int) by omega) (Int.le_of_lt hp)
      omega
    have a8 := Int.mul_le_mul_of_nonneg_right (show -4 * (off : Int) ≤ g2 - 2 * (off : Int) by omega) (Int.le_of_lt hp)
    grind
end Ev
set_option Elab.async false
namespace Ev
open Sy41

/-! ### A time more: what is left of a stretch -/
theorem narrowGo_le {t : Nat} {n sl : Int} : ∀ {l : List (Nat × Int)} {a b : FP} {x : FP × FP}, narrowGo t n sl l a b = some x → 0 < a.2 → 0 < b.2 →
    0 < x.1.2 ∧ 0 < x.2.2 ∧ le a x.1 ∧ le x.2 b
  | [], a, b, x, h, ha, hb => by
    cases h
    exact ⟨ha, hb, le_refl _, le_refl _⟩
  | y :: l, a, b, x, h, ha, hb => by
    unfold narrowGo at h
    by_cases c : n - y.2 > 0
    · rw [if_pos c] at h
      have ha2 : 0 < (greater a ((t : Int) - (y.1 : Int) - sl, n - y.2)).2 := greater_pos ha c
      have hb2 : 0 < (lesser b ((t : Int) - (y.1 : Int) + sl, n - y.2)).2 := lesser_pos hb c
      obtain ⟨h1, h2, h3, h4⟩ := narrowGo_le h ha2 hb2
      exact ⟨h1, h2, le_trans ha ha2 h1 greater_left h3, le_trans h2 hb2 hb h4 lesser_left⟩
    · rw [if_neg c] at h
      by_cases d : (t : Int) - (y.1 : Int) > sl
      · rw [if_pos d] at h
        cases h
      · rw [if_neg d] at h
        exact narrowGo_le h ha hb
theorem narrowGo_mem {t : Nat} {n sl : Int} : ∀ {l : List (Nat × Int)} {a b : FP} {x : FP × FP}, narrowGo t n sl l a b = some x → 0 < a.2 → 0 < b.2 →
    ∀ y ∈ l, (n - y.2 > 0 → le ((t : Int) - (y.1 : Int) - sl, n - y.2) x.1 ∧ le x.2 ((t : Int) - (y.1 : Int) + sl, n - y.2)) ∧ (¬ n - y.2 > 0 → (t : Int) - (y.1 : Int) ≤ sl)
  | [], a, b, x, h, ha, hb => fun y hy => by cases hy
  | z :: l, a, b, x, h, ha, hb => by
    intro y hy
    unfold narrowGo at h
    by_cases c : n - z.2 > 0
    · rw [if_pos c] at h
      have ha2 : 0 < (greater a ((t : Int) - (z.1 : Int) - sl, n - z.2)).2 := greater_pos ha c
      have hb2 : 0 < (lesser b ((t : Int) - (z.1 : Int) + sl, n - z.2)).2 := lesser_pos hb c
      cases hy with
      | head =>
        obtain ⟨h1, h2, h3, h4⟩ := narrowGo_le h ha2 hb2
        exact ⟨fun _ => ⟨le_trans c ha2 h1 greater_right h3, le_trans h2 hb2 c h4 lesser_right⟩, fun q => absurd c q⟩
      | tail _ hy => exact narrowGo_mem h ha2 hb2 y hy
    · rw [if_neg c] at h
      by_cases d : (t : Int) - (z.1 : Int) > sl
      · rw [if_pos d] at h
        cases h
      · rw [if_neg d] at h
        cases hy with
        | head => exact ⟨fun q => absurd q c, fun _ => by omega⟩
        | tail _ hy => exact narrowGo_mem h ha hb y hy
/-- the specification's way: the same -/
theorem with_go {off t : Nat} {n : Int} : ∀ (l : List (Nat × Int)) (a b : FP), 0 < a.2 → 0 < b.2 → le a b → (∀ y ∈ l, y.1 ≤ t ∧ y.2 ≤ n) →
    with_ off t n l (fr a, fr b) = match narrowGo t n (2 * (off : Int)) l a b with
      | none => none
      | some x => if isLess x.2 x.1 = true then none else some (fr x.1, fr x.2)
  | [], a, b, ha, hb, hab, _ => by
    show some (fr a, fr b) = if isLess b a = true then none else some (fr a, fr b)
    rw [isLess_iff_not.mpr hab, if_neg Bool.false_ne_true]
  | y :: l, a, b, ha, hb, hab, hl => by
    obtain ⟨hy1, hy2⟩ := hl y (List.Mem.head _)
    have hl2 : ∀ z ∈ l, z.1 ≤ t ∧ z.2 ≤ n := fun z hz => hl z (List.Mem.tail _ hz)
    unfold with_ narrowGo cut
    rw [if_neg (show ¬ n - y.2 < 0 by omega)]
    have eg : ((t - y.1 : Nat) : Int) = (t : Int) - (y.1 : Int) := by omega
    by_cases c : n - y.2 > 0
    · have ha2 : 0 < (greater a ((t : Int) - (y.1 : Int) - 2 * (off : Int), n - y.2)).2 := greater_pos ha c
      have hb2 : 0 < (lesser b ((t : Int) - (y.1 : Int) + 2 * (off : Int), n - y.2)).2 := lesser_pos hb c
      rw [if_neg (show ¬ n - y.2 = 0 by omega), if_pos c]
      have e1 : greatest (fr a) (frac ((((t - y.1 : Nat) : Int)) - 2 * (off : Int)) (n - y.2).toNat) = fr (greater a ((t : Int) - (y.1 : Int) - 2 * (off : Int), n - y.2)) := by
        rw [fr_greater ha c, eg]
        rfl
      have e2 : least (fr b) (frac ((((t - y.1 : Nat) : Int)) + 2 * (off : Int)) (n - y.2).toNat) = fr (lesser b ((t : Int) - (y.1 : Int) + 2 * (off : Int), n - y.2)) := by
        rw [fr_lesser hb c, eg]
        rfl
      dsimp only
      rw [e1, e2, fr_le ha2 hb2]
      by_cases d : le (greater a ((t : Int) - (y.1 : Int) - 2 * (off : Int), n - y.2)) (lesser b ((t : Int) - (y.1 : Int) + 2 * (off : Int), n - y.2))
      · rw [if_pos (decide_eq_true d)]
        exact with_go l _ _ ha2 hb2 d hl2
      · rw [if_neg (by simpa using d)]
        dsimp only
        cases hx : narrowGo t n (2 * (off : Int)) l (greater a ((t : Int) - (y.1 : Int) - 2 * (off : Int), n - y.2)) (lesser b ((t : Int) - (y.1 : Int) + 2 * (off : Int), n - y.2)) with
        | none => rfl
        | some x =>
          obtain ⟨h1, h2, h3, h4⟩ := narrowGo_le hx ha2 hb2
          have h5 := lt_of_lt_of_le hb2 ha2 h1 (Int.not_le.mp d) h3
          have h6 := lt_of_le_of_lt h2 hb2 h1 h4 h5
          dsimp only
          rw [if_pos (isLess_iff.mpr h6)]
    · rw [if_pos (show n - y.2 = 0 by omega), if_neg c]
      by_cases d : t - y.1 ≤ 2 * off
      · rw [if_pos d, if_neg (show ¬ (t : Int) - (y.1 : Int) > 2 * (off : Int) by omega)]
        exact with_go l a b ha hb hab hl2
      · rw [if_neg d, if_pos (show (t : Int) - (y.1 : Int) > 2 * (off : Int) by omega)]

theorem narrowed_some {ts : List Nat} {t : Nat} {sl n : Int} {s x : S} (h : narrowed s ts t sl n = some x) : narrowGo t n sl (ts.zip s.row) s.a s.b = some (x.a, x.b) ∧ le x.a x.b ∧ x.row = s.row ++ [n] := by
  unfold narrowed at h
  cases hx : narrowGo t n sl (ts.zip s.row) s.a s.b with
  | none =>
    rw [hx] at h
    cases h
  | some z =>
    rw [hx] at h
    dsimp only at h
    by_cases c : isLess z.2 z.1 = true
    · rw [if_pos c] at h
      cases h
    · rw [if_neg c] at h
      cases h
      exact ⟨rfl, isLess_iff_not.mp (by simpa using c), rfl⟩

/-- the first time's beat is 0 -/
theorem Good.first {lo off t0 : Nat} {r : List Nat} {s : S} (hlo : 4 * off < lo) (g : Good lo off t0 (t0 :: r) s) : ∃ rest, s.row = 0 :: rest := by
  have hl := g.len
  cases hr : s.row with
  | nil =>
    rw [hr] at hl
    cases hl
  | cons n0 rest =>
    have h := g.row (t0, n0) (by rw [hr]; exact List.Mem.head _)
    obtain ⟨h1, h2, _⟩ := h
    refine ⟨rest, ?_⟩
    dsimp only at h1 h2
    have hge := g.geB
    have e : n0 = 0 := by
      refine Classical.byContradiction fun hc => ?_
      have b1 := g.b1 hlo
      have a1 := Int.mul_le_mul_of_nonneg_left (show (1 : Int) ≤ n0 by omega) (Int.le_of_lt b1)
      have a2 := Int.mul_lt_mul_of_pos_right (show 2 * (off : Int) < (lo : Int) by omega) g.pb
      have a3 : ((t0 : Int) - (t0 : Int) + 2 * (off : Int)) * s.b.2 = 2 * (off : Int) * s.b.2 := by
        congr 1
        omega
      omega
    rw [e]

theorem tries_ge {lo off t0 t : Nat} {r : List Nat} {s : S} {n : Int} (hlo : 4 * off < lo) (g : Good lo off t0 (t0 :: r) s) (ht : ∀ y ∈ t0 :: r, y < t)
    (hn : n ∈ tries s (t0 :: r) t (2 * (off : Int))) : (∀ y ∈ (t0 :: r).zip s.row, y.1 ≤ t ∧ y.2 ≤ n) ∧ 0 ≤ n := by
  have h := (tries_mem hlo g).mp hn
  have all : ∀ y ∈ (t0 :: r).zip s.row, y.1 ≤ t ∧ y.2 ≤ n := by
    intro y hy
    have hy1 : y.1 < t := ht y.1 (List.of_mem_zip hy).1
    obtain ⟨r1, r2, r3⟩ := g.row y hy
    refine ⟨by omega, ?_⟩
    exact beats_mono (lo := lo) (off := off) (p := s.b) (q := s.b) (g1 := (y.1 : Int) - (t0 : Int)) (g2 := (t : Int) - (t0 : Int)) hlo g.pb g.pb g.geB g.geB (le_refl _) (by omega) r1 (by rw [Int.mul_comm s.b.1]; exact h.1) r2 (Int.le_of_lt (g.b1 hlo))
  refine ⟨all, ?_⟩
  obtain ⟨rest, e⟩ := g.first hlo
  exact (all (t0, 0) (by rw [e]; exact List.Mem.head _)).2

theorem narrowed_good {lo off t0 t : Nat} {r : List Nat} {s x : S} {n : Int} (hlo : 4 * off < lo) (g : Good lo off t0 (t0 :: r) s) (ht : ∀ y ∈ t0 :: r, y < t)
    (hn : n ∈ tries s (t0 :: r) t (2 * (off : Int))) (h : narrowed s (t0 :: r) t (2 * (off : Int)) n = some x) : Good lo off t0 (t0 :: r ++ [t]) x ∧ le s.a x.a ∧ le x.b s.b ∧ x.row = s.row ++ [n] := by
  obtain ⟨h1, h2, h3⟩ := narrowed_some h
  obtain ⟨n1, n2, n3, n4⟩ := narrowGo_le h1 g.pa g.pb
  dsimp only at n1 n2 n3 n4
  obtain ⟨hall, hn0⟩ := tries_ge hlo g ht hn
  obtain ⟨rest, e⟩ := g.first hlo
  have hm := narrowGo_mem h1 g.pa g.pb (t0, 0) (by rw [e]; exact List.Mem.head _)
  dsimp only at hm
  refine ⟨⟨n1, n2, ?_, h2, ?_, ?_⟩, n3, n4, h3⟩
  · have q1 : le ((lo : Int), 1) s.a := by
      have := g.ge
      unfold le
      show (lo : Int) * s.a.2 ≤ s.a.1 * 1
      omega
    have q2 := le_trans (x := ((lo : Int), 1)) Int.one_pos g.pa n1 q1 n3
    unfold le at q2
    have q3 : (lo : Int) * x.a.2 ≤ x.a.1 * 1 := q2
    omega
  · rw [h3, List.length_append, List.length_append, g.len]
    rfl
  · have ez : (t0 :: r ++ [t]).zip x.row = (t0 :: r).zip s.row ++ [(t, n)] := by
      rw [h3, List.zip_append g.len.symm]
      rfl
    rw [ez]
    intro y hy
    rcases List.mem_append.mp hy with hy | hy
    · obtain ⟨r1, r2, r3⟩ := g.row y hy
      refine ⟨r1, ?_, ?_⟩
      · refine Int.le_of_mul_le_mul_right (a := s.b.2) ?_ g.pb
        have a1 := Int.mul_le_mul_of_nonneg_right n4 r1
        have a2 := Int.mul_le_mul_of_nonneg_right r2 (Int.le_of_lt n2)
        grind
      · refine Int.le_of_mul_le_mul_right (a := s.a.2) ?_ g.pa
        have a1 := Int.mul_le_mul_of_nonneg_right n3 r1
        have a2 := Int.mul_le_mul_of_nonneg_right r3 (Int.le_of_lt n1)
        grind
    · obtain rfl : y = (t, n) := by simpa using hy
      refine ⟨hn0, ?_, ?_⟩
      · dsimp only
        by_cases c : n - 0 > 0
        · have := (hm.1 c).2
          unfold le at this
          dsimp only at this
          rw [Int.sub_zero] at this
          exact this
        · have := hm.2 c
          have e0 : n = 0 := by omega
          rw [e0, Int.mul_zero]
          exact Int.mul_nonneg (by have := ht t0 (List.Mem.head _); omega) (Int.le_of_lt n2)
      · dsimp only
        by_cases c : n - 0 > 0
        · have := (hm.1 c).1
          unfold le at this
          dsimp only at this
          rw [Int.sub_zero] at this
          exact this
        · have := hm.2 c
          have e0 : n = 0 := by omega
          rw [e0, Int.mul_zero]
          exact Int.mul_nonpos_of_nonpos_of_nonneg (by omega) (Int.le_of_lt n1)
theorem mem_parts {ts : List Nat} {t : Nat} {sl : Int} {s x : S} : x ∈ parts ts t sl s ↔ ∃ n ∈ tries s ts t sl, narrowed s ts t sl n = some x := by
  unfold parts
  rw [List.mem_filterMap]

/-! ### In which order the stretches stand -/
def Before (x y : S) : Prop := lt x.b y.a ∧ y.row.sum < x.row.sum
theorem parts_before {lo off t0 t : Nat} {r : List Nat} {s : S} (hlo : 4 * off < lo) (g : Good lo off t0 (t0 :: r) s) (ht : ∀ y ∈ t0 :: r, y < t) :
    (parts (t0 :: r) t (2 * (off : Int)) s).Pairwise Before := by
  unfold parts
  rw [List.pairwise_filterMap]
  have hp : (tries s (t0 :: r) t (2 * (off : Int))).Pairwise (fun x y => x > y) := rangeDown_pw
  refine List.Pairwise.imp_of_mem ?_ hp
  intro n m hn hm hnm x hx y hy
  obtain ⟨gx, x1, x2, x3⟩ := narrowed_good hlo g ht hn hx
  obtain ⟨gy, y1, y2, y3⟩ := narrowed_good hlo g ht hm hy
  have ex : (t, n) ∈ (t0 :: r ++ [t]).zip x.row := by
    rw [x3, List.zip_append g.len.symm]
    exact List.mem_append_right _ (List.Mem.head _)
  have ey : (t, m) ∈ (t0 :: r ++ [t]).zip y.row := by
    rw [y3, List.zip_append g.len.symm]
    exact List.mem_append_right _ (List.Mem.head _)
  obtain ⟨p1, p2, p3⟩ := gx.row _ ex
  obtain ⟨q1, q2, q3⟩ := gy.row _ ey
  constructor
  · refine Int.not_le.mp fun hc => ?_
    have := beats_mono (lo := lo) (off := off) (p := y.a) (q := x.b) (n1 := n) (n2 := m) hlo gy.pa gx.pb gy.ge gx.geB hc (Int.le_refl _) p1 q3 p2 (Int.le_of_lt (gy.a1 hlo))
    omega
  · rw [x3, y3, List.sum_append, List.sum_append]
    simp
    omega
theorem parts_across {lo off t0 t : Nat} {r : List Nat} {s u : S} (hlo : 4 * off < lo) (gs : Good lo off t0 (t0 :: r) s) (gu : Good lo off t0 (t0 :: r) u) (ht : ∀ y ∈ t0 :: r, y < t) (h : Before s u) :
    ∀ x ∈ parts (t0 :: r) t (2 * (off : Int)) s, ∀ y ∈ parts (t0 :: r) t (2 * (off : Int)) u, Before x y := by
  intro x hx y hy
  obtain ⟨n, hn, hx⟩ := mem_parts.mp hx
  obtain ⟨m, hm, hy⟩ := mem_parts.mp hy
  obtain ⟨gx, x1, x2, x3⟩ := narrowed_good hlo gs ht hn hx
  obtain ⟨gy, y1, y2, y3⟩ := narrowed_good hlo gu ht hm hy
  have ex : (t, n) ∈ (t0 :: r ++ [t]).zip x.row := by
    rw [x3, List.zip_append gs.len.symm]
    exact List.mem_append_right _ (List.Mem.head _)
  have ey : (t, m) ∈ (t0 :: r ++ [t]).zip y.row := by
    rw [y3, List.zip_append gu.len.symm]
    exact List.mem_append_right _ (List.Mem.head _)
  obtain ⟨p1, p2, p3⟩ := gx.row _ ex
  obtain ⟨q1, q2, q3⟩ := gy.row _ ey
  have h1 : lt x.b y.a := lt_of_lt_of_le gx.pb gu.pa gy.pa (lt_of_le_of_lt gx.pb gs.pb gu.pa x2 h.1) y1
  refine ⟨h1, ?_⟩
  have h2 : le x.a y.b := le_trans gx.pa gx.pb gy.pb gx.ab (le_trans gx.pb gy.pa gy.pb (lt_le h1) gy.ab)
  have h3 := beats_mono (lo := lo) (off := off) (p := x.a) (q := y.b) (n1 := m) (n2 := n) hlo gx.pa gy.pb gx.ge gy.geB h2 (Int.le_refl _) q1 p3 q2 (Int.le_of_lt (gx.a1 hlo))
  have h4 := h.2
  rw [x3, y3, List.sum_append, List.sum_append]
  simp
  omega
/-- all stretches so far -/
structure Alls (lo off t0 : Nat) (got : List Nat) (l : List S) : Prop where
  good : ∀ s ∈ l, Good lo off t0 got s
  pw : l.Pairwise Before
theorem Alls.next {lo off t0 t : Nat} {r : List Nat} {l : List S} (hlo : 4 * off < lo) (h : Alls lo off t0 (t0 :: r) l) (ht : ∀ y ∈ t0 :: r, y < t) :
    Alls lo off t0 (t0 :: r ++ [t]) (l.flatMap (parts (t0 :: r) t (2 * (off : Int)))) := by
  constructor
  · intro x hx
    obtain ⟨s, hs, hx⟩ := List.mem_flatMap.mp hx
    obtain ⟨n, hn, hx⟩ := mem_parts.mp hx
    exact (narrowed_good hlo (h.good s hs) ht hn hx).1
  · rw [List.pairwise_flatMap]
    refine ⟨fun s hs => parts_before hlo (h.good s hs) ht, ?_⟩
    refine List.Pairwise.imp_of_mem ?_ h.pw
    intro s u hs hu hb
    exact parts_across hlo (h.good s hs) (h.good u hu) ht hb
end Ev
set_option Elab.async false
namespace Ev
open Sy41

/-! ### The specification's row of stretches is the mirror's, but for the order -/
theorem fm_congr {α β : Type} {f g : α → Option β} : ∀ {l : List α}, (∀ x ∈ l, f x = g x) → l.filterMap f = l.filterMap g
  | [], _ => rfl
  | x :: l, h => by
    rw [List.filterMap_cons, List.filterMap_cons, h x (List.Mem.head _), fm_congr fun y hy => h y (List.Mem.tail _ hy)]
theorem split_parts {lo off t0 t : Nat} {r : List Nat} {s : S} (hlo : 4 * off < lo) (g : Good lo off t0 (t0 :: r) s) (ht : ∀ y ∈ t0 :: r, y < t) :
    (parts (t0 :: r) t (2 * (off : Int)) s).map toSpec = (split off t0 t (t0 :: r) (toSpec s)).reverse := by
  have ht0 : t0 < t := ht t0 (List.Mem.head _)
  have eg : ((t - t0 : Nat) : Int) = (t : Int) - (t0 : Int) := by omega
  unfold parts split
  dsimp only
  have e1 : up (frac ((((t - t0 : Nat) : Int) - 2 * (off : Int)) * ((toSpec s).b.d : Int)) (toSpec s).b.n.toNat) = dUp ((t : Int) - (t0 : Int) - 2 * (off : Int)) s.b := by
    rw [eg]
    exact up_by (g.b1 hlo) g.pb
  have e2 : down (frac ((((t - t0 : Nat) : Int) + 2 * (off : Int)) * ((toSpec s).a.d : Int)) (toSpec s).a.n.toNat) = dDown ((t : Int) - (t0 : Int) + 2 * (off : Int)) s.a := by
    rw [eg]
    exact down_by (g.a1 hlo) g.pa
  have e3 : max (dUp ((t : Int) - (t0 : Int) - 2 * (off : Int)) s.b) 0 = dUp ((t : Int) - (t0 : Int) - 2 * (off : Int)) s.b := by
    have h : ¬ dUp ((t : Int) - (t0 : Int) - 2 * (off : Int)) s.b ≤ -1 := by
      rw [dUp_le (g.b1 hlo)]
      intro hc
      have hb := g.geB
      have a1 := Int.mul_lt_mul_of_pos_right (show 4 * (off : Int) < (lo : Int) by omega) g.pb
      have a2 := Int.mul_le_mul_of_nonneg_right (show -2 * (off : Int) ≤ (t : Int) - (t0 : Int) - 2 * (off : Int) by omega) (Int.le_of_lt g.pb)
      have a3 : 0 ≤ 2 * (off : Int) * s.b.2 := Int.mul_nonneg (by omega) (Int.le_of_lt g.pb)
      grind
    omega
  rw [e1, e2, e3, ← List.filterMap_reverse, ← rangeDown_rev, List.map_filterMap]
  show (tries s (t0 :: r) t (2 * (off : Int))).filterMap _ = (tries s (t0 :: r) t (2 * (off : Int))).filterMap _
  refine fm_congr ?_
  intro n hn
  obtain ⟨hall, _⟩ := tries_ge hlo g ht hn
  show Option.map toSpec (narrowed s (t0 :: r) t (2 * (off : Int)) n) = Option.map _ (with_ off t n ((t0 :: r).zip s.row) (fr s.a, fr s.b))
  rw [with_go _ _ _ g.pa g.pb g.ab hall]
  unfold narrowed
  cases narrowGo t n (2 * (off : Int)) ((t0 :: r).zip s.row) s.a s.b with
  | none => rfl
  | some x =>
    dsimp only
    by_cases c : isLess x.2 x.1 = true
    · rw [if_pos c, if_pos c]
      rfl
    · rw [if_neg c, if_neg c]
      rfl
theorem flat_perm {α β : Type} {f g : α → List β} : ∀ {l : List α}, (∀ x ∈ l, (f x).Perm (g x)) → (l.flatMap f).Perm (l.flatMap g)
  | [], _ => List.Perm.refl _
  | x :: l, h => by
    rw [List.flatMap_cons, List.flatMap_cons]
    exact List.Perm.append (h x (List.Mem.head _)) (flat_perm fun y hy => h y (List.Mem.tail _ hy))
theorem grow_perm {lo off t0 : Nat} (hlo : 4 * off < lo) : ∀ (rest r : List Nat) (l : List S) (l' : List Stretch), Alls lo off t0 (t0 :: r) l → (t0 :: r ++ rest).Pairwise (· < ·) → (l.map toSpec).Perm l' →
    ((grow (2 * (off : Int)) (t0 :: r) rest l).map toSpec).Perm (growing off t0 (t0 :: r) rest l') ∧ Alls lo off t0 (t0 :: r ++ rest) (grow (2 * (off : Int)) (t0 :: r) rest l)
  | [], r, l, l', h, hw, hp => by
    rw [List.append_nil]
    exact ⟨hp, h⟩
  | t :: rest, r, l, l', h, hw, hp => by
    have ht : ∀ y ∈ t0 :: r, y < t := by
      intro y hy
      exact (List.pairwise_append.mp hw).2.2 y hy t (List.Mem.head _)
    have e : t0 :: r ++ t :: rest = t0 :: (r ++ [t]) ++ rest := by simp
    rw [e] at hw
    have hn := h.next hlo ht
    have := grow_perm hlo rest (r ++ [t]) (l.flatMap (parts (t0 :: r) t (2 * (off : Int)))) (l'.flatMap fun (x : Stretch) => split off t0 t (t0 :: r) x) hn hw ?_
    · rw [e]
      exact this
    · rw [List.map_flatMap]
      have p1 : (l.flatMap fun s => (parts (t0 :: r) t (2 * (off : Int)) s).map toSpec).Perm (l.flatMap fun s => split off t0 t (t0 :: r) (toSpec s)) := by
        refine flat_perm fun s hs => ?_
        rw [split_parts hlo (h.good s hs) ht]
        exact List.reverse_perm _
      refine p1.trans ?_
      have p2 := List.Perm.flatMap_right (fun (x : Stretch) => split off t0 t (t0 :: r) x) hp
      rw [List.flatMap_map] at p2
      exact p2

/-! ### The specification's sorting -/
def leA (x y : Stretch) : Prop := atMost x.a y.a = true
theorem placed_perm (x : Stretch) : ∀ l : List Stretch, (placed x l).Perm (x :: l)
  | [] => List.Perm.refl _
  | y :: l => by
    unfold placed
    by_cases c : atMost y.a x.a = true
    · rw [if_pos c]
      exact (List.Perm.cons y (placed_perm x l)).trans (List.Perm.swap x y l)
    · rw [if_neg c]
def okF (f : Frac) : Prop := 0 < f.d
theorem leA_total {x y : Stretch} (h : ¬ leA x y) : leA y x := by
  unfold leA atMost at *
  have h : ¬ (x.a.n * (y.a.d : Int) ≤ y.a.n * (x.a.d : Int)) := fun q => h (decide_eq_true q)
  exact decide_eq_true (by omega)
theorem leA_trans {x y z : Stretch} (hx : okF x.a) (hy : okF y.a) (hz : okF z.a) (h1 : leA x y) (h2 : leA y z) : leA x z := by
  unfold leA atMost at *
  have h1 := of_decide_eq_true h1
  have h2 := of_decide_eq_true h2
  unfold okF at *
  exact decide_eq_true (le_trans (x := (x.a.n, (x.a.d : Int))) (y := (y.a.n, (y.a.d : Int))) (z := (z.a.n, (z.a.d : Int))) (by show (0 : Int) < (x.a.d : Int); omega) (by show (0 : Int) < (y.a.d : Int); omega) (by show (0 : Int) < (z.a.d : Int); omega) h1 h2)
theorem placed_pw (x : Stretch) (hx : okF x.a) : ∀ l : List Stretch, (∀ y ∈ l, okF y.a) → l.Pairwise leA → (placed x l).Pairwise leA
  | [], _, _ => List.pairwise_singleton _ _
  | y :: l, hl, hw => by
    unfold placed
    have hy := hl y (List.Mem.head _)
    rw [List.pairwise_cons] at hw
    by_cases c : atMost y.a x.a = true
    · rw [if_pos c, List.pairwise_cons]
      refine ⟨?_, placed_pw x hx l (fun z hz => hl z (List.Mem.tail _ hz)) hw.2⟩
      intro z hz
      rcases List.mem_cons.mp ((placed_perm x l).mem_iff.mp hz) with rfl | hz
      · exact c
      · exact hw.1 z hz
    · rw [if_neg c, List.pairwise_cons]
      have hxy : leA x y := leA_total c
      refine ⟨?_, List.pairwise_cons.mpr hw⟩
      intro z hz
      rcases List.mem_cons.mp hz with rfl | hz
      · exact hxy
      · exact leA_trans hx hy (hl z (List.Mem.tail _ hz)) hxy (hw.1 z hz)
theorem sort_all : ∀ (l acc : List Stretch), (∀ y ∈ l, okF y.a) → (∀ y ∈ acc, okF y.a) → acc.Pairwise leA →
    (l.foldl (fun (l : List Stretch) (x : Stretch) => placed x l) acc).Pairwise leA ∧ (l.foldl (fun (l : List Stretch) (x : Stretch) => placed x l) acc).Perm (l ++ acc)
  | [], acc, _, _, hw => ⟨hw, List.Perm.refl _⟩
  | x :: l, acc, hl, ha, hw => by
    have hx := hl x (List.Mem.head _)
    have ha2 : ∀ y ∈ placed x acc, okF y.a := by
      intro y hy
      rcases List.mem_cons.mp ((placed_perm x acc).mem_iff.mp hy) with rfl | hy
      · exact hx
      · exact ha y hy
    have ih := sort_all l (placed x acc) (fun y hy => hl y (List.Mem.tail _ hy)) ha2 (placed_pw x hx acc ha hw)
    refine ⟨ih.1, ih.2.trans ?_⟩
    exact ((placed_perm x acc).append_left l).trans List.perm_middle
theorem pw_three {α : Type} {R : α → α → Prop} : ∀ {l : List α}, l.Pairwise R → ∀ {a b : α}, a ∈ l → b ∈ l → a = b ∨ R a b ∨ R b a
  | [], _, a, b, ha, _ => by cases ha
  | x :: l, h, a, b, ha, hb => by
    rw [List.pairwise_cons] at h
    rcases List.mem_cons.mp ha with e1 | ha
    · rcases List.mem_cons.mp hb with e2 | hb
      · exact .inl (e1.trans e2.symm)
      · rw [e1]
        exact .inr (.inl (h.1 _ hb))
    · rcases List.mem_cons.mp hb with e2 | hb
      · rw [e2]
        exact .inr (.inr (h.1 _ ha))
      · exact pw_three h.2 ha hb
theorem sort_is {l : List S} {l' : List Stretch} {lo off t0 : Nat} {got : List Nat} (h : Alls lo off t0 got l) (hp : (l.map toSpec).Perm l') :
    l'.foldl (fun (l : List Stretch) (x : Stretch) => placed x l) [] = l.map toSpec := by
  have hst : ∀ x ∈ l, ∀ y ∈ l, Before x y → ¬ leA (toSpec y) (toSpec x) := by
    intro x hx y hy hb hc
    have gx := h.good x hx
    have gy := h.good y hy
    unfold leA at hc
    have e : atMost (toSpec y).a (toSpec x).a = decide (le y.a x.a) := fr_le gy.pa gx.pa
    rw [e] at hc
    have h1 := of_decide_eq_true hc
    have h2 := lt_of_le_of_lt gx.pa gx.pb gy.pa gx.ab hb.1
    exact absurd h1 (Int.not_le.mpr h2)
  have hpw : (l.map toSpec).Pairwise leA := by
    rw [List.pairwise_map]
    refine List.Pairwise.imp_of_mem ?_ h.pw
    intro x y hx hy hb
    exact leA_total (hst x hx y hy hb)
  have hok : ∀ y ∈ l', okF y.a := by
    intro y hy
    obtain ⟨s, hs, rfl⟩ := List.mem_map.mp (hp.mem_iff.mpr hy)
    have := (h.good s hs).pa
    show 0 < (frac s.a.1 s.a.2.toNat).d
    exact frac_d_pos (by omega)
  obtain ⟨s1, s2⟩ := sort_all l' [] hok (fun y hy => by cases hy) List.Pairwise.nil
  rw [List.append_nil] at s2
  refine (List.Perm.eq_of_pairwise (le := leA) ?_ hpw s1 (hp.trans s2.symm)).symm
  intro a b ha hb h1 h2
  have hb := (hp.trans s2.symm).mem_iff.mpr hb
  obtain ⟨x, hx, rfl⟩ := List.mem_map.mp ha
  obtain ⟨y, hy, rfl⟩ := List.mem_map.mp hb
  rcases pw_three h.pw hx hy with rfl | q | q
  · rfl
  · exact absurd h2 (hst x hx y hy q)
  · exact absurd h1 (hst y hy x hx q)

/-! ### The whole -/
/-- a state as the calls leave it -/
structure Ok (s : St) : Prop where
  lo : 4 * s.off < s.lo
  hi : s.lo ≤ s.hi
  top : s.hi ≤ 1000
  up : s.times.Pairwise (· < ·)
  in_ : ∀ t ∈ s.times, t ≤ 2000
def foundOf (s : St) : List S := found s.lo s.hi s.off s.times
theorem first_parts {lo hi t : Nat} {sl : Int} (h : lo ≤ hi) : parts [] t sl (firstS lo hi) = [⟨((lo : Int), 1), ((hi : Int), 1), [0]⟩] := by
  have e : isLess ((hi : Int), 1) ((lo : Int), 1) = false := by
    rw [isLess_iff_not]
    show (lo : Int) * 1 ≤ (hi : Int) * 1
    omega
  have e2 : narrowed (firstS lo hi) [] t sl 0 = some ⟨((lo : Int), 1), ((hi : Int), 1), [0]⟩ := by
    show (if isLess ((hi : Int), 1) ((lo : Int), 1) = true then none else some (S.mk ((lo : Int), 1) ((hi : Int), 1) ([] ++ [0]))) = _
    rw [e]
    rfl
  show [(0 : Int)].filterMap (narrowed (firstS lo hi) [] t sl) = _
  rw [List.filterMap_cons, e2]
  rfl
theorem first_alls {lo hi off t : Nat} (h : lo ≤ hi) : Alls lo off t [t] [⟨((lo : Int), 1), ((hi : Int), 1), [0]⟩] := by
  constructor
  · intro s hs
    obtain rfl : s = ⟨((lo : Int), 1), ((hi : Int), 1), [0]⟩ := by simpa using hs
    refine ⟨Int.one_pos, Int.one_pos, ?_, ?_, rfl, ?_⟩
    · show (lo : Int) * 1 ≤ (lo : Int)
      omega
    · show (lo : Int) * 1 ≤ (hi : Int) * 1
      omega
    · intro y hy
      obtain rfl : y = (t, 0) := by simpa using hy
      dsimp only
      omega
  · exact List.pairwise_singleton _ _
theorem found_none (s : St) (h : s.times = []) : foundOf s = [firstS s.lo s.hi] := by
  unfold foundOf found
  rw [h]
  rfl
theorem found_some {s : St} (k : Ok s) {t0 : Nat} {r : List Nat} (h : s.times = t0 :: r) : Alls s.lo s.off t0 s.times (foundOf s) ∧ (foundOf s).map toSpec = stretches s := by
  have hw := k.up
  rw [h] at hw
  have e : foundOf s = grow (2 * (s.off : Int)) [t0] r [⟨((s.lo : Int), 1), ((s.hi : Int), 1), [0]⟩] := by
    unfold foundOf found
    rw [h]
    show grow (2 * (s.off : Int)) [t0] r ([firstS s.lo s.hi].flatMap (parts [] t0 (2 * (s.off : Int)))) = _
    rw [List.flatMap_cons, List.flatMap_nil, List.append_nil, first_parts k.hi]
  obtain ⟨p, q⟩ := grow_perm k.lo r [] [⟨((s.lo : Int), 1), ((s.hi : Int), 1), [0]⟩] [⟨whole (s.lo : Nat), whole (s.hi : Nat), [0]⟩] (first_alls k.hi) hw (by
    show List.Perm [(⟨fr ((s.lo : Int), 1), fr ((s.hi : Int), 1), [0]⟩ : Stretch)] _
    rw [fr_whole, fr_whole])
  rw [← e] at p q
  have e2 : t0 :: [] ++ r = s.times := h.symm
  rw [e2] at q
  refine ⟨q, ?_⟩
  unfold stretches
  rw [h]
  exact (sort_is q p).symm
theorem found_is {s : St} (k : Ok s) : (foundOf s).map toSpec = stretches s := by
  cases h : s.times with
  | nil =>
    rw [found_none s h]
    unfold stretches
    rw [h]
    show [(⟨fr ((s.lo : Int), 1), fr ((s.hi : Int), 1), []⟩ : Stretch)] = _
    rw [fr_whole, fr_whole]
  | cons t0 r => exact (found_some k h).2
end Ev
set_option Elab.async false
namespace Ev
open Sy41

/-! ### How many, how large -/
theorem desc_len {α : Type} {f : α → Int} : ∀ {l : List α} {m : Int}, l.Pairwise (fun x y => f y < f x) → (∀ x ∈ l, 0 ≤ f x ∧ f x ≤ m) → 0 ≤ m → (l.length : Int) ≤ m + 1
  | [], m, _, _, h0 => by
    show (0 : Int) ≤ m + 1
    omega
  | x :: l, m, hw, hb, h0 => by
    rw [List.pairwise_cons] at hw
    have hx := hb x (List.Mem.head _)
    rw [List.length_cons]
    cases l with
    | nil =>
      show ((0 + 1 : Nat) : Int) ≤ m + 1
      omega
    | cons y l =>
      have hy := hw.1 y (List.Mem.head _)
      have hy0 := hb y (List.Mem.tail _ (List.Mem.head _))
      have ih := desc_len (f := f) (l := y :: l) (m := f x - 1) hw.2 (fun z hz => ⟨(hb z (List.Mem.tail _ hz)).1, by have := hw.1 z hz; omega⟩) (by omega)
      omega
theorem sum_le : ∀ {l : List Int} {m : Int}, (∀ x ∈ l, 0 ≤ x ∧ x ≤ m) → 0 ≤ l.sum ∧ l.sum ≤ m * (l.length : Int)
  | [], m, _ => by simp
  | x :: l, m, h => by
    have hx := h x (List.Mem.head _)
    have ih := sum_le (l := l) (m := m) fun y hy => h y (List.Mem.tail _ hy)
    rw [List.sum_cons, List.length_cons]
    have e : m * ((l.length + 1 : Nat) : Int) = m * (l.length : Int) + m := by
      rw [Int.natCast_add, Int.mul_add]
      simp
    omega
theorem beat_le {lo off : Nat} {p : FP} {g n : Int} (hlo : 4 * off < lo) (hp : 0 < p.2) (hp1 : (lo : Int) * p.2 ≤ p.1) (hg : g ≤ 2000) (hn : 0 ≤ n) (h : p.1 * n ≤ (g + 2 * (off : Int)) * p.2) : n ≤ 2000 := by
  refine Classical.byContradiction fun hc => ?_
  have a1 := Int.mul_le_mul_of_nonneg_right hp1 hn
  have a2 : (lo : Int) * n ≤ g + 2 * (off : Int) := by
    refine Int.le_of_mul_le_mul_right (a := p.2) ?_ hp
    grind
  have a3 := Int.mul_le_mul_of_nonneg_right (show 4 * (off : Int) + 1 ≤ (lo : Int) by omega) hn
  have a4 := Int.mul_le_mul_of_nonneg_left (show (2001 : Int) ≤ n by omega) (show 0 ≤ 4 * (off : Int) by omega)
  grind
theorem Good.beats {lo off t0 : Nat} {got : List Nat} {s : S} (hlo : 4 * off < lo) (g : Good lo off t0 got s) (ht : ∀ y ∈ got, y ≤ 2000) : ∀ n ∈ s.row, 0 ≤ n ∧ n ≤ 2000 := by
  intro n hn
  obtain ⟨i, hi, rfl⟩ := List.getElem_of_mem hn
  have hi2 : i < got.length := by
    rw [← g.len]
    exact hi
  have hz : (got[i], s.row[i]) ∈ got.zip s.row := by
    rw [← List.getElem_zip (h := by rw [List.length_zip]; omega)]
    exact List.getElem_mem _
  obtain ⟨r1, r2, r3⟩ := g.row _ hz
  have := ht got[i] (List.getElem_mem _)
  exact ⟨r1, beat_le hlo g.pb g.geB (by dsimp only; omega) r1 r2⟩
theorem tries_le {lo off t0 t : Nat} {r : List Nat} {s : S} {n : Int} (hlo : 4 * off < lo) (g : Good lo off t0 (t0 :: r) s) (ht : ∀ y ∈ t0 :: r, y < t) (h2 : t ≤ 2000)
    (hn : n ∈ tries s (t0 :: r) t (2 * (off : Int))) : 0 ≤ n ∧ n ≤ 2000 := by
  have h0 := (tries_ge hlo g ht hn).2
  have h1 := ((tries_mem hlo g).mp hn).2
  exact ⟨h0, beat_le (g := (t : Int) - (t0 : Int)) hlo g.pa g.ge (by omega) h0 (by rw [Int.mul_comm]; exact h1)⟩
theorem tries_len {lo off t0 t : Nat} {r : List Nat} {s : S} (hlo : 4 * off < lo) (g : Good lo off t0 (t0 :: r) s) (ht : ∀ y ∈ t0 :: r, y < t) (h2 : t ≤ 2000) :
    (tries s (t0 :: r) t (2 * (off : Int))).length ≤ 2001 := by
  have h := desc_len (f := fun (x : Int) => x) (l := tries s (t0 :: r) t (2 * (off : Int))) (m := 2000) rangeDown_pw (fun x hx => tries_le hlo g ht h2 hx) (by decide)
  omega
theorem Alls.len {lo off t0 : Nat} {got : List Nat} {l : List S} (hlo : 4 * off < lo) (h : Alls lo off t0 got l) (ht : ∀ y ∈ got, y ≤ 2000) : l.length ≤ 2000 * got.length + 1 := by
  have h := desc_len (f := fun (x : S) => x.row.sum) (l := l) (m := 2000 * (got.length : Int)) (h.pw.imp fun q => q.2) (fun x hx => by
    have g := h.good x hx
    have := sum_le (g.beats hlo ht)
    rw [g.len] at this
    exact this) (by omega)
  omega
/-- small numbers -/
def Sm (x : FP) : Prop := -1000000 ≤ x.1 ∧ x.1 ≤ 1000000 ∧ 0 < x.2 ∧ x.2 ≤ 1000000
def SmS (s : S) : Prop := Sm s.a ∧ Sm s.b
theorem Sm.greater {x y : FP} (hx : Sm x) (hy : Sm y) : Sm (greater x y) := by
  unfold Ev.greater; split <;> assumption
theorem Sm.lesser {x y : FP} (hx : Sm x) (hy : Sm y) : Sm (lesser x y) := by
  unfold Ev.lesser; split <;> assumption
theorem narrowGo_sm {t : Nat} {n sl : Int} (ht : t ≤ 2000) (hs : 0 ≤ sl ∧ sl ≤ 2000) (hn : n ≤ 2000) : ∀ {l : List (Nat × Int)} {a b : FP} {x : FP × FP}, narrowGo t n sl l a b = some x → Sm a → Sm b → (∀ y ∈ l, y.1 ≤ 2000 ∧ 0 ≤ y.2) → Sm x.1 ∧ Sm x.2
  | [], a, b, x, h, ha, hb, _ => by
    cases h
    exact ⟨ha, hb⟩
  | y :: l, a, b, x, h, ha, hb, hl => by
    unfold narrowGo at h
    have hy := hl y (List.Mem.head _)
    have hl2 : ∀ z ∈ l, z.1 ≤ 2000 ∧ 0 ≤ z.2 := fun z hz => hl z (List.Mem.tail _ hz)
    by_cases c : n - y.2 > 0
    · rw [if_pos c] at h
      refine narrowGo_sm ht hs hn h (ha.greater ⟨?_, ?_, ?_, ?_⟩) (hb.lesser ⟨?_, ?_, ?_, ?_⟩) hl2 <;> dsimp only <;> omega
    · rw [if_neg c] at h
      by_cases d : (t : Int) - (y.1 : Int) > sl
      · rw [if_pos d] at h
        cases h
      · rw [if_neg d] at h
        exact narrowGo_sm ht hs hn h ha hb hl2
theorem parts_sm {lo off t0 t : Nat} {r : List Nat} {s x : S} (hlo : 4 * off < lo) (hlo2 : lo ≤ 1000) (g : Good lo off t0 (t0 :: r) s) (ht : ∀ y ∈ t0 :: r, y < t) (h2 : t ≤ 2000) (hs : SmS s)
    (hx : x ∈ parts (t0 :: r) t (2 * (off : Int)) s) : SmS x := by
  obtain ⟨n, hn, h⟩ := mem_parts.mp hx
  obtain ⟨h1, _, _⟩ := narrowed_some h
  have hb := tries_le hlo g ht h2 hn
  refine narrowGo_sm (x := (x.a, x.b)) h2 (by omega) hb.2 h1 hs.1 hs.2 fun y hy => ⟨?_, (g.row y hy).1⟩
  have := ht y.1 (List.of_mem_zip hy).1
  omega
theorem grow_sm {lo off t0 : Nat} (hlo : 4 * off < lo) (hlo2 : lo ≤ 1000) : ∀ (rest r : List Nat) (l : List S), Alls lo off t0 (t0 :: r) l → (t0 :: r ++ rest).Pairwise (· < ·) → (∀ t ∈ t0 :: r ++ rest, t ≤ 2000) → (∀ s ∈ l, SmS s) →
    ∀ s ∈ grow (2 * (off : Int)) (t0 :: r) rest l, SmS s
  | [], r, l, h, hw, hm, hs => hs
  | t :: rest, r, l, h, hw, hm, hs => by
    have ht : ∀ y ∈ t0 :: r, y < t := by
      intro y hy
      exact (List.pairwise_append.mp hw).2.2 y hy t (List.Mem.head _)
    have e : t0 :: r ++ t :: rest = t0 :: (r ++ [t]) ++ rest := by simp
    have h2 : t ≤ 2000 := hm t (List.mem_append_right _ (List.Mem.head _))
    rw [e] at hw hm
    refine grow_sm hlo hlo2 rest (r ++ [t]) (l.flatMap (parts (t0 :: r) t (2 * (off : Int)))) (h.next hlo ht) hw hm ?_
    intro x hx
    obtain ⟨s, hs1, hx⟩ := List.mem_flatMap.mp hx
    exact parts_sm hlo hlo2 (h.good s hs1) ht h2 (hs s hs1) hx
theorem grow_snoc {sl : Int} {t : Nat} : ∀ (rest got : List Nat) (l : List S), grow sl got (rest ++ [t]) l = (grow sl got rest l).flatMap (parts (got ++ rest) t sl)
  | [], got, l => by
    rw [List.append_nil]
    rfl
  | u :: rest, got, l => by
    show grow sl (got ++ [u]) (rest ++ [t]) _ = (grow sl (got ++ [u]) rest _).flatMap _
    rw [grow_snoc rest]
    have e : got ++ [u] ++ rest = got ++ u :: rest := by simp
    rw [e]
theorem found_snoc (lo hi off : Nat) (ts : List Nat) (t : Nat) : found lo hi off (ts ++ [t]) = (found lo hi off ts).flatMap (parts ts t (2 * (off : Int))) := by
  unfold found
  rw [grow_snoc]
  rfl

def holdsB (s : S) (f : FP) : Bool := !isLess f s.a && !isLess s.b f
/-- all that is known of one stretch that is there -/
structure Fit (s : St) (x : S) : Prop where
  pa : 0 < x.a.1
  pb : 0 < x.b.1
  sa : Sm x.a
  sb : Sm x.b
  len : x.row.length = s.times.length
  row : ∀ n ∈ x.row, 0 ≤ n ∧ n ≤ 2000
theorem found_sm {s : St} (k : Ok s) : ∀ x ∈ foundOf s, SmS x := by
  have f1 : Sm ((s.lo : Int), 1) := ⟨by have := k.lo; dsimp only; omega, by have := k.hi; have := k.top; dsimp only; omega, Int.one_pos, (by decide : (1 : Int) ≤ 1000000)⟩
  have f2 : Sm ((s.hi : Int), 1) := ⟨by have := k.lo; dsimp only; omega, by have := k.hi; have := k.top; dsimp only; omega, Int.one_pos, (by decide : (1 : Int) ≤ 1000000)⟩
  cases h : s.times with
  | nil =>
    rw [found_none s h]
    intro x hx
    obtain rfl : x = firstS s.lo s.hi := by simpa using hx
    exact ⟨f1, f2⟩
  | cons t0 r =>
    have hw := k.up
    have hm := k.in_
    rw [h] at hw hm
    have e : foundOf s = grow (2 * (s.off : Int)) [t0] r [⟨((s.lo : Int), 1), ((s.hi : Int), 1), [0]⟩] := by
      unfold foundOf found
      rw [h]
      show grow (2 * (s.off : Int)) [t0] r ([firstS s.lo s.hi].flatMap (parts [] t0 (2 * (s.off : Int)))) = _
      rw [List.flatMap_cons, List.flatMap_nil, List.append_nil, first_parts k.hi]
    rw [e]
    refine grow_sm k.lo (by have := k.hi; have := k.top; omega) r [] _ (first_alls k.hi) hw hm ?_
    intro x hx
    obtain rfl : x = ⟨((s.lo : Int), 1), ((s.hi : Int), 1), [0]⟩ := by simpa using hx
    exact ⟨f1, f2⟩
theorem found_fit {s : St} (k : Ok s) : ∀ x ∈ foundOf s, Fit s x := by
  intro x hx
  have sm := found_sm k x hx
  cases h : s.times with
  | nil =>
    rw [found_none s h] at hx
    obtain rfl : x = firstS s.lo s.hi := by simpa using hx
    refine ⟨?_, ?_, sm.1, sm.2, ?_, ?_⟩
    · show (0 : Int) < (s.lo : Int)
      have := k.lo
      omega
    · show (0 : Int) < (s.hi : Int)
      have := k.lo
      have := k.hi
      omega
    · rw [h]
      rfl
    · intro n hn
      cases hn
  | cons t0 r =>
    have g := (found_some k h).1.good x hx
    exact ⟨g.a1 k.lo, g.b1 k.lo, sm.1, sm.2, g.len, g.beats k.lo k.in_⟩
theorem found_len {s : St} (k : Ok s) : (foundOf s).length ≤ 2000 * s.times.length + 1 := by
  cases h : s.times with
  | nil =>
    rw [found_none s h]
    simp
  | cons t0 r =>
    have := (found_some k h).1.len k.lo k.in_
    rw [h] at this
    exact this
theorem found_tries {s : St} (k : Ok s) {t : Nat} (ht : ∀ y ∈ s.times, y < t) (h2 : t ≤ 2000) : ∀ x ∈ foundOf s, (tries x s.times t (2 * (s.off : Int))).length ≤ 2001 ∧ ∀ n ∈ tries x s.times t (2 * (s.off : Int)), 0 ≤ n ∧ n ≤ 2000 := by
  intro x hx
  cases h : s.times with
  | nil =>
    refine ⟨by show 1 ≤ 2001; decide, fun n hn => ?_⟩
    obtain rfl : n = 0 := by simpa [tries] using hn
    omega
  | cons t0 r =>
    have g := (found_some k h).1.good x hx
    rw [h] at g ht
    exact ⟨tries_len k.lo g ht h2, fun n hn => tries_le k.lo g ht h2 hn⟩
end Ev
set_option Elab.async false
namespace Ev
open Sy41

/-! ### The calls, read one behind another -/
/-- a call as it stands in the list -/
def Shp (c : List Int) : Prop := ∃ p xs, c = p :: xs ∧ PySy41.shape p = some (xs.length, 0)
theorem shape_zero {p : Int} {n k : Nat} (h : PySy41.shape p = some (n, k)) : k = 0 := by
  unfold PySy41.shape at h
  repeat' split at h
  all_goals first | (cases h; rfl) | cases h
theorem calls_read : ∀ (f : Nat) (l : List Int) (raw : List (List (List Int))), PyFlat.calls PySy41.shape f l = some raw → ∃ cs : List (List Int), raw = cs.map (fun c => [c]) ∧ l = cs.flatten ∧ ∀ c ∈ cs, Shp c
  | f, [], raw, h => by
    have h : some [] = some raw := by
      cases f <;> exact h
    cases h
    exact ⟨[], rfl, rfl, fun c hc => by cases hc⟩
  | 0, p :: r, raw, h => by cases h
  | f + 1, p :: r, raw, h => by
    have h : (match PyFlat.call PySy41.shape (p :: r) with
      | none => none
      | some (c, t) => match PyFlat.calls PySy41.shape f t with
        | none => none
        | some cs => some (c :: cs)) = some raw := h
    cases hs : PySy41.shape p with
    | none =>
      have e : PyFlat.call PySy41.shape (p :: r) = none := by
        unfold PyFlat.call
        dsimp only
        rw [hs]
      rw [e] at h
      cases h
    | some nk =>
      obtain ⟨n, k⟩ := nk
      obtain rfl := shape_zero hs
      by_cases c : r.length < n
      · have e : PyFlat.call PySy41.shape (p :: r) = none := by
          unfold PyFlat.call
          dsimp only
          rw [hs]
          dsimp only
          rw [if_pos c]
        rw [e] at h
        cases h
      · have e : PyFlat.call PySy41.shape (p :: r) = some ([p :: r.take n], r.drop n) := by
          unfold PyFlat.call
          dsimp only
          rw [hs]
          dsimp only
          rw [if_neg c]
          rfl
        rw [e] at h
        dsimp only at h
        cases ht : PyFlat.calls PySy41.shape f (r.drop n) with
        | none =>
          rw [ht] at h
          cases h
        | some cs =>
          rw [ht] at h
          cases h
          obtain ⟨ds, e1, e2, e3⟩ := calls_read f (r.drop n) cs ht
          refine ⟨(p :: r.take n) :: ds, ?_, ?_, ?_⟩
          · rw [e1]
            rfl
          · rw [List.flatten_cons, ← e2]
            show p :: r = p :: (r.take n ++ r.drop n)
            rw [List.take_append_drop]
          · intro d hd
            rcases List.mem_cons.mp hd with rfl | hd
            · refine ⟨p, r.take n, rfl, ?_⟩
              rw [hs, List.length_take]
              congr 2
              omega
            · exact e3 d hd
theorem shp_cases {c : List Int} (h : Shp c) : (∃ a b d, c = [0, a, b, d]) ∨ (∃ a, c = [1, a]) ∨ (∃ a, c = [2, a]) ∨ c = [3] ∨ (∃ a b, c = [4, a, b]) ∨ (∃ a, c = [5, a]) ∨ (∃ a b, c = [6, a, b]) ∨ (∃ a, c = [7, a]) ∨ (∃ a b d, c = [8, a, b, d]) ∨ c = [9] ∨ c = [10] := by
  obtain ⟨p, xs, rfl, h⟩ := h
  unfold PySy41.shape at h
  have l0 : ∀ {n : Nat}, some (n, 0) = some (xs.length, 0) → xs.length = n := fun q => (Prod.mk.inj (Option.some.inj q)).1.symm
  by_cases c0 : p = 0
  · rw [if_pos c0] at h
    have := l0 h
    match xs, this with
    | [a, b, d], _ => exact .inl ⟨a, b, d, by rw [c0]⟩
  rw [if_neg c0] at h
  by_cases c1 : p = 1
  · rw [if_pos c1] at h
    have := l0 h
    match xs, this with
    | [a], _ => exact .inr (.inl ⟨a, by rw [c1]⟩)
  rw [if_neg c1] at h
  by_cases c2 : p = 2
  · rw [if_pos c2] at h
    have := l0 h
    match xs, this with
    | [a], _ => exact .inr (.inr (.inl ⟨a, by rw [c2]⟩))
  rw [if_neg c2] at h
  by_cases c3 : p = 3
  · rw [if_pos c3] at h
    have := l0 h
    match xs, this with
    | [], _ => exact .inr (.inr (.inr (.inl (by rw [c3]))))
  rw [if_neg c3] at h
  by_cases c4 : p = 4
  · rw [if_pos c4] at h
    have := l0 h
    match xs, this with
    | [a, b], _ => exact .inr (.inr (.inr (.inr (.inl ⟨a, b, by rw [c4]⟩))))
  rw [if_neg c4] at h
  by_cases c5 : p = 5
  · rw [if_pos c5] at h
    have := l0 h
    match xs, this with
    | [a], _ => exact .inr (.inr (.inr (.inr (.inr (.inl ⟨a, by rw [c5]⟩)))))
  rw [if_neg c5] at h
  by_cases c6 : p = 6
  · rw [if_pos c6] at h
    have := l0 h
    match xs, this with
    | [a, b], _ => exact .inr (.inr (.inr (.inr (.inr (.inr (.inl ⟨a, b, by rw [c6]⟩))))))
  rw [if_neg c6] at h
  by_cases c7 : p = 7
  · rw [if_pos c7] at h
    have := l0 h
    match xs, this with
    | [a], _ => exact .inr (.inr (.inr (.inr (.inr (.inr (.inr (.inl ⟨a, by rw [c7]⟩)))))))
  rw [if_neg c7] at h
  by_cases c8 : p = 8
  · rw [if_pos c8] at h
    have := l0 h
    match xs, this with
    | [a, b, d], _ => exact .inr (.inr (.inr (.inr (.inr (.inr (.inr (.inr (.inl ⟨a, b, d, by rw [c8]⟩))))))))
  rw [if_neg c8] at h
  by_cases c9 : p = 9
  · rw [if_pos c9] at h
    have := l0 h
    match xs, this with
    | [], _ => exact .inr (.inr (.inr (.inr (.inr (.inr (.inr (.inr (.inr (.inl (by rw [c9]))))))))))
  rw [if_neg c9] at h
  by_cases c10 : p = 10
  · rw [if_pos c10] at h
    have := l0 h
    match xs, this with
    | [], _ => exact .inr (.inr (.inr (.inr (.inr (.inr (.inr (.inr (.inr (.inr (by rw [c10]))))))))))
  rw [if_neg c10] at h
  cases h
theorem whole_one {c : List Int} (h : Shp c) : PySy41.whole [c] = [c] := by
  rcases shp_cases h with ⟨a, b, d, rfl⟩ | ⟨a, rfl⟩ | ⟨a, rfl⟩ | rfl | ⟨a, b, rfl⟩ | ⟨a, rfl⟩ | ⟨a, b, rfl⟩ | ⟨a, rfl⟩ | ⟨a, b, d, rfl⟩ | rfl | rfl <;> rfl
/-- what the calls answer, from a state -/
def playN (s : St) : List (List Int) → List (List Int)
  | [] => []
  | c :: r => (Sy41Neutral.step s c).2 :: playN (Sy41Neutral.step s c).1 r
/-- what is told of them -/
def tellN (s : St) : List (List Int) → List Int
  | [] => []
  | c :: r => ((Sy41Neutral.step s c).2.length : Int) :: (Sy41Neutral.step s c).2 ++ tellN (Sy41Neutral.step s c).1 r
theorem played_is : ∀ (cs : List (List Int)) (s : St), PyFlat.told (PyFlat.played (fun s c => Sy41Neutral.step s (c.headD [])) s (cs.map (fun c => [c]))) = tellN s cs
  | [], s => rfl
  | c :: r, s => by
    have ih := played_is r (Sy41Neutral.step s c).1
    show PyFlat.told ((Sy41Neutral.step s c).2 :: PyFlat.played (fun s c => Sy41Neutral.step s (c.headD [])) (Sy41Neutral.step s c).1 (r.map (fun c => [c]))) = _
    unfold PyFlat.told at ih ⊢
    rw [List.flatMap_cons, ih]
    rfl
theorem whole_all : ∀ {cs : List (List Int)}, (∀ c ∈ cs, Shp c) → (cs.map (fun c => [c])).map PySy41.whole = cs.map (fun c => [c])
  | [], _ => rfl
  | c :: r, h => by
    rw [List.map_cons, List.map_cons, whole_one (h c (List.Mem.head _)), whole_all fun d hd => h d (List.Mem.tail _ hd)]
theorem tell_len : ∀ (cs : List (List Int)) (s : St), (tellN s cs).length = cs.length + Sy41Neutral.many s cs
  | [], s => rfl
  | c :: r, s => by
    have ih := tell_len r (Sy41Neutral.step s c).1
    unfold tellN Sy41Neutral.many
    rw [List.length_append, List.length_cons, List.length_cons, ih]
    omega
/-- a call whose numbers are such as may be handed in -/
structure Call1 (c : List Int) : Prop where
  shp : Shp c
  nat : ∀ x ∈ c, 0 ≤ x ∧ x ≤ 4294967295
theorem within_iff {lo hi z : Int} : PyInside.within lo hi z = true ↔ lo ≤ z ∧ z ≤ hi := by
  unfold PyInside.within
  rw [Bool.and_eq_true, decide_eq_true_iff, decide_eq_true_iff]
theorem call1_of {c : List Int} (h : Shp c) (hb : PyInside.call PySy41.bound [c] = true) : Call1 c := by
  refine ⟨h, ?_⟩
  rcases shp_cases h with ⟨a, b, d, rfl⟩ | ⟨a, rfl⟩ | ⟨a, rfl⟩ | rfl | ⟨a, b, rfl⟩ | ⟨a, rfl⟩ | ⟨a, b, rfl⟩ | ⟨a, rfl⟩ | ⟨a, b, d, rfl⟩ | rfl | rfl <;>
    simp [PyInside.call, PySy41.bound, PyInside.each, PyInside.lists, within_iff] at hb <;> intro x hx <;> simp at hx <;> omega
/-- **What is asked of the list that is handed in.** -/
structure Asked (ns : List Int) (cs : List (List Int)) : Prop where
  eq : ns = cs.flatten
  one : ∀ c ∈ cs, Call1 c
  most : cs.length ≤ 30
  short : (tellN Sy41.init cs).length ≤ 1000030
  ans : PySy41.answers ns = tellN Sy41.init cs
theorem asked_of {ns : List Int} (h : PySy41.answers_asked ns = true) : ∃ cs, Asked ns cs := by
  unfold PySy41.answers_asked at h
  cases hr : PyFlat.calls PySy41.shape ns.length ns with
  | none =>
    rw [hr] at h
    cases h
  | some raw =>
    rw [hr] at h
    dsimp only at h
    obtain ⟨cs, e1, e2, e3⟩ := calls_read _ _ _ hr
    have ha : PySy41.answers ns = tellN Sy41.init cs := by
      unfold PySy41.answers PySy41.calls
      rw [hr]
      dsimp only
      rw [e1, whole_all e3]
      exact played_is cs Sy41.init
    simp only [Bool.and_eq_true] at h
    obtain ⟨⟨⟨⟨h1, h2⟩, h3⟩, h4⟩, h5⟩ := h
    refine ⟨cs, e2, ?_, ?_, ?_, ha⟩
    · intro c hc
      refine call1_of (e3 c hc) ?_
      unfold PyInside.calls at h3
      rw [e1] at h3
      exact List.all_eq_true.mp h3 [c] (List.mem_map.mpr ⟨c, hc, rfl⟩)
    · unfold PyFlat.atMost at h2
      have := of_decide_eq_true h2
      rw [e1, List.length_map] at this
      exact this
    · rw [tell_len]
      unfold Sy41Neutral.asked at h4
      simp only [Bool.and_eq_true] at h4
      have h6 := of_decide_eq_true h4.2.2.2
      have e : ((raw.map PySy41.whole).map fun c => c.headD []) = cs := by
        rw [e1, whole_all e3, List.map_map]
        exact List.map_id' cs
      rw [e] at h6
      have h7 : Sy41Neutral.many Sy41.init cs ≤ 1000000 := h6
      unfold PyFlat.atMost at h2
      have := of_decide_eq_true h2
      rw [e1, List.length_map] at this
      omega
end Ev
set_option Elab.async false
namespace Ev
open Sy41
/-! ### A time more, a time less -/
theorem put_perm (t : Nat) : ∀ l : List Nat, (put t l).Perm (t :: l)
  | [] => List.Perm.refl _
  | x :: l => by
    unfold put
    by_cases c : t < x
    · rw [if_pos c]
    · rw [if_neg c]
      exact (List.Perm.cons x (put_perm t l)).trans (List.Perm.swap t x l)
theorem put_up (t : Nat) : ∀ l : List Nat, t ∉ l → l.Pairwise (· < ·) → (put t l).Pairwise (· < ·)
  | [], _, _ => List.pairwise_singleton _ _
  | x :: l, h, hw => by
    unfold put
    rw [List.pairwise_cons] at hw
    by_cases c : t < x
    · rw [if_pos c, List.pairwise_cons]
      refine ⟨?_, List.pairwise_cons.mpr hw⟩
      intro y hy
      rcases List.mem_cons.mp hy with rfl | hy
      · exact c
      · have := hw.1 y hy
        omega
    · rw [if_neg c, List.pairwise_cons]
      have hx : x < t := by
        have : t ≠ x := fun e => h (e ▸ List.Mem.head _)
        omega
      refine ⟨?_, put_up t l (fun q => h (List.Mem.tail _ q)) hw.2⟩
      intro y hy
      rcases List.mem_cons.mp ((put_perm t l).mem_iff.mp hy) with rfl | hy
      · exact hx
      · exact hw.1 y hy
theorem put_len (t : Nat) (l : List Nat) : (put t l).length = l.length + 1 := (put_perm t l).length_eq
theorem Ok.plus {s : St} (k : Ok s) {t : Nat} (h : t ≤ 2000) (hn : t ∉ s.times) : Ok (plus s t) :=
  ⟨k.lo, k.hi, k.top, put_up t _ hn k.up, fun y hy => by
    rcases List.mem_cons.mp ((put_perm t _).mem_iff.mp hy) with rfl | hy
    · exact h
    · exact k.in_ y hy⟩
theorem Ok.less {s : St} (k : Ok s) (p : Nat → Bool) : Ok { s with times := s.times.filter p } :=
  ⟨k.lo, k.hi, k.top, k.up.sublist List.filter_sublist, fun y hy => k.in_ y (List.mem_filter.mp hy).1⟩
/-- the sorted whole numbers are just the times with one more -/
theorem sorted_put {t : Nat} {l : List Nat} {ns : List Int} (hp : ns.Perm (l.map (fun (n : Nat) => (n : Int)) ++ [(t : Int)])) (hs : ns.Pairwise (· ≤ ·)) (hn : t ∉ l) (hw : l.Pairwise (· < ·)) : ns = (put t l).map (fun (n : Nat) => (n : Int)) := by
  have h1 : ((put t l).map (fun (n : Nat) => (n : Int))).Perm (l.map (fun (n : Nat) => (n : Int)) ++ [(t : Int)]) := by
    refine ((put_perm t l).map _).trans ?_
    rw [List.map_cons]
    exact (List.perm_append_singleton _ _).symm
  have h2 : ((put t l).map (fun (n : Nat) => (n : Int))).Pairwise (· ≤ ·) := by
    rw [List.pairwise_map]
    refine (put_up t l hn hw).imp ?_
    intro a b hab
    omega
  exact List.Perm.eq_of_pairwise (le := (· ≤ ·)) (fun a b _ _ x y => Int.le_antisymm x y) hs h2 (hp.trans h1.symm)
theorem found_length {s : St} (k : Ok s) : (foundOf s).length = (stretches s).length := by
  rw [← found_is k, List.length_map]
end Ev
set_option Elab.async false
namespace Ev
open Sy41
/-! ### A call by its numbers -/
theorem natIn_ok {a : Int} {l : List Int} (h : 0 ≤ a ∧ a ≤ 4294967295) : Sy41Neutral.natIn (a :: l) = some (a.toNat, l) := by
  unfold Sy41Neutral.natIn
  exact if_pos ⟨h.1, by omega⟩
theorem some0 : Sy41Neutral.all_ (Sy41Neutral.some_ 0 []) = some [] := rfl
theorem some1 {a : Int} (ha : 0 ≤ a ∧ a ≤ 4294967295) : Sy41Neutral.all_ (Sy41Neutral.some_ 1 [a]) = some [a.toNat] := by
  unfold Sy41Neutral.some_ Sy41Neutral.many_
  rw [natIn_ok ha]
  rfl
theorem some2 {a b : Int} (ha : 0 ≤ a ∧ a ≤ 4294967295) (hb : 0 ≤ b ∧ b ≤ 4294967295) : Sy41Neutral.all_ (Sy41Neutral.some_ 2 [a, b]) = some [a.toNat, b.toNat] := by
  unfold Sy41Neutral.some_ Sy41Neutral.many_
  rw [natIn_ok ha]
  show Sy41Neutral.all_ ((Sy41Neutral.many_ Sy41Neutral.natIn 1 [b]).map _) = _
  unfold Sy41Neutral.many_
  rw [natIn_ok hb]
  rfl
theorem some3 {a b d : Int} (ha : 0 ≤ a ∧ a ≤ 4294967295) (hb : 0 ≤ b ∧ b ≤ 4294967295) (hd : 0 ≤ d ∧ d ≤ 4294967295) : Sy41Neutral.all_ (Sy41Neutral.some_ 3 [a, b, d]) = some [a.toNat, b.toNat, d.toNat] := by
  unfold Sy41Neutral.some_ Sy41Neutral.many_
  rw [natIn_ok ha]
  show Sy41Neutral.all_ ((Sy41Neutral.many_ Sy41Neutral.natIn 2 [b, d]).map _) = _
  unfold Sy41Neutral.many_
  rw [natIn_ok hb]
  show Sy41Neutral.all_ (((Sy41Neutral.many_ Sy41Neutral.natIn 1 [d]).map _).map _) = _
  unfold Sy41Neutral.many_
  rw [natIn_ok hd]
  rfl
/-- the step by numbers is the step by the call -/
theorem step_of {s : St} {c : List Int} {x : Sy41.Call} (h : Sy41Neutral.callOf c = some x) : Sy41Neutral.step s c = ((Sy41.step s x).1, Sy41Neutral.out (Sy41.step s x).2) := by
  unfold Sy41Neutral.step
  rw [h]
theorem call0 {a b d : Int} (ha : 0 ≤ a ∧ a ≤ 4294967295) (hb : 0 ≤ b ∧ b ≤ 4294967295) (hd : 0 ≤ d ∧ d ≤ 4294967295) : Sy41Neutral.callOf [0, a, b, d] = some (.begins a.toNat b.toNat d.toNat) := by
  show (Sy41Neutral.all_ (Sy41Neutral.some_ 3 [a, b, d])).map _ = _
  rw [some3 ha hb hd]
  rfl
theorem call1 {a : Int} (ha : 0 ≤ a ∧ a ≤ 4294967295) : Sy41Neutral.callOf [1, a] = some (.seen a.toNat) := by
  show (Sy41Neutral.all_ (Sy41Neutral.some_ 1 [a])).map _ = _
  rw [some1 ha]
  rfl
theorem call2 {a : Int} (ha : 0 ≤ a ∧ a ≤ 4294967295) : Sy41Neutral.callOf [2, a] = some (.drop a.toNat) := by
  show (Sy41Neutral.all_ (Sy41Neutral.some_ 1 [a])).map _ = _
  rw [some1 ha]
  rfl
theorem call3 : Sy41Neutral.callOf [3] = some .periods := rfl
theorem call4 {a b : Int} (ha : 0 ≤ a ∧ a ≤ 4294967295) (hb : 0 ≤ b ∧ b ≤ 4294967295) : Sy41Neutral.callOf [4, a, b] = some (.fits a.toNat b.toNat) := by
  show (Sy41Neutral.all_ (Sy41Neutral.some_ 2 [a, b])).map _ = _
  rw [some2 ha hb]
  rfl
theorem call5 {a : Int} (ha : 0 ≤ a ∧ a ≤ 4294967295) : Sy41Neutral.callOf [5, a] = some (.could a.toNat) := by
  show (Sy41Neutral.all_ (Sy41Neutral.some_ 1 [a])).map _ = _
  rw [some1 ha]
  rfl
theorem call6 {a b : Int} (ha : 0 ≤ a ∧ a ≤ 4294967295) (hb : 0 ≤ b ∧ b ≤ 4294967295) : Sy41Neutral.callOf [6, a, b] = some (.window a.toNat b.toNat) := by
  show (Sy41Neutral.all_ (Sy41Neutral.some_ 2 [a, b])).map _ = _
  rw [some2 ha hb]
  rfl
theorem call7 {a : Int} (ha : 0 ≤ a ∧ a ≤ 4294967295) : Sy41Neutral.callOf [7, a] = some (.beats a.toNat) := by
  show (Sy41Neutral.all_ (Sy41Neutral.some_ 1 [a])).map _ = _
  rw [some1 ha]
  rfl
theorem call8 {a b d : Int} (ha : 0 ≤ a ∧ a ≤ 4294967295) (hb : 0 ≤ b ∧ b ≤ 4294967295) (hd : 0 ≤ d ∧ d ≤ 4294967295) : Sy41Neutral.callOf [8, a, b, d] = some (.next a.toNat b.toNat d.toNat) := by
  show (Sy41Neutral.all_ (Sy41Neutral.some_ 3 [a, b, d])).map _ = _
  rw [some3 ha hb hd]
  rfl
theorem call9 : Sy41Neutral.callOf [9] = some .alone := rfl
theorem call10 : Sy41Neutral.callOf [10] = some .times := rfl
/-! ### Calls one behind another -/
def after (s : St) : List (List Int) → St
  | [] => s
  | c :: r => after (Sy41Neutral.step s c).1 r
theorem tell_app : ∀ (a b : List (List Int)) (s : St), tellN s (a ++ b) = tellN s a ++ tellN (after s a) b
  | [], b, s => rfl
  | c :: r, b, s => by
    show ((Sy41Neutral.step s c).2.length : Int) :: (Sy41Neutral.step s c).2 ++ tellN (Sy41Neutral.step s c).1 (r ++ b) = (((Sy41Neutral.step s c).2.length : Int) :: (Sy41Neutral.step s c).2 ++ tellN (Sy41Neutral.step s c).1 r) ++ tellN (after (Sy41Neutral.step s c).1 r) b
    rw [tell_app r b, List.append_assoc]
theorem after_app : ∀ (a b : List (List Int)) (s : St), after s (a ++ b) = after (after s a) b
  | [], b, s => rfl
  | c :: r, b, s => after_app r b (Sy41Neutral.step s c).1
/-- how many numbers stand behind each call's own -/
def handed : List Int := [3, 1, 1, 0, 2, 1, 2, 1, 3, 0, 0]
theorem handed_at {c0 : Int} {xs : List Int} (h : Shp (c0 :: xs)) : ∃ j : Nat, c0 = (j : Int) ∧ j ≤ 10 ∧ handed[j]? = some (xs.length : Int) := by
  rcases shp_cases h with ⟨a, b, d, e⟩ | ⟨a, e⟩ | ⟨a, e⟩ | e | ⟨a, b, e⟩ | ⟨a, e⟩ | ⟨a, b, e⟩ | ⟨a, e⟩ | ⟨a, b, d, e⟩ | e | e <;> cases e
  · exact ⟨0, rfl, by decide, rfl⟩
  · exact ⟨1, rfl, by decide, rfl⟩
  · exact ⟨2, rfl, by decide, rfl⟩
  · exact ⟨3, rfl, by decide, rfl⟩
  · exact ⟨4, rfl, by decide, rfl⟩
  · exact ⟨5, rfl, by decide, rfl⟩
  · exact ⟨6, rfl, by decide, rfl⟩
  · exact ⟨7, rfl, by decide, rfl⟩
  · exact ⟨8, rfl, by decide, rfl⟩
  · exact ⟨9, rfl, by decide, rfl⟩
  · exact ⟨10, rfl, by decide, rfl⟩
theorem flat_at {done rest : List (List Int)} {c0 : Int} {xs : List Int} : (done ++ (c0 :: xs) :: rest).flatten[done.flatten.length]? = some c0 := by
  rw [List.flatten_append, List.getElem?_append_right (Nat.le_refl _), Nat.sub_self]
  rfl
theorem flat_cut {done rest : List (List Int)} {c0 : Int} {xs : List Int} : ((done ++ (c0 :: xs) :: rest).flatten.drop (done.flatten.length + 1)).take xs.length = xs := by
  rw [List.flatten_append, List.drop_append, List.drop_eq_nil_of_le (by omega), List.nil_append]
  have e : done.flatten.length + 1 - done.flatten.length = 1 := by omega
  rw [e]
  show (xs ++ rest.flatten).take xs.length = xs
  rw [List.take_left]
theorem shp_ne {c : List Int} (h : Shp c) : ∃ c0 xs, c = c0 :: xs := by
  obtain ⟨p, xs, rfl, _⟩ := h
  exact ⟨p, xs, rfl⟩
end Ev
set_option Elab.async false
namespace Ev
open Sy41
/-! ### The specification's reckoning with fractions, over one denominator -/
theorem fr_def (n d : Int) : fr (n, d) = frac n d.toNat := rfl
/-- a fraction and its lowest terms have one value -/
theorem fr_val {f : FP} (h : 0 < f.2) : ∃ g : Int, 0 < g ∧ f.1 = (fr f).n * g ∧ f.2 = ((fr f).d : Int) * g ∧ 0 < ((fr f).d : Int) := by
  obtain ⟨g, g0, gn, gd, a1, _⟩ := frac_pos (n := f.1) (d := f.2.toNat) (by omega)
  refine ⟨(g : Int), by omega, gn, ?_, by show (0 : Int) < ((frac f.1 f.2.toNat).d : Int); omega⟩
  have h3 : ((f.2.toNat : Nat) : Int) = ((frac f.1 f.2.toNat).d : Int) * (g : Int) := by exact_mod_cast congrArg (fun (z : Nat) => (z : Int)) gd
  rw [Int.toNat_of_nonneg (by omega)] at h3
  exact h3
theorem add_fr {f g : FP} (hf : 0 < f.2) (hg : 0 < g.2) : add (fr f) (fr g) = fr (f.1 * g.2 + g.1 * f.2, f.2 * g.2) := by
  obtain ⟨a, a0, a1, a2, a3⟩ := fr_val hf
  obtain ⟨b, b0, b1, b2, b3⟩ := fr_val hg
  have e : add (fr f) (fr g) = fr ((fr f).n * ((fr g).d : Int) + (fr g).n * ((fr f).d : Int), ((fr f).d : Int) * ((fr g).d : Int)) := by
    rw [fr_def]
    unfold add
    congr 1
  rw [e]
  refine fr_eq (Int.mul_pos a3 b3) (Int.mul_pos hf hg) ?_
  dsimp only
  generalize fr f = x at *
  generalize fr g = y at *
  rw [a1, a2, b1, b2]
  grind
theorem times_fr {k : Int} {f : FP} (hf : 0 < f.2) : Sy41.times k (fr f) = fr (k * f.1, f.2) := by
  obtain ⟨a, a0, a1, a2, a3⟩ := fr_val hf
  have e : Sy41.times k (fr f) = fr (k * (fr f).n, ((fr f).d : Int)) := rfl
  rw [e]
  refine fr_eq a3 hf ?_
  dsimp only
  generalize fr f = x at *
  rw [a1, a2]
  grind
theorem whole_fr (z : Int) : whole z = fr (z, 1) := (fr_whole z).symm
/-- with one denominator -/
theorem add_one {a z d : Int} (hd : 0 < d) : add (fr (a, d)) (whole z) = fr (a + z * d, d) := by
  rw [whole_fr, add_fr hd Int.one_pos]
  refine fr_eq (by dsimp only; omega) hd ?_
  dsimp only
  grind
theorem one_add {a z d : Int} (hd : 0 < d) : add (whole z) (fr (a, d)) = fr (z * d + a, d) := by
  rw [whole_fr, add_fr Int.one_pos hd]
  refine fr_eq (by dsimp only; omega) hd ?_
  dsimp only
  grind
theorem add_same {a b d : Int} (hd : 0 < d) : add (fr (a, d)) (fr (b, d)) = fr (a + b, d) := by
  rw [add_fr hd hd]
  refine fr_eq (Int.mul_pos hd hd) hd ?_
  dsimp only
  grind
theorem le_one {a b d : Int} (hd : 0 < d) : le (a, d) (b, d) ↔ a ≤ b := by
  unfold le
  exact Int.mul_le_mul_right hd
theorem greatest_one {a b d : Int} (hd : 0 < d) : greatest (fr (a, d)) (fr (b, d)) = fr (max a b, d) := by
  unfold greatest
  rw [fr_le hd hd]
  by_cases h : a ≤ b
  · rw [if_pos (decide_eq_true ((le_one hd).mpr h)), Int.max_eq_right h]
  · rw [if_neg (fun q => h ((le_one hd).mp (of_decide_eq_true q))), Int.max_eq_left (by omega)]
theorem least_one {a b d : Int} (hd : 0 < d) : least (fr (a, d)) (fr (b, d)) = fr (min a b, d) := by
  unfold least
  rw [fr_le hd hd]
  by_cases h : a ≤ b
  · rw [if_pos (decide_eq_true ((le_one hd).mpr h)), Int.min_eq_left h]
  · rw [if_neg (fun q => h ((le_one hd).mp (of_decide_eq_true q))), Int.min_eq_right (by omega)]
theorem fold_greatest {d : Int} (hd : 0 < d) : ∀ (r : List Int) (a : Int), (r.map fun z => fr (z, d)).foldl greatest (fr (a, d)) = fr (r.foldl max a, d)
  | [], a => rfl
  | z :: r, a => by
    rw [List.map_cons, List.foldl_cons, List.foldl_cons, greatest_one hd]
    exact fold_greatest hd r (max a z)
theorem fold_least {d : Int} (hd : 0 < d) : ∀ (r : List Int) (a : Int), (r.map fun z => fr (z, d)).foldl least (fr (a, d)) = fr (r.foldl min a, d)
  | [], a => rfl
  | z :: r, a => by
    rw [List.map_cons, List.foldl_cons, List.foldl_cons, least_one hd]
    exact fold_least hd r (min a z)
/-- where each time would set the beat 0, all over one denominator -/
def starts (ts : List Nat) (row : List Int) (f : FP) : List Int := (ts.zip row).map fun (y : Nat × Int) => (y.1 : Int) * f.2 - y.2 * f.1
theorem window_is {s : St} {f : FP} {x : Stretch} (hf : 0 < f.2) {a : Int} {r : List Int} (h : starts s.times x.beats f = a :: r) :
    window s (fr f) x = (fr (r.foldl max a - (s.off : Int) * f.2, f.2), fr (r.foldl min a + (s.off : Int) * f.2, f.2)) := by
  have e : ((s.times.zip x.beats).map fun (y : Nat × Int) => add (whole (y.1 : Nat)) (Sy41.times (-y.2) (fr f))) = (a :: r).map fun z => fr (z, f.2) := by
    rw [← h]
    unfold starts
    rw [List.map_map]
    refine List.map_congr_left fun y _ => ?_
    show add (whole (y.1 : Nat)) (Sy41.times (-y.2) (fr f)) = fr ((y.1 : Int) * f.2 - y.2 * f.1, f.2)
    rw [times_fr hf, one_add hf]
    congr 2
    rw [Int.neg_mul]
    omega
  unfold window
  rw [e, List.map_cons]
  dsimp only
  rw [fold_greatest hf, fold_least hf, add_one hf, add_one hf]
  congr 3
  rw [Int.neg_mul]
  omega
/-- the beat that's looked for -/
def nextN (w2 : Int) (f : FP) (t : Nat) : Int := -((-((t : Int) * f.2 - w2)) / f.1)
theorem next_is {s : St} {f : FP} {x : Stretch} (hf : 0 < f.2) (hf1 : 0 < f.1) {w1 w2 : Int} {t : Nat} (h : window s (fr f) x = (fr (w1, f.2), fr (w2, f.2))) :
    nextOf s (fr f) x t = (fr (w1 + nextN w2 f t * f.1, f.2), fr (w2 + nextN w2 f t * f.1, f.2)) := by
  unfold nextOf
  rw [h]
  dsimp only
  have e1 : add (whole (t : Nat)) (Sy41.times (-1) (fr (w2, f.2))) = fr ((t : Int) * f.2 - w2, f.2) := by
    rw [times_fr (f := (w2, f.2)) hf, one_add hf]
    congr 2
    dsimp only
    omega
  rw [e1]
  have e2 : up (frac ((fr ((t : Int) * f.2 - w2, f.2)).n * ((fr f).d : Int)) ((fr ((t : Int) * f.2 - w2, f.2)).d * (fr f).n.toNat)) = nextN w2 f t := by
    have hp := fr_n_pos hf1 hf
    obtain ⟨g, g0, h1, h2, h3⟩ := fr_val (f := ((t : Int) * f.2 - w2, f.2)) hf
    obtain ⟨k, k0, k1, k2, k3⟩ := fr_val (f := f) hf
    dsimp only at h1 h2
    generalize fr ((t : Int) * f.2 - w2, f.2) = u at *
    have hpos : 0 < u.d * (fr f).n.toNat := Nat.mul_pos (by omega) (by omega)
    rw [up_frac hpos]
    unfold nextN
    rw [h1]
    generalize hF : fr f = v at *
    have e3 : ((u.d * v.n.toNat : Nat) : Int) = (u.d : Int) * v.n := by
      rw [Int.natCast_mul, Int.toNat_of_nonneg (by omega)]
    rw [e3]
    -- u.n / u.d over v.n / v.d is u.n * g over f.1, as u.d * g is v.d * k
    have e4 : (-(u.n * g)) / f.1 = (-(u.n * (v.d : Int))) / ((u.d : Int) * v.n) := by
      have m1 : (-(u.n * (v.d : Int))) * k = (-(u.n * g)) * (u.d : Int) := by
        have : (v.d : Int) * k = (u.d : Int) * g := by rw [← k2, ← h2]
        grind
      have m2 : ((u.d : Int) * v.n) * k = f.1 * (u.d : Int) := by
        rw [k1]
        grind
      rw [← Int.mul_ediv_mul_of_pos_left (-(u.n * g)) f.1 h3, ← m1, ← m2, Int.mul_ediv_mul_of_pos_left _ _ k0]
    rw [e4]
  rw [e2, times_fr hf, add_same hf, add_same hf]

/-! ### The stretch of a period -/
theorem find_map {α β : Type} (g : α → β) (p : β → Bool) (q : α → Bool) : ∀ {l : List α}, (∀ x ∈ l, p (g x) = q x) → (l.map g).find? p = (l.find? q).map g
  | [], _ => rfl
  | x :: l, h => by
    rw [List.map_cons, List.find?_cons, List.find?_cons, h x (List.Mem.head _)]
    cases q x with
    | true => rfl
    | false => exact find_map g p q fun y hy => h y (List.Mem.tail _ hy)
theorem of_is {s : St} (k : Ok s) {f : FP} (hf : 0 < f.2) : of_ s (fr f) = ((foundOf s).find? fun x => holdsB x f).map toSpec := by
  unfold of_
  rw [← found_is k]
  refine find_map toSpec _ _ fun x hx => ?_
  have fx := found_fit k x hx
  show (atMost (fr x.a) (fr f) && atMost (fr f) (fr x.b)) = holdsB x f
  rw [fr_le fx.sa.2.2.1 hf, fr_le hf fx.sb.2.2.1]
  unfold holdsB
  congr 1
  · by_cases c : le x.a f
    · rw [decide_eq_true c, isLess_iff_not.mpr c]
      rfl
    · rw [decide_eq_false c, isLess_iff.mpr (Int.not_le.mp c)]
      rfl
  · by_cases c : le f x.b
    · rw [decide_eq_true c, isLess_iff_not.mpr c]
      rfl
    · rw [decide_eq_false c, isLess_iff.mpr (Int.not_le.mp c)]
      rfl
end Ev
set_option Elab.async false
set_option maxRecDepth 100000
set_option maxHeartbeats 2000000
/-! ### Two words that the layer lacks -/
namespace PySem
open PySem.AutoSeq1
/-- what extend does of a list and a tuple, whatever else the tuple's object bears -/
theorem ev_extend_tup (l b : Addr) (us ws : Array Value) (n m : Nat) (dc : Option Addr) (sl : Array (Option Value)) (room : ¬(!us.isEmpty && Builtin.List.listTooLong (us.size + ws.size)) = true) (z1 : us.size ≤ sizeLine) (z2 : us.size + ws.size ≤ sizeLine + 1) :
    Meets (Builtin.«list.extend» ⟨[.ref l, .ref b], []⟩) (fun _ R s => s.heap.get? l = some { cls := .type "list", dict := none, data := .seq us n, slots := #[] } ∧ s.heap.get? b = some { cls := .type "tuple", dict := dc, data := .seq ws m, slots := sl } ∧
      R (.ok (.ret Value.none)) { s with heap := s.heap.update l (Obj.mapSeq fun x => x ++ ws), toks := s.toks }) := by
  refine .of_wp fun P W A R s hyp => ?_
  obtain ⟨hp, gs, dr, tk, os⟩ := s
  obtain ⟨eL, eT, goal⟩ := hyp
  have k1 := idx_int
  have k2 := sub_tuple_tuple
  have k3 := sub_list_list
  have k4 := sub_tuple_list
  have k5 := sub_list_tuple
  have fits : (us ++ ws).size ≤ sizeLine + 1 := Array.size_append ▸ z2
  wp_walk using (wpAny_updateSeq eL rfl (hz := z1) (_hz' := fits)), wpAny_loadPart' eL, wpAny_loadPart' eT
  exact ⟨_, rfl, goal⟩
end PySem
namespace Ev
open PySem PySem.Spec PyProof.Rows L2
/-- xs.extend(t), t a tuple -/
def rExtendT : V → List V → Hp → VK → Prop := fun x vs H Q => ∃ (o t : Addr) (as bs : List V), x = .ref o ∧ vs = [.ref t] ∧ H o = some (.lst as) ∧ H t = some (.tup bs) ∧ as.length + bs.length ≤ sizeLine ∧ Q .non (upd H o (.lst (as ++ bs)))
theorem mt_extendT {X : Cx} : MtM X "list.extend" rExtendT := by
  intro _ st _ H _ _ _ args _ I relX relA want
  obtain ⟨o, t, as, bs, rfl, rfl, atO, atT, len, rest⟩ := want
  cases relX
  obtain ⟨tv, rfl, relT⟩ := relA.one
  cases relT
  obtain ⟨_, us, n, valsO, lenO, objO⟩ := I.lstM atO
  obtain ⟨ws, valsT, isT, _⟩ := I.tuple (SqT.of atT)
  have lenT := valsT.length
  obtain ⟨⟨cls, dc, data, sl⟩, objT, eC, m, eD⟩ := id isT
  dsimp only at eC eD
  subst eC eD
  have both : us.toArray.size + ws.toArray.size ≤ sizeLine := by
    simp only [List.size_toArray]
    omega
  have room : ¬ (!us.toArray.isEmpty && Builtin.List.listTooLong (us.toArray.size + ws.toArray.size)) = true := fun q => by
    have := notLongL both
    simp_all
  have one : us.toArray.size ≤ sizeLine := Nat.le_trans (Nat.le_add_right _ _) both
  have step := ev_extend_tup o t us.toArray ws.toArray n m dc sl room one (Nat.le_succ_of_le both)
  refine call_meets F.slot_list_extend ⟨_, objO, rfl⟩ F.entry_list_extend (F.args_list_extend_2 _ _) step ⟨objO, objT, .non, _, I.lset (its' := us ++ ws) atO objO (by simp) (valsO.append valsT) ?_, rfl, rest⟩
  simpa using len
/-- list(range(a, b, c)) -/
def tLstRg3 (ta : TA) : TE := fun σ H Q => ta σ H fun vs H1 => ∃ (i j c : Int) (n : Nat), vs = [.int i, .int j, .int c] ∧ RgC i j c n ∧ n ≤ 2 ^ 24 ∧ ∀ q, H1 q = none → Q (.ref q) (upd H1 q (.lst ((List.range n).map fun k => V.int (i + (k : Nat) * c))))
theorem vals_rgC {a c : Int} {n : Nat} {acc : Array Value} (items : ItemsOf (fun i v => ∃ t, v = .int (a + i * c) t) acc n) : Vals ((List.range n).map fun k => V.int (a + (k : Nat) * c)) acc.toList := by
  have size : acc.toList.length = n := by
    rw [Array.length_toList]
    exact items.1
  have each : ∀ j v, acc.toList[j]? = some v → RelV (V.int (a + (j : Nat) * c)) v := fun j v at_ => by
    obtain ⟨tok, ev⟩ := items.2 j v (Array.getElem?_toList ▸ at_)
    exact ⟨tok, ev⟩
  have all := vals_of_get acc.toList (fun k => V.int (a + (k : Nat) * c)) each
  rw [size] at all
  exact all
theorem pe_listRg3 {X : Cx} {a b c : Expr} {ta : TA} {p p2 pos pos2 : Pos} (hc : X.calm = true) (hg : Gl X "list") (hm : X.mg "list" = none) (hg2 : Gl X "range") (hm2 : X.mg "range" = none) (ha : PA X [a, b, c] ta)
    (na : starEach [Expr.Call (.Name "range" p2) [a, b, c] [] pos2] X.env = (false, eval (Expr.Call (.Name "range" p2) [a, b, c] [] pos2) X.env) :: starEach [] X.env := by rfl)
    (hs : starEach [a, b, c] X.env = (false, eval a X.env) :: starEach [b, c] X.env := by rfl) (hpl : (backTo pos2 (starEach [b, c] X.env)).any (·.1) = false := by rfl) :
    PE X (.Call (.Name "list" p) [.Call (.Name "range" p2) [a, b, c] [] pos2] [] pos) (tLstRg3 ta) := .mk fun pins st σ H Q I want => by
  refine Call_ (ld_blt I hg hm boot_list (PyProof.Rows.callWith_type1 (args_cons ?_ na) na))
  refine Call_ (ld_blt I hg2 hm2 boot_range (PyProof.Rows.callWith_type1 (thn (ha.run pos2 pins st σ H _ I want) fun us s1 got => ?_) hs hpl))
  obtain ⟨vs, H1, I1, rel, i, j, k, n, evs, ⟨g0, g1, g2, g3⟩, few, rest⟩ := got
  subst evs
  match us, rel with
  | [_, _, _], .cons ⟨t1, e1⟩ (.cons ⟨t2, e2⟩ (.cons ⟨t3, e3⟩ .nil)) =>
    subst e1 e2 e3
    refine call_range_3 g0 (args_nil ?_) (.inl (PyProof.noPylong_small g1))
    let rangeObj : Obj := { cls := .type "range", data := .fields #[.int i t1, .int j t2, .int k t3] }
    have I2 : Inv X pins σ H1 { s1 with heap := s1.heap.push rangeObj, toks := s1.toks } := I1.kept fun _ _ e => Heap.get?_push_of_some _ e
    refine call_list_range (n := n) (I2.ok.hd hc) (IsRange.new ..) g2 g3 few fun h' tk acc cap keep objL items => ?_
    have new : ObjOk X.prog X.w (upd H1 (s1.heap.push rangeObj).objs.size (.lst ((List.range n).map fun z => V.int (i + (z : Nat) * k)))) h' (s1.heap.push rangeObj).objs.size (.lst ((List.range n).map fun z => V.int (i + (z : Nat) * k))) := by
      refine ⟨?_, acc.toList, cap, vals_rgC items, ?_⟩
      · rw [List.length_map, List.length_range, sizeLine_eq]
        omega
      · simpa using objL
    exact ⟨.ref _, _, I2.laid keep (Nat.le_refl _) new, rfl, rest _ (I2.hok.fresh (Nat.le_refl _))⟩
end Ev
set_option Elab.async false
set_option maxRecDepth 100000
set_option maxHeartbeats 2000000
namespace Ev
open PySem PySem.Spec PyProof.Rows L2
/-! ### The text -/
def topS (i : Nat) : Stmt := PySem.Challenge.pw_evenbeats_s01_answers.main.body.getD i (.Pass ⟨0, 0, 0, 0⟩)
abbrev sGcd : Stmt := topS 1
abbrev sLow : Stmt := topS 2
abbrev sLess : Stmt := topS 3
abbrev sGreater : Stmt := topS 4
abbrev sLesser : Stmt := topS 5
abbrev sDown : Stmt := topS 6
abbrev sUp : Stmt := topS 7
theorem scGcd : FnScope ["first", "second", "rest"] ["first", "second"] (defScope sGcd) := ⟨rfl, rfl, rfl, by decide +kernel, rfl, by decide +kernel, by decide +kernel⟩
theorem scLow : FnScope ["fraction", "divisor"] ["fraction"] (defScope sLow) := ⟨rfl, rfl, rfl, by decide +kernel, rfl, by decide +kernel, by decide +kernel⟩
theorem scLess : FnScope ["one", "other"] ["one", "other"] (defScope sLess) := ⟨rfl, rfl, rfl, by decide +kernel, rfl, by decide +kernel, by decide +kernel⟩
theorem scGreater : FnScope ["one", "other"] ["one", "other"] (defScope sGreater) := ⟨rfl, rfl, rfl, by decide +kernel, rfl, by decide +kernel, by decide +kernel⟩
theorem scLesser : FnScope ["one", "other"] ["one", "other"] (defScope sLesser) := ⟨rfl, rfl, rfl, by decide +kernel, rfl, by decide +kernel, by decide +kernel⟩
theorem scDown : FnScope ["number", "fraction"] ["number", "fraction"] (defScope sDown) := ⟨rfl, rfl, rfl, by decide +kernel, rfl, by decide +kernel, by decide +kernel⟩
theorem scUp : FnScope ["number", "fraction"] ["number", "fraction"] (defScope sUp) := ⟨rfl, rfl, rfl, by decide +kernel, rfl, by decide +kernel, by decide +kernel⟩

/-! ### The heap -/
/-- a fraction: a tuple of two -/
def FrAt (H : Hp) (p : Addr) (f : FP) : Prop := H p = some (.tup [.int f.1, .int f.2])
theorem FrAt.t {K : PySem.W.Frag} {H : Hp} {p : Addr} {f : FP} (h : FrAt H p f) : SqT K H p [.int f.1, .int f.2] := SqT.of h
theorem at0 {x y : V} : atI [x, y] 0 = some x := rfl
theorem at1 {x y : V} : atI [x, y] 1 = some y := rfl
theorem same_upd {H : Hp} {p : Addr} {o : HO} (h : H p = none) : Same H (upd H p o) := fun b x e => by
  rw [upd_ne (ne_of_none e h)]
  exact e
theorem Sm.b1 {x : FP} (h : Sm x) : -(2 ^ 64) ≤ x.1 ∧ x.1 < 2 ^ 64 := by
  obtain ⟨h1, h2, h3, h4⟩ := h
  omega
theorem Sm.c1 {x : FP} (h : Sm x) : -(2 ^ 64) < x.1 ∧ x.1 < 2 ^ 64 := by
  obtain ⟨h1, h2, h3, h4⟩ := h
  omega

section
variable {P : Program} {w : World} {K : PySem.W.Frag} {mg : Str → Option Value} {base : Heap}
/-! ### is_less -/
def spLess : Sp := fun vs H Q _ => ∃ (p q : Addr) (f g : FP), vs = [.ref p, .ref q] ∧ FrAt H p f ∧ FrAt H q g ∧ Sm f ∧ Sm g ∧ Q (.bl (isLess f g)) H
theorem ok_less {f : Addr} {fd : FuncData} (F : Fun K "is_less" "is_less" sLess f fd) : FnOk P w K mg base CX0 1 f fd ["one", "other"] spLess := by
  refine F.ok scLess (fun vs H Q E h => ?_) (fun cdv A outer s H vs Q E hr h => ?_)
  · obtain ⟨p, q, f, g, rfl, _⟩ := h
    rfl
  · obtain ⟨p, q, f, g, rfl, hf, hg, sf, sg, k⟩ := h
    refine ⟨_, pss_one (ps_ret (pe_cmpR op_lt (pe_op op_mul (pe_ix ix_tup (pv 0) pe_int (fun _ _ => rfl)) (pe_ix ix_tup (pv 1) pe_int (fun _ _ => rfl)))
      (pe_op op_mul (pe_ix ix_tup (pv 1) pe_int (fun _ _ => rfl)) (pe_ix ix_tup (pv 0) pe_int (fun _ _ => rfl))) (nomark _))), ?_⟩
    refine ⟨_, rfl, p, _, _, _, rfl, rfl, hf.t, at0, _, rfl, q, _, _, _, rfl, rfl, hg.t, at1, _, _, rfl, rfl, .inl sf.c1, ?_⟩
    refine ⟨_, rfl, q, _, _, _, rfl, rfl, hg.t, at0, _, rfl, p, _, _, _, rfl, rfl, hf.t, at1, _, _, rfl, rfl, .inl sg.c1, ?_⟩
    exact ⟨_, _, rfl, rfl, k⟩
/-! ### greater, lesser -/
def spPick (h : FP → FP → FP) : Sp := fun vs H Q _ => ∃ (p q : Addr) (f g : FP), vs = [.ref p, .ref q] ∧ FrAt H p f ∧ FrAt H q g ∧ Sm f ∧ Sm g ∧ ∀ r, FrAt H r (h f g) → Q (.ref r) H
theorem ok_greater {f f1 : Addr} {fd fd1 : FuncData} (F : Fun K "greater" "greater" sGreater f fd) (F1 : Fun K "is_less" "is_less" sLess f1 fd1) (b1 : Binds K fd1 ["one", "other"] []) (g1 : mg "is_less" = some (.ref f1)) :
    FnOk P w K mg base CX0 2 f fd ["one", "other"] (spPick greater) := by
  have G1 : FnOk P w K mg base CX0 1 f1 fd1 ["one", "other"] spLess := ok_less F1
  refine F.ok scGreater (fun vs H Q E h => ?_) (fun cdv A outer s H vs Q E hr h => ?_)
  · obtain ⟨p, q, f, g, rfl, _⟩ := h
    rfl
  · obtain ⟨p, q, f, g, rfl, hf, hg, sf, sg, k⟩ := h
    refine ⟨_, pss_cons (ps_if (pt_val (pe_call G1 hr (by rfl) g1 F1.kp b1 .nil pass0 (pa_cons (pv 0) (pa_cons (pv 1) pa_nil)))) (pss_one (ps_ret (pv 1))) pss_nil)
      (pss_one (ps_ret (pv 0))), ?_⟩
    refine ⟨_, rfl, _, rfl, p, q, f, g, rfl, hf, hg, sf, sg, _, rfl, ?_⟩
    refine ite2 (fun c => ?_) (fun c => ?_)
    · refine ⟨_, rfl, k q ?_⟩
      unfold greater
      rw [if_pos c]
      exact hg
    · refine ⟨_, rfl, k p ?_⟩
      unfold greater
      rw [if_neg c]
      exact hf
theorem ok_lesser {f f1 : Addr} {fd fd1 : FuncData} (F : Fun K "lesser" "lesser" sLesser f fd) (F1 : Fun K "is_less" "is_less" sLess f1 fd1) (b1 : Binds K fd1 ["one", "other"] []) (g1 : mg "is_less" = some (.ref f1)) :
    FnOk P w K mg base CX0 2 f fd ["one", "other"] (spPick lesser) := by
  have G1 : FnOk P w K mg base CX0 1 f1 fd1 ["one", "other"] spLess := ok_less F1
  refine F.ok scLesser (fun vs H Q E h => ?_) (fun cdv A outer s H vs Q E hr h => ?_)
  · obtain ⟨p, q, f, g, rfl, _⟩ := h
    rfl
  · obtain ⟨p, q, f, g, rfl, hf, hg, sf, sg, k⟩ := h
    refine ⟨_, pss_cons (ps_if (pt_val (pe_call G1 hr (by rfl) g1 F1.kp b1 .nil pass0 (pa_cons (pv 1) (pa_cons (pv 0) pa_nil)))) (pss_one (ps_ret (pv 1))) pss_nil)
      (pss_one (ps_ret (pv 0))), ?_⟩
    refine ⟨_, rfl, _, rfl, q, p, g, f, rfl, hg, hf, sg, sf, _, rfl, ?_⟩
    refine ite2 (fun c => ?_) (fun c => ?_)
    · refine ⟨_, rfl, k q ?_⟩
      unfold lesser
      rw [if_pos c]
      exact hg
    · refine ⟨_, rfl, k p ?_⟩
      unfold lesser
      rw [if_neg c]
      exact hf
/-! ### divided_down, divided_up -/
def spDiv (h : Int → FP → Int) : Sp := fun vs H Q _ => ∃ (n : Int) (q : Addr) (g : FP), vs = [.int n, .ref q] ∧ FrAt H q g ∧ Sm g ∧ 0 < g.1 ∧ (-1000000 ≤ n ∧ n ≤ 1000000) ∧ Q (.int (h n g)) H
theorem ok_down {f : Addr} {fd : FuncData} (F : Fun K "divided_down" "divided_down" sDown f fd) : FnOk P w K mg base CX0 1 f fd ["number", "fraction"] (spDiv dDown) := by
  refine F.ok scDown (fun vs H Q E h => ?_) (fun cdv A outer s H vs Q E hr h => ?_)
  · obtain ⟨n, q, g, rfl, _⟩ := h
    rfl
  · obtain ⟨n, q, g, rfl, hg, sg, g0, hn, k⟩ := h
    refine ⟨_, pss_one (ps_ret (pe_op op_fdiv (pe_op op_mul (pv 0) (pe_ix ix_tup (pv 1) pe_int (fun _ _ => rfl))) (pe_ix ix_tup (pv 1) pe_int (fun _ _ => rfl)))), ?_⟩
    refine ⟨_, rfl, _, rfl, q, _, _, _, rfl, rfl, hg.t, at1, _, _, rfl, rfl, .inl ⟨by omega, by omega⟩, ?_⟩
    exact ⟨_, rfl, q, _, _, _, rfl, rfl, hg.t, at0, _, _, rfl, rfl, ⟨g0, by have := sg.2.1; show g.1 < 1073741824; omega⟩, k⟩
theorem ok_up {f : Addr} {fd : FuncData} (F : Fun K "divided_up" "divided_up" sUp f fd) : FnOk P w K mg base CX0 1 f fd ["number", "fraction"] (spDiv dUp) := by
  refine F.ok scUp (fun vs H Q E h => ?_) (fun cdv A outer s H vs Q E hr h => ?_)
  · obtain ⟨n, q, g, rfl, _⟩ := h
    rfl
  · obtain ⟨n, q, g, rfl, hg, sg, g0, hn, k⟩ := h
    refine ⟨_, pss_one (ps_ret (pe_un un_neg (pe_op op_fdiv (pe_op op_mul (pe_un un_neg (pv 0)) (pe_ix ix_tup (pv 1) pe_int (fun _ _ => rfl))) (pe_ix ix_tup (pv 1) pe_int (fun _ _ => rfl))))), ?_⟩
    refine ⟨_, rfl, _, rfl, _, rfl, q, _, _, _, rfl, rfl, hg.t, at1, _, _, rfl, rfl, .inl ⟨by omega, by omega⟩, ?_⟩
    exact ⟨_, rfl, q, _, _, _, rfl, rfl, hg.t, at0, _, _, rfl, rfl, ⟨g0, by have := sg.2.1; show g.1 < 1073741824; omega⟩, _, rfl, k⟩
/-! ### greatest_divisor, lowest_terms -/
def gcdI (a b : Int) : Int := (Int.gcd a b : Nat)
theorem gcdI_step {a b : Int} : gcdI b (a % b) = gcdI a b := by
  unfold gcdI
  congr 1
  refine Nat.dvd_antisymm ?_ ?_
  · refine Int.natCast_dvd_natCast.mp (Int.dvd_coe_gcd ?_ (Int.gcd_dvd_left ..))
    have h1 : ((Int.gcd b (a % b) : Nat) : Int) ∣ b := Int.gcd_dvd_left ..
    have h2 : ((Int.gcd b (a % b) : Nat) : Int) ∣ a % b := Int.gcd_dvd_right ..
    have h3 := Int.dvd_add h2 (Int.dvd_mul_of_dvd_left (c := a / b) h1)
    rwa [Int.emod_add_mul_ediv] at h3
  · refine Int.natCast_dvd_natCast.mp (Int.dvd_coe_gcd (Int.gcd_dvd_right ..) ?_)
    have h1 : ((Int.gcd a b : Nat) : Int) ∣ a := Int.gcd_dvd_left ..
    have h2 : ((Int.gcd a b : Nat) : Int) ∣ b := Int.gcd_dvd_right ..
    have h3 := Int.dvd_sub h1 (Int.dvd_mul_of_dvd_left (c := a / b) h2)
    rwa [← Int.emod_def] at h3
theorem gcdI_zero {a : Int} (ha : 0 ≤ a) : gcdI a 0 = a := by
  unfold gcdI
  rw [Int.gcd_zero]
  omega
def spGcd : Sp := fun vs H Q _ => ∃ (a b : Int), vs = [.int a, .int b] ∧ 0 < b ∧ Q (.int (gcdI a b)) H
theorem ok_gcd {f : Addr} {fd : FuncData} (F : Fun K "greatest_divisor" "greatest_divisor" sGcd f fd) : FnOk P w K mg base CX0 1 f fd ["first", "second"] spGcd := by
  refine F.ok scGcd (fun vs H Q E h => ?_) (fun cdv A outer s H vs Q E hr h => ?_)
  · obtain ⟨a, b, rfl, _⟩ := h
    rfl
  · obtain ⟨a, b, rfl, hb, k⟩ := h
    refine ⟨_, pss_cons (ps_while PassesOwn.never (pt_cmpR op_gt (pv 1) pe_int (nomark _))
        (pss_cons (ps_set (i := 2) scGcd.nd rfl (.inl rfl) (pe_op op_mod (pv 0) (pv 1)))
        (pss_cons (ps_set (i := 0) scGcd.nd rfl (.inl rfl) (pv 1))
        (pss_one (ps_set (i := 1) scGcd.nd rfl (.inl rfl) (pv 2))))))
      (pss_one (ps_ret (pv 0))), ?_⟩
    refine while_by (fun σ H' => ∃ x y v, σ = [some (.int x), some (.int y), v] ∧ H' = H ∧ (0 ≤ x ∨ 0 < y) ∧ 0 ≤ y ∧ gcdI x y = gcdI a b) (fun σ _ => match σ with | [_, some (.int y), _] => y.toNat | _ => 0) ⟨a, b, none, rfl, rfl, .inr hb, Int.le_of_lt hb, rfl⟩ ?_ ?_
    · rintro σ H' ⟨x, y, v, rfl, rfl, hx, hy, e⟩
      refine ⟨_, rfl, _, _, rfl, rfl, _, rfl, ?_⟩
      refine ite2 (fun c => ?_) (fun c => ?_)
      · have c : 0 < y := of_decide_eq_true c
        refine ⟨_, rfl, _, rfl, _, _, rfl, rfl, c, ?_⟩
        refine ⟨_, rfl, _, rfl, ?_⟩
        have h1 : 0 ≤ x % y := Int.emod_nonneg _ (by omega)
        have h2 : x % y < y := Int.emod_lt_of_pos _ c
        refine ⟨⟨y, x % y, some (.int (x % y)), rfl, rfl, .inl hy, h1, gcdI_step.trans e⟩, ?_⟩
        show (x % y).toNat < y.toNat
        omega
      · have c : y = 0 := by
          have : ¬ 0 < y := fun q => c (decide_eq_true q)
          omega
        subst c
        refine ⟨_, rfl, ?_⟩
        have hx : 0 ≤ x := by omega
        rw [gcdI_zero hx] at e
        rw [e]
        exact k
    · rintro σ H' Q Q' hQ ⟨v, e1, i, j, e2, e3, k', e4, h⟩
      exact ⟨v, e1, i, j, e2, e3, k', e4, hQ _ _ h⟩
/-- the least numbers of a fraction -/
def lowP (f : FP) : FP := (f.1 / gcdI f.1 f.2, f.2 / gcdI f.1 f.2)
def spLow : Sp := fun vs H Q _ => ∃ (p : Addr) (f : FP), vs = [.ref p] ∧ FrAt H p f ∧ (0 < f.2 ∧ f.2 ≤ 1000000) ∧ ∀ r, H r = none → Q (.ref r) (upd H r (.tup [.int (lowP f).1, .int (lowP f).2]))
theorem gcdI_bd {f : FP} (h : 0 < f.2 ∧ f.2 ≤ 1000000) : 0 < gcdI f.1 f.2 ∧ gcdI f.1 f.2 < 1073741824 := by
  have a1 : 0 < Int.gcd f.1 f.2 := Nat.gcd_pos_of_pos_right _ (by omega)
  have a2 : Int.gcd f.1 f.2 ≤ f.2.natAbs := Nat.gcd_le_right _ (by omega)
  unfold gcdI
  omega
theorem ok_low {f f1 : Addr} {fd fd1 : FuncData} (F : Fun K "lowest_terms" "lowest_terms" sLow f fd) (F1 : Fun K "greatest_divisor" "greatest_divisor" sGcd f1 fd1) (b1 : Binds K fd1 ["first", "second"] []) (g1 : mg "greatest_divisor" = some (.ref f1)) :
    FnOk P w K mg base CX0 2 f fd ["fraction"] spLow := by
  have G1 : FnOk P w K mg base CX0 1 f1 fd1 ["first", "second"] spGcd := ok_gcd F1
  refine F.ok scLow (fun vs H Q E h => ?_) (fun cdv A outer s H vs Q E hr h => ?_)
  · obtain ⟨p, f, rfl, _⟩ := h
    rfl
  · obtain ⟨p, f, rfl, hf, sf, k⟩ := h
    refine ⟨_, pss_cons (ps_set (i := 1) scLow.nd rfl (.inl rfl) (pe_call G1 hr (by rfl) g1 F1.kp b1 .nil pass0 (pa_cons (pe_ix ix_tup (pv 0) pe_int (fun _ _ => rfl)) (pa_cons (pe_ix ix_tup (pv 0) pe_int (fun _ _ => rfl)) pa_nil))))
      (pss_one (ps_ret (pe_tup (pa_cons (pe_op op_fdiv (pe_ix ix_tup (pv 0) pe_int (fun _ _ => rfl)) (pv 1)) (pa_cons (pe_op op_fdiv (pe_ix ix_tup (pv 0) pe_int (fun _ _ => rfl)) (pv 1)) pa_nil))))), ?_⟩
    refine ⟨_, rfl, p, _, _, _, rfl, rfl, hf.t, at0, _, rfl, p, _, _, _, rfl, rfl, hf.t, at1, f.1, f.2, rfl, sf.1, ?_⟩
    refine ⟨_, rfl, p, _, _, _, rfl, rfl, hf.t, at0, _, rfl, _, _, rfl, rfl, gcdI_bd sf, ?_⟩
    refine ⟨_, rfl, p, _, _, _, rfl, rfl, hf.t, at1, _, rfl, _, _, rfl, rfl, gcdI_bd sf, ?_⟩
    exact ⟨by show 2 ≤ sizeLine; decide, fun r hr => k r hr⟩
end
end Ev
set_option Elab.async false
set_option maxRecDepth 100000
set_option maxHeartbeats 2000000
namespace Ev
open PySem PySem.Spec PyProof.Rows L2
/-! ### The text -/
abbrev cStr : Stmt := topS 9
abbrev sInitS : Stmt := inClass cStr 0
abbrev sHolds : Stmt := inClass cStr 1
abbrev sTry : Stmt := topS 10
abbrev sNar : Stmt := topS 11
abbrev sParts : Stmt := topS 12
abbrev sFind : Stmt := topS 13
theorem scInitS : FnScope ["self", "shortest", "longest", "row"] ["self", "shortest", "longest", "row"] (defScope sInitS) := ⟨rfl, rfl, rfl, by decide +kernel, rfl, by decide +kernel, by decide +kernel⟩
theorem scHolds : FnScope ["self", "period"] ["self", "period"] (defScope sHolds) := ⟨rfl, rfl, rfl, by decide +kernel, rfl, by decide +kernel, by decide +kernel⟩
theorem scTry : FnScope ["stretch", "times", "time", "slack", "apart", "most", "least"] ["stretch", "times", "time", "slack"] (defScope sTry) := ⟨rfl, rfl, rfl, by decide +kernel, rfl, by decide +kernel, by decide +kernel⟩
theorem scNar : FnScope ["stretch", "times", "time", "beat", "slack", "shortest", "longest", "earlier", "earlier_beat", "apart", "periods_between"] ["stretch", "times", "time", "beat", "slack"] (defScope sNar) := ⟨rfl, rfl, rfl, by decide +kernel, rfl, by decide +kernel, by decide +kernel⟩
/-! ### The heap -/
theorem lk_here {k : Str} {v : V} {r : List (Str × V)} : List.lookup k ((k, v) :: r) = some v := by
  have e : (k == k) = true := beq_self_eq_true k
  simp only [List.lookup, e]
theorem lk_past {k g : Str} {v : V} {r : List (Str × V)} (h : (k == g) = false) : List.lookup k ((g, v) :: r) = List.lookup k r := by
  simp only [List.lookup, h]
theorem put_here {f : Str} {v x : V} {r : List (Str × V)} : putF f v ((f, x) :: r) = (f, v) :: r := if_pos rfl
theorem put_past {f g : Str} {v x : V} {r : List (Str × V)} (h : ¬ g = f) : putF f v ((g, x) :: r) = (g, x) :: putF f v r := if_neg h
def sF (x y z : V) : List (Str × V) := [("shortest", x), ("longest", y), ("row", z)]
theorem sF_s (x y z : V) : (sF x y z).lookup ("shortest" : Str) = some x := lk_here
theorem sF_l (x y z : V) : (sF x y z).lookup ("longest" : Str) = some y := (lk_past (by decide +kernel)).trans lk_here
theorem sF_r (x y z : V) : (sF x y z).lookup ("row" : Str) = some z := (lk_past (by decide +kernel)).trans ((lk_past (by decide +kernel)).trans lk_here)
theorem sF_h (x y z : V) : (sF x y z).lookup ("holds" : Str) = none := (lk_past (by decide +kernel)).trans ((lk_past (by decide +kernel)).trans ((lk_past (by decide +kernel)).trans rfl))
theorem sF_new (x y z : V) : putF "row" z (putF "longest" y (putF "shortest" x [])) = sF x y z := by
  have e1 : putF "longest" y (putF "shortest" x []) = ([("shortest", x), ("longest", y)] : List (Str × V)) := (put_past (by decide +kernel)).trans rfl
  rw [e1]
  exact (put_past (by decide +kernel)).trans (congrArg _ ((put_past (by decide +kernel)).trans rfl))
def vN (ts : List Nat) : List V := ts.map fun (n : Nat) => V.int (n : Int)
/-- a stretch: its row stands where N says -/
def StrAt (D : Addr) (N : Addr → Prop) (H : Hp) (p : Addr) (s : S) : Prop :=
  ∃ dx pa pb pr : Addr, H p = some (.ins D dx (sF (.ref pa) (.ref pb) (.ref pr))) ∧ FrAt H pa s.a ∧ FrAt H pb s.b ∧ H pr = some (.lst (s.row.map V.int)) ∧ N pr
theorem StrAt.same {D : Addr} {N : Addr → Prop} {H H' : Hp} {p : Addr} {s : S} (h : StrAt D N H p s) (k : Same H H') : StrAt D N H' p s := by
  obtain ⟨dx, pa, pb, pr, h1, h2, h3, h4, h5⟩ := h
  exact ⟨dx, pa, pb, pr, k _ _ h1, k _ _ h2, k _ _ h3, k _ _ h4, h5⟩
theorem StrAt.imp {D : Addr} {N N' : Addr → Prop} {H : Hp} {p : Addr} {s : S} (h : StrAt D N H p s) (k : ∀ b, N b → N' b) : StrAt D N' H p s := by
  obtain ⟨dx, pa, pb, pr, h1, h2, h3, h4, h5⟩ := h
  exact ⟨dx, pa, pb, pr, h1, h2, h3, h4, k _ h5⟩
/-- a list that is none of the rows is changed -/
theorem StrAt.upd {D : Addr} {N : Addr → Prop} {H : Hp} {p o : Addr} {s : S} {xs ys : List V} (h : StrAt D N H p s) (ho : H o = some (.lst xs)) (hN : ¬ N o) : StrAt D N (upd H o (.lst ys)) p s := by
  obtain ⟨dx, pa, pb, pr, h1, h2, h3, h4, h5⟩ := h
  have n1 : p ≠ o := ne_of h1 ho (by intro z; cases z)
  have n2 : pa ≠ o := ne_of h2 ho (by intro z; cases z)
  have n3 : pb ≠ o := ne_of h3 ho (by intro z; cases z)
  have n4 : pr ≠ o := fun e => hN (e ▸ h5)
  refine ⟨dx, pa, pb, pr, ?_, ?_, ?_, ?_, h5⟩
  · rw [upd_ne n1]; exact h1
  · show L2.upd H o (.lst ys) pa = _
    rw [upd_ne n2]; exact h2
  · show L2.upd H o (.lst ys) pb = _
    rw [upd_ne n3]; exact h3
  · rw [upd_ne n4]; exact h4
/-- fresh: not there in H -/
def Fresh (H : Hp) : Addr → Prop := fun b => H b = none
def Any : Addr → Prop := fun _ => True
theorem StrAt.any {D : Addr} {N : Addr → Prop} {H : Hp} {p : Addr} {s : S} (h : StrAt D N H p s) : StrAt D Any H p s := h.imp fun _ _ => trivial

/-- what the top has written of Stretch -/
structure TxtS (K : PySem.W.Frag) (mg : Str → Option Value) (D : Addr) : Prop where
  cl : Cls K D
  nS : NoAttr K D "shortest"
  nL : NoAttr K D "longest"
  nR : NoAttr K D "row"
  gC : mg "Stretch" = some (.ref D)
section
variable {P : Program} {w : World} {K : PySem.W.Frag} {mg : Str → Option Value} {base : Heap} {D : Addr}
/-! ### Stretch.__init__ -/
def spInitS (D : Addr) : Sp := fun vs H Q _ => ∃ (p dx : Addr) (x y z : V), vs = [.ref p, x, y, z] ∧ H p = some (.ins D dx []) ∧
  ∀ H' : Hp, H' p = some (.ins D dx (sF x y z)) → (∀ b o, H b = some o → b ≠ p → H' b = some o) → (∀ b, b ≠ p → H' b = H b) → Q .non H'
theorem ok_initS {f : Addr} {fd : FuncData} (F : Fun K "__init__" "Stretch.__init__" sInitS f fd) (T : TxtS K mg D) : FnOk P w K mg base CX0 1 f fd ["self", "shortest", "longest", "row"] (spInitS D) := by
  refine F.ok scInitS (fun vs H Q E h => ?_) (fun cdv A outer s H vs Q E hr h => ?_)
  · obtain ⟨p, dx, x, y, z, rfl, _⟩ := h
    rfl
  · obtain ⟨p, dx, x, y, z, rfl, hp, k⟩ := h
    refine ⟨_, pss_cons (ps_fld (pv 0) (pv 1) rfl) (pss_cons (ps_fld (pv 0) (pv 2) rfl) (pss_one (ps_fld (pv 0) (pv 3) rfl))), ?_⟩
    refine ⟨_, rfl, _, rfl, p, D, dx, [], rfl, hp, T.cl, T.nS, (by show 0 < 1000; decide), ?_⟩
    refine ⟨_, rfl, _, rfl, p, D, dx, _, rfl, upd_same, T.cl, T.nL, (by show 1 < 1000; decide), ?_⟩
    refine ⟨_, rfl, _, rfl, p, D, dx, _, rfl, upd_same, T.cl, T.nR, (by show 2 < 1000; decide), ?_⟩
    refine k _ (Eq.trans upd_same (congrArg (fun q => some (HO.ins D dx q)) (sF_new x y z))) (fun b o e hb => ?_) (fun b hb => ?_)
    · rw [upd_ne hb, upd_ne hb, upd_ne hb]
      exact e
    · rw [upd_ne hb, upd_ne hb, upd_ne hb]
/-! ### Stretch.holds -/
def spHolds (D : Addr) : Sp := fun vs H Q _ => ∃ (p q : Addr) (s : S) (f : FP), vs = [.ref p, .ref q] ∧ StrAt D Any H p s ∧ FrAt H q f ∧ Sm s.a ∧ Sm s.b ∧ Sm f ∧ Q (.bl (holdsB s f)) H
theorem ok_holds {f f1 : Addr} {fd fd1 : FuncData} (F : Fun K "holds" "Stretch.holds" sHolds f fd) (T : TxtS K mg D) (F1 : Fun K "is_less" "is_less" sLess f1 fd1) (b1 : Binds K fd1 ["one", "other"] []) (g1 : mg "is_less" = some (.ref f1)) :
    FnOk P w K mg base CX0 2 f fd ["self", "period"] (spHolds D) := by
  have G1 : FnOk P w K mg base CX0 1 f1 fd1 ["one", "other"] spLess := ok_less F1
  refine F.ok scHolds (fun vs H Q E h => ?_) (fun cdv A outer s H vs Q E hr h => ?_)
  · obtain ⟨p, q, s, f, rfl, _⟩ := h
    rfl
  · obtain ⟨p, q, s, f, rfl, ⟨dx, pa, pb, pr, h1, h2, h3, h4, _⟩, hf, sa, sb, sf, k⟩ := h
    refine ⟨_, pss_one (ps_ret (pe_and (pe_not (pe_call G1 hr (by rfl) g1 F1.kp b1 .nil pass0 (pa_cons (pv 1) (pa_cons (pe_fld (pv 0) rfl) pa_nil))))
      (pe_one (pe_not (pe_call G1 hr (by rfl) g1 F1.kp b1 .nil pass0 (pa_cons (pe_fld (pv 0) rfl) (pa_cons (pv 1) pa_nil))))))), ?_⟩
    refine ⟨_, rfl, _, rfl, p, D, dx, _, _, rfl, h1, T.cl, T.nS, sF_s _ _ _, q, pa, f, s.a, rfl, hf, h2, sf, sa, _, rfl, _, rfl, ?_⟩
    refine ite2 (fun c => ?_) (fun c => ?_)
    · refine ⟨_, rfl, p, D, dx, _, _, rfl, h1, T.cl, T.nL, sF_l _ _ _, _, rfl, pb, q, s.b, f, rfl, h3, hf, sb, sf, _, rfl, ?_⟩
      unfold holdsB at k
      rw [c, Bool.true_and] at k
      exact k
    · unfold holdsB at k
      rw [show (!isLess f s.a) = false by simpa using c, Bool.false_and] at k
      exact k
/-! ### beats_to_try -/
theorem div_bd {n d : Int} {m : Int} (hm : 0 ≤ m) (h : -m ≤ n ∧ n ≤ m) (hd : 0 < d) : -m ≤ n / d ∧ n / d ≤ m := by
  constructor
  · rw [Int.le_ediv_iff_mul_le hd]
    have := Int.mul_le_mul_of_nonneg_left (show (1 : Int) ≤ d by omega) hm
    rw [Int.neg_mul]
    omega
  · have h1 : n / d ≤ m / d := Int.ediv_le_ediv hd h.2
    have h2 : m / d ≤ m := Int.ediv_le_self d hm
    omega
theorem mul_bd {n k : Int} (h : -1000000 ≤ n ∧ n ≤ 1000000) (h2 : 0 < k ∧ k ≤ 1000000) : -1000000000000 ≤ n * k ∧ n * k ≤ 1000000000000 := by
  have a1 := Int.mul_le_mul_of_nonneg_right h.1 (show 0 ≤ k by omega)
  have a2 := Int.mul_le_mul_of_nonneg_right h.2 (show 0 ≤ k by omega)
  omega
theorem dDown_bd {n : Int} {f : FP} (h : -1000000 ≤ n ∧ n ≤ 1000000) (sf : Sm f) (f0 : 0 < f.1) : -1000000000000 ≤ dDown n f ∧ dDown n f ≤ 1000000000000 := by
  unfold dDown
  exact div_bd (by decide) (mul_bd h ⟨sf.2.2.1, sf.2.2.2⟩) f0
theorem dUp_bd {n : Int} {f : FP} (h : -1000000 ≤ n ∧ n ≤ 1000000) (sf : Sm f) (f0 : 0 < f.1) : -1000000000000 ≤ dUp n f ∧ dUp n f ≤ 1000000000000 := by
  unfold dUp
  have := div_bd (by decide) (mul_bd (n := -n) (by omega) ⟨sf.2.2.1, sf.2.2.2⟩) f0
  omega
def spTry (K : PySem.W.Frag) (D : Addr) : Sp := fun vs H Q _ => ∃ (p pt : Addr) (s : S) (ts : List Nat) (t : Nat) (sl : Int), vs = [.ref p, .ref pt, .int (t : Int), .int sl] ∧ StrAt D Any H p s ∧ SqL K H pt (vN ts) ∧
  Sm s.a ∧ Sm s.b ∧ 0 < s.a.1 ∧ 0 < s.b.1 ∧ (∀ y ∈ ts, y ≤ 2000) ∧ t ≤ 2000 ∧ (0 ≤ sl ∧ sl ≤ 2000) ∧ (tries s ts t sl).length ≤ 2001 ∧
  ∀ q, H q = none → Q (.ref q) (upd H q (.lst ((tries s ts t sl).map V.int)))
theorem vN_get {ts : List Nat} {i : Nat} {x : V} (h : (vN ts)[i]? = some x) : ∃ n, ts[i]? = some n ∧ x = .int (n : Int) := by
  unfold vN at h
  rw [List.getElem?_map] at h
  cases e : ts[i]? with
  | none =>
    rw [e] at h
    cases h
  | some n =>
    rw [e] at h
    exact ⟨n, rfl, (Option.some.inj h).symm⟩
theorem vI_get {ns : List Int} {i : Nat} {x : V} (h : (ns.map V.int)[i]? = some x) : ∃ n, ns[i]? = some n ∧ x = .int n := by
  rw [List.getElem?_map] at h
  cases e : ns[i]? with
  | none =>
    rw [e] at h
    cases h
  | some n =>
    rw [e] at h
    exact ⟨n, rfl, (Option.some.inj h).symm⟩
theorem ok_try {f f1 f2 : Addr} {fd fd1 fd2 : FuncData} (F : Fun K "beats_to_try" "beats_to_try" sTry f fd) (T : TxtS K mg D) (F1 : Fun K "divided_down" "divided_down" sDown f1 fd1) (b1 : Binds K fd1 ["number", "fraction"] []) (g1 : mg "divided_down" = some (.ref f1))
    (F2 : Fun K "divided_up" "divided_up" sUp f2 fd2) (b2 : Binds K fd2 ["number", "fraction"] []) (g2 : mg "divided_up" = some (.ref f2)) (ml : mg "len" = none) (mt : mg "list" = none) (mr : mg "range" = none) :
    FnOk P w K mg base CX0 2 f fd ["stretch", "times", "time", "slack"] (spTry K D) := by
  have G1 : FnOk P w K mg base CX0 1 f1 fd1 ["number", "fraction"] (spDiv dDown) := ok_down F1
  have G2 : FnOk P w K mg base CX0 1 f2 fd2 ["number", "fraction"] (spDiv dUp) := ok_up F2
  refine F.ok scTry (fun vs H Q E h => ?_) (fun cdv A outer s H vs Q E hr h => ?_)
  · obtain ⟨p, pt, s, ts, t, sl, rfl, _⟩ := h
    rfl
  · obtain ⟨p, pt, s, ts, t, sl, rfl, ⟨dx, pa, pb, pr, h1, h2, h3, h4, _⟩, hT, sa, sb, a0, b0, hts, ht, hsl, hlen, k⟩ := h
    refine ⟨_, pss_cons (ps_if (pt_cmpR op_eq (pe_callB call_len_seq (by rfl) ml PySem.boot_len (pa_cons (pv 1) pa_nil)) pe_int (nomark _)) (pss_one (ps_ret (pe_lst (pa_cons pe_int pa_nil)))) pss_nil)
      (pss_cons (ps_set (i := 4) scTry.nd rfl (.inl rfl) (pe_op op_sub (pv 2) (pe_ix ix_list (pv 1) pe_int (fun _ _ => rfl))))
      (pss_cons (ps_set (i := 5) scTry.nd rfl (.inl rfl) (pe_call G1 hr (by rfl) g1 F1.kp b1 .nil pass0 (pa_cons (pe_op op_add (pv 4) (pv 3)) (pa_cons (pe_fld (pv 0) rfl) pa_nil))))
      (pss_cons (ps_set (i := 6) scTry.nd rfl (.inl rfl) (pe_call G2 hr (by rfl) g2 F2.kp b2 .nil pass0 (pa_cons (pe_op op_sub (pv 4) (pv 3)) (pa_cons (pe_fld (pv 0) rfl) pa_nil))))
      (pss_one (ps_ret (pe_listRg3 rfl (by rfl) mt (by rfl) mr (pa_cons (pv 5) (pa_cons (pe_op op_sub (pv 6) pe_int) (pa_cons (pe_un un_neg pe_int) pa_nil))))))))), ?_⟩
    refine ⟨_, rfl, pt, _, rfl, .inl hT, rfl, _, rfl, ?_⟩
    cases ts with
    | nil =>
      refine iteT ?_
      exact ⟨by show 1 ≤ sizeLine; decide, fun q hq => k q hq⟩
    | cons t0 r =>
      have ht0 := hts t0 (List.Mem.head _)
      refine iteF ?_
      refine ⟨_, rfl, _, rfl, pt, _, _, .int (t0 : Int), rfl, rfl, hT, atI_nat (j := 0) rfl, _, _, rfl, rfl, ?_⟩
      have bD := dDown_bd (n := (t : Int) - (t0 : Int) + sl) (f := s.a) (by omega) sa a0
      have bU := dUp_bd (n := (t : Int) - (t0 : Int) - sl) (f := s.b) (by omega) sb b0
      refine ⟨_, rfl, _, rfl, _, _, rfl, rfl, _, rfl, p, D, dx, _, _, rfl, h1, T.cl, T.nS, sF_s _ _ _, (t : Int) - (t0 : Int) + sl, pa, s.a, rfl, h2, sa, a0, by omega, ?_⟩
      refine ⟨_, rfl, _, rfl, _, _, rfl, rfl, _, rfl, p, D, dx, _, _, rfl, h1, T.cl, T.nL, sF_l _ _ _, (t : Int) - (t0 : Int) - sl, pb, s.b, rfl, h3, sb, b0, by omega, ?_⟩
      have hlen2 : (tries s (t0 :: r) t sl).length = (dDown ((t : Int) - (t0 : Int) + sl) s.a - (dUp ((t : Int) - (t0 : Int) - sl) s.b - 1)).toNat := by
        show (rangeDown _ _).length = _
        unfold rangeDown
        rw [List.length_map, List.length_range]
        congr 1
        omega
      refine ⟨_, rfl, _, rfl, _, _, rfl, rfl, _, rfl, dDown ((t : Int) - (t0 : Int) + sl) s.a, dUp ((t : Int) - (t0 : Int) - sl) s.b - 1, -1, _, rfl, RgC.neg (by omega) (by omega) (by omega) (by omega), ?_, fun q hq => ?_⟩
      · rw [← hlen2]
        omega
      · have e : (List.range (dDown ((t : Int) - (t0 : Int) + sl) s.a - (dUp ((t : Int) - (t0 : Int) - sl) s.b - 1)).toNat).map (fun (k : Nat) => V.int (dDown ((t : Int) - (t0 : Int) + sl) s.a + (k : Int) * (-1))) = (tries s (t0 :: r) t sl).map V.int := by
          show _ = (rangeDown _ _).map V.int
          unfold rangeDown
          rw [List.map_map]
          have e2 : dDown ((t : Int) - (t0 : Int) + sl) s.a - (dUp ((t : Int) - (t0 : Int) - sl) s.b - 1) = dDown ((t : Int) - (t0 : Int) + sl) s.a - dUp ((t : Int) - (t0 : Int) - sl) s.b + 1 := by omega
          rw [e2]
          refine List.map_congr_left fun i _ => ?_
          show V.int _ = V.int (dDown ((t : Int) - (t0 : Int) + sl) s.a - (i : Int))
          congr 1
          omega
        rw [e]
        exact k q hq
end
end Ev
set_option Elab.async false
set_option maxRecDepth 100000
set_option maxHeartbeats 2000000
namespace Ev
open PySem PySem.Spec PyProof.Rows L2
section
variable {P : Program} {w : World} {K : PySem.W.Frag} {mg : Str → Option Value} {base : Heap} {D : Addr}
/-! ### narrowed -/
def spNar (K : PySem.W.Frag) (D : Addr) : Sp := fun vs H Q _ => ∃ (p pt : Addr) (s : S) (ts : List Nat) (t : Nat) (n sl : Int), vs = [.ref p, .ref pt, .int (t : Int), .int n, .int sl] ∧ StrAt D Any H p s ∧ SqL K H pt (vN ts) ∧
  Sm s.a ∧ Sm s.b ∧ s.row.length = ts.length ∧ (∀ y ∈ ts, y ≤ 2000) ∧ (∀ y ∈ s.row, 0 ≤ y ∧ y ≤ 2000) ∧ ts.length ≤ 1000 ∧ t ≤ 2000 ∧ (0 ≤ n ∧ n ≤ 2000) ∧ (0 ≤ sl ∧ sl ≤ 2000) ∧
  (narrowed s ts t sl n = none → ∀ H', Same H H' → Q .non H') ∧ (∀ x, narrowed s ts t sl n = some x → ∀ H' q, Same H H' → StrAt D (Fresh H) H' q x → Q (.ref q) H')
theorem zip_drop {ts : List Nat} {row : List Int} {i : Nat} {a : Nat} {b : Int} (h1 : ts[i]? = some a) (h2 : row[i]? = some b) : (ts.zip row).drop i = (a, b) :: (ts.zip row).drop (i + 1) := by
  have hi1 := (List.getElem?_eq_some_iff.mp h1).1
  have hi2 := (List.getElem?_eq_some_iff.mp h2).1
  have e1 := (List.getElem?_eq_some_iff.mp h1).2
  have e2 := (List.getElem?_eq_some_iff.mp h2).2
  rw [List.drop_eq_getElem_cons (by rw [List.length_zip]; omega), List.getElem_zip, e1, e2]
theorem narrowGo_cons (t : Nat) (n sl : Int) (y : Nat × Int) (l : List (Nat × Int)) (a b : FP) : narrowGo t n sl (y :: l) a b =
    if n - y.2 > 0 then narrowGo t n sl l (greater a ((t : Int) - (y.1 : Int) - sl, n - y.2)) (lesser b ((t : Int) - (y.1 : Int) + sl, n - y.2))
    else if (t : Int) - (y.1 : Int) > sl then none else narrowGo t n sl l a b := rfl
theorem ok_nar {f fG fL f1 fI : Addr} {fd fdG fdL fd1 fdI : FuncData} (F : Fun K "narrowed" "narrowed" sNar f fd) (T : TxtS K mg D) (FG : Fun K "greater" "greater" sGreater fG fdG) (bG : Binds K fdG ["one", "other"] []) (gG : mg "greater" = some (.ref fG))
    (FL : Fun K "lesser" "lesser" sLesser fL fdL) (bL : Binds K fdL ["one", "other"] []) (gL : mg "lesser" = some (.ref fL)) (F1 : Fun K "is_less" "is_less" sLess f1 fd1) (b1 : Binds K fd1 ["one", "other"] []) (g1 : mg "is_less" = some (.ref f1))
    (M : Mk K D fI) (FI : Fun K "__init__" "Stretch.__init__" sInitS fI fdI) (bI : Binds K fdI ["self", "shortest", "longest", "row"] []) (mz : mg "zip" = none) :
    FnOk P w K mg base CX0 3 f fd ["stretch", "times", "time", "beat", "slack"] (spNar K D) := by
  have GG : FnOk P w K mg base CX0 2 fG fdG ["one", "other"] (spPick greater) := ok_greater FG F1 b1 g1
  have GL : FnOk P w K mg base CX0 2 fL fdL ["one", "other"] (spPick lesser) := ok_lesser FL F1 b1 g1
  have G1 : FnOk P w K mg base CX0 1 f1 fd1 ["one", "other"] spLess := ok_less F1
  have GI : FnOk P w K mg base CX0 1 fI fdI ["self", "shortest", "longest", "row"] (spInitS D) := ok_initS FI T
  refine F.ok scNar (fun vs H Q E h => ?_) (fun cdv A outer s H vs Q E hr h => ?_)
  · obtain ⟨p, pt, s, ts, t, n, sl, rfl, _⟩ := h
    rfl
  · obtain ⟨p, pt, s, ts, t, n, sl, rfl, ⟨dx, pa, pb, pr, h1, h2, h3, h4, _⟩, hT, sa, sb, hlen, hts, hrow, hl1, ht, hn, hsl, kN, kS⟩ := h
    have hr1 : Room 1 _ := hr.mono (by decide)
    refine ⟨_, pss_cons (ps_set (i := 5) scNar.nd rfl (.inl rfl) (pe_fld (pv 0) rfl))
      (pss_cons (ps_set (i := 6) scNar.nd rfl (.inl rfl) (pe_fld (pv 0) rfl))
      (pss_cons (ps_for PassesOwn.never rfl (pi_zip (by rfl) mz (pa_cons (pv 1) (pa_cons (pe_fld (pv 0) rfl) pa_nil)))
          (pg_tup rfl (pgs_cons (pg_name (i := 7) scNar.nd rfl (.inl rfl)) (pgs_cons (pg_name (i := 8) scNar.nd rfl (.inl rfl)) pgs_nil)))
        (pss_cons (ps_set (i := 9) scNar.nd rfl (.inl rfl) (pe_op op_sub (pv 2) (pv 7)))
        (pss_cons (ps_set (i := 10) scNar.nd rfl (.inl rfl) (pe_op op_sub (pv 3) (pv 8)))
        (pss_one (ps_if (pt_cmpR op_gt (pv 10) pe_int (nomark _))
          (pss_cons (ps_set (i := 5) scNar.nd rfl (.inl rfl) (pe_call GG hr (by rfl) gG FG.kp bG .nil pass0 (pa_cons (pv 5) (pa_cons (pe_tup (pa_cons (pe_op op_sub (pv 9) (pv 4)) (pa_cons (pv 10) pa_nil))) pa_nil))))
          (pss_one (ps_set (i := 6) scNar.nd rfl (.inl rfl) (pe_call GL hr (by rfl) gL FL.kp bL .nil pass0 (pa_cons (pv 6) (pa_cons (pe_tup (pa_cons (pe_op op_add (pv 9) (pv 4)) (pa_cons (pv 10) pa_nil))) pa_nil))))))
          (pss_one (ps_if (pt_cmpR op_gt (pv 9) (pv 4) (nomark _)) (pss_one (ps_ret pe_non)) pss_nil)))))))
      (pss_cons (ps_if (pt_val (pe_call G1 hr1 (by rfl) g1 F1.kp b1 .nil pass0 (pa_cons (pv 6) (pa_cons (pv 5) pa_nil)))) (pss_one (ps_ret pe_non)) pss_nil)
      (pss_one (ps_ret (pe_make M GI hr (by rfl) T.gC bI .nil pass0 (pa_cons (pv 5) (pa_cons (pv 6) (pa_cons (pe_op op_cat (pe_fld (pv 0) rfl) (pe_lst (pa_cons (pv 3) pa_nil))) pa_nil))))))))), ?_⟩
    refine ⟨_, rfl, p, D, dx, _, _, rfl, h1, T.cl, T.nS, sF_s _ _ _, ?_⟩
    refine ⟨_, rfl, p, D, dx, _, _, rfl, h1, T.cl, T.nL, sF_l _ _ _, ?_⟩
    refine ⟨_, rfl, _, rfl, p, D, dx, _, _, rfl, h1, T.cl, T.nR, sF_r _ _ _, pt, pr, vN ts, s.row.map V.int, rfl, hT, SqL.of h4, ?_⟩
    refine RZ.for_zipL (K := K) (a := pt) (b := pr) (xs := vN ts) (ys := s.row.map V.int) ?_ (fun i σ H' => ∃ (qa qb : Addr) (a b : FP) (v7 v8 v9 v10 : Option V),
      σ = [some (.ref p), some (.ref pt), some (.int (t : Int)), some (.int n), some (.int sl), some (.ref qa), some (.ref qb), v7, v8, v9, v10] ∧ Same H H' ∧ FrAt H' qa a ∧ FrAt H' qb b ∧ Sm a ∧ Sm b ∧
      narrowGo t n sl ((ts.zip s.row).drop i) a b = narrowGo t n sl (ts.zip s.row) s.a s.b)
      ⟨pa, pb, s.a, s.b, none, none, none, none, rfl, Same.refl H, h2, h3, sa, sb, rfl⟩ ?_ ?_ ?_
    · unfold vN
      rw [List.length_map, List.length_map, hlen]
    · rintro i σ H' ⟨qa, qb, a, b, v7, v8, v9, v10, rfl, sm, _⟩
      exact ⟨sm.seq hT, sm.seq (SqL.of h4)⟩
    · rintro i x y T0 σ H' hx hy ⟨qa, qb, a, b, v7, v8, v9, v10, rfl, sm, fa, fb, ma, mb, eq⟩ nT
      obtain ⟨e, he, rfl⟩ := vN_get hx
      obtain ⟨eb, heb, rfl⟩ := vI_get hy
      have hbe := hts e (List.mem_of_getElem? he)
      have hbb := hrow eb (List.mem_of_getElem? heb)
      rw [zip_drop he heb, narrowGo_cons] at eq
      have s1 : Same H' (upd H' T0 (.tup [.int (e : Int), .int eb])) := same_upd nT
      refine ⟨T0, [.int (e : Int), .int eb], rfl, SqT.of upd_same, rfl, .int (e : Int), [.int eb], rfl, .int eb, [], rfl, rfl, ?_⟩
      refine ⟨_, rfl, _, rfl, _, _, rfl, rfl, ?_⟩
      refine ⟨_, rfl, _, rfl, _, _, rfl, rfl, ?_⟩
      refine ⟨_, rfl, _, _, rfl, rfl, _, rfl, ?_⟩
      refine ite2 (fun c => ?_) (fun c => ?_)
      · have c : n - eb > 0 := of_decide_eq_true c
        dsimp only at eq
        rw [if_pos c] at eq
        have mk1 : Sm ((t : Int) - (e : Int) - sl, n - eb) := ⟨by dsimp only; omega, by dsimp only; omega, c, by dsimp only; omega⟩
        have mk2 : Sm ((t : Int) - (e : Int) + sl, n - eb) := ⟨by dsimp only; omega, by dsimp only; omega, c, by dsimp only; omega⟩
        refine ⟨_, rfl, _, rfl, _, rfl, _, _, rfl, rfl, _, rfl, (by show 2 ≤ sizeLine; decide), fun T1 nT1 => ?_⟩
        have s2 := same_upd (o := HO.tup [V.int ((t : Int) - (e : Int) - sl), V.int (n - eb)]) nT1
        refine ⟨qa, T1, a, ((t : Int) - (e : Int) - sl, n - eb), rfl, s2 _ _ (s1 _ _ fa), upd_same, ma, mk1, fun r1 hr1' => ?_⟩
        refine ⟨_, rfl, _, rfl, _, rfl, _, _, rfl, rfl, _, rfl, (by show 2 ≤ sizeLine; decide), fun T2 nT2 => ?_⟩
        have s3 := same_upd (o := HO.tup [V.int ((t : Int) - (e : Int) + sl), V.int (n - eb)]) nT2
        refine ⟨qb, T2, b, ((t : Int) - (e : Int) + sl, n - eb), rfl, s3 _ _ (s2 _ _ (s1 _ _ fb)), upd_same, mb, mk2, fun r2 hr2' => ?_⟩
        exact ⟨r1, r2, _, _, some (.int (e : Int)), some (.int eb), some (.int ((t : Int) - (e : Int))), some (.int (n - eb)), rfl, sm.trans (s1.trans (s2.trans s3)), s3 _ _ hr1', hr2', ma.greater mk1, mb.lesser mk2, eq⟩
      · have c : ¬ n - eb > 0 := fun q => c (decide_eq_true q)
        dsimp only at eq
        rw [if_neg c] at eq
        refine ⟨_, rfl, _, rfl, _, _, rfl, rfl, _, rfl, ?_⟩
        refine ite2 (fun d => ?_) (fun d => ?_)
        · have d : (t : Int) - (e : Int) > sl := of_decide_eq_true d
          rw [if_pos d] at eq
          refine kN ?_ _ (sm.trans s1)
          unfold narrowed
          rw [← eq]
        · have d : ¬ (t : Int) - (e : Int) > sl := fun q => d (decide_eq_true q)
          rw [if_neg d] at eq
          exact ⟨qa, qb, a, b, some (.int (e : Int)), some (.int eb), some (.int ((t : Int) - (e : Int))), some (.int (n - eb)), rfl, sm.trans s1, s1 _ _ fa, s1 _ _ fb, ma, mb, eq⟩
    · rintro σ H' ⟨qa, qb, a, b, v7, v8, v9, v10, rfl, sm, fa, fb, ma, mb, eq⟩
      have ed : (ts.zip s.row).drop (vN ts).length = [] := by
        refine List.drop_eq_nil_of_le ?_
        rw [List.length_zip]
        unfold vN
        rw [List.length_map]
        omega
      rw [ed] at eq
      have eq : some (a, b) = narrowGo t n sl (ts.zip s.row) s.a s.b := eq
      refine ⟨_, rfl, _, rfl, qb, qa, b, a, rfl, fb, fa, mb, ma, _, rfl, ?_⟩
      refine ite2 (fun c => ?_) (fun c => ?_)
      · refine kN ?_ _ sm
        unfold narrowed
        rw [← eq]
        dsimp only
        rw [if_pos c]
      · have en : narrowed s ts t sl n = some ⟨a, b, s.row ++ [n]⟩ := by
          unfold narrowed
          rw [← eq]
          dsimp only
          rw [if_neg c]
        refine ⟨_, rfl, _, rfl, _, rfl, p, D, dx, _, _, rfl, sm _ _ h1, T.cl, T.nR, sF_r _ _ _, ?_⟩
        refine ⟨_, rfl, (by show 1 ≤ sizeLine; decide), fun o1 no1 => ?_⟩
        have s1 := same_upd (o := HO.lst [V.int n]) no1
        refine ⟨pr, o1, s.row.map V.int, [.int n], rfl, rfl, s1 _ _ (sm _ _ h4), upd_same, ?_, fun o2 no2 => ?_⟩
        · rw [List.length_map, sizeLine_eq, List.length_singleton]
          omega
        have s2 := same_upd (o := HO.lst (s.row.map V.int ++ [V.int n])) no2
        intro q dq nq ndq neq
        refine ⟨q, dq, .ref qa, .ref qb, .ref o2, rfl, upd_same, fun H2 J kp _ => ⟨rfl, ?_⟩⟩
        have s3 : Same _ H2 := Same.made nq ndq kp
        have s4 := sm.trans (s1.trans (s2.trans s3))
        refine kS _ en _ q s4 ⟨dq, qa, qb, o2, J, s3 _ _ (s2 _ _ (s1 _ _ fa)), s3 _ _ (s2 _ _ (s1 _ _ fb)), ?_, ?_⟩
        · have h5 := s3 _ _ (show upd _ o2 (HO.lst (s.row.map V.int ++ [V.int n])) o2 = some (.lst (s.row.map V.int ++ [V.int n])) from upd_same)
          rw [h5, List.map_append]
          rfl
        · exact (sm.trans s1).free no2
end
end Ev
set_option Elab.async false
set_option maxRecDepth 100000
set_option maxHeartbeats 2000000
namespace Ev
open PySem PySem.Spec PyProof.Rows L2
theorem scParts : FnScope ["stretch", "times", "time", "slack", "parts", "beat", "part"] ["stretch", "times", "time", "slack"] (defScope sParts) := ⟨rfl, rfl, rfl, by decide +kernel, rfl, by decide +kernel, by decide +kernel⟩
theorem scFind : FnScope ["lo", "hi", "off", "times", "slack", "found", "place", "time", "parts", "stretch"] ["lo", "hi", "off", "times"] (defScope sFind) := ⟨rfl, rfl, rfl, by decide +kernel, rfl, by decide +kernel, by decide +kernel⟩
/-- a row of stretches -/
abbrev StrsAt (D : Addr) (N : Addr → Prop) (H : Hp) (ps : List Addr) (l : List S) : Prop := Paired (fun p s => StrAt D N H p s) ps l
theorem StrsAt.same {D : Addr} {N : Addr → Prop} {H H' : Hp} {ps : List Addr} {l : List S} (h : StrsAt D N H ps l) (k : Same H H') : StrsAt D N H' ps l := Paired.mapP h fun _ _ q => q.same k
theorem StrsAt.imp {D : Addr} {N N' : Addr → Prop} {H : Hp} {ps : List Addr} {l : List S} (h : StrsAt D N H ps l) (k : ∀ b, N b → N' b) : StrsAt D N' H ps l := Paired.mapP h fun _ _ q => q.imp k
theorem StrsAt.upd {D : Addr} {N : Addr → Prop} {H : Hp} {ps : List Addr} {l : List S} {o : Addr} {xs ys : List V} (h : StrsAt D N H ps l) (ho : H o = some (.lst xs)) (hN : ¬ N o) : StrsAt D N (upd H o (.lst ys)) ps l := Paired.mapP h fun _ _ q => q.upd ho hN
theorem paired_app {α β : Type} {F : α → β → Prop} : ∀ {a : List α} {b : List β} {c : List α} {d : List β}, Paired F a b → Paired F c d → Paired F (a ++ c) (b ++ d)
  | _, _, _, _, .nil, h => h
  | _, _, _, _, .cons x t, h => .cons x (paired_app t h)
theorem paired_get {α β : Type} {F : α → β → Prop} : ∀ {a : List α} {b : List β} {i : Nat} {x : α}, Paired F a b → a[i]? = some x → ∃ y, b[i]? = some y ∧ F x y
  | _, _, i, x, .nil, h => by simp at h
  | _, _, 0, x, .cons r t, h => ⟨_, rfl, (Option.some.inj h) ▸ r⟩
  | _, _, i + 1, x, .cons r t, h => paired_get (i := i) t h
theorem refs_get {ps : List Addr} {i : Nat} {x : V} (h : (ps.map V.ref)[i]? = some x) : ∃ p, ps[i]? = some p ∧ x = .ref p := by
  rw [List.getElem?_map] at h
  cases e : ps[i]? with
  | none =>
    rw [e] at h
    cases h
  | some n =>
    rw [e] at h
    exact ⟨n, rfl, (Option.some.inj h).symm⟩
/-- what is asked of a stretch and a time behind the others -/
structure Asks (s : S) (ts : List Nat) (t : Nat) (sl : Int) : Prop where
  sa : Sm s.a
  sb : Sm s.b
  a0 : 0 < s.a.1
  b0 : 0 < s.b.1
  len : s.row.length = ts.length
  row : ∀ y ∈ s.row, 0 ≤ y ∧ y ≤ 2000
  tm : ∀ y ∈ ts, y ≤ 2000
  tl : ts.length ≤ 1000
  tb : t ≤ 2000
  slb : 0 ≤ sl ∧ sl ≤ 2000
  tr : (tries s ts t sl).length ≤ 2001
  trm : ∀ n ∈ tries s ts t sl, 0 ≤ n ∧ n ≤ 2000
section
variable {P : Program} {w : World} {K : PySem.W.Frag} {mg : Str → Option Value} {base : Heap} {D : Addr}
/-! ### parts_with -/
def spParts (K : PySem.W.Frag) (D : Addr) : Sp := fun vs H Q _ => ∃ (p pt : Addr) (s : S) (ts : List Nat) (t : Nat) (sl : Int), vs = [.ref p, .ref pt, .int (t : Int), .int sl] ∧ StrAt D Any H p s ∧ SqL K H pt (vN ts) ∧ Asks s ts t sl ∧
  ∀ H' q ps, Same H H' → H q = none → H' q = some (.lst (ps.map V.ref)) → StrsAt D (Fresh H) H' ps (parts ts t sl s) → Q (.ref q) H'
/-- the callees' promises -/
structure Calls1 (P : Program) (w : World) (K : PySem.W.Frag) (mg : Str → Option Value) (base : Heap) (D : Addr) where
  fT : Addr
  fdT : FuncData
  fN : Addr
  fdN : FuncData
  GT : FnOk P w K mg base CX0 2 fT fdT ["stretch", "times", "time", "slack"] (spTry K D)
  kT : PySem.W.keepIn K (.ref fT) = true
  bT : Binds K fdT ["stretch", "times", "time", "slack"] []
  gT : mg "beats_to_try" = some (.ref fT)
  GN : FnOk P w K mg base CX0 3 fN fdN ["stretch", "times", "time", "beat", "slack"] (spNar K D)
  kN : PySem.W.keepIn K (.ref fN) = true
  bN : Binds K fdN ["stretch", "times", "time", "beat", "slack"] []
  gN : mg "narrowed" = some (.ref fN)
theorem fm_take {α β : Type} (f : α → Option β) {l : List α} {i : Nat} {x : α} (h : l[i]? = some x) : (l.take (i + 1)).filterMap f = (l.take i).filterMap f ++ (match f x with | none => [] | some y => [y]) := by
  rw [List.take_add_one, h, List.filterMap_append]
  rfl
theorem ok_parts {f : Addr} {fd : FuncData} (F : Fun K "parts_with" "parts_with" sParts f fd) (C1 : Calls1 P w K mg base D) : FnOk P w K mg base CX0 4 f fd ["stretch", "times", "time", "slack"] (spParts K D) := by
  refine F.ok scParts (fun vs H Q E h => ?_) (fun cdv A outer s H vs Q E hr h => ?_)
  · obtain ⟨p, pt, s, ts, t, sl, rfl, _⟩ := h
    rfl
  · obtain ⟨p, pt, s, ts, t, sl, rfl, hS, hT, as, k⟩ := h
    have hr2 : Room 2 _ := hr.mono (by decide)
    refine ⟨_, pss_cons (ps_set (i := 4) scParts.nd rfl (.inl rfl) (pe_lst pa_nil))
      (pss_cons (ps_for PassesOwn.never rfl (pi_list (pe_call C1.GT hr2 (by rfl) C1.gT C1.kT C1.bT .nil pass0 (pa_cons (pv 0) (pa_cons (pv 1) (pa_cons (pv 2) (pa_cons (pv 3) pa_nil))))))
          (pg_name (i := 5) scParts.nd rfl (.inl rfl))
        (pss_cons (ps_set (i := 6) scParts.nd rfl (.inl rfl) (pe_call C1.GN hr (by rfl) C1.gN C1.kN C1.bN .nil pass0 (pa_cons (pv 0) (pa_cons (pv 1) (pa_cons (pv 2) (pa_cons (pv 5) (pa_cons (pv 3) pa_nil)))))))
        (pss_one (ps_if (pt_cmpR op_notN (pv 6) pe_non (nomark _))
          (pss_one (ps_expr (pe_bm PySem.F.plainAttrs_list PySem.F.slot_list_append PySem.F.type_list_append mt_append (pv 4) (pa_cons (pv 6) pa_nil)))) pss_nil))))
      (pss_one (ps_ret (pv 4)))), ?_⟩
    refine ⟨Nat.zero_le _, fun o no => ?_⟩
    have s1 : Same H (upd H o (.lst [])) := same_upd no
    refine ⟨_, rfl, _, rfl, _, rfl, _, rfl, p, pt, s, ts, t, sl, rfl, hS.same s1, s1.seq hT, as.sa, as.sb, as.a0, as.b0, as.tm, as.tb, as.slb, as.tr, fun q nq => ?_⟩
    have s2 := same_upd (o := HO.lst ((tries s ts t sl).map V.int)) nq
    have nqo : q ≠ o := fun e => by
      rw [e, upd_same] at nq
      cases nq
    refine ⟨q, rfl, ⟨_, SqL.of upd_same⟩, for_list (K := K) (a := q) (xs := (tries s ts t sl).map V.int) (fun i σ H' => ∃ (v5 v6 : Option V) (ps : List Addr), σ = [some (.ref p), some (.ref pt), some (.int (t : Int)), some (.int sl), some (.ref o), v5, v6] ∧
      Same H H' ∧ H' q = some (.lst ((tries s ts t sl).map V.int)) ∧ H' o = some (.lst (ps.map V.ref)) ∧ StrsAt D (fun b => H b = none ∧ b ≠ o) H' ps (((tries s ts t sl).take i).filterMap (narrowed s ts t sl)))
      ⟨none, none, [], rfl, s1.trans s2, upd_same, ?_, .nil⟩ ?_ ?_ ?_⟩
    · rw [upd_ne nqo.symm]
      exact upd_same
    · rintro i σ H' _ ⟨v5, v6, ps, rfl, sm, eq, eo, hps⟩
      exact SqL.of eq
    · rintro i x σ H' hx ⟨v5, v6, ps, rfl, sm, eq, eo, hps⟩
      obtain ⟨n, hn, rfl⟩ := vI_get hx
      have hnb := as.trm n (List.mem_of_getElem? hn)
      have hln : ps.length ≤ 2001 := by
        have h1 := hps.length
        have h2 := List.length_filterMap_le (narrowed s ts t sl) ((tries s ts t sl).take i)
        have h3 := as.tr
        rw [List.length_take] at h2
        omega
      refine ⟨_, rfl, _, rfl, _, rfl, _, rfl, _, rfl, p, pt, s, ts, t, n, sl, rfl, hS.same sm, sm.seq hT, as.sa, as.sb, as.len, as.tm, as.row, as.tl, as.tb, hnb, as.slb, fun en H2 s3 => ?_, fun y ey H2 r s3 hy => ?_⟩
      · refine ⟨_, rfl, rfl, _, rfl, ?_⟩
        refine iteF ?_
        refine ⟨some (.int n), some .non, ps, rfl, sm.trans s3, s3 _ _ eq, s3 _ _ eo, ?_⟩
        rw [fm_take _ hn, en, List.append_nil]
        exact hps.same s3
      · refine ⟨_, rfl, rfl, _, rfl, ?_⟩
        refine iteT ?_
        have eo3 := s3 _ _ eo
        have nro : ¬ (fun b => H b = none ∧ b ≠ o) o := fun z => z.2 rfl
        refine ⟨.ref o, rfl, .inl ⟨rfl, _, SqL.of eo3⟩, _, rfl, o, _, _, rfl, rfl, eo3, ?_, ?_⟩
        · rw [List.length_map, sizeLine_eq]
          omega
        · refine ⟨some (.int n), some (.ref r), ps ++ [r], rfl, ?_, ?_, ?_, ?_⟩
          · intro b z e
            have nb : b ≠ o := ne_of_none e no
            rw [upd_ne nb]
            exact s3 _ _ (sm _ _ e)
          · rw [upd_ne nqo]
            exact s3 _ _ eq
          · rw [upd_same, List.map_append]
            rfl
          · rw [fm_take _ hn, ey]
            refine StrsAt.upd ((hps.same s3).snoc (hy.imp fun b hb => ⟨sm.free hb, fun e => ?_⟩)) eo3 nro
            have hb : H' b = none := hb
            rw [e, eo] at hb
            cases hb
    · rintro σ H' ⟨v5, v6, ps, rfl, sm, eq, eo, hps⟩
      rw [List.length_map, List.take_length] at hps
      exact ⟨_, rfl, k H' o ps sm no eo (hps.imp fun b hb => hb.1)⟩
end
end Ev
set_option Elab.async false
set_option maxRecDepth 100000
set_option maxHeartbeats 2000000
namespace Ev
open PySem PySem.Spec PyProof.Rows L2
/-! ### What is asked holds of what is found -/
theorem Ok.take {s : Sy41.St} (k : Ok s) (i : Nat) : Ok { s with times := s.times.take i } :=
  ⟨k.lo, k.hi, k.top, k.up.sublist (List.take_sublist i s.times), fun t ht => k.in_ t (List.mem_of_mem_take ht)⟩
theorem asks_of {s : Sy41.St} (k : Ok s) (hl : s.times.length ≤ 11) {i t : Nat} (ht : s.times[i]? = some t) :
    ∀ x ∈ found s.lo s.hi s.off (s.times.take i), Asks x (s.times.take i) t (2 * (s.off : Int)) := by
  intro x hx
  have hi := (List.getElem?_eq_some_iff.mp ht).1
  have et := (List.getElem?_eq_some_iff.mp ht).2
  have k' := k.take i
  have ft := found_fit k' x hx
  have hlt : ∀ y ∈ s.times.take i, y < t := by
    intro y hy
    obtain ⟨j, hj, e⟩ := List.getElem_of_mem hy
    rw [List.length_take] at hj
    rw [List.getElem_take] at e
    rw [← e, ← et]
    exact List.pairwise_iff_getElem.mp k.up j i (by omega) hi (by omega)
  have ht2 : t ≤ 2000 := k.in_ t (List.mem_of_getElem? ht)
  obtain ⟨t1, t2⟩ := found_tries k' hlt ht2 x hx
  have h1 := k.lo
  have h2 := k.hi
  have h3 := k.top
  refine ⟨ft.sa, ft.sb, ft.pa, ft.pb, ft.len, ft.row, k'.in_, ?_, ht2, by omega, t1, t2⟩
  rw [List.length_take]
  omega
theorem found_len_take {s : Sy41.St} (k : Ok s) (hl : s.times.length ≤ 11) (i : Nat) : (found s.lo s.hi s.off (s.times.take i)).length ≤ 22001 := by
  have h := found_len (k.take i)
  have h2 : (s.times.take i).length ≤ 11 := by
    rw [List.length_take]
    omega
  have h3 : (foundOf { s with times := s.times.take i }).length ≤ 2000 * (s.times.take i).length + 1 := h
  show (foundOf { s with times := s.times.take i }).length ≤ 22001
  omega
theorem found_next (lo hi off : Nat) {ts : List Nat} {i t : Nat} (ht : ts[i]? = some t) : found lo hi off (ts.take (i + 1)) = (found lo hi off (ts.take i)).flatMap (parts (ts.take i) t (2 * (off : Int))) := by
  rw [List.take_add_one, ht]
  exact found_snoc lo hi off (ts.take i) t
theorem flat_take {α β : Type} (f : α → List β) (l : List α) (j : Nat) : ((l.take j).flatMap f).length ≤ (l.flatMap f).length := by
  conv => rhs; rw [← List.take_append_drop j l]
  rw [List.flatMap_append, List.length_append]
  omega
theorem flat_next {α β : Type} (f : α → List β) {l : List α} {j : Nat} {x : α} (h : l[j]? = some x) : (l.take (j + 1)).flatMap f = (l.take j).flatMap f ++ f x := by
  rw [List.take_add_one, h, List.flatMap_append]
  show _ ++ [x].flatMap f = _
  rw [List.flatMap_cons, List.flatMap_nil, List.append_nil]
theorem cut_take (xs : List V) (i : Nat) : cutV xs none (some (i : Int)) = xs.take i := by
  unfold cutV
  rw [HT.sIx_none, HT.sIx_nat]
  show (xs.drop 0).take (min i xs.length - 0) = xs.take i
  rw [List.drop_zero, Nat.sub_zero]
  by_cases h : i ≤ xs.length
  · rw [Nat.min_eq_left h]
  · rw [Nat.min_eq_right (by omega), List.take_length, List.take_of_length_le (by omega)]
theorem vN_take (ts : List Nat) (i : Nat) : (vN ts).take i = vN (ts.take i) := by
  unfold vN
  rw [List.map_take]
section
variable {P : Program} {w : World} {K : PySem.W.Frag} {mg : Str → Option Value} {base : Heap} {D : Addr}
/-! ### find_stretches -/
def spFind (K : PySem.W.Frag) (D : Addr) : Sp := fun vs H Q _ => ∃ (pt : Addr) (s : Sy41.St), vs = [.int (s.lo : Int), .int (s.hi : Int), .int (s.off : Int), .ref pt] ∧ SqL K H pt (vN s.times) ∧ Ok s ∧ s.times.length ≤ 11 ∧
  ∀ H' q ps, Same H H' → H q = none → H' q = some (.lst (ps.map V.ref)) → StrsAt D (Fresh H) H' ps (foundOf s) → Q (.ref q) H'
theorem ok_find {f fP fI : Addr} {fd fdP fdI : FuncData} (F : Fun K "find_stretches" "find_stretches" sFind f fd) (T : TxtS K mg D) (GP : FnOk P w K mg base CX0 4 fP fdP ["stretch", "times", "time", "slack"] (spParts K D)) (kP : PySem.W.keepIn K (.ref fP) = true)
    (bP : Binds K fdP ["stretch", "times", "time", "slack"] []) (gP : mg "parts_with" = some (.ref fP)) (M : Mk K D fI) (FI : Fun K "__init__" "Stretch.__init__" sInitS fI fdI) (bI : Binds K fdI ["self", "shortest", "longest", "row"] []) (me : mg "enumerate" = none) :
    FnOk P w K mg base CX0 5 f fd ["lo", "hi", "off", "times"] (spFind K D) := by
  have GI : FnOk P w K mg base CX0 1 fI fdI ["self", "shortest", "longest", "row"] (spInitS D) := ok_initS FI T
  refine F.ok scFind (fun vs H Q E h => ?_) (fun cdv A outer s H vs Q E hr h => ?_)
  · obtain ⟨pt, s, rfl, _⟩ := h
    rfl
  · obtain ⟨pt, s, rfl, hT, ok, hl, k⟩ := h
    have hr2 : Room 2 _ := hr.mono (by decide)
    have hlo := ok.lo
    have hhi := ok.hi
    have htop := ok.top
    refine ⟨_, pss_cons (ps_set (i := 4) scFind.nd rfl (.inl rfl) (pe_op op_mul pe_int (pv 2)))
      (pss_cons (ps_set (i := 5) scFind.nd rfl (.inl rfl) (pe_lst (pa_cons (pe_make M GI hr2 (by rfl) T.gC bI .nil pass0 (pa_cons (pe_tup (pa_cons (pv 0) (pa_cons pe_int pa_nil))) (pa_cons (pe_tup (pa_cons (pv 1) (pa_cons pe_int pa_nil))) (pa_cons (pe_lst pa_nil) pa_nil)))) pa_nil)))
      (pss_cons (ps_for PassesOwn.never rfl (pi_enum (by rfl) me (pa_cons (pv 3) pa_nil)) (pg_tup rfl (pgs_cons (pg_name (i := 6) scFind.nd rfl (.inl rfl)) (pgs_cons (pg_name (i := 7) scFind.nd rfl (.inl rfl)) pgs_nil)))
        (pss_cons (ps_set (i := 8) scFind.nd rfl (.inl rfl) (pe_lst pa_nil))
        (pss_cons (ps_for PassesOwn.never rfl (pi_list (pv 5)) (pg_name (i := 9) scFind.nd rfl (.inl rfl))
          (pss_one (ps_expr (pe_bm PySem.F.plainAttrs_list PySem.F.slot_list_extend PySem.F.type_list_extend mt_extend (pv 8) (pa_cons (pe_call GP hr (by rfl) gP kP bP .nil pass0 (pa_cons (pv 9) (pa_cons (pe_slice sl_list (pv 3) po_none (po_some (pv 6))) (pa_cons (pv 7) (pa_cons (pv 4) pa_nil))))) pa_nil)))))
        (pss_one (ps_set (i := 5) scFind.nd rfl (.inl rfl) (pv 8))))))
      (pss_one (ps_ret (pv 5))))), ?_⟩
    refine ⟨_, rfl, _, _, rfl, rfl, .inl ⟨by decide, by decide⟩, ?_⟩
    -- the first stretch
    refine ⟨_, rfl, (by show 2 ≤ sizeLine; decide), fun pa na => ?_⟩
    have s1 := same_upd (o := HO.tup [V.int (s.lo : Int), V.int 1]) na
    refine ⟨_, rfl, (by show 2 ≤ sizeLine; decide), fun pb nb => ?_⟩
    have s2 := same_upd (o := HO.tup [V.int (s.hi : Int), V.int 1]) nb
    refine ⟨(by show 0 ≤ sizeLine; decide), fun pr nr => ?_⟩
    have s3 := same_upd (o := HO.lst []) nr
    intro x dx nx ndx nex
    refine ⟨x, dx, .ref pa, .ref pb, .ref pr, rfl, upd_same, fun H1 J kp _ => ⟨rfl, ?_⟩⟩
    have s4 : Same _ H1 := Same.made nx ndx kp
    refine ⟨(by show 1 ≤ sizeLine; decide), fun q0 nq0 => ?_⟩
    have s5 := same_upd (o := HO.lst [V.ref x]) nq0
    have s14 := s1.trans (s2.trans (s3.trans s4))
    have sAll := s14.trans s5
    have hst : StrAt D (Fresh H) H1 x (firstS s.lo s.hi) := by
      refine ⟨dx, pa, pb, pr, J, s4 _ _ (s3 _ _ (s2 _ _ upd_same)), s4 _ _ (s3 _ _ upd_same), s4 _ _ upd_same, ?_⟩
      exact (s1.trans s2).free nr
    -- time by time
    refine ⟨_, rfl, pt, vN s.times, rfl, sAll.seq hT, for_it (walk_enum (K := K) (a := pt) (xs := vN s.times)) (fun i σ H' => ∃ (q : Addr) (ps : List Addr) (v6 v7 v8 v9 : Option V),
      σ = [some (.int (s.lo : Int)), some (.int (s.hi : Int)), some (.int (s.off : Int)), some (.ref pt), some (.int (2 * (s.off : Int))), some (.ref q), v6, v7, v8, v9] ∧
      Same H H' ∧ H q = none ∧ H' q = some (.lst (ps.map V.ref)) ∧ StrsAt D (Fresh H) H' ps (found s.lo s.hi s.off (s.times.take i)))
      ⟨q0, [x], none, none, none, none, rfl, sAll, s14.free nq0, upd_same, .cons (hst.same s5) .nil⟩ ?_ ?_ ?_⟩
    · rintro i σ H' _ ⟨q, ps, v6, v7, v8, v9, rfl, sm, nq, eq, hps⟩
      exact sm.seq hT
    · rintro i y σ H' H2 hi ⟨q, ps, v6, v7, v8, v9, rfl, sm, nq, eq, hps⟩ ⟨T0, x1, y1, rfl, nT, rfl, e1, e2⟩
      obtain rfl : V.int ((i : Nat) : Int) = x1 := Option.some.inj e1
      obtain ⟨t, ht, rfl⟩ := vN_get e2
      have s6 := same_upd (o := HO.tup [V.int ((i : Nat) : Int), V.int (t : Int)]) nT
      refine ⟨T0, [.int ((i : Nat) : Int), .int (t : Int)], rfl, SqT.of upd_same, rfl, _, _, rfl, _, _, rfl, rfl, ?_⟩
      refine ⟨(by show 0 ≤ sizeLine; decide), fun o no => ?_⟩
      have s7 := same_upd (o := HO.lst []) no
      have sm1 : Same H (upd H' T0 (.tup [.int ((i : Nat) : Int), .int (t : Int)])) := sm.trans s6
      have no0 : H o = none := sm1.free no
      have ask := asks_of ok hl ht
      have lenN := found_len_take ok hl (i + 1)
      rw [found_next s.lo s.hi s.off ht] at lenN
      have eq1 := s6 _ _ eq
      refine ⟨_, rfl, q, rfl, ⟨_, SqL.of (s7 _ _ eq1)⟩, for_list (K := K) (a := q) (xs := ps.map V.ref) (fun j σ H3 => ∃ (ps2 : List Addr) (v9 : Option V),
        σ = [some (.int (s.lo : Int)), some (.int (s.hi : Int)), some (.int (s.off : Int)), some (.ref pt), some (.int (2 * (s.off : Int))), some (.ref q), some (.int ((i : Nat) : Int)), some (.int (t : Int)), some (.ref o), v9] ∧
        Same (upd H' T0 (.tup [.int ((i : Nat) : Int), .int (t : Int)])) H3 ∧ H3 o = some (.lst (ps2.map V.ref)) ∧
        StrsAt D (fun b => H b = none ∧ b ≠ o) H3 ps2 (((found s.lo s.hi s.off (s.times.take i)).take j).flatMap (parts (s.times.take i) t (2 * (s.off : Int)))))
        ⟨[], v9, rfl, s7, upd_same, .nil⟩ ?_ ?_ ?_⟩
      · rintro j σ H3 _ ⟨ps2, v9', rfl, sn, eo, hps2⟩
        exact SqL.of (sn _ _ eq1)
      · rintro j y2 σ H3 hj ⟨ps2, v9', rfl, sn, eo, hps2⟩
        obtain ⟨p, hp, rfl⟩ := refs_get hj
        obtain ⟨z, hz, hst2⟩ := paired_get hps hp
        have hst3 : StrAt D (Fresh H) H3 p z := (hst2.same s6).same sn
        refine ⟨.ref o, rfl, .inl ⟨rfl, _, SqL.of eo⟩, _, rfl, _, rfl, _, rfl, _, rfl, pt, _, rfl, sn.seq (sm1.seq hT), fun c nc => ?_⟩
        have s8 := same_upd (o := HO.lst (cutV (vN s.times) none (some ((i : Nat) : Int)))) nc
        refine ⟨_, rfl, _, rfl, p, c, z, s.times.take i, t, 2 * (s.off : Int), rfl, (hst3.same s8).any, SqL.of ?_, ask z (List.mem_of_getElem? hz), fun H5 q2 ps3 s9 nq2 eq2 hps3 => ?_⟩
        · rw [upd_same, cut_take, vN_take]
        have eo5 := s9 _ _ (s8 _ _ eo)
        have hlen : ps2.length + ps3.length ≤ 22001 := by
          have a1 := hps2.length
          have a2 := hps3.length
          have a3 := flat_take (parts (s.times.take i) t (2 * (s.off : Int))) (found s.lo s.hi s.off (s.times.take i)) (j + 1)
          rw [flat_next _ hz, List.length_append] at a3
          omega
        refine ⟨o, q2, _, _, rfl, rfl, eo5, eq2, ?_, ?_⟩
        · rw [List.length_map, List.length_map, sizeLine_eq]
          omega
        · refine ⟨ps2 ++ ps3, some (.ref p), rfl, ?_, ?_, ?_⟩
          · intro b z2 e
            have nb : b ≠ o := ne_of_none e no
            rw [upd_ne nb]
            exact s9 _ _ (s8 _ _ (sn _ _ e))
          · rw [upd_same, List.map_append]
          · rw [flat_next _ hz]
            have s34 := s8.trans s9
            refine StrsAt.upd (paired_app (hps2.same s34) (hps3.imp fun b hb => ⟨?_, fun e => ?_⟩)) eo5 (fun z3 => z3.2 rfl)
            · exact ((sm1.trans sn).trans s8).free hb
            · have hb : upd H3 c _ b = none := hb
              rw [e, s8 _ _ eo] at hb
              cases hb
      · rintro σ H3 ⟨ps2, v9', rfl, sn, eo, hps2⟩
        have e3 : (ps.map V.ref).length = (found s.lo s.hi s.off (s.times.take i)).length := by
          rw [List.length_map]
          exact hps.length
        rw [e3, List.take_length, ← found_next s.lo s.hi s.off ht] at hps2
        refine ⟨_, rfl, o, ps2, _, _, _, _, rfl, sm1.trans sn, no0, eo, hps2.imp fun b hb => hb.1⟩
    · rintro σ H' ⟨q, ps, v6, v7, v8, v9, rfl, sm, nq, eq, hps⟩
      have e3 : (vN s.times).length = s.times.length := by
        unfold vN
        rw [List.length_map]
      rw [e3, List.take_length] at hps
      exact ⟨_, rfl, k H' q ps sm nq eq hps⟩
end
end Ev
set_option Elab.async false
set_option maxRecDepth 100000
set_option maxHeartbeats 2000000
namespace Ev
open PySem PySem.Spec PyProof.Rows L2
/-! ### The text -/
abbrev cBeat : Stmt := topS 27
abbrev sInitB : Stmt := inClass cBeat 0
abbrev sWith : Stmt := inClass cBeat 1
abbrev sKeep : Stmt := inClass cBeat 2
abbrev sOf : Stmt := inClass cBeat 3
abbrev sRef : Stmt := inClass cBeat 4
abbrev sBy : Stmt := inClass cBeat 5
abbrev sBegins : Stmt := inClass cBeat 6
abbrev sSeen : Stmt := inClass cBeat 7
abbrev sDrop : Stmt := inClass cBeat 8
abbrev sPeriods : Stmt := inClass cBeat 9
abbrev sFits : Stmt := inClass cBeat 10
abbrev sCould : Stmt := inClass cBeat 11
abbrev sWindow : Stmt := inClass cBeat 12
abbrev sBeats : Stmt := inClass cBeat 13
abbrev sNext : Stmt := inClass cBeat 14
abbrev sAlone : Stmt := inClass cBeat 15
abbrev sTimes : Stmt := inClass cBeat 16
theorem scInitB : FnScope ["self"] ["self"] (defScope sInitB) := ⟨rfl, rfl, rfl, by decide +kernel, rfl, by decide +kernel, by decide +kernel⟩
theorem scWith : FnScope ["self", "times"] ["self", "times"] (defScope sWith) := ⟨rfl, rfl, rfl, by decide +kernel, rfl, by decide +kernel, by decide +kernel⟩
theorem scKeep : FnScope ["self", "times"] ["self", "times"] (defScope sKeep) := ⟨rfl, rfl, rfl, by decide +kernel, rfl, by decide +kernel, by decide +kernel⟩
theorem scBegins : FnScope ["self", "lo", "hi", "off"] ["self", "lo", "hi", "off"] (defScope sBegins) := ⟨rfl, rfl, rfl, by decide +kernel, rfl, by decide +kernel, by decide +kernel⟩
theorem scSeen : FnScope ["self", "time", "times"] ["self", "time"] (defScope sSeen) := ⟨rfl, rfl, rfl, by decide +kernel, rfl, by decide +kernel, by decide +kernel⟩
theorem scDrop : FnScope ["self", "time", "other"] ["self", "time"] (defScope sDrop) := ⟨rfl, rfl, rfl, by decide +kernel, rfl, by decide +kernel, by decide +kernel⟩
theorem scCould : FnScope ["self", "time"] ["self", "time"] (defScope sCould) := ⟨rfl, rfl, rfl, by decide +kernel, rfl, by decide +kernel, by decide +kernel⟩
/-! ### The beat's object -/
def b3 (lo hi off : V) : List (Str × V) := [("lo", lo), ("hi", hi), ("off", off)]
def b4 (lo hi off x : V) : List (Str × V) := [("lo", lo), ("hi", hi), ("off", off), ("seen_times", x)]
def bF (lo hi off x y : V) : List (Str × V) := [("lo", lo), ("hi", hi), ("off", off), ("seen_times", x), ("stretches", y)]
theorem b_new (lo hi off : V) : putF "off" off (putF "hi" hi (putF "lo" lo [])) = b3 lo hi off := by
  have e1 : putF "hi" hi (putF "lo" lo []) = ([("lo", lo), ("hi", hi)] : List (Str × V)) := (put_past (by decide +kernel)).trans rfl
  rw [e1]
  exact (put_past (by decide +kernel)).trans (congrArg _ ((put_past (by decide +kernel)).trans rfl))
theorem b3_x (lo hi off x : V) : putF "seen_times" x (b3 lo hi off) = b4 lo hi off x :=
  (put_past (by decide +kernel)).trans (congrArg _ ((put_past (by decide +kernel)).trans (congrArg _ ((put_past (by decide +kernel)).trans rfl))))
theorem b4_y (lo hi off x y : V) : putF "stretches" y (b4 lo hi off x) = bF lo hi off x y :=
  (put_past (by decide +kernel)).trans (congrArg _ ((put_past (by decide +kernel)).trans (congrArg _ ((put_past (by decide +kernel)).trans (congrArg _ ((put_past (by decide +kernel)).trans rfl))))))
theorem bF_x (lo hi off x y z : V) : putF "seen_times" z (bF lo hi off x y) = bF lo hi off z y :=
  (put_past (by decide +kernel)).trans (congrArg _ ((put_past (by decide +kernel)).trans (congrArg _ ((put_past (by decide +kernel)).trans (congrArg _ put_here)))))
theorem bF_y (lo hi off x y z : V) : putF "stretches" z (bF lo hi off x y) = bF lo hi off x z :=
  (put_past (by decide +kernel)).trans (congrArg _ ((put_past (by decide +kernel)).trans (congrArg _ ((put_past (by decide +kernel)).trans (congrArg _ ((put_past (by decide +kernel)).trans (congrArg _ put_here)))))))
theorem bF_lo (lo hi off x y z : V) : putF "lo" z (bF lo hi off x y) = bF z hi off x y := put_here
theorem bF_hi (lo hi off x y z : V) : putF "hi" z (bF lo hi off x y) = bF lo z off x y := (put_past (by decide +kernel)).trans (congrArg _ put_here)
theorem bF_off (lo hi off x y z : V) : putF "off" z (bF lo hi off x y) = bF lo hi z x y := (put_past (by decide +kernel)).trans (congrArg _ ((put_past (by decide +kernel)).trans (congrArg _ put_here)))
/-- what the methods ask of the attributes -/
structure Flds (fs : List (Str × V)) (lo hi off : V) : Prop where
  lo : fs.lookup ("lo" : Str) = some lo
  hi : fs.lookup ("hi" : Str) = some hi
  off : fs.lookup ("off" : Str) = some off
  w : fs.lookup ("stretches_with" : Str) = none
  k : fs.lookup ("keep_times" : Str) = none
  few : fs.length < 1000
theorem fl3 (lo hi off : V) : Flds (b3 lo hi off) lo hi off :=
  ⟨lk_here, (lk_past (by decide +kernel)).trans lk_here, (lk_past (by decide +kernel)).trans ((lk_past (by decide +kernel)).trans lk_here),
    (lk_past (by decide +kernel)).trans ((lk_past (by decide +kernel)).trans ((lk_past (by decide +kernel)).trans rfl)), (lk_past (by decide +kernel)).trans ((lk_past (by decide +kernel)).trans ((lk_past (by decide +kernel)).trans rfl)), by show 3 < 1000; decide⟩
theorem fl4 (lo hi off x : V) : Flds (b4 lo hi off x) lo hi off :=
  ⟨lk_here, (lk_past (by decide +kernel)).trans lk_here, (lk_past (by decide +kernel)).trans ((lk_past (by decide +kernel)).trans lk_here),
    (lk_past (by decide +kernel)).trans ((lk_past (by decide +kernel)).trans ((lk_past (by decide +kernel)).trans ((lk_past (by decide +kernel)).trans rfl))),
    (lk_past (by decide +kernel)).trans ((lk_past (by decide +kernel)).trans ((lk_past (by decide +kernel)).trans ((lk_past (by decide +kernel)).trans rfl))), by show 4 < 1000; decide⟩
/-- a name that is none of the five -/
theorem bF_none {lo hi off x y : V} {m : Str} (h1 : (m == ("lo" : Str)) = false) (h2 : (m == ("hi" : Str)) = false) (h3 : (m == ("off" : Str)) = false) (h4 : (m == ("seen_times" : Str)) = false) (h5 : (m == ("stretches" : Str)) = false) : (bF lo hi off x y).lookup m = none :=
  (lk_past h1).trans ((lk_past h2).trans ((lk_past h3).trans ((lk_past h4).trans ((lk_past h5).trans rfl))))
theorem flF (lo hi off x y : V) : Flds (bF lo hi off x y) lo hi off :=
  ⟨lk_here, (lk_past (by decide +kernel)).trans lk_here, (lk_past (by decide +kernel)).trans ((lk_past (by decide +kernel)).trans lk_here),
    bF_none (by decide +kernel) (by decide +kernel) (by decide +kernel) (by decide +kernel) (by decide +kernel),
    bF_none (by decide +kernel) (by decide +kernel) (by decide +kernel) (by decide +kernel) (by decide +kernel), by show 5 < 1000; decide⟩
theorem bF_seen (lo hi off x y : V) : (bF lo hi off x y).lookup ("seen_times" : Str) = some x := (lk_past (by decide +kernel)).trans ((lk_past (by decide +kernel)).trans ((lk_past (by decide +kernel)).trans lk_here))
theorem bF_str (lo hi off x y : V) : (bF lo hi off x y).lookup ("stretches" : Str) = some y := (lk_past (by decide +kernel)).trans ((lk_past (by decide +kernel)).trans ((lk_past (by decide +kernel)).trans ((lk_past (by decide +kernel)).trans lk_here)))
/-- the beat at p is as s says; its lists stand where N says -/
def BeatAt (C D : Addr) (N : Addr → Prop) (H : Hp) (p : Addr) (s : Sy41.St) : Prop :=
  ∃ (dx pt pq : Addr) (ps : List Addr), H p = some (.ins C dx (bF (.int (s.lo : Int)) (.int (s.hi : Int)) (.int (s.off : Int)) (.ref pt) (.ref pq))) ∧
    H pt = some (.lst (vN s.times)) ∧ N pt ∧ H pq = some (.lst (ps.map V.ref)) ∧ N pq ∧ StrsAt D N H ps (foundOf s) ∧ Ok s ∧ s.times.length ≤ 10
/-- what the top has written of EvenBeat -/
structure TxtB (K : PySem.W.Frag) (mg : Str → Option Value) (C D : Addr) : Prop where
  cl : Cls K C
  nLo : NoAttr K C "lo"
  nHi : NoAttr K C "hi"
  nOff : NoAttr K C "off"
  nT : NoAttr K C "seen_times"
  nQ : NoAttr K C "stretches"
  gC : mg "EvenBeat" = some (.ref C)
  ne : C ≠ D
section
variable {P : Program} {w : World} {K : PySem.W.Frag} {mg : Str → Option Value} {base : Heap} {C D : Addr}
/-! ### stretches_with, keep_times -/
def spWith (C D : Addr) (K : PySem.W.Frag) : Sp := fun vs H Q _ => ∃ (p dx pt : Addr) (fs : List (Str × V)) (s : Sy41.St), vs = [.ref p, .ref pt] ∧ H p = some (.ins C dx fs) ∧ Flds fs (.int (s.lo : Int)) (.int (s.hi : Int)) (.int (s.off : Int)) ∧ SqL K H pt (vN s.times) ∧ Ok s ∧ s.times.length ≤ 11 ∧
  ∀ H' q ps, Same H H' → H q = none → H' q = some (.lst (ps.map V.ref)) → StrsAt D (Fresh H) H' ps (foundOf s) → Q (.ref q) H'
theorem ok_with {f fF : Addr} {fd fdF : FuncData} (F : Fun K "stretches_with" "EvenBeat.stretches_with" sWith f fd) (T : TxtB K mg C D) (GF : FnOk P w K mg base CX0 5 fF fdF ["lo", "hi", "off", "times"] (spFind K D)) (kF : PySem.W.keepIn K (.ref fF) = true)
    (bFd : Binds K fdF ["lo", "hi", "off", "times"] []) (gF : mg "find_stretches" = some (.ref fF)) : FnOk P w K mg base CX0 6 f fd ["self", "times"] (spWith C D K) := by
  refine F.ok scWith (fun vs H Q E h => ?_) (fun cdv A outer s H vs Q E hr h => ?_)
  · obtain ⟨p, dx, pt, fs, s, rfl, _⟩ := h
    rfl
  · obtain ⟨p, dx, pt, fs, s, rfl, hp, fl, hT, ok, hl, k⟩ := h
    refine ⟨_, pss_one (ps_ret (pe_call GF hr (by rfl) gF kF bFd .nil pass0 (pa_cons (pe_fld (pv 0) rfl) (pa_cons (pe_fld (pv 0) rfl) (pa_cons (pe_fld (pv 0) rfl) (pa_cons (pv 1) pa_nil)))))), ?_⟩
    exact ⟨_, rfl, p, C, dx, _, _, rfl, hp, T.cl, T.nLo, fl.lo, _, rfl, p, C, dx, _, _, rfl, hp, T.cl, T.nHi, fl.hi, _, rfl, p, C, dx, _, _, rfl, hp, T.cl, T.nOff, fl.off, _, rfl, pt, s, rfl, hT, ok, hl, k⟩
/-- all but p stands -/
def But (p : Addr) (H H' : Hp) : Prop := ∀ b o, H b = some o → b ≠ p → H' b = some o
def spKeep (C D : Addr) : Sp := fun vs H Q _ => ∃ (p dx pt : Addr) (fs : List (Str × V)) (s : Sy41.St) (N : Addr → Prop), vs = [.ref p, .ref pt] ∧ H p = some (.ins C dx fs) ∧
  (fs = b3 (.int (s.lo : Int)) (.int (s.hi : Int)) (.int (s.off : Int)) ∨ ∃ x y, fs = bF (.int (s.lo : Int)) (.int (s.hi : Int)) (.int (s.off : Int)) x y) ∧ H pt = some (.lst (vN s.times)) ∧ N pt ∧ (∀ b, H b = none → N b) ∧ Ok s ∧ s.times.length ≤ 10 ∧
  ∀ H', BeatAt C D N H' p s → But p H H' → Q .non H'
theorem ok_keep {f fW : Addr} {fd fdW : FuncData} (F : Fun K "keep_times" "EvenBeat.keep_times" sKeep f fd) (T : TxtB K mg C D) (GW : FnOk P w K mg base CX0 6 fW fdW ["self", "times"] (spWith C D K)) (mW : Meth K C "stretches_with" fW)
    (bW : Binds K fdW ["self", "times"] []) : FnOk P w K mg base CX0 7 f fd ["self", "times"] (spKeep C D) := by
  refine F.ok scKeep (fun vs H Q E h => ?_) (fun cdv A outer s H vs Q E hr h => ?_)
  · obtain ⟨p, dx, pt, fs, s, N, rfl, _⟩ := h
    rfl
  · obtain ⟨p, dx, pt, fs, s, N, rfl, hp, hfs, hT, nT, hN, ok, hl, k⟩ := h
    have npt : pt ≠ p := ne_of hT hp (by intro z; cases z)
    have few : fs.length < 1000 := by
      rcases hfs with rfl | ⟨x, y, rfl⟩
      · exact (fl3 _ _ _).few
      · exact (flF _ _ _ _ _).few
    refine ⟨_, pss_cons (ps_fld (pv 0) (pv 1) rfl) (pss_one (ps_fld (pv 0) (pe_meth (pv 0) T.cl mW GW hr bW .nil pass0 (pa_cons (pv 1) pa_nil)) rfl)), ?_⟩
    refine ⟨_, rfl, _, rfl, p, C, dx, fs, rfl, hp, T.cl, T.nT, few, ?_⟩
    obtain ⟨fs2, e2, fl2, e3⟩ : ∃ fs2, putF "seen_times" (.ref pt) fs = fs2 ∧ Flds fs2 (.int (s.lo : Int)) (.int (s.hi : Int)) (.int (s.off : Int)) ∧ ∀ z, putF "stretches" z fs2 = bF (.int (s.lo : Int)) (.int (s.hi : Int)) (.int (s.off : Int)) (.ref pt) z := by
      rcases hfs with rfl | ⟨x, y, rfl⟩
      · exact ⟨_, b3_x _ _ _ _, fl4 _ _ _ _, fun z => b4_y _ _ _ _ _⟩
      · exact ⟨_, bF_x _ _ _ _ _ _, flF _ _ _ _ _, fun z => bF_y _ _ _ _ _ _⟩
    rw [e2]
    have hT1 : upd H p (.ins C dx fs2) pt = some (.lst (vN s.times)) := by
      rw [upd_ne npt]
      exact hT
    refine ⟨_, rfl, p, dx, fs2, rfl, upd_same, fl2.w, _, rfl, p, dx, pt, fs2, s, rfl, upd_same, fl2, SqL.of hT1, ok, by omega, fun H' q ps sm nq eq hps => ?_⟩
    have hp2 := sm _ _ (show upd H p (.ins C dx fs2) p = some (.ins C dx fs2) from upd_same)
    refine ⟨_, rfl, p, C, dx, fs2, rfl, hp2, T.cl, T.nQ, fl2.few, ?_⟩
    rw [e3]
    have hfree : ∀ b, upd H p (.ins C dx fs2) b = none → H b = none := by
      intro b hb
      by_cases e : b = p
      · rw [e, upd_same] at hb
        cases hb
      · rw [upd_ne e] at hb
        exact hb
    have nqp : q ≠ p := ne_of eq hp2 (by intro z; cases z)
    have ht2 := sm _ _ hT1
    refine k _ ⟨dx, pt, q, ps, upd_same, ?_, nT, ?_, hN q (hfree q nq), ?_, ok, hl⟩ ?_
    · rw [upd_ne npt]
      exact ht2
    · rw [upd_ne nqp]
      exact eq
    · refine Paired.mapP hps fun a b hab => ?_
      obtain ⟨dx3, pa, pb, pr, h1, h2, h3, h4, h5⟩ := hab
      have n1 : a ≠ p := by
        intro e
        rw [e, hp2] at h1
        exact T.ne (HO.ins.inj (Option.some.inj h1)).1
      have n2 : pa ≠ p := ne_of h2 hp2 (by intro z; cases z)
      have n3 : pb ≠ p := ne_of h3 hp2 (by intro z; cases z)
      have n4 : pr ≠ p := ne_of h4 hp2 (by intro z; cases z)
      refine ⟨dx3, pa, pb, pr, ?_, ?_, ?_, ?_, hN pr (hfree pr h5)⟩
      · rw [upd_ne n1]; exact h1
      · show L2.upd H' p _ pa = _
        rw [upd_ne n2]; exact h2
      · show L2.upd H' p _ pb = _
        rw [upd_ne n3]; exact h3
      · rw [upd_ne n4]; exact h4
    · intro b o e hb
      rw [upd_ne hb]
      refine sm _ _ ?_
      rw [upd_ne hb]
      exact e
/-! ### EvenBeat.__init__ -/
def spInitB (C D : Addr) : Sp := fun vs H Q _ => ∃ (p dx : Addr) (N : Addr → Prop), vs = [.ref p] ∧ H p = some (.ins C dx []) ∧ (∀ b, H b = none → N b) ∧
  ∀ H', BeatAt C D N H' p Sy41.init → But p H H' → Q .non H'
theorem ok_init_st : Ok Sy41.init := ⟨by decide, by decide, by decide, List.Pairwise.nil, fun t ht => by cases ht⟩
theorem ok_initB {f fK : Addr} {fd fdK : FuncData} (F : Fun K "__init__" "EvenBeat.__init__" sInitB f fd) (T : TxtB K mg C D) (GK : FnOk P w K mg base CX0 7 fK fdK ["self", "times"] (spKeep C D)) (mK : Meth K C "keep_times" fK)
    (bK : Binds K fdK ["self", "times"] []) : FnOk P w K mg base CX0 8 f fd ["self"] (spInitB C D) := by
  refine F.ok scInitB (fun vs H Q E h => ?_) (fun cdv A outer s H vs Q E hr h => ?_)
  · obtain ⟨p, dx, N, rfl, _⟩ := h
    rfl
  · obtain ⟨p, dx, N, rfl, hp, hN, k⟩ := h
    refine ⟨_, pss_cons (ps_fld (pv 0) pe_int rfl) (pss_cons (ps_fld (pv 0) pe_int rfl) (pss_cons (ps_fld (pv 0) pe_int rfl)
      (pss_one (ps_expr (pe_meth (pv 0) T.cl mK GK hr bK .nil pass0 (pa_cons (pe_lst pa_nil) pa_nil)))))), ?_⟩
    refine ⟨_, rfl, p, C, dx, [], rfl, hp, T.cl, T.nLo, (by show 0 < 1000; decide), ?_⟩
    refine ⟨_, rfl, p, C, dx, _, rfl, upd_same, T.cl, T.nHi, (by show 1 < 1000; decide), ?_⟩
    refine ⟨_, rfl, p, C, dx, _, rfl, upd_same, T.cl, T.nOff, (by show 2 < 1000; decide), ?_⟩
    have e0 : putF "off" (V.int 0) (putF "hi" (V.int 1) (putF "lo" (V.int 1) [])) = b3 (.int 1) (.int 1) (.int 0) := b_new _ _ _
    rw [e0]
    refine ⟨_, rfl, p, dx, _, rfl, upd_same, (fl3 _ _ _).k, (by show 0 ≤ sizeLine; decide), fun l hl => ?_⟩
    have hlH : H l = none := by
      have np : l ≠ p := by
        intro e
        rw [e, upd_same] at hl
        cases hl
      rw [upd_ne np, upd_ne np, upd_ne np] at hl
      exact hl
    have nlp : p ≠ l := fun e => by
      rw [← e, upd_same] at hl
      cases hl
    refine ⟨p, dx, l, _, Sy41.init, N, rfl, ?_, .inl rfl, upd_same, hN l hlH, fun b hb => ?_, ok_init_st, (by decide), fun H' hB hbut => ?_⟩
    · rw [upd_ne nlp]
      exact upd_same
    · refine hN b ?_
      by_cases e : b = l
      · rw [e, upd_same] at hb
        cases hb
      · rw [upd_ne e] at hb
        have np : b ≠ p := by
          intro e
          rw [e, upd_same] at hb
          cases hb
        rw [upd_ne np, upd_ne np, upd_ne np] at hb
        exact hb
    · refine k H' hB fun b o e hb => hbut b o ?_ hb
      rw [upd_ne (ne_of_none e hlH), upd_ne hb, upd_ne hb, upd_ne hb]
      exact e
end
end Ev
set_option Elab.async false
set_option maxRecDepth 100000
set_option maxHeartbeats 2000000
namespace Ev
open PySem PySem.Spec PyProof.Rows L2
/-! ### What a call of a method is worth: one number, and the beat behind it -/
def Does (C D : Addr) (N : Addr → Prop) (p : Addr) (s : Sy41.St) (c : Sy41.Call) (H : Hp) (Q : VK) : Prop :=
  BeatAt C D N H p s ∧ (∀ b, H b = none → N b) ∧ ∀ R, Sy41.step s c = R → ∀ H', BeatAt C D N H' p R.1 → But p H H' → Q (.int R.2.v) H'
theorem But.refl (p : Addr) (H : Hp) : But p H H := fun _ _ e _ => e
theorem Same.but {p : Addr} {H H' : Hp} (h : Same H H') : But p H H' := fun b o e _ => h b o e
theorem But.trans {p : Addr} {H H1 H2 : Hp} (h1 : But p H H1) (h2 : But p H1 H2) : But p H H2 := fun b o e hb => h2 b o (h1 b o e hb) hb
theorem BeatAt.same {C D : Addr} {N : Addr → Prop} {H H' : Hp} {p : Addr} {s : Sy41.St} (h : BeatAt C D N H p s) (k : Same H H') : BeatAt C D N H' p s := by
  obtain ⟨dx, pt, pq, ps, h1, h2, h3, h4, h5, h6, h7, h8⟩ := h
  exact ⟨dx, pt, pq, ps, k _ _ h1, k _ _ h2, h3, k _ _ h4, h5, h6.same k, h7, h8⟩
theorem free_same {N : Addr → Prop} {H H' : Hp} (hN : ∀ b, H b = none → N b) (k : Same H H') : ∀ b, H' b = none → N b := fun b hb => hN b (k.free hb)
/-- the constants -/
structure TxtK (mg : Str → Option Value) : Prop where
  c8 : ∃ t, mg "SHORTEST_LO" = some (.int 8 t)
  cH : ∃ t, mg "LONGEST_HI" = some (.int 1000 t)
  cT : ∃ t, mg "LATEST_TIME" = some (.int 2000 t)
  cM : ∃ t, mg "MOST_TIMES" = some (.int 10 t)
  cB : ∃ t, mg "GREATEST_BELOW" = some (.int 1000 t)
theorem in_times (t : Nat) : ∀ ts : List Nat, inV (.int (t : Int)) (vN ts) = ts.contains t
  | [] => rfl
  | x :: r => by
    have ih := in_times t r
    show (eqV (.int (x : Int)) (.int (t : Int)) || inV (.int (t : Int)) (vN r)) = _
    rw [ih, List.contains_cons]
    congr 1
    show ((x : Int) == (t : Int)) = (t == x)
    by_cases e : t = x
    · rw [e]; simp
    · have e2 : ¬ (x : Int) = (t : Int) := by omega
      rw [beq_eq_false_iff_ne.mpr e, beq_eq_false_iff_ne.mpr e2]
theorem flat_times (ts : List Nat) : (vN ts).all flatV = true := by
  unfold vN
  rw [List.all_map]
  exact List.all_eq_true.mpr fun x _ => rfl
theorem vN_len (ts : List Nat) : (vN ts).length = ts.length := by
  unfold vN
  rw [List.length_map]
theorem vN_map (ts : List Nat) : vN ts = (ts.map (fun (n : Nat) => (n : Int))).map V.int := by
  unfold vN
  rw [List.map_map]
  rfl
section
variable {P : Program} {w : World} {K : PySem.W.Frag} {mg : Str → Option Value} {base : Heap} {C D : Addr}
/-- keep_times and stretches_with at hand -/
structure Calls2 (P : Program) (w : World) (K : PySem.W.Frag) (mg : Str → Option Value) (base : Heap) (C D : Addr) where
  T : TxtB K mg C D
  TK : TxtK mg
  ml : mg "len" = none
  ms : mg "sorted" = none
  fW : Addr
  fdW : FuncData
  GW : FnOk P w K mg base CX0 6 fW fdW ["self", "times"] (spWith C D K)
  mW : Meth K C "stretches_with" fW
  bW : Binds K fdW ["self", "times"] []
  fK : Addr
  fdK : FuncData
  GK : FnOk P w K mg base CX0 7 fK fdK ["self", "times"] (spKeep C D)
  mK : Meth K C "keep_times" fK
  bK : Binds K fdK ["self", "times"] []
/-! ### begins -/
def spBegins (C D : Addr) : Sp := fun vs H Q _ => ∃ (p : Addr) (lo hi off : Nat) (s : Sy41.St) (N : Addr → Prop), vs = [.ref p, .int (lo : Int), .int (hi : Int), .int (off : Int)] ∧ Does C D N p s (.begins lo hi off) H Q
theorem ok_begins {f : Addr} {fd : FuncData} (F : Fun K "begins" "EvenBeat.begins" sBegins f fd) (Z : Calls2 P w K mg base C D) : FnOk P w K mg base CX0 8 f fd ["self", "lo", "hi", "off"] (spBegins C D) := by
  have T := Z.T
  obtain ⟨t8, c8⟩ := Z.TK.c8
  obtain ⟨tH, cH⟩ := Z.TK.cH
  refine F.ok scBegins (fun vs H Q E h => ?_) (fun cdv A outer s H vs Q E hr h => ?_)
  · obtain ⟨p, lo, hi, off, s, N, rfl, _⟩ := h
    rfl
  · obtain ⟨p, lo, hi, off, s, N, rfl, hB, hN, k⟩ := h
    refine ⟨_, pss_cons (ps_if (PW.pt (pw_or (pt_cmpR op_lt (pv 1) (pe_glob rfl c8 (v := .int 8) ⟨_, rfl⟩) (nomark _)) (pw_or (pt_cmpR op_gt (pv 1) (pv 2) (nomark _)) (pw_or (pt_cmpR op_gt (pv 2) (pe_glob rfl cH (v := .int 1000) ⟨_, rfl⟩) (nomark _))
        (pw_or1 (pt_cmpR op_le (pv 1) (pe_op op_mul pe_int (pv 3)) (nomark _))))))) (pss_one (ps_ret (pe_un un_neg pe_int))) pss_nil)
      (pss_cons (ps_fld (pv 0) (pv 1) rfl) (pss_cons (ps_fld (pv 0) (pv 2) rfl) (pss_cons (ps_fld (pv 0) (pv 3) rfl)
      (pss_cons (ps_expr (pe_meth (pv 0) T.cl Z.mK Z.GK hr Z.bK .nil pass0 (pa_cons (pe_lst pa_nil) pa_nil))) (pss_one (ps_ret pe_int)))))), ?_⟩
    have no : (lo < 8 ∨ hi < lo ∨ Sy41.LONGEST < hi ∨ lo ≤ 4 * off) → Q (.int (-1)) H := fun c => k (s, Sy41.ok (-1)) (if_pos c) H hB (But.refl p H)
    refine ⟨_, rfl, _, _, rfl, rfl, _, rfl, ?_⟩
    refine ite2 (fun c => iteT ⟨_, rfl, no (.inl (by have := of_decide_eq_true c; omega))⟩) (fun c1 => ?_)
    have c1 : ¬ (lo : Int) < 8 := fun q => c1 (decide_eq_true q)
    refine ⟨_, rfl, _, rfl, _, _, rfl, rfl, _, rfl, ?_⟩
    refine ite2 (fun c => iteT ⟨_, rfl, no (.inr (.inl (by have := of_decide_eq_true c; omega)))⟩) (fun c2 => ?_)
    have c2 : ¬ (hi : Int) < (lo : Int) := fun q => c2 (decide_eq_true q)
    refine ⟨_, rfl, _, _, rfl, rfl, _, rfl, ?_⟩
    refine ite2 (fun c => iteT ⟨_, rfl, no (.inr (.inr (.inl (by have := of_decide_eq_true c; show 1000 < hi; omega))))⟩) (fun c3 => ?_)
    have c3 : ¬ (1000 : Int) < (hi : Int) := fun q => c3 (decide_eq_true q)
    refine ⟨_, rfl, _, rfl, _, _, rfl, rfl, .inl ⟨by decide, by decide⟩, _, _, rfl, rfl, _, rfl, ?_⟩
    refine ite2 (fun c => ⟨_, rfl, no (.inr (.inr (.inr (by have := of_decide_eq_true c; omega))))⟩) (fun c4 => ?_)
    have c4 : ¬ (lo : Int) ≤ 4 * (off : Int) := fun q => c4 (decide_eq_true q)
    have hstep : Sy41.step s (.begins lo hi off) = (⟨lo, hi, off, []⟩, Sy41.ok 0) := if_neg (by show ¬ (lo < 8 ∨ hi < lo ∨ 1000 < hi ∨ lo ≤ 4 * off); omega)
    obtain ⟨dx, pt, pq, ps, h1, h2, h3, h4, h5, h6, h7, h8⟩ := hB
    refine ⟨_, rfl, _, rfl, p, C, dx, _, rfl, h1, T.cl, T.nLo, (by show 5 < 1000; decide), ?_⟩
    rw [bF_lo]
    refine ⟨_, rfl, _, rfl, p, C, dx, _, rfl, upd_same, T.cl, T.nHi, (by show 5 < 1000; decide), ?_⟩
    rw [bF_hi]
    refine ⟨_, rfl, _, rfl, p, C, dx, _, rfl, upd_same, T.cl, T.nOff, (by show 5 < 1000; decide), ?_⟩
    rw [bF_off]
    refine ⟨_, rfl, p, dx, _, rfl, upd_same, (flF _ _ _ _ _).k, (by show 0 ≤ sizeLine; decide), fun l hl => ?_⟩
    have npl : p ≠ l := fun e => by
      rw [← e, upd_same] at hl
      cases hl
    have hlH : H l = none := by
      rw [upd_ne (Ne.symm npl), upd_ne (Ne.symm npl), upd_ne (Ne.symm npl)] at hl
      exact hl
    refine ⟨p, dx, l, _, ⟨lo, hi, off, []⟩, N, rfl, ?_, .inr ⟨.ref pt, .ref pq, rfl⟩, upd_same, hN l hlH, fun b hb => ?_, ⟨by dsimp only; omega, by dsimp only; omega, by dsimp only; omega, List.Pairwise.nil, fun t ht => by cases ht⟩, (by decide : 0 ≤ 10), fun H' hB hbut => ?_⟩
    · rw [upd_ne npl]
      exact upd_same
    · refine hN b ?_
      by_cases e : b = l
      · rw [e, upd_same] at hb
        cases hb
      · rw [upd_ne e] at hb
        have np : b ≠ p := by
          intro e
          rw [e, upd_same] at hb
          cases hb
        rw [upd_ne np, upd_ne np, upd_ne np] at hb
        exact hb
    · refine k _ hstep H' hB fun b o e hb => hbut b o ?_ hb
      rw [upd_ne (ne_of_none e hlH), upd_ne hb, upd_ne hb, upd_ne hb]
      exact e
end
end Ev
set_option Elab.async false
set_option maxRecDepth 100000
set_option maxHeartbeats 2000000
namespace Ev
open PySem PySem.Spec PyProof.Rows L2
section
variable {P : Program} {w : World} {K : PySem.W.Frag} {mg : Str → Option Value} {base : Heap} {C D : Addr}
theorem int_eq_of {a b : Int} (h : decide (V.int a = V.int b) = true) : a = b := V.int.inj (of_decide_eq_true h)
theorem int_ne_of {a b : Int} (h : ¬ decide (V.int a = V.int b) = true) : a ≠ b := fun e => h (decide_eq_true (congrArg V.int e))
/-! ### seen -/
def spSeen (C D : Addr) : Sp := fun vs H Q _ => ∃ (p : Addr) (t : Nat) (s : Sy41.St) (N : Addr → Prop), vs = [.ref p, .int (t : Int)] ∧ Does C D N p s (.seen t) H Q
theorem ok_seen {f : Addr} {fd : FuncData} (F : Fun K "seen" "EvenBeat.seen" sSeen f fd) (Z : Calls2 P w K mg base C D) : FnOk P w K mg base CX0 8 f fd ["self", "time"] (spSeen C D) := by
  have T := Z.T
  obtain ⟨tT, cT⟩ := Z.TK.cT
  obtain ⟨tM, cM⟩ := Z.TK.cM
  refine F.ok scSeen (fun vs H Q E h => ?_) (fun cdv A outer s H vs Q E hr h => ?_)
  · obtain ⟨p, t, s, N, rfl, _⟩ := h
    rfl
  · obtain ⟨p, t, s, N, rfl, hB, hN, k⟩ := h
    have hr6 : Room 6 _ := hr.mono (by decide)
    refine ⟨_, pss_cons (ps_if (pt_cmpR op_gt (pv 1) (pe_glob rfl cT (v := .int 2000) ⟨_, rfl⟩) (nomark _)) (pss_one (ps_ret (pe_un un_neg pe_int))) pss_nil)
      (pss_cons (ps_if (pt_cmpR op_in_seq (pv 1) (pe_fld (pv 0) rfl) (by rfl)) (pss_one (ps_ret (pe_un un_neg pe_int))) pss_nil)
      (pss_cons (ps_if (pt_cmpR op_ge (pe_callB call_len_seq (by rfl) Z.ml PySem.boot_len (pa_cons (pe_fld (pv 0) rfl) pa_nil)) (pe_glob rfl cM (v := .int 10) ⟨_, rfl⟩) (nomark _)) (pss_one (ps_ret (pe_un un_neg pe_int))) pss_nil)
      (pss_cons (ps_set (i := 2) scSeen.nd rfl (.inl rfl) (pe_callB cr_sorted (by rfl) Z.ms (by decide +kernel) (pa_cons (pe_op op_cat (pe_fld (pv 0) rfl) (pe_lst (pa_cons (pv 1) pa_nil))) pa_nil)))
      (pss_cons (ps_if (pt_cmpR op_eq (pe_callB call_len_seq (by rfl) Z.ml PySem.boot_len (pa_cons (pe_meth (pv 0) T.cl Z.mW Z.GW hr6 Z.bW .nil pass0 (pa_cons (pv 2) pa_nil)) pa_nil)) pe_int (nomark _)) (pss_one (ps_ret (pe_un un_neg pe_int))) pss_nil)
      (pss_cons (ps_expr (pe_meth (pv 0) T.cl Z.mK Z.GK hr Z.bK .nil pass0 (pa_cons (pv 2) pa_nil)))
      (pss_one (ps_ret (pe_callB call_len_seq (by rfl) Z.ml PySem.boot_len (pa_cons (pe_fld (pv 0) rfl) pa_nil))))))))), ?_⟩
    obtain ⟨dx, pt, pq, ps, h1, h2, h3, h4, h5, h6, h7, h8⟩ := id hB
    refine ⟨_, rfl, _, _, rfl, rfl, _, rfl, ?_⟩
    refine ite2 (fun c => ⟨_, rfl, ?_⟩) (fun c1 => ?_)
    · have c : (2000 : Int) < (t : Int) := of_decide_eq_true c
      exact k (s, Sy41.ok (-1)) (if_pos (by show 2000 < t; omega)) H hB (But.refl p H)
    have c1 : ¬ (2000 : Int) < (t : Int) := fun q => c1 (decide_eq_true q)
    refine ⟨_, rfl, _, rfl, p, C, dx, _, _, rfl, h1, T.cl, T.nT, bF_seen _ _ _ _ _, pt, _, rfl, .inl (SqL.of h2), rfl, flat_times _, _, rfl, ?_⟩
    have e1 : ¬ Sy41.TIME < t := by show ¬ 2000 < t; omega
    refine ite2 (fun c => ⟨_, rfl, ?_⟩) (fun c2 => ?_)
    · have c : s.times.contains t = true := by
        rw [← in_times]
        exact c
      refine k (s, Sy41.ok (-4)) ?_ H hB (But.refl p H)
      show (if Sy41.TIME < t then _ else if s.times.contains t = true then _ else _) = _
      rw [if_neg e1, if_pos c]
    have c2 : ¬ s.times.contains t = true := by
      rw [← in_times]
      exact c2
    have c2' : t ∉ s.times := by simpa using c2
    refine ⟨_, rfl, p, C, dx, _, _, rfl, h1, T.cl, T.nT, bF_seen _ _ _ _ _, pt, _, rfl, .inl (SqL.of h2), _, _, rfl, rfl, _, rfl, ?_⟩
    refine ite2 (fun c => ⟨_, rfl, ?_⟩) (fun c3 => ?_)
    · have c : (10 : Int) ≤ ((vN s.times).length : Int) := of_decide_eq_true c
      rw [vN_len] at c
      refine k (s, Sy41.ok (-5)) ?_ H hB (But.refl p H)
      show (if Sy41.TIME < t then _ else if s.times.contains t = true then _ else if Sy41.TIMES ≤ s.times.length then _ else _) = _
      rw [if_neg e1, if_neg c2, if_pos (by show 10 ≤ s.times.length; omega)]
    have c3 : ¬ (10 : Int) ≤ ((vN s.times).length : Int) := fun q => c3 (decide_eq_true q)
    rw [vN_len] at c3
    have e3 : ¬ Sy41.TIMES ≤ s.times.length := by show ¬ 10 ≤ s.times.length; omega
    refine ⟨_, rfl, p, C, dx, _, _, rfl, h1, T.cl, T.nT, bF_seen _ _ _ _ _, _, rfl, (by show 1 ≤ sizeLine; decide), fun o1 no1 => ?_⟩
    have s1 := same_upd (o := HO.lst [V.int (t : Int)]) no1
    refine ⟨pt, o1, _, _, rfl, rfl, s1 _ _ h2, upd_same, ?_, fun o2 no2 => ?_⟩
    · rw [vN_len, sizeLine_eq, List.length_singleton]
      omega
    have s2 := same_upd (o := HO.lst (vN s.times ++ [V.int (t : Int)])) no2
    refine ⟨o2, s.times.map (fun (n : Nat) => (n : Int)) ++ [(t : Int)], rfl, SqL.of ?_, ?_, fun ns q perm rise nq => ?_⟩
    · rw [upd_same, vN_map, List.map_append]
      rfl
    · rw [List.length_append, List.length_map, List.length_singleton]
      omega
    have ens := sorted_put perm rise c2' h7.up
    have evn : ns.map V.int = vN (Sy41.put t s.times) := by
      rw [ens, vN_map]
    rw [evn]
    have s3 := same_upd (o := HO.lst (vN (Sy41.put t s.times))) nq
    have s13 := s1.trans (s2.trans s3)
    have okp : Ok (Sy41.plus s t) := h7.plus (by omega) c2'
    have lenp : (Sy41.plus s t).times.length = s.times.length + 1 := put_len t s.times
    refine ⟨_, rfl, p, dx, _, rfl, s13 _ _ h1, (flF _ _ _ _ _).w, _, rfl, p, dx, q, _, Sy41.plus s t, rfl, s13 _ _ h1, flF _ _ _ _ _, SqL.of upd_same, okp, by omega, fun H4 q2 ps2 s4 nq2 eq2 hps2 => ?_⟩
    refine ⟨q2, _, rfl, .inl (SqL.of eq2), rfl, _, rfl, ?_⟩
    have elen : (ps2.map V.ref).length = (Sy41.stretches (Sy41.plus s t)).length := by
      rw [List.length_map, hps2.length, found_length okp]
    refine ite2 (fun c => ⟨_, rfl, ?_⟩) (fun c4 => ?_)
    · have c := int_eq_of c
      have c4 : (Sy41.stretches (Sy41.plus s t)).isEmpty = true := by
        rw [List.isEmpty_iff_length_eq_zero]
        omega
      refine k (s, Sy41.ok (-6)) ?_ H4 (hB.same (s13.trans s4)) (Same.but (s13.trans s4))
      show (if Sy41.TIME < t then _ else if s.times.contains t = true then _ else if Sy41.TIMES ≤ s.times.length then _ else if (Sy41.stretches (Sy41.plus s t)).isEmpty = true then _ else _) = _
      rw [if_neg e1, if_neg c2, if_neg e3, if_pos c4]
    have c4 := int_ne_of c4
    have c4' : ¬ (Sy41.stretches (Sy41.plus s t)).isEmpty = true := by
      rw [List.isEmpty_iff_length_eq_zero]
      omega
    have s14 := s13.trans s4
    refine ⟨_, rfl, p, dx, _, rfl, s14 _ _ h1, (flF _ _ _ _ _).k, _, rfl, p, dx, q, _, Sy41.plus s t, N, rfl, s14 _ _ h1, .inr ⟨_, _, rfl⟩, s4 _ _ upd_same, hN q ((s1.trans s2).free nq), free_same hN s14, okp, by omega, fun H5 hB5 hbut => ?_⟩
    obtain ⟨dx5, pt5, pq5, ps5, g1, g2, g3, g4, g5, g6, g7, g8⟩ := id hB5
    refine ⟨_, rfl, p, C, dx5, _, _, rfl, g1, T.cl, T.nQ, bF_str _ _ _ _ _, pq5, _, rfl, .inl (SqL.of g4), ?_⟩
    have e5 : (ps5.map V.ref).length = (Sy41.stretches (Sy41.plus s t)).length := by
      rw [List.length_map, g6.length, found_length okp]
    rw [e5]
    refine k (Sy41.plus s t, Sy41.ok ((Sy41.stretches (Sy41.plus s t)).length : Nat)) ?_ H5 hB5 ((Same.but s14).trans hbut)
    show (if Sy41.TIME < t then _ else if s.times.contains t = true then _ else if Sy41.TIMES ≤ s.times.length then _ else if (Sy41.stretches (Sy41.plus s t)).isEmpty = true then _ else _) = _
    rw [if_neg e1, if_neg c2, if_neg e3, if_neg c4']
/-! ### could -/
def spCould (C D : Addr) : Sp := fun vs H Q _ => ∃ (p : Addr) (t : Nat) (s : Sy41.St) (N : Addr → Prop), vs = [.ref p, .int (t : Int)] ∧ Does C D N p s (.could t) H Q
theorem ok_could {f : Addr} {fd : FuncData} (F : Fun K "could" "EvenBeat.could" sCould f fd) (Z : Calls2 P w K mg base C D) : FnOk P w K mg base CX0 7 f fd ["self", "time"] (spCould C D) := by
  have T := Z.T
  obtain ⟨tT, cT⟩ := Z.TK.cT
  refine F.ok scCould (fun vs H Q E h => ?_) (fun cdv A outer s H vs Q E hr h => ?_)
  · obtain ⟨p, t, s, N, rfl, _⟩ := h
    rfl
  · obtain ⟨p, t, s, N, rfl, hB, hN, k⟩ := h
    refine ⟨_, pss_cons (ps_if (pt_cmpR op_gt (pv 1) (pe_glob rfl cT (v := .int 2000) ⟨_, rfl⟩) (nomark _)) (pss_one (ps_ret (pe_un un_neg pe_int))) pss_nil)
      (pss_cons (ps_if (pt_cmpR op_in_seq (pv 1) (pe_fld (pv 0) rfl) (by rfl)) (pss_one (ps_ret (pe_callB call_len_seq (by rfl) Z.ml PySem.boot_len (pa_cons (pe_fld (pv 0) rfl) pa_nil)))) pss_nil)
      (pss_one (ps_ret (pe_callB call_len_seq (by rfl) Z.ml PySem.boot_len (pa_cons (pe_meth (pv 0) T.cl Z.mW Z.GW hr Z.bW .nil pass0 (pa_cons
        (pe_callB cr_sorted (by rfl) Z.ms (by decide +kernel) (pa_cons (pe_op op_cat (pe_fld (pv 0) rfl) (pe_lst (pa_cons (pv 1) pa_nil))) pa_nil)) pa_nil)) pa_nil))))), ?_⟩
    obtain ⟨dx, pt, pq, ps, h1, h2, h3, h4, h5, h6, h7, h8⟩ := id hB
    have hstep : Sy41.step s (.could t) = (s, if Sy41.TIME < t then Sy41.ok (-1) else Sy41.ok (if s.times.contains t = true then (Sy41.stretches s).length else (Sy41.stretches (Sy41.plus s t)).length : Nat)) := rfl
    refine ⟨_, rfl, _, _, rfl, rfl, _, rfl, ?_⟩
    refine ite2 (fun c => ⟨_, rfl, ?_⟩) (fun c1 => ?_)
    · have c : (2000 : Int) < (t : Int) := of_decide_eq_true c
      rw [if_pos (show Sy41.TIME < t by show 2000 < t; omega)] at hstep
      exact k _ hstep H hB (But.refl p H)
    have c1 : ¬ (2000 : Int) < (t : Int) := fun q => c1 (decide_eq_true q)
    rw [if_neg (show ¬ Sy41.TIME < t by show ¬ 2000 < t; omega)] at hstep
    refine ⟨_, rfl, _, rfl, p, C, dx, _, _, rfl, h1, T.cl, T.nT, bF_seen _ _ _ _ _, pt, _, rfl, .inl (SqL.of h2), rfl, flat_times _, _, rfl, ?_⟩
    refine ite2 (fun c => ?_) (fun c2 => ?_)
    · have c : s.times.contains t = true := by
        rw [← in_times]
        exact c
      rw [if_pos c] at hstep
      refine ⟨_, rfl, p, C, dx, _, _, rfl, h1, T.cl, T.nQ, bF_str _ _ _ _ _, pq, _, rfl, .inl (SqL.of h4), ?_⟩
      have e5 : (ps.map V.ref).length = (Sy41.stretches s).length := by
        rw [List.length_map, h6.length, found_length h7]
      rw [e5]
      exact k _ hstep H hB (But.refl p H)
    have c2 : ¬ s.times.contains t = true := by
      rw [← in_times]
      exact c2
    have c2' : t ∉ s.times := by simpa using c2
    rw [if_neg c2] at hstep
    refine ⟨_, rfl, p, dx, _, rfl, h1, (flF _ _ _ _ _).w, _, rfl, p, C, dx, _, _, rfl, h1, T.cl, T.nT, bF_seen _ _ _ _ _, _, rfl, (by show 1 ≤ sizeLine; decide), fun o1 no1 => ?_⟩
    have s1 := same_upd (o := HO.lst [V.int (t : Int)]) no1
    refine ⟨pt, o1, _, _, rfl, rfl, s1 _ _ h2, upd_same, ?_, fun o2 no2 => ?_⟩
    · rw [vN_len, sizeLine_eq, List.length_singleton]
      omega
    have s2 := same_upd (o := HO.lst (vN s.times ++ [V.int (t : Int)])) no2
    refine ⟨o2, s.times.map (fun (n : Nat) => (n : Int)) ++ [(t : Int)], rfl, SqL.of ?_, ?_, fun ns q perm rise nq => ?_⟩
    · rw [upd_same, vN_map, List.map_append]
      rfl
    · rw [List.length_append, List.length_map, List.length_singleton]
      omega
    have ens := sorted_put perm rise c2' h7.up
    have evn : ns.map V.int = vN (Sy41.put t s.times) := by
      rw [ens, vN_map]
    rw [evn]
    have s3 := same_upd (o := HO.lst (vN (Sy41.put t s.times))) nq
    have s13 := s1.trans (s2.trans s3)
    have okp : Ok (Sy41.plus s t) := h7.plus (by omega) c2'
    have lenp : (Sy41.plus s t).times.length = s.times.length + 1 := put_len t s.times
    refine ⟨p, dx, q, _, Sy41.plus s t, rfl, s13 _ _ h1, flF _ _ _ _ _, SqL.of upd_same, okp, by omega, fun H4 q2 ps2 s4 nq2 eq2 hps2 => ?_⟩
    refine ⟨q2, _, rfl, .inl (SqL.of eq2), ?_⟩
    have elen : (ps2.map V.ref).length = (Sy41.stretches (Sy41.plus s t)).length := by
      rw [List.length_map, hps2.length, found_length okp]
    rw [elen]
    exact k _ hstep H4 (hB.same (s13.trans s4)) (Same.but (s13.trans s4))
/-! ### drop -/
def spDrop (C D : Addr) : Sp := fun vs H Q _ => ∃ (p : Addr) (t : Nat) (s : Sy41.St) (N : Addr → Prop), vs = [.ref p, .int (t : Int)] ∧ Does C D N p s (.drop t) H Q
theorem filter_next {l : List Nat} {i x t : Nat} (h : l[i]? = some x) : vN ((l.take (i + 1)).filter fun (y : Nat) => y != t) = if decide (V.int (x : Int) = V.int (t : Int)) = true then vN ((l.take i).filter fun (y : Nat) => y != t) else vN ((l.take i).filter fun (y : Nat) => y != t) ++ [V.int (x : Int)] := by
  rw [List.take_add_one, h, List.filter_append]
  by_cases e : x = t
  · subst e
    rw [if_pos (decide_eq_true rfl)]
    simp
  · rw [if_neg (fun q => e (by have := int_eq_of q; omega))]
    have e2 : (x != t) = true := by simpa using e
    simp [e2, vN]
theorem ok_drop {f : Addr} {fd : FuncData} (F : Fun K "drop" "EvenBeat.drop" sDrop f fd) (Z : Calls2 P w K mg base C D) : FnOk P w K mg base CX0 8 f fd ["self", "time"] (spDrop C D) := by
  have T := Z.T
  refine F.ok scDrop (fun vs H Q E h => ?_) (fun cdv A outer s H vs Q E hr h => ?_)
  · obtain ⟨p, t, s, N, rfl, _⟩ := h
    rfl
  · obtain ⟨p, t, s, N, rfl, hB, hN, k⟩ := h
    refine ⟨_, pss_cons (ps_if (pt_cmpR op_notIn_seq (pv 1) (pe_fld (pv 0) rfl) (by rfl)) (pss_one (ps_ret (pe_un un_neg pe_int))) pss_nil)
      (pss_cons (ps_expr (pe_meth (pv 0) T.cl Z.mK Z.GK hr Z.bK .nil pass0 (pa_cons
        (pe_lc (own := [("other", 2)]) (g := gName 2) rfl scDrop.nd (pi_list (pe_fld (pv 0) rfl)) (blkOk_by (N := ["self", "time", "other"]) (sc := defScope sDrop) (by decide +kernel)) (fun _ _ _ _ _ => pg_name (i := 2) scDrop.nd rfl (Or.inl rfl))
          (fun _ _ _ _ _ => pts_one (pt_cmpR op_ne (pv 2) (pv 1) (nomark _))) (fun _ _ _ _ _ => pv 2)) pa_nil)))
      (pss_one (ps_ret (pe_callB call_len_seq (by rfl) Z.ml PySem.boot_len (pa_cons (pe_fld (pv 0) rfl) pa_nil))))), ?_⟩
    obtain ⟨dx, pt, pq, ps, h1, h2, h3, h4, h5, h6, h7, h8⟩ := id hB
    refine ⟨_, rfl, _, rfl, p, C, dx, _, _, rfl, h1, T.cl, T.nT, bF_seen _ _ _ _ _, pt, _, rfl, .inl (SqL.of h2), rfl, flat_times _, _, rfl, ?_⟩
    refine ite2 (fun c => ⟨_, rfl, ?_⟩) (fun c1 => ?_)
    · have c : (!s.times.contains t) = true := by
        rw [← in_times]
        exact c
      exact k (s, Sy41.ok (-2)) (if_pos (by simpa using c)) H hB (But.refl p H)
    have c1 : ¬ (!s.times.contains t) = true := by
      rw [← in_times]
      exact c1
    refine ⟨_, rfl, p, dx, _, rfl, h1, (flF _ _ _ _ _).k, _, rfl, p, C, dx, _, _, rfl, h1, T.cl, T.nT, bF_seen _ _ _ _ _, pt, rfl, ⟨_, SqL.of h2⟩, fun L nL => ?_⟩
    refine lc_list (K := K) (a := pt) (xs := vN s.times) (fun i H' => Same H H' ∧ H' L = some (.lst (vN ((s.times.take i).filter fun (y : Nat) => y != t)))) ⟨same_upd nL, upd_same⟩ ?_ ?_ ?_
    · rintro i H' _ ⟨sm, _⟩
      exact SqL.of (sm _ _ h2)
    · rintro i x H' hx ⟨sm, eL⟩
      obtain ⟨n, hn, rfl⟩ := vN_get hx
      refine ⟨rfl, _, rfl, _, rfl, rfl, _, rfl, ?_⟩
      have fn := filter_next (t := t) hn
      refine ite2 (fun c => ?_) (fun c => ?_)
      · have c : ¬ decide (V.int (n : Int) = V.int (t : Int)) = true := by simpa using c
        rw [if_neg c] at fn
        refine ⟨_, rfl, _, eL, ?_, ?_, ?_⟩
        · rw [vN_len, sizeLine_eq]
          have a1 := List.length_filter_le (fun (y : Nat) => y != t) (s.times.take i)
          rw [List.length_take] at a1
          omega
        · intro b z e
          rw [upd_ne (ne_of_none e nL)]
          exact sm _ _ e
        · rw [upd_same, fn]
      · have c : decide (V.int (n : Int) = V.int (t : Int)) = true := by simpa using c
        rw [if_pos c] at fn
        rw [fn]
        exact ⟨sm, eL⟩
    · rintro H' ⟨sm, eL⟩
      rw [vN_len, List.take_length] at eL
      have oku := h7.less fun (y : Nat) => y != t
      have lenu : (s.times.filter fun (y : Nat) => y != t).length ≤ 10 := Nat.le_trans (List.length_filter_le _ _) h8
      refine ⟨p, dx, L, _, { s with times := s.times.filter fun (y : Nat) => y != t }, N, rfl, sm _ _ h1, .inr ⟨_, _, rfl⟩, eL, hN L nL, free_same hN sm, oku, lenu, fun H5 hB5 hbut => ?_⟩
      obtain ⟨dx5, pt5, pq5, ps5, g1, g2, g3, g4, g5, g6, g7, g8⟩ := id hB5
      refine ⟨_, rfl, p, C, dx5, _, _, rfl, g1, T.cl, T.nQ, bF_str _ _ _ _ _, pq5, _, rfl, .inl (SqL.of g4), ?_⟩
      have e5 : (ps5.map V.ref).length = (Sy41.stretches { s with times := s.times.filter fun (y : Nat) => y != t }).length := by
        rw [List.length_map, g6.length, found_length oku]
      rw [e5]
      exact k ({ s with times := s.times.filter fun (y : Nat) => y != t }, Sy41.ok ((Sy41.stretches { s with times := s.times.filter fun (y : Nat) => y != t }).length : Nat)) (if_neg (by simpa using c1)) H5 hB5 ((Same.but sm).trans hbut)
end
end Ev
set_option Elab.async false
set_option maxRecDepth 100000
set_option maxHeartbeats 2000000
namespace Ev
open PySem PySem.Spec PyProof.Rows L2
abbrev sTold : Stmt := topS 25
abbrev sTW : Stmt := topS 26
theorem scTold : FnScope ["numbers"] ["numbers"] (defScope sTold) := ⟨rfl, rfl, rfl, by decide +kernel, rfl, by decide +kernel, by decide +kernel⟩
theorem scTW : FnScope ["window", "told", "end"] ["window"] (defScope sTW) := ⟨rfl, rfl, rfl, by decide +kernel, rfl, by decide +kernel, by decide +kernel⟩
/-- a list as it is told: behind how many it has -/
def toldL (l : List Int) : List Int := (l.length : Int) :: l
/-- two fractions at an address: a tuple of two tuples, with one denominator -/
def WinAt (H : Hp) (r : Addr) (a b d : Int) : Prop := ∃ pa pb : Addr, H r = some (.tup [.ref pa, .ref pb]) ∧ FrAt H pa (a, d) ∧ FrAt H pb (b, d)
theorem WinAt.same {H H' : Hp} {r : Addr} {a b d : Int} (h : WinAt H r a b d) (k : Same H H') : WinAt H' r a b d := by
  obtain ⟨pa, pb, h1, h2, h3⟩ := h
  exact ⟨pa, pb, k _ _ h1, k _ _ h2, k _ _ h3⟩
def lowL (f : FP) : List Int := [(lowP f).1, (lowP f).2]
section
variable {P : Program} {w : World} {K : PySem.W.Frag} {mg : Str → Option Value} {base : Heap} {C D : Addr}
/-! ### told_list -/
def spTold : Sp := fun vs H Q _ => ∃ (a : Addr) (l : List Int), vs = [.ref a] ∧ H a = some (.lst (l.map V.int)) ∧ l.length < sizeLine ∧
  ∀ H' q, Same H H' → H q = none → H' q = some (.lst ((toldL l).map V.int)) → Q (.ref q) H'
theorem ok_told {f : Addr} {fd : FuncData} (F : Fun K "told_list" "told_list" sTold f fd) (ml : mg "len" = none) : FnOk P w K mg base CX0 1 f fd ["numbers"] spTold := by
  refine F.ok scTold (fun vs H Q E h => ?_) (fun cdv A outer s H vs Q E hr h => ?_)
  · obtain ⟨a, l, rfl, _⟩ := h
    rfl
  · obtain ⟨a, l, rfl, ha, hl, k⟩ := h
    refine ⟨_, pss_one (ps_ret (pe_op op_cat (pe_lst (pa_cons (pe_callB call_len_seq (by rfl) ml PySem.boot_len (pa_cons (pv 0) pa_nil)) pa_nil)) (pv 0))), ?_⟩
    refine ⟨_, rfl, a, _, rfl, .inl (SqL.of ha), (by show 1 ≤ sizeLine; decide), fun o no => ?_⟩
    have s1 := same_upd (o := HO.lst [V.int ((l.map V.int).length : Nat)]) no
    refine ⟨_, rfl, o, a, _, _, rfl, rfl, upd_same, s1 _ _ ha, ?_, fun q nq => ?_⟩
    · rw [List.length_map]
      show 1 + _ ≤ _
      omega
    have s2 := same_upd (o := HO.lst ([V.int ((l.map V.int).length : Nat)] ++ l.map V.int)) nq
    refine k _ q (s1.trans s2) (s1.free nq) ?_
    rw [upd_same, List.length_map]
    rfl
/-! ### told_window -/
def spTW : Sp := fun vs H Q _ => ∃ (r : Addr) (a b d : Int), vs = [.ref r] ∧ WinAt H r a b d ∧ (0 < d ∧ d ≤ 1000000) ∧
  ∀ H' q, Same H H' → H q = none → H' q = some (.lst ((0 :: (toldL (lowL (a, d)) ++ toldL (lowL (b, d)))).map V.int)) → Q (.ref q) H'
theorem pair_get {pa pb : Addr} {fa fb : FP} {H : Hp} {i : Nat} {x : V} (h : ([V.ref pa, V.ref pb] : List V)[i]? = some x) (ha : FrAt H pa fa) (hb : FrAt H pb fb) :
    ∃ p f, x = .ref p ∧ ([fa, fb] : List FP)[i]? = some f ∧ FrAt H p f ∧ (f = fa ∨ f = fb) ∧ i < 2 := by
  match i, h with
  | 0, h => exact ⟨pa, fa, (Option.some.inj h).symm, rfl, ha, .inl rfl, by decide⟩
  | 1, h => exact ⟨pb, fb, (Option.some.inj h).symm, rfl, hb, .inr rfl, by decide⟩
  | i + 2, h => simp at h
theorem ok_tw {f fT fL : Addr} {fd fdT fdL : FuncData} (F : Fun K "told_window" "told_window" sTW f fd) (GT : FnOk P w K mg base CX0 1 fT fdT ["numbers"] spTold) (kT : PySem.W.keepIn K (.ref fT) = true) (bT : Binds K fdT ["numbers"] []) (gT : mg "told_list" = some (.ref fT))
    (GL : FnOk P w K mg base CX0 2 fL fdL ["fraction"] spLow) (kL : PySem.W.keepIn K (.ref fL) = true) (bL : Binds K fdL ["fraction"] []) (gL : mg "lowest_terms" = some (.ref fL)) (mt : mg "list" = none) : FnOk P w K mg base CX0 3 f fd ["window"] spTW := by
  refine F.ok scTW (fun vs H Q E h => ?_) (fun cdv A outer s H vs Q E hr h => ?_)
  · obtain ⟨r, a, b, d, rfl, _⟩ := h
    rfl
  · obtain ⟨r, a, b, d, rfl, ⟨pa, pb, h1, h2, h3⟩, hd, k⟩ := h
    have hr1 : Room 1 _ := hr.mono (by decide)
    refine ⟨_, pss_cons (ps_set (i := 1) scTW.nd rfl (.inl rfl) (pe_lst (pa_cons pe_int pa_nil)))
      (pss_cons (ps_for PassesOwn.never rfl (pi_tup (pv 0)) (pg_name (i := 2) scTW.nd rfl (.inl rfl))
        (pss_one (ps_expr (pe_bm PySem.F.plainAttrs_list PySem.F.slot_list_extend PySem.F.type_list_extend mt_extend (pv 1) (pa_cons (pe_call GT hr1 (by rfl) gT kT bT .nil pass0 (pa_cons
          (pe_callTy call_list_of (by rfl) mt (by decide +kernel) (pa_cons (pe_call GL hr (by rfl) gL kL bL .nil pass0 (pa_cons (pv 2) pa_nil)) pa_nil)) pa_nil)) pa_nil)))))
      (pss_one (ps_ret (pv 1)))), ?_⟩
    refine ⟨(by show 1 ≤ sizeLine; decide), fun o no => ?_⟩
    have s1 := same_upd (o := HO.lst [V.int 0]) no
    refine ⟨_, rfl, r, rfl, ⟨_, SqT.of (s1 _ _ h1)⟩, for_tup (K := K) (a := r) (xs := [V.ref pa, V.ref pb]) (fun i σ H' => ∃ v2, σ = [some (.ref r), some (.ref o), v2] ∧ Same H H' ∧
      H' o = some (.lst ((0 :: ((([(a, d), (b, d)] : List FP).take i).flatMap fun f => toldL (lowL f))).map V.int))) ⟨none, rfl, s1, upd_same⟩ ?_ ?_ ?_⟩
    · rintro i σ H' _ ⟨v2, rfl, sm, eo⟩
      exact SqT.of (sm _ _ h1)
    · rintro i y σ H' hi ⟨v2, rfl, sm, eo⟩
      obtain ⟨p, f, rfl, hf, hp, hfd, hi2⟩ := pair_get hi h2 h3
      have f2 : f.2 = d := by rcases hfd with rfl | rfl <;> rfl
      have hsz : ((0 : Int) :: ((([(a, d), (b, d)] : List FP).take i).flatMap fun f => toldL (lowL f))).length ≤ 7 := by
        have := flat_take (fun f => toldL (lowL f)) ([(a, d), (b, d)] : List FP) i
        have e : (([(a, d), (b, d)] : List FP).flatMap fun f => toldL (lowL f)).length = 6 := rfl
        rw [List.length_cons]
        omega
      refine ⟨.ref o, rfl, .inl ⟨rfl, _, SqL.of eo⟩, _, rfl, p, f, rfl, sm _ _ hp, by rw [f2]; exact hd, fun t nt => ?_⟩
      have s2 := same_upd (o := HO.tup [V.int (lowP f).1, V.int (lowP f).2]) nt
      refine ⟨t, _, rfl, .inr (SqT.of upd_same), fun l nl => ?_⟩
      have s3 := same_upd (o := HO.lst [V.int (lowP f).1, V.int (lowP f).2]) nl
      refine ⟨l, lowL f, rfl, upd_same, (by show 2 < sizeLine; decide), fun H2 q s4 nq eq => ?_⟩
      have s24 := s2.trans (s3.trans s4)
      refine ⟨o, q, _, _, rfl, rfl, s24 _ _ eo, eq, ?_, ?_⟩
      · rw [List.length_map, List.length_map, sizeLine_eq]
        show _ + 3 ≤ _
        omega
      · refine ⟨some (.ref p), rfl, ?_, ?_⟩
        · intro b' z e
          rw [upd_ne (ne_of_none e no)]
          exact s24 _ _ (sm _ _ e)
        · rw [upd_same, flat_next (fun f => toldL (lowL f)) hf, ← List.map_append]
          rfl
    · rintro σ H' ⟨v2, rfl, sm, eo⟩
      refine ⟨_, rfl, k H' o sm no ?_⟩
      rw [eo]
      rfl
end
end Ev
set_option Elab.async false
set_option maxRecDepth 100000
set_option maxHeartbeats 2000000
namespace Ev
open PySem PySem.Spec PyProof.Rows L2
theorem scPeriods : FnScope ["self", "bounds", "stretch"] ["self"] (defScope sPeriods) := ⟨rfl, rfl, rfl, by decide +kernel, rfl, by decide +kernel, by decide +kernel⟩
/-! ### A call that answers a list -/
def DoesL (C D : Addr) (N : Addr → Prop) (p : Addr) (s : Sy41.St) (c : Sy41.Call) (H : Hp) (Q : VK) : Prop :=
  BeatAt C D N H p s ∧ (∀ b, H b = none → N b) ∧ ∀ R, Sy41.step s c = R → ∀ H' q, BeatAt C D N H' p R.1 → But p H H' → H q = none → H' q = some (.lst ((Sy41Neutral.out R.2).map V.int)) → Q (.ref q) H'
theorem say_low {f : FP} (h2 : 0 < f.2) : Sy41.say (fr f) = lowL f := by
  have e : fr f = ⟨f.1 / ((Nat.gcd f.1.natAbs f.2.toNat : Nat) : Int), f.2.toNat / Nat.gcd f.1.natAbs f.2.toNat⟩ := by
    unfold fr Sy41.frac
    rw [if_neg (by omega)]
  have e2 : f.2.toNat = f.2.natAbs := by omega
  have e4 : gcdI f.1 f.2 = ((Nat.gcd f.1.natAbs f.2.toNat : Nat) : Int) := by
    rw [e2]
    rfl
  rw [e]
  unfold Sy41.say lowL lowP
  rw [e4]
  have e3 : ((f.2.toNat / Nat.gcd f.1.natAbs f.2.toNat : Nat) : Int) = f.2 / ((Nat.gcd f.1.natAbs f.2.toNat : Nat) : Int) := by
    rw [Int.natCast_ediv, Int.toNat_of_nonneg (by omega)]
  rw [e3]
/-- the ends of a stretch, told -/
def ends (x : S) : List Int := lowL x.a ++ lowL x.b
theorem ends_len (l : List S) : (l.flatMap ends).length = 4 * l.length := by
  induction l with
  | nil => rfl
  | cons x r ih =>
    rw [List.flatMap_cons, List.length_append, ih, List.length_cons]
    show 4 + 4 * r.length = _
    omega
theorem ends_are {s : Sy41.St} (k : Ok s) : (foundOf s).flatMap ends = (Sy41.stretches s).flatMap (fun (x : Sy41.Stretch) => Sy41.say x.a ++ Sy41.say x.b) := by
  rw [← found_is k, List.flatMap_map]
  have hf := found_fit k
  generalize foundOf s = l at hf
  induction l with
  | nil => rfl
  | cons x r ih =>
    have fx := hf x (List.Mem.head _)
    rw [List.flatMap_cons, List.flatMap_cons, ih fun y hy => hf y (List.Mem.tail _ hy)]
    congr 1
    show ends x = Sy41.say (fr x.a) ++ Sy41.say (fr x.b)
    rw [say_low fx.sa.2.2.1, say_low fx.sb.2.2.1]
    rfl
section
variable {P : Program} {w : World} {K : PySem.W.Frag} {mg : Str → Option Value} {base : Heap} {C D : Addr}
/-! ### periods -/
def spPeriods (C D : Addr) : Sp := fun vs H Q _ => ∃ (p : Addr) (s : Sy41.St) (N : Addr → Prop), vs = [.ref p] ∧ DoesL C D N p s .periods H Q
theorem ok_periods {f fL fT : Addr} {fd fdL fdT : FuncData} (F : Fun K "periods" "EvenBeat.periods" sPeriods f fd) (Z : Calls2 P w K mg base C D) (TS : TxtS K mg D) (GL : FnOk P w K mg base CX0 2 fL fdL ["fraction"] spLow) (kL : PySem.W.keepIn K (.ref fL) = true)
    (bL : Binds K fdL ["fraction"] []) (gL : mg "lowest_terms" = some (.ref fL)) (GT : FnOk P w K mg base CX0 1 fT fdT ["numbers"] spTold) (kT : PySem.W.keepIn K (.ref fT) = true) (bT : Binds K fdT ["numbers"] []) (gT : mg "told_list" = some (.ref fT)) :
    FnOk P w K mg base CX0 3 f fd ["self"] (spPeriods C D) := by
  have T := Z.T
  refine F.ok scPeriods (fun vs H Q E h => ?_) (fun cdv A outer s H vs Q E hr h => ?_)
  · obtain ⟨p, s, N, rfl, _⟩ := h
    rfl
  · obtain ⟨p, s, N, rfl, hB, hN, k⟩ := h
    have hr1 : Room 1 _ := hr.mono (by decide)
    refine ⟨_, pss_cons (ps_set (i := 1) scPeriods.nd rfl (.inl rfl) (pe_lst pa_nil))
      (pss_cons (ps_for PassesOwn.never rfl (pi_list (pe_fld (pv 0) rfl)) (pg_name (i := 2) scPeriods.nd rfl (.inl rfl))
        (pss_cons (ps_expr (pe_bm PySem.F.plainAttrs_list PySem.F.slot_list_extend PySem.F.type_list_extend mt_extendT (pv 1) (pa_cons (pe_call GL hr (by rfl) gL kL bL .nil pass0 (pa_cons (pe_fld (pv 2) rfl) pa_nil)) pa_nil)))
        (pss_one (ps_expr (pe_bm PySem.F.plainAttrs_list PySem.F.slot_list_extend PySem.F.type_list_extend mt_extendT (pv 1) (pa_cons (pe_call GL hr (by rfl) gL kL bL .nil pass0 (pa_cons (pe_fld (pv 2) rfl) pa_nil)) pa_nil))))))
      (pss_one (ps_ret (pe_op op_cat (pe_lst (pa_cons (pe_callB call_len_seq (by rfl) Z.ml PySem.boot_len (pa_cons (pe_fld (pv 0) rfl) pa_nil)) pa_nil)) (pe_call GT hr1 (by rfl) gT kT bT .nil pass0 (pa_cons (pv 1) pa_nil)))))), ?_⟩
    obtain ⟨dx, pt, pq, ps, h1, h2, h3, h4, h5, h6, h7, h8⟩ := id hB
    have hlen : (foundOf s).length ≤ 20001 := by
      have := found_len h7
      omega
    refine ⟨(by show 0 ≤ sizeLine; decide), fun o no => ?_⟩
    have s1 := same_upd (o := HO.lst []) no
    refine ⟨_, rfl, p, C, dx, _, _, rfl, s1 _ _ h1, T.cl, T.nQ, bF_str _ _ _ _ _, pq, rfl, ⟨_, SqL.of (s1 _ _ h4)⟩, for_list (K := K) (a := pq) (xs := ps.map V.ref) (fun i σ H' => ∃ v2, σ = [some (.ref p), some (.ref o), v2] ∧ Same H H' ∧
      H' o = some (.lst ((((foundOf s).take i).flatMap ends).map V.int))) ⟨none, rfl, s1, upd_same⟩ ?_ ?_ ?_⟩
    · rintro i σ H' _ ⟨v2, rfl, sm, eo⟩
      exact SqL.of (sm _ _ h4)
    · rintro i y σ H' hi ⟨v2, rfl, sm, eo⟩
      obtain ⟨a, ha, rfl⟩ := refs_get hi
      obtain ⟨x, hx, dx2, pa, pb, pr, g1, g2, g3, g4, g5⟩ := paired_get h6 ha
      have fx := found_fit h7 x (List.mem_of_getElem? hx)
      have hsz : (((foundOf s).take i).flatMap ends).length ≤ 80004 := by
        have := flat_take ends (foundOf s) i
        rw [ends_len (foundOf s)] at this
        omega
      refine ⟨.ref o, rfl, .inl ⟨rfl, _, SqL.of eo⟩, _, rfl, a, D, dx2, _, _, rfl, sm _ _ g1, TS.cl, TS.nS, sF_s _ _ _, pa, x.a, rfl, sm _ _ g2, ⟨fx.sa.2.2.1, fx.sa.2.2.2⟩, fun r nr => ?_⟩
      have s2 := same_upd (o := HO.tup [V.int (lowP x.a).1, V.int (lowP x.a).2]) nr
      refine ⟨o, r, _, _, rfl, rfl, s2 _ _ eo, upd_same, ?_, ?_⟩
      · rw [List.length_map, sizeLine_eq]
        show _ + 2 ≤ _
        omega
      have keep : ∀ {H2 : Hp} {o' : HO}, Same H H2 → Same H (upd H2 o o') := fun h b z e => by
        rw [upd_ne (ne_of_none e no)]
        exact h _ _ e
      have sm2 := keep (o' := HO.lst ((((foundOf s).take i).flatMap ends).map V.int ++ [V.int (lowP x.a).1, V.int (lowP x.a).2])) (sm.trans s2)
      refine ⟨.ref o, rfl, .inl ⟨rfl, _, SqL.of upd_same⟩, _, rfl, a, D, dx2, _, _, rfl, sm2 _ _ g1, TS.cl, TS.nL, sF_l _ _ _, pb, x.b, rfl, sm2 _ _ g3, ⟨fx.sb.2.2.1, fx.sb.2.2.2⟩, fun r2 nr2 => ?_⟩
      have s3 := same_upd (o := HO.tup [V.int (lowP x.b).1, V.int (lowP x.b).2]) nr2
      refine ⟨o, r2, _, _, rfl, rfl, s3 _ _ upd_same, upd_same, ?_, ?_⟩
      · rw [List.length_append, List.length_map, sizeLine_eq]
        show _ + 2 + 2 ≤ _
        omega
      refine ⟨some (.ref a), rfl, keep (sm2.trans s3), ?_⟩
      rw [upd_same, flat_next ends hx, List.map_append, List.append_assoc]
      rfl
    · rintro σ H' ⟨v2, rfl, sm, eo⟩
      have e3 : (ps.map V.ref).length = (foundOf s).length := by
        rw [List.length_map]
        exact h6.length
      rw [e3, List.take_length] at eo
      refine ⟨_, rfl, p, C, dx, _, _, rfl, sm _ _ h1, T.cl, T.nQ, bF_str _ _ _ _ _, pq, _, rfl, .inl (SqL.of (sm _ _ h4)), (by show 1 ≤ sizeLine; decide), fun o1 no1 => ?_⟩
      have s2 := same_upd (o := HO.lst [V.int ((ps.map V.ref).length : Nat)]) no1
      have hl : ((foundOf s).flatMap ends).length ≤ 80004 := by
        rw [ends_len]
        omega
      refine ⟨_, rfl, o, (foundOf s).flatMap ends, rfl, s2 _ _ eo, (by rw [sizeLine_eq]; omega), fun H2 q2 s3 nq2 eq2 => ?_⟩
      refine ⟨o1, q2, _, _, rfl, rfl, s3 _ _ upd_same, eq2, ?_, fun q nq => ?_⟩
      · have e9 : ((toldL ((foundOf s).flatMap ends)).map V.int).length = ((foundOf s).flatMap ends).length + 1 := by
          rw [List.length_map]
          rfl
        rw [e9, sizeLine_eq]
        show 1 + _ ≤ _
        omega
      have s4 := same_upd (o := HO.lst ([V.int ((ps.map V.ref).length : Nat)] ++ (toldL ((foundOf s).flatMap ends)).map V.int)) nq
      have s5 := sm.trans (s2.trans (s3.trans s4))
      refine k _ rfl _ q (hB.same s5) (Same.but s5) ((sm.trans (s2.trans s3)).free nq) ?_
      rw [upd_same]
      congr 2
      show _ = List.map V.int (((Sy41.stretches s).length : Int) :: (([(Sy41.stretches s).flatMap fun (x : Sy41.Stretch) => Sy41.say x.a ++ Sy41.say x.b] : List (List Int)).flatMap fun (w : List Int) => (w.length : Int) :: w))
      rw [List.flatMap_cons, List.flatMap_nil, List.append_nil, ← ends_are h7, e3, found_length h7]
      rfl
end
end Ev
set_option Elab.async false
set_option maxRecDepth 100000
set_option maxHeartbeats 2000000
namespace Ev
open PySem PySem.Spec PyProof.Rows L2
abbrev sAsk : Stmt := topS 24
theorem scAsk : FnScope ["above", "below"] ["above", "below"] (defScope sAsk) := ⟨rfl, rfl, rfl, by decide +kernel, rfl, by decide +kernel, by decide +kernel⟩
theorem scOf : FnScope ["self", "period", "stretch"] ["self", "period"] (defScope sOf) := ⟨rfl, rfl, rfl, by decide +kernel, rfl, by decide +kernel, by decide +kernel⟩
theorem scRef : FnScope ["self", "above", "below"] ["self", "above", "below"] (defScope sRef) := ⟨rfl, rfl, rfl, by decide +kernel, rfl, by decide +kernel, by decide +kernel⟩
theorem scFits : FnScope ["self", "above", "below", "stretch"] ["self", "above", "below"] (defScope sFits) := ⟨rfl, rfl, rfl, by decide +kernel, rfl, by decide +kernel, by decide +kernel⟩
theorem asked_iff {p q : Nat} : Sy41.asked p q = true ↔ 1 ≤ q ∧ q ≤ 1000 ∧ 1 ≤ p ∧ p ≤ 1000 * q := by
  unfold Sy41.asked Sy41.BELOW Sy41.LONGEST
  simp only [Bool.and_eq_true, decide_eq_true_eq]
section
variable {P : Program} {w : World} {K : PySem.W.Frag} {mg : Str → Option Value} {base : Heap} {C D : Addr}
/-! ### is_askable -/
def spAsk : Sp := fun vs H Q _ => ∃ (p q : Nat), vs = [.int (p : Int), .int (q : Int)] ∧ Q (.bl (Sy41.asked p q)) H
theorem ok_ask {f : Addr} {fd : FuncData} (F : Fun K "is_askable" "is_askable" sAsk f fd) (TK : TxtK mg) : FnOk P w K mg base CX0 1 f fd ["above", "below"] spAsk := by
  obtain ⟨tH, cH⟩ := TK.cH
  obtain ⟨tB, cB⟩ := TK.cB
  refine F.ok scAsk (fun vs H Q E h => ?_) (fun cdv A outer s H vs Q E hr h => ?_)
  · obtain ⟨p, q, rfl, _⟩ := h
    rfl
  · obtain ⟨p, q, rfl, k⟩ := h
    refine ⟨_, pss_one (ps_ret (pe_and (pe_chain op_le op_le pe_int (pv 1) (pe_glob rfl cB (v := .int 1000) ⟨_, rfl⟩)) (pe_one (pe_chain op_le op_le pe_int (pv 0) (pe_op op_mul (pe_glob rfl cH (v := .int 1000) ⟨_, rfl⟩) (pv 1)))))), ?_⟩
    have no : ¬ (1 ≤ q ∧ q ≤ 1000 ∧ 1 ≤ p ∧ p ≤ 1000 * q) → Q (.bl false) H := fun c => by
      have e : Sy41.asked p q = false := by
        cases h : Sy41.asked p q with
        | false => rfl
        | true => exact absurd (asked_iff.mp h) c
      rw [e] at k
      exact k
    refine ⟨_, rfl, _, _, rfl, rfl, _, rfl, ?_⟩
    refine ite2 (fun c1 => ?_) (fun c1 => ?_)
    · have c1 : (1 : Int) ≤ (q : Int) := of_decide_eq_true c1
      refine ⟨_, _, rfl, rfl, _, rfl, ?_⟩
      refine ite2 (fun c2 => ?_) (fun c2 => ?_)
      · have c2 : (q : Int) ≤ 1000 := of_decide_eq_true c2
        refine ⟨_, rfl, _, _, rfl, rfl, _, rfl, ?_⟩
        refine ite2 (fun c3 => ?_) (fun c3 => ?_)
        · have c3 : (1 : Int) ≤ (p : Int) := of_decide_eq_true c3
          refine ⟨_, rfl, _, _, rfl, rfl, .inl ⟨by decide, by decide⟩, _, _, rfl, rfl, ?_⟩
          have e : Sy41.asked p q = decide ((p : Int) ≤ 1000 * (q : Int)) := by
            by_cases c4 : (p : Int) ≤ 1000 * (q : Int)
            · rw [decide_eq_true c4]
              exact asked_iff.mpr ⟨by omega, by omega, by omega, by omega⟩
            · rw [decide_eq_false c4]
              cases h : Sy41.asked p q with
              | false => rfl
              | true =>
                have := asked_iff.mp h
                omega
          rw [e] at k
          exact k
        · exact no (fun h => c3 (decide_eq_true (by omega)))
      · exact no (fun h => c2 (decide_eq_true (by omega)))
    · refine ⟨_, rfl, ?_⟩
      refine iteF ?_
      exact no (fun h => c1 (decide_eq_true (by omega)))
/-! ### stretch_of -/
def spOf (C D : Addr) : Sp := fun vs H Q _ => ∃ (p q : Addr) (s : Sy41.St) (f : FP) (N : Addr → Prop), vs = [.ref p, .ref q] ∧ BeatAt C D N H p s ∧ FrAt H q f ∧ Sm f ∧
  ((foundOf s).find? (fun x => holdsB x f) = none → Q .non H) ∧ (∀ x, (foundOf s).find? (fun x => holdsB x f) = some x → ∀ r, x ∈ foundOf s → StrAt D N H r x → Q (.ref r) H)
theorem find_take {α : Type} (q : α → Bool) : ∀ {l : List α} {i : Nat} {x : α}, l[i]? = some x → (l.take i).find? q = none → q x = true → l.find? q = some x
  | [], i, x, h, _, _ => by simp at h
  | a :: l, 0, x, h, _, hx => by
    have e : a = x := Option.some.inj h
    rw [List.find?_cons, e, hx]
  | a :: l, i + 1, x, h, hn, hx => by
    rw [List.take_succ_cons, List.find?_cons] at hn
    rw [List.find?_cons]
    cases c : q a with
    | true =>
      rw [c] at hn
      cases hn
    | false =>
      rw [c] at hn
      exact find_take q (l := l) (i := i) h hn hx
theorem find_take_next {α : Type} (q : α → Bool) {l : List α} {i : Nat} {x : α} (h : l[i]? = some x) (hn : (l.take i).find? q = none) (hx : ¬ q x = true) : (l.take (i + 1)).find? q = none := by
  rw [List.take_add_one, h, List.find?_append, hn]
  show ([x].find? q) = none
  rw [List.find?_cons, show q x = false by simpa using hx]
  rfl
theorem ok_of {f fH : Addr} {fd fdH : FuncData} (F : Fun K "stretch_of" "EvenBeat.stretch_of" sOf f fd) (T : TxtB K mg C D) (TS : TxtS K mg D) (GH : FnOk P w K mg base CX0 2 fH fdH ["self", "period"] (spHolds D)) (mH : Meth K D "holds" fH)
    (bH : Binds K fdH ["self", "period"] []) : FnOk P w K mg base CX0 3 f fd ["self", "period"] (spOf C D) := by
  refine F.ok scOf (fun vs H Q E h => ?_) (fun cdv A outer s H vs Q E hr h => ?_)
  · obtain ⟨p, q, s, f, N, rfl, _⟩ := h
    rfl
  · obtain ⟨p, q, s, f, N, rfl, hB, hf, sf, kN, kS⟩ := h
    refine ⟨_, pss_cons (ps_for PassesOwn.never rfl (pi_list (pe_fld (pv 0) rfl)) (pg_name (i := 2) scOf.nd rfl (.inl rfl))
        (pss_one (ps_if (pt_val (pe_meth (pv 2) TS.cl mH GH hr bH .nil pass0 (pa_cons (pv 1) pa_nil))) (pss_one (ps_ret (pv 2))) pss_nil)))
      (pss_one (ps_ret pe_non)), ?_⟩
    obtain ⟨dx, pt, pq, ps, h1, h2, h3, h4, h5, h6, h7, h8⟩ := id hB
    refine ⟨_, rfl, p, C, dx, _, _, rfl, h1, T.cl, T.nQ, bF_str _ _ _ _ _, pq, rfl, ⟨_, SqL.of h4⟩, for_list (K := K) (a := pq) (xs := ps.map V.ref) (fun i σ H' => ∃ v2, σ = [some (.ref p), some (.ref q), v2] ∧ H = H' ∧
      ((foundOf s).take i).find? (fun x => holdsB x f) = none) ⟨none, rfl, rfl, rfl⟩ ?_ ?_ ?_⟩
    · rintro i σ H' _ ⟨v2, rfl, rfl, _⟩
      exact SqL.of h4
    · rintro i y σ H' hi ⟨v2, rfl, rfl, hno⟩
      obtain ⟨a, ha, rfl⟩ := refs_get hi
      obtain ⟨x, hx, hS⟩ := paired_get h6 ha
      obtain ⟨dx2, pa, pb, pr, g1, g2, g3, g4, g5⟩ := id hS
      have fx := found_fit h7 x (List.mem_of_getElem? hx)
      refine ⟨_, rfl, a, dx2, _, rfl, g1, sF_h _ _ _, _, rfl, a, q, x, f, rfl, hS.any, hf, fx.sa, fx.sb, sf, _, rfl, ?_⟩
      refine ite2 (fun cy => ?_) (fun cn => ?_)
      · exact ⟨_, rfl, kS x (find_take _ hx hno cy) a (List.mem_of_getElem? hx) hS⟩
      · exact ⟨some (.ref a), rfl, rfl, find_take_next _ hx hno cn⟩
    · rintro σ H' ⟨v2, rfl, rfl, hno⟩
      have e3 : (ps.map V.ref).length = (foundOf s).length := by
        rw [List.length_map]
        exact h6.length
      rw [e3, List.take_length] at hno
      exact kN hno
/-! ### fits -/
def spFits (C D : Addr) : Sp := fun vs H Q _ => ∃ (p : Addr) (u d : Nat) (s : Sy41.St) (N : Addr → Prop), vs = [.ref p, .int (u : Int), .int (d : Int)] ∧ DoesL C D N p s (.fits u d) H Q
theorem fits_step (s : Sy41.St) (u d : Nat) : Sy41.step s (.fits u d) = (s, if Sy41.asked u d = false then Sy41.ok (-1) else match Sy41.of_ s (fr ((u : Int), (d : Int))) with | none => Sy41.ok 0 | some x => ⟨1, [x.beats]⟩) := by
  show (s, if Sy41.asked u d = false then Sy41.ok (-1) else match Sy41.of_ s (Sy41.frac (u : Nat) d) with | none => Sy41.ok 0 | some x => ⟨1, [x.beats]⟩) = _
  rw [show fr ((u : Int), (d : Int)) = Sy41.frac (u : Nat) d from rfl]
theorem sm_of {u d : Nat} (c : Sy41.asked u d = true) : Sm ((u : Int), (d : Int)) := by
  obtain ⟨a1, a2, a3, a4⟩ := asked_iff.mp c
  exact ⟨by dsimp only; omega, by dsimp only; omega, by dsimp only; omega, by dsimp only; omega⟩
theorem ref_is_non {a : Addr} : decide (V.ref a = V.non) = false := decide_eq_false (by intro z; cases z)
theorem ok_fits {f fA fO fT : Addr} {fd fdA fdO fdT : FuncData} (F : Fun K "fits" "EvenBeat.fits" sFits f fd) (Z : Calls2 P w K mg base C D) (TS : TxtS K mg D) (GA : FnOk P w K mg base CX0 1 fA fdA ["above", "below"] spAsk) (kA : PySem.W.keepIn K (.ref fA) = true)
    (bA : Binds K fdA ["above", "below"] []) (gA : mg "is_askable" = some (.ref fA)) (GO : FnOk P w K mg base CX0 3 fO fdO ["self", "period"] (spOf C D)) (mO : Meth K C "stretch_of" fO) (bO : Binds K fdO ["self", "period"] [])
    (GT : FnOk P w K mg base CX0 1 fT fdT ["numbers"] spTold) (kT : PySem.W.keepIn K (.ref fT) = true) (bT : Binds K fdT ["numbers"] []) (gT : mg "told_list" = some (.ref fT)) :
    FnOk P w K mg base CX0 4 f fd ["self", "above", "below"] (spFits C D) := by
  have T := Z.T
  refine F.ok scFits (fun vs H Q E h => ?_) (fun cdv A outer s H vs Q E hr h => ?_)
  · obtain ⟨p, u, d, s, N, rfl, _⟩ := h
    rfl
  · obtain ⟨p, u, d, s, N, rfl, hB, hN, k⟩ := h
    have hr1 : Room 1 _ := hr.mono (by decide)
    refine ⟨_, pss_cons (ps_if (pt_not (pt_val (pe_call GA hr1 (by rfl) gA kA bA .nil pass0 (pa_cons (pv 1) (pa_cons (pv 2) pa_nil))))) (pss_one (ps_ret (pe_lst (pa_cons (pe_un un_neg pe_int) pa_nil)))) pss_nil)
      (pss_cons (ps_set (i := 3) scFits.nd rfl (.inl rfl) (pe_meth (pv 0) T.cl mO GO hr bO .nil pass0 (pa_cons (pe_tup (pa_cons (pv 1) (pa_cons (pv 2) pa_nil))) pa_nil)))
      (pss_cons (ps_if (pt_cmpR op_isN (pv 3) pe_non (nomark _)) (pss_one (ps_ret (pe_lst (pa_cons pe_int pa_nil)))) pss_nil)
      (pss_one (ps_ret (pe_op op_cat (pe_lst (pa_cons pe_int pa_nil)) (pe_call GT hr1 (by rfl) gT kT bT .nil pass0 (pa_cons (pe_fld (pv 3) rfl) pa_nil))))))), ?_⟩
    obtain ⟨dx, pt, pq, ps, h1, h2, h3, h4, h5, h6, h7, h8⟩ := id hB
    have hst := fits_step s u d
    refine ⟨_, rfl, _, rfl, u, d, rfl, _, rfl, ?_⟩
    refine ite2 (fun c => ?_) (fun c => ?_)
    · have c : Sy41.asked u d = false := by simpa using c
      rw [if_pos c] at hst
      refine ⟨_, rfl, (by show 1 ≤ sizeLine; decide), fun q nq => ?_⟩
      exact k _ hst _ q (hB.same (same_upd nq)) (Same.but (same_upd nq)) nq upd_same
    have c : Sy41.asked u d = true := by simpa using c
    rw [if_neg (by rw [c]; decide)] at hst
    have sf := sm_of c
    rw [of_is h7 (f := ((u : Int), (d : Int))) sf.2.2.1] at hst
    refine ⟨_, rfl, p, dx, _, rfl, h1, bF_none (by decide +kernel) (by decide +kernel) (by decide +kernel) (by decide +kernel) (by decide +kernel), _, rfl, _, rfl, (by show 2 ≤ sizeLine; decide), fun T1 nT1 => ?_⟩
    have s1 := same_upd (o := HO.tup [V.int (u : Int), V.int (d : Int)]) nT1
    refine ⟨p, T1, s, ((u : Int), (d : Int)), N, rfl, hB.same s1, upd_same, sf, fun hno => ?_, fun x hx a hmem hS => ?_⟩
    · rw [hno] at hst
      refine ⟨_, rfl, rfl, _, rfl, ?_⟩
      refine iteT ?_
      refine ⟨(by show 1 ≤ sizeLine; decide), fun q nq => ?_⟩
      exact k _ hst _ q (hB.same (s1.trans (same_upd nq))) (Same.but (s1.trans (same_upd nq))) (s1.free nq) upd_same
    · rw [hx] at hst
      have fx := found_fit h7 x hmem
      obtain ⟨dx2, pa, pb, pr, g1, g2, g3, g4, g5⟩ := id hS
      refine ⟨_, rfl, rfl, _, rfl, ?_⟩
      refine iteF ?_
      refine ⟨(by show 1 ≤ sizeLine; decide), fun o1 no1 => ?_⟩
      have s2 := same_upd (o := HO.lst [V.int 1]) no1
      have hlr : x.row.length ≤ 10 := by
        rw [fx.len]
        exact h8
      refine ⟨_, rfl, a, D, dx2, _, _, rfl, s2 _ _ g1, TS.cl, TS.nR, sF_r _ _ _, pr, x.row, rfl, s2 _ _ g4, (by rw [sizeLine_eq]; omega), fun H3 q3 s3 nq3 eq3 => ?_⟩
      refine ⟨o1, q3, _, _, rfl, rfl, s3 _ _ upd_same, eq3, ?_, fun q nq => ?_⟩
      · have e9 : ((toldL x.row).map V.int).length = x.row.length + 1 := by
          rw [List.length_map]
          rfl
        rw [e9, sizeLine_eq]
        show 1 + _ ≤ _
        omega
      have s4 := same_upd (o := HO.lst ([V.int 1] ++ (toldL x.row).map V.int)) nq
      have s5 := s1.trans (s2.trans (s3.trans s4))
      refine k _ hst _ q (hB.same s5) (Same.but s5) ((s1.trans (s2.trans s3)).free nq) ?_
      rw [upd_same]
      congr 2
      show _ = List.map V.int ((1 : Int) :: (([x.row] : List (List Int)).flatMap fun (w : List Int) => (w.length : Int) :: w))
      rw [List.flatMap_cons, List.flatMap_nil, List.append_nil]
      rfl
end
end Ev
set_option Elab.async false
set_option maxRecDepth 100000
set_option maxHeartbeats 2000000
namespace Ev
open PySem PySem.Spec PyProof.Rows L2
/-! ### The text -/
abbrev sWin : Stmt := topS 15
abbrev sAhead : Stmt := topS 16
theorem scWin : FnScope ["times", "row", "off", "period", "above", "below", "without_periods", "least", "greatest", "time", "beat"] ["times", "row", "off", "period"] (defScope sWin) := ⟨rfl, rfl, rfl, by decide +kernel, rfl, by decide +kernel, by decide +kernel⟩
theorem scAhead : FnScope ["window", "period", "time", "above", "below", "least", "greatest", "periods_between", "moved_by"] ["window", "period", "time"] (defScope sAhead) := ⟨rfl, rfl, rfl, by decide +kernel, rfl, by decide +kernel, by decide +kernel⟩
/-! ### The greatest and the least -/
theorem foldl_max_is : ∀ (r : List Int) (a : Int), r.foldl max a ∈ a :: r ∧ ∀ y ∈ a :: r, y ≤ r.foldl max a
  | [], a => ⟨List.Mem.head _, fun y hy => by
    rcases List.mem_cons.mp hy with rfl | h
    · exact Int.le_refl _
    · cases h⟩
  | z :: r, a => by
    rw [List.foldl_cons]
    obtain ⟨h1, h2⟩ := foldl_max_is r (max a z)
    have h3 := h2 (max a z) (List.Mem.head _)
    refine ⟨?_, fun y hy => ?_⟩
    · rcases List.mem_cons.mp h1 with e | h
      · rw [e]
        by_cases c : a ≤ z
        · rw [Int.max_eq_right c]
          exact List.Mem.tail _ (List.Mem.head _)
        · rw [Int.max_eq_left (by omega)]
          exact List.Mem.head _
      · exact List.Mem.tail _ (List.Mem.tail _ h)
    · rcases List.mem_cons.mp hy with rfl | hy
      · omega
      · rcases List.mem_cons.mp hy with rfl | hy
        · omega
        · exact h2 y (List.Mem.tail _ hy)
theorem foldl_min_is : ∀ (r : List Int) (a : Int), r.foldl min a ∈ a :: r ∧ ∀ y ∈ a :: r, r.foldl min a ≤ y
  | [], a => ⟨List.Mem.head _, fun y hy => by
    rcases List.mem_cons.mp hy with rfl | h
    · exact Int.le_refl _
    · cases h⟩
  | z :: r, a => by
    rw [List.foldl_cons]
    obtain ⟨h1, h2⟩ := foldl_min_is r (min a z)
    have h3 := h2 (min a z) (List.Mem.head _)
    refine ⟨?_, fun y hy => ?_⟩
    · rcases List.mem_cons.mp h1 with e | h
      · rw [e]
        by_cases c : a ≤ z
        · rw [Int.min_eq_left c]
          exact List.Mem.head _
        · rw [Int.min_eq_right (by omega)]
          exact List.Mem.tail _ (List.Mem.head _)
      · exact List.Mem.tail _ (List.Mem.tail _ h)
    · rcases List.mem_cons.mp hy with rfl | hy
      · omega
      · rcases List.mem_cons.mp hy with rfl | hy
        · omega
        · exact h2 y (List.Mem.tail _ hy)
theorem starts_len {ts : List Nat} {row : List Int} {f : FP} (h : row.length = ts.length) : (starts ts row f).length = ts.length := by
  unfold starts
  rw [List.length_map, List.length_zip]
  omega
theorem starts_next {ts : List Nat} {row : List Int} {f : FP} {i t : Nat} {n : Int} (h1 : ts[i]? = some t) (h2 : row[i]? = some n) : (starts ts row f).take (i + 1) = (starts ts row f).take i ++ [(t : Int) * f.2 - n * f.1] := by
  have e : (starts ts row f)[i]? = some ((t : Int) * f.2 - n * f.1) := by
    unfold starts
    rw [List.getElem?_map, List.getElem?_zip_eq_some (z := (t, n)) |>.mpr ⟨h1, h2⟩]
    rfl
  rw [List.take_add_one, e]
  rfl
theorem get0 {x y : V} : atI [x, y] 0 = some x := rfl
section
variable {P : Program} {w : World} {K : PySem.W.Frag} {mg : Str → Option Value} {base : Heap} {C D : Addr}
/-! ### window_of_beat_0 -/
def spWin (K : PySem.W.Frag) : Sp := fun vs H Q _ => ∃ (pt pr pp : Addr) (ts : List Nat) (row : List Int) (off : Nat) (f : FP), vs = [.ref pt, .ref pr, .int (off : Int), .ref pp] ∧ SqL K H pt (vN ts) ∧ SqL K H pr (row.map V.int) ∧ row.length = ts.length ∧
  0 < ts.length ∧ ts.length ≤ 1000 ∧ (∀ t ∈ ts, t ≤ 2000) ∧ (∀ n ∈ row, 0 ≤ n ∧ n ≤ 2000) ∧ off ≤ 1000 ∧ FrAt H pp f ∧
  ∀ H' r a rest, starts ts row f = a :: rest → Same H H' → WinAt H' r (rest.foldl max a - (off : Int) * f.2) (rest.foldl min a + (off : Int) * f.2) f.2 → Q (.ref r) H'
theorem ok_win {f : Addr} {fd : FuncData} (F : Fun K "window_of_beat_0" "window_of_beat_0" sWin f fd) (mz : mg "zip" = none) (mx : mg "max" = none) (mi : mg "min" = none) : FnOk P w K mg base CX0 1 f fd ["times", "row", "off", "period"] (spWin K) := by
  refine F.ok scWin (fun vs H Q E h => ?_) (fun cdv A outer s H vs Q E hr h => ?_)
  · obtain ⟨pt, pr, pp, ts, row, off, f, rfl, _⟩ := h
    rfl
  · obtain ⟨pt, pr, pp, ts, row, off, f, rfl, hT, hR, hlen, h0, hl1, hts, hrow, hoff, hf, k⟩ := h
    refine ⟨_, pss_cons (ps_set (i := 4) scWin.nd rfl (.inr rfl) (pe_ix ix_tup (pv 3) pe_int (fun _ _ => rfl)))
      (pss_cons (ps_set (i := 5) scWin.nd rfl (.inr rfl) (pe_ix ix_tup (pv 3) pe_int (fun _ _ => rfl)))
      (pss_cons (ps_setLc (i := 6) (own := [("time", 9), ("beat", 10)]) (g := gTup K 2 (gCons (gName 9) (gCons (gName 10) gNil))) rfl scWin.nd rfl rfl (sw_true rfl rfl rfl (by decide +kernel)) (pi_zip (by rfl) mz (pa_cons (pv 0) (pa_cons (pv 1) pa_nil)))
        (blkOk_by (N := ["times", "row", "off", "period", "above", "below", "without_periods", "least", "greatest", "time", "beat"]) (sc := defScope sWin) (by decide +kernel))
        (fun _ _ _ _ _ => pg_tup rfl (pgs_cons (pg_name (i := 9) scWin.nd rfl (Or.inl rfl)) (pgs_cons (pg_name (i := 10) scWin.nd rfl (Or.inl rfl)) pgs_nil)))
        (fun _ _ _ _ _ => pts_nil) (fun _ _ _ _ _ => pe_op op_sub (pe_op op_mul (pv 9) (pv 5)) (pe_op op_mul (pv 10) (pv 4))))
      (pss_cons (ps_set (i := 7) scWin.nd rfl (.inl rfl) (pe_op op_sub (pe_callB (cr_max rfl) (by rfl) mx (by decide +kernel) (pa_cons (pv 6) pa_nil)) (pe_op op_mul (pv 2) (pv 5))))
      (pss_cons (ps_set (i := 8) scWin.nd rfl (.inl rfl) (pe_op op_add (pe_callB (cr_min rfl) (by rfl) mi (by decide +kernel) (pa_cons (pv 6) pa_nil)) (pe_op op_mul (pv 2) (pv 5))))
      (pss_one (ps_ret (pe_tup (pa_cons (pe_tup (pa_cons (pv 7) (pa_cons (pv 5) pa_nil))) (pa_cons (pe_tup (pa_cons (pv 8) (pa_cons (pv 5) pa_nil))) pa_nil))))))))), ?_⟩
    refine ⟨_, rfl, pp, _, _, _, rfl, rfl, hf.t, at0, ?_⟩
    refine ⟨_, rfl, pp, _, _, _, rfl, rfl, hf.t, at1, ?_⟩
    refine ⟨_, rfl, _, rfl, pt, pr, vN ts, row.map V.int, rfl, hT, hR, fun L nL => ?_⟩
    have hn : ts.length = min (vN ts).length (row.map V.int).length := by
      rw [vN_len, List.length_map]
      omega
    refine lc_it (walk_zip (K := K) (a := pt) (b := pr) (xs := vN ts) (ys := row.map V.int) hn) (fun i H' => Same H H' ∧ H' L = some (.lst (((starts ts row f).take i).map V.int))) ⟨same_upd nL, upd_same⟩ ?_ ?_ ?_
    · rintro i H' _ ⟨sm, _⟩
      exact ⟨sm.seq hT, sm.seq hR⟩
    · rintro i x H1 H2 hi ⟨sm, eL⟩ ⟨T0, x1, y1, rfl, nT, rfl, e1, e2⟩
      obtain ⟨t, ht, rfl⟩ := vN_get e1
      obtain ⟨n, hn', rfl⟩ := vI_get e2
      have bt := hts t (List.mem_of_getElem? ht)
      have bn := hrow n (List.mem_of_getElem? hn')
      have s1 := same_upd (o := HO.tup [V.int (t : Int), V.int n]) nT
      refine ⟨T0, [.int (t : Int), .int n], rfl, SqT.of upd_same, rfl, _, _, rfl, _, _, rfl, rfl, rfl, ?_⟩
      dsimp only [tYes]
      rw [if_pos rfl]
      refine ⟨_, rfl, _, rfl, _, _, rfl, rfl, .inl ⟨by omega, by omega⟩, _, rfl, _, rfl, _, _, rfl, rfl, .inl ⟨by omega, by omega⟩, _, _, rfl, rfl, _, s1 _ _ eL, ?_, ?_, ?_⟩
      · rw [List.length_map, List.length_take, starts_len hlen, sizeLine_eq]
        omega
      · intro b z e
        rw [upd_ne (ne_of_none e nL)]
        exact s1 _ _ (sm _ _ e)
      · rw [upd_same, starts_next ht hn', List.map_append]
        rfl
    · rintro H1 ⟨sm, eL⟩
      rw [List.take_of_length_le (by rw [starts_len hlen]; exact Nat.le_refl _)] at eL
      have hpos : 0 < (starts ts row f).length := by
        rw [starts_len hlen]
        exact h0
      obtain ⟨a, rest, hst⟩ : ∃ a rest, starts ts row f = a :: rest := by
        cases e : starts ts row f with
        | nil =>
          rw [e] at hpos
          cases hpos
        | cons a rest => exact ⟨a, rest, rfl⟩
      refine ⟨_, rfl, L, _, rfl, SqL.of eL, hpos, fun m hm hle => ?_⟩
      have em : m = rest.foldl max a := by
        obtain ⟨g1, g2⟩ := foldl_max_is rest a
        rw [hst] at hm hle
        have := hle _ g1
        have := g2 m hm
        omega
      refine ⟨_, rfl, _, rfl, _, _, rfl, rfl, .inl ⟨by omega, by omega⟩, _, _, rfl, rfl, ?_⟩
      refine ⟨_, rfl, L, _, rfl, SqL.of eL, hpos, fun m2 hm2 hle2 => ?_⟩
      have em2 : m2 = rest.foldl min a := by
        obtain ⟨g1, g2⟩ := foldl_min_is rest a
        rw [hst] at hm2 hle2
        have := hle2 _ g1
        have := g2 m2 hm2
        omega
      refine ⟨_, rfl, _, rfl, _, _, rfl, rfl, .inl ⟨by omega, by omega⟩, _, _, rfl, rfl, ?_⟩
      refine ⟨_, rfl, _, rfl, (by show 2 ≤ sizeLine; decide), fun pa na => ?_⟩
      have s2 := same_upd (o := HO.tup [V.int (m - (off : Int) * f.2), V.int f.2]) na
      refine ⟨_, rfl, _, rfl, (by show 2 ≤ sizeLine; decide), fun pb nb => ?_⟩
      have s3 := same_upd (o := HO.tup [V.int (m2 + (off : Int) * f.2), V.int f.2]) nb
      refine ⟨(by show 2 ≤ sizeLine; decide), fun q nq => ?_⟩
      have s4 := same_upd (o := HO.tup [V.ref pa, V.ref pb]) nq
      subst em em2
      exact k _ q a rest hst (sm.trans (s2.trans (s3.trans s4))) ⟨pa, pb, upd_same, s4 _ _ (s3 _ _ upd_same), s4 _ _ upd_same⟩
/-! ### window_not_ahead -/
def spAhead : Sp := fun vs H Q _ => ∃ (pw pp : Addr) (a b : Int) (f : FP) (t : Nat), vs = [.ref pw, .ref pp, .int (t : Int)] ∧ WinAt H pw a b f.2 ∧ FrAt H pp f ∧ 0 < f.1 ∧ Sm f ∧ t ≤ 2000 ∧
  ∀ H' r, Same H H' → WinAt H' r (a + nextN b f t * f.1) (b + nextN b f t * f.1) f.2 → Q (.ref r) H'
theorem ok_ahead {f : Addr} {fd : FuncData} (F : Fun K "window_not_ahead" "window_not_ahead" sAhead f fd) : FnOk P w K mg base CX0 1 f fd ["window", "period", "time"] spAhead := by
  refine F.ok scAhead (fun vs H Q E h => ?_) (fun cdv A outer s H vs Q E hr h => ?_)
  · obtain ⟨pw, pp, a, b, f, t, rfl, _⟩ := h
    rfl
  · obtain ⟨pw, pp, a, b, f, t, rfl, ⟨pa, pb, h1, h2, h3⟩, hf, f0, sf, ht, k⟩ := h
    refine ⟨_, pss_cons (ps_set (i := 3) scAhead.nd rfl (.inl rfl) (pe_ix ix_tup (pv 1) pe_int (fun _ _ => rfl)))
      (pss_cons (ps_set (i := 4) scAhead.nd rfl (.inl rfl) (pe_ix ix_tup (pv 1) pe_int (fun _ _ => rfl)))
      (pss_cons (ps_set (i := 5) scAhead.nd rfl (.inl rfl) (pe_ix ix_tup (pe_ix ix_tup (pv 0) pe_int (fun _ _ => rfl)) pe_int (fun _ _ => rfl)))
      (pss_cons (ps_set (i := 6) scAhead.nd rfl (.inl rfl) (pe_ix ix_tup (pe_ix ix_tup (pv 0) pe_int (fun _ _ => rfl)) pe_int (fun _ _ => rfl)))
      (pss_cons (ps_set (i := 7) scAhead.nd rfl (.inl rfl) (pe_un un_neg (pe_op op_fdiv (pe_op op_sub (pv 6) (pe_op op_mul (pv 2) (pv 4))) (pv 3))))
      (pss_cons (ps_set (i := 8) scAhead.nd rfl (.inl rfl) (pe_op op_mul (pv 7) (pv 3)))
      (pss_one (ps_ret (pe_tup (pa_cons (pe_tup (pa_cons (pe_op op_add (pv 5) (pv 8)) (pa_cons (pv 4) pa_nil))) (pa_cons (pe_tup (pa_cons (pe_op op_add (pv 6) (pv 8)) (pa_cons (pv 4) pa_nil))) pa_nil)))))))))), ?_⟩
    refine ⟨_, rfl, pp, _, _, _, rfl, rfl, hf.t, at0, ?_⟩
    refine ⟨_, rfl, pp, _, _, _, rfl, rfl, hf.t, at1, ?_⟩
    refine ⟨_, rfl, pw, _, _, _, rfl, rfl, SqT.of h1, at0, pa, _, _, _, rfl, rfl, h2.t, at0, ?_⟩
    refine ⟨_, rfl, pw, _, _, _, rfl, rfl, SqT.of h1, at1, pb, _, _, _, rfl, rfl, h3.t, at0, ?_⟩
    have sf2 := sf.2.1
    refine ⟨_, rfl, _, rfl, _, rfl, _, _, rfl, rfl, .inl ⟨by omega, by omega⟩, _, _, rfl, rfl, _, rfl, _, _, rfl, rfl, ⟨f0, by show f.1 < 1073741824; omega⟩, _, rfl, ?_⟩
    have en : -((b - (t : Int) * f.2) / f.1) = nextN b f t := by
      unfold nextN
      congr 2
      omega
    refine ⟨_, rfl, _, rfl, _, _, rfl, rfl, .inr ⟨by omega, by omega⟩, ?_⟩
    rw [en]
    refine ⟨_, rfl, _, rfl, _, _, rfl, rfl, _, rfl, (by show 2 ≤ sizeLine; decide), fun qa na => ?_⟩
    have s2 := same_upd (o := HO.tup [V.int (a + nextN b f t * f.1), V.int f.2]) na
    refine ⟨_, rfl, _, rfl, _, _, rfl, rfl, _, rfl, (by show 2 ≤ sizeLine; decide), fun qb nb => ?_⟩
    have s3 := same_upd (o := HO.tup [V.int (b + nextN b f t * f.1), V.int f.2]) nb
    refine ⟨(by show 2 ≤ sizeLine; decide), fun q nq => ?_⟩
    have s4 := same_upd (o := HO.tup [V.ref qa, V.ref qb]) nq
    exact k _ q (s2.trans (s3.trans s4)) ⟨qa, qb, upd_same, s4 _ _ (s3 _ _ upd_same), s4 _ _ upd_same⟩
end
end Ev
set_option Elab.async false
set_option maxRecDepth 100000
set_option maxHeartbeats 2000000
namespace Ev
open PySem PySem.Spec PyProof.Rows L2
/-! ### The text -/
theorem scBy : FnScope ["self", "period"] ["self", "period"] (defScope sBy) := ⟨rfl, rfl, rfl, by decide +kernel, rfl, by decide +kernel, by decide +kernel⟩
theorem scWindow : FnScope ["self", "above", "below", "refusal"] ["self", "above", "below"] (defScope sWindow) := ⟨rfl, rfl, rfl, by decide +kernel, rfl, by decide +kernel, by decide +kernel⟩
theorem scNext : FnScope ["self", "above", "below", "time", "refusal", "period"] ["self", "above", "below", "time"] (defScope sNext) := ⟨rfl, rfl, rfl, by decide +kernel, rfl, by decide +kernel, by decide +kernel⟩
theorem scBeats : FnScope ["self", "stretch", "row"] ["self", "stretch"] (defScope sBeats) := ⟨rfl, rfl, rfl, by decide +kernel, rfl, by decide +kernel, by decide +kernel⟩
theorem scAlone : FnScope ["self"] ["self"] (defScope sAlone) := ⟨rfl, rfl, rfl, by decide +kernel, rfl, by decide +kernel, by decide +kernel⟩
theorem scTimes : FnScope ["self"] ["self"] (defScope sTimes) := ⟨rfl, rfl, rfl, by decide +kernel, rfl, by decide +kernel, by decide +kernel⟩
/-! ### What is refused of a window -/
def byP (s : Sy41.St) (u d : Nat) : Option S := (foundOf s).find? fun x => holdsB x ((u : Int), (d : Int))
def refusal (s : Sy41.St) (u d : Nat) : Int := if Sy41.asked u d = false then -1 else if s.times.isEmpty = true then -2 else if (byP s u d).isNone = true then -6 else 0
theorem refusal_or (s : Sy41.St) (u d : Nat) : refusal s u d < 0 ∨ (refusal s u d = 0 ∧ Sy41.asked u d = true ∧ s.times.isEmpty = false ∧ ∃ x, byP s u d = some x) := by
  unfold refusal
  by_cases c1 : Sy41.asked u d = false
  · rw [if_pos c1]
    exact .inl (by decide)
  · rw [if_neg c1]
    by_cases c2 : s.times.isEmpty = true
    · rw [if_pos c2]
      exact .inl (by decide)
    · rw [if_neg c2]
      cases e : byP s u d with
      | none => exact .inl (by decide)
      | some x => exact .inr ⟨rfl, by simpa using c1, by simpa using c2, x, rfl⟩
/-- what is answered of a stretch -/
def ansW (w : Sy41.Frac × Sy41.Frac) : Sy41.Ans := ⟨0, [Sy41.say w.1, Sy41.say w.2]⟩
theorem of_by {s : Sy41.St} (k : Ok s) {u d : Nat} (c : Sy41.asked u d = true) : Sy41.of_ s (Sy41.frac (u : Nat) d) = (byP s u d).map toSpec :=
  of_is k (f := ((u : Int), (d : Int))) (sm_of c).2.2.1
theorem window_neg {s : Sy41.St} (k : Ok s) {u d : Nat} (h : refusal s u d < 0) : Sy41.step s (.window u d) = (s, Sy41.ok (refusal s u d)) := by
  show (s, if Sy41.asked u d = false then Sy41.ok (-1) else if s.times.isEmpty = true then Sy41.ok (-2) else match Sy41.of_ s (Sy41.frac (u : Nat) d) with
    | none => Sy41.ok (-6)
    | some x => ansW (Sy41.window s (Sy41.frac (u : Nat) d) x)) = _
  unfold refusal at h ⊢
  by_cases c1 : Sy41.asked u d = false
  · rw [if_pos c1, if_pos c1]
  · rw [if_neg c1, if_neg c1]
    rw [if_neg c1] at h
    by_cases c2 : s.times.isEmpty = true
    · rw [if_pos c2, if_pos c2]
    · rw [if_neg c2, if_neg c2]
      rw [if_neg c2] at h
      rw [of_by k (by simpa using c1)]
      cases e : byP s u d with
      | none => rfl
      | some x =>
        rw [e] at h
        exact absurd h (by show ¬ (0 : Int) < 0; decide)
theorem window_yes {s : Sy41.St} (k : Ok s) {u d : Nat} {x : S} (c1 : Sy41.asked u d = true) (c2 : s.times.isEmpty = false) (hx : byP s u d = some x) : Sy41.step s (.window u d) = (s, ansW (Sy41.window s (fr ((u : Int), (d : Int))) (toSpec x))) := by
  show (s, if Sy41.asked u d = false then Sy41.ok (-1) else if s.times.isEmpty = true then Sy41.ok (-2) else match Sy41.of_ s (Sy41.frac (u : Nat) d) with
    | none => Sy41.ok (-6)
    | some x => ansW (Sy41.window s (Sy41.frac (u : Nat) d) x)) = _
  rw [if_neg (by rw [c1]; decide), if_neg (by rw [c2]; decide), of_by k c1, hx]
  rfl
theorem next_late {s : Sy41.St} {u d t : Nat} (h : 2000 < t) : Sy41.step s (.next u d t) = (s, Sy41.ok (-1)) := by
  show (s, if Sy41.asked u d = false ∨ Sy41.TIME < t then Sy41.ok (-1) else _) = _
  rw [if_pos (.inr h)]
theorem next_neg {s : Sy41.St} (k : Ok s) {u d t : Nat} (ht : t ≤ 2000) (h : refusal s u d < 0) : Sy41.step s (.next u d t) = (s, Sy41.ok (refusal s u d)) := by
  have nt : ¬ Sy41.TIME < t := by show ¬ 2000 < t; omega
  show (s, if Sy41.asked u d = false ∨ Sy41.TIME < t then Sy41.ok (-1) else if s.times.isEmpty = true then Sy41.ok (-2) else match Sy41.of_ s (Sy41.frac (u : Nat) d) with
    | none => Sy41.ok (-6)
    | some x => ansW (Sy41.nextOf s (Sy41.frac (u : Nat) d) x t)) = _
  unfold refusal at h ⊢
  by_cases c1 : Sy41.asked u d = false
  · rw [if_pos (.inl c1), if_pos c1]
  · rw [if_neg (fun q => q.elim c1 nt), if_neg c1]
    rw [if_neg c1] at h
    by_cases c2 : s.times.isEmpty = true
    · rw [if_pos c2, if_pos c2]
    · rw [if_neg c2, if_neg c2]
      rw [if_neg c2] at h
      rw [of_by k (by simpa using c1)]
      cases e : byP s u d with
      | none => rfl
      | some x =>
        rw [e] at h
        exact absurd h (by show ¬ (0 : Int) < 0; decide)
theorem next_yes {s : Sy41.St} (k : Ok s) {u d t : Nat} {x : S} (ht : t ≤ 2000) (c1 : Sy41.asked u d = true) (c2 : s.times.isEmpty = false) (hx : byP s u d = some x) :
    Sy41.step s (.next u d t) = (s, ansW (Sy41.nextOf s (fr ((u : Int), (d : Int))) (toSpec x) t)) := by
  have nt : ¬ Sy41.TIME < t := by show ¬ 2000 < t; omega
  show (s, if Sy41.asked u d = false ∨ Sy41.TIME < t then Sy41.ok (-1) else if s.times.isEmpty = true then Sy41.ok (-2) else match Sy41.of_ s (Sy41.frac (u : Nat) d) with
    | none => Sy41.ok (-6)
    | some x => ansW (Sy41.nextOf s (Sy41.frac (u : Nat) d) x t)) = _
  rw [if_neg (fun q => q.elim (by rw [c1]; decide) nt), if_neg (by rw [c2]; decide), of_by k c1, hx]
  rfl
/-- how a window is told -/
theorem out_win {a b d : Int} (hd : 0 < d) : Sy41Neutral.out (ansW (fr (a, d), fr (b, d))) = 0 :: (toldL (lowL (a, d)) ++ toldL (lowL (b, d))) := by
  show (0 : Int) :: (([Sy41.say (fr (a, d)), Sy41.say (fr (b, d))] : List (List Int)).flatMap fun (w : List Int) => (w.length : Int) :: w) = _
  rw [say_low (f := (a, d)) hd, say_low (f := (b, d)) hd, List.flatMap_cons, List.flatMap_cons, List.flatMap_nil, List.append_nil]
  rfl
section
variable {P : Program} {w : World} {K : PySem.W.Frag} {mg : Str → Option Value} {base : Heap} {C D : Addr}
/-! ### window_refusal -/
def spRef (C D : Addr) : Sp := fun vs H Q _ => ∃ (p : Addr) (u d : Nat) (s : Sy41.St) (N : Addr → Prop), vs = [.ref p, .int (u : Int), .int (d : Int)] ∧ BeatAt C D N H p s ∧ ∀ H', Same H H' → Q (.int (refusal s u d)) H'
theorem ok_ref {f fA fO : Addr} {fd fdA fdO : FuncData} (F : Fun K "window_refusal" "EvenBeat.window_refusal" sRef f fd) (T : TxtB K mg C D) (ml : mg "len" = none) (GA : FnOk P w K mg base CX0 1 fA fdA ["above", "below"] spAsk) (kA : PySem.W.keepIn K (.ref fA) = true)
    (bA : Binds K fdA ["above", "below"] []) (gA : mg "is_askable" = some (.ref fA)) (GO : FnOk P w K mg base CX0 3 fO fdO ["self", "period"] (spOf C D)) (mO : Meth K C "stretch_of" fO) (bO : Binds K fdO ["self", "period"] []) :
    FnOk P w K mg base CX0 4 f fd ["self", "above", "below"] (spRef C D) := by
  refine F.ok scRef (fun vs H Q E h => ?_) (fun cdv A outer s H vs Q E hr h => ?_)
  · obtain ⟨p, u, d, s, N, rfl, _⟩ := h
    rfl
  · obtain ⟨p, u, d, s, N, rfl, hB, k⟩ := h
    have hr1 : Room 1 _ := hr.mono (by decide)
    refine ⟨_, pss_cons (ps_if (pt_not (pt_val (pe_call GA hr1 (by rfl) gA kA bA .nil pass0 (pa_cons (pv 1) (pa_cons (pv 2) pa_nil))))) (pss_one (ps_ret (pe_un un_neg pe_int))) pss_nil)
      (pss_cons (ps_if (pt_cmpR op_eq (pe_callB call_len_seq (by rfl) ml PySem.boot_len (pa_cons (pe_fld (pv 0) rfl) pa_nil)) pe_int (nomark _)) (pss_one (ps_ret (pe_un un_neg pe_int))) pss_nil)
      (pss_cons (ps_if (pt_cmpR op_isN (pe_meth (pv 0) T.cl mO GO hr bO .nil pass0 (pa_cons (pe_tup (pa_cons (pv 1) (pa_cons (pv 2) pa_nil))) pa_nil)) pe_non (nomark _)) (pss_one (ps_ret (pe_un un_neg pe_int))) pss_nil)
      (pss_one (ps_ret pe_int)))), ?_⟩
    obtain ⟨dx, pt, pq, ps, h1, h2, h3, h4, h5, h6, h7, h8⟩ := id hB
    refine ⟨_, rfl, _, rfl, u, d, rfl, _, rfl, ?_⟩
    refine ite2 (fun c => ?_) (fun c => ?_)
    · have c : Sy41.asked u d = false := by simpa using c
      refine ⟨_, rfl, ?_⟩
      have e : refusal s u d = -1 := if_pos c
      rw [e] at k
      exact k H (Same.refl H)
    have c : Sy41.asked u d = true := by simpa using c
    refine ⟨_, rfl, p, C, dx, _, _, rfl, h1, T.cl, T.nT, bF_seen _ _ _ _ _, pt, _, rfl, .inl (SqL.of h2), rfl, _, rfl, ?_⟩
    have e1 : refusal s u d = if s.times.isEmpty = true then -2 else if (byP s u d).isNone = true then -6 else 0 := if_neg (by rw [c]; decide)
    refine ite2 (fun c2 => ?_) (fun c2 => ?_)
    · have c2 := int_eq_of c2
      rw [vN_len] at c2
      refine ⟨_, rfl, ?_⟩
      rw [if_pos (List.isEmpty_iff_length_eq_zero.mpr (by omega))] at e1
      rw [e1] at k
      exact k H (Same.refl H)
    have c2 := int_ne_of c2
    rw [vN_len] at c2
    rw [if_neg (fun q => c2 (by rw [List.isEmpty_iff_length_eq_zero.mp q]; rfl))] at e1
    refine ⟨_, rfl, p, dx, _, rfl, h1, bF_none (by decide +kernel) (by decide +kernel) (by decide +kernel) (by decide +kernel) (by decide +kernel), _, rfl, _, rfl, (by show 2 ≤ sizeLine; decide), fun T1 nT1 => ?_⟩
    have s1 := same_upd (o := HO.tup [V.int (u : Int), V.int (d : Int)]) nT1
    refine ⟨p, T1, s, ((u : Int), (d : Int)), N, rfl, hB.same s1, upd_same, sm_of c, fun hno => ?_, fun x hx a hmem hS => ?_⟩
    · have e2 : byP s u d = none := hno
      rw [e2] at e1
      refine ⟨rfl, _, rfl, ?_⟩
      refine iteT ⟨_, rfl, ?_⟩
      have e1 : refusal s u d = -6 := e1
      rw [e1] at k
      exact k _ s1
    · have e2 : byP s u d = some x := hx
      rw [e2] at e1
      refine ⟨rfl, _, rfl, ?_⟩
      refine iteF ?_
      have e1 : refusal s u d = 0 := e1
      rw [e1] at k
      exact k _ s1
/-! ### window_by -/
def spBy (C D : Addr) : Sp := fun vs H Q _ => ∃ (p q : Addr) (s : Sy41.St) (u d : Nat) (x : S) (N : Addr → Prop), vs = [.ref p, .ref q] ∧ BeatAt C D N H p s ∧ FrAt H q ((u : Int), (d : Int)) ∧ Sy41.asked u d = true ∧ s.times.isEmpty = false ∧ byP s u d = some x ∧
  ∀ H' r a b, Sy41.window s (fr ((u : Int), (d : Int))) (toSpec x) = (fr (a, (d : Int)), fr (b, (d : Int))) → Same H H' → WinAt H' r a b (d : Int) → Q (.ref r) H'
theorem ok_by {f fO fW : Addr} {fd fdO fdW : FuncData} (F : Fun K "window_by" "EvenBeat.window_by" sBy f fd) (T : TxtB K mg C D) (TS : TxtS K mg D) (GO : FnOk P w K mg base CX0 3 fO fdO ["self", "period"] (spOf C D)) (mO : Meth K C "stretch_of" fO) (bO : Binds K fdO ["self", "period"] [])
    (GW : FnOk P w K mg base CX0 1 fW fdW ["times", "row", "off", "period"] (spWin K)) (kW : PySem.W.keepIn K (.ref fW) = true) (bW : Binds K fdW ["times", "row", "off", "period"] []) (gW : mg "window_of_beat_0" = some (.ref fW)) :
    FnOk P w K mg base CX0 4 f fd ["self", "period"] (spBy C D) := by
  refine F.ok scBy (fun vs H Q E h => ?_) (fun cdv A outer s H vs Q E hr h => ?_)
  · obtain ⟨p, q, s, u, d, x, N, rfl, _⟩ := h
    rfl
  · obtain ⟨p, q, s, u, d, x, N, rfl, hB, hf, c1, c2, hx, k⟩ := h
    have hr1 : Room 1 _ := hr.mono (by decide)
    refine ⟨_, pss_one (ps_ret (pe_call GW hr1 (by rfl) gW kW bW .nil pass0 (pa_cons (pe_fld (pv 0) rfl) (pa_cons (pe_fld (pe_meth (pv 0) T.cl mO GO hr bO .nil pass0 (pa_cons (pv 1) pa_nil)) rfl) (pa_cons (pe_fld (pv 0) rfl) (pa_cons (pv 1) pa_nil)))))), ?_⟩
    obtain ⟨dx, pt, pq, ps, h1, h2, h3, h4, h5, h6, h7, h8⟩ := id hB
    have sf := sm_of c1
    refine ⟨_, rfl, p, C, dx, _, _, rfl, h1, T.cl, T.nT, bF_seen _ _ _ _ _, ?_⟩
    refine ⟨_, rfl, p, dx, _, rfl, h1, bF_none (by decide +kernel) (by decide +kernel) (by decide +kernel) (by decide +kernel) (by decide +kernel), _, rfl, p, q, s, ((u : Int), (d : Int)), N, rfl, hB, hf, sf, fun hno => ?_, fun y hy a hmem hS => ?_⟩
    · have hno : byP s u d = none := hno
      rw [hno] at hx
      cases hx
    · have hy : byP s u d = some y := hy
      rw [hx] at hy
      obtain rfl : x = y := Option.some.inj hy
      have fx := found_fit h7 x hmem
      obtain ⟨dx2, pa, pb, pr, g1, g2, g3, g4, g5⟩ := id hS
      have htop := h7.top
      have hlo := h7.lo
      have hhi := h7.hi
      have hpos : 0 < s.times.length := by
        cases e : s.times with
        | nil =>
          rw [e] at c2
          cases c2
        | cons t r =>
          show 0 < r.length + 1
          omega
      refine ⟨a, D, dx2, _, _, rfl, g1, TS.cl, TS.nR, sF_r _ _ _, _, rfl, p, C, dx, _, _, rfl, h1, T.cl, T.nOff, (flF _ _ _ _ _).off, _, rfl, pt, pr, q, s.times, x.row, s.off, ((u : Int), (d : Int)), rfl, SqL.of h2, SqL.of g4, fx.len, hpos, by omega, h7.in_, fx.row, by omega, hf, fun H' r a' rest hst sm hw => ?_⟩
      exact k H' r _ _ (window_is (x := toSpec x) (f := ((u : Int), (d : Int))) sf.2.2.1 hst) sm hw
/-! ### window -/
def spWindow (C D : Addr) : Sp := fun vs H Q _ => ∃ (p : Addr) (u d : Nat) (s : Sy41.St) (N : Addr → Prop), vs = [.ref p, .int (u : Int), .int (d : Int)] ∧ DoesL C D N p s (.window u d) H Q
/-- what the calls of a window need -/
structure Calls3 (P : Program) (w : World) (K : PySem.W.Frag) (mg : Str → Option Value) (base : Heap) (C D : Addr) where
  fR : Addr
  fdR : FuncData
  GR : FnOk P w K mg base CX0 4 fR fdR ["self", "above", "below"] (spRef C D)
  mR : Meth K C "window_refusal" fR
  bR : Binds K fdR ["self", "above", "below"] []
  fB : Addr
  fdB : FuncData
  GB : FnOk P w K mg base CX0 4 fB fdB ["self", "period"] (spBy C D)
  mB : Meth K C "window_by" fB
  bB : Binds K fdB ["self", "period"] []
  fT : Addr
  fdT : FuncData
  GT : FnOk P w K mg base CX0 3 fT fdT ["window"] spTW
  kT : PySem.W.keepIn K (.ref fT) = true
  bT : Binds K fdT ["window"] []
  gT : mg "told_window" = some (.ref fT)
theorem ok_window {f : Addr} {fd : FuncData} (F : Fun K "window" "EvenBeat.window" sWindow f fd) (T : TxtB K mg C D) (Y : Calls3 P w K mg base C D) : FnOk P w K mg base CX0 5 f fd ["self", "above", "below"] (spWindow C D) := by
  refine F.ok scWindow (fun vs H Q E h => ?_) (fun cdv A outer s H vs Q E hr h => ?_)
  · obtain ⟨p, u, d, s, N, rfl, _⟩ := h
    rfl
  · obtain ⟨p, u, d, s, N, rfl, hB, hN, k⟩ := h
    have hr3 : Room 3 _ := hr.mono (by decide)
    refine ⟨_, pss_cons (ps_set (i := 3) scWindow.nd rfl (.inl rfl) (pe_meth (pv 0) T.cl Y.mR Y.GR hr Y.bR .nil pass0 (pa_cons (pv 1) (pa_cons (pv 2) pa_nil))))
      (pss_cons (ps_if (pt_cmpR op_lt (pv 3) pe_int (nomark _)) (pss_one (ps_ret (pe_lst (pa_cons (pv 3) pa_nil)))) pss_nil)
      (pss_one (ps_ret (pe_call Y.GT hr3 (by rfl) Y.gT Y.kT Y.bT .nil pass0 (pa_cons (pe_meth (pv 0) T.cl Y.mB Y.GB hr Y.bB .nil pass0 (pa_cons (pe_tup (pa_cons (pv 1) (pa_cons (pv 2) pa_nil))) pa_nil)) pa_nil))))), ?_⟩
    obtain ⟨dx, pt, pq, ps, h1, h2, h3, h4, h5, h6, h7, h8⟩ := id hB
    refine ⟨_, rfl, p, dx, _, rfl, h1, bF_none (by decide +kernel) (by decide +kernel) (by decide +kernel) (by decide +kernel) (by decide +kernel), _, rfl, _, rfl, p, u, d, s, N, rfl, hB, fun H1 s1 => ?_⟩
    refine ⟨_, rfl, _, _, rfl, rfl, _, rfl, ?_⟩
    have hor := refusal_or s u d
    refine ite2 (fun c => ?_) (fun c => ?_)
    · have c : refusal s u d < 0 := of_decide_eq_true c
      refine ⟨_, rfl, (by show 1 ≤ sizeLine; decide), fun q nq => ?_⟩
      have s2 := s1.trans (same_upd (o := HO.lst [V.int (refusal s u d)]) nq)
      exact k _ (window_neg h7 c) _ q (hB.same s2) (Same.but s2) (s1.free nq) upd_same
    have c : ¬ refusal s u d < 0 := fun q => c (decide_eq_true q)
    obtain ⟨_, c1, c2, x, hx⟩ := hor.resolve_left c
    have sf := sm_of c1
    refine ⟨_, rfl, p, dx, _, rfl, s1 _ _ h1, bF_none (by decide +kernel) (by decide +kernel) (by decide +kernel) (by decide +kernel) (by decide +kernel), _, rfl, _, rfl, (by show 2 ≤ sizeLine; decide), fun T1 nT1 => ?_⟩
    have s2 := s1.trans (same_upd (o := HO.tup [V.int (u : Int), V.int (d : Int)]) nT1)
    refine ⟨p, T1, s, u, d, x, N, rfl, hB.same s2, upd_same, c1, c2, hx, fun H2 r a b hw s3 hW => ?_⟩
    refine ⟨r, a, b, (d : Int), rfl, hW, ⟨sf.2.2.1, sf.2.2.2⟩, fun H3 q s4 nq eq => ?_⟩
    have s5 := s2.trans (s3.trans s4)
    refine k _ (window_yes h7 c1 c2 hx) _ q (hB.same s5) (Same.but s5) ((s2.trans s3).free nq) ?_
    rw [hw, out_win sf.2.2.1]
    exact eq
/-! ### next -/
def spNext (C D : Addr) : Sp := fun vs H Q _ => ∃ (p : Addr) (u d t : Nat) (s : Sy41.St) (N : Addr → Prop), vs = [.ref p, .int (u : Int), .int (d : Int), .int (t : Int)] ∧ DoesL C D N p s (.next u d t) H Q
theorem ok_next {f fN : Addr} {fd fdN : FuncData} (F : Fun K "next_one" "EvenBeat.next_one" sNext f fd) (T : TxtB K mg C D) (TK : TxtK mg) (Y : Calls3 P w K mg base C D) (GN : FnOk P w K mg base CX0 1 fN fdN ["window", "period", "time"] spAhead) (kN : PySem.W.keepIn K (.ref fN) = true)
    (bN : Binds K fdN ["window", "period", "time"] []) (gN : mg "window_not_ahead" = some (.ref fN)) : FnOk P w K mg base CX0 5 f fd ["self", "above", "below", "time"] (spNext C D) := by
  obtain ⟨tT, cT⟩ := TK.cT
  refine F.ok scNext (fun vs H Q E h => ?_) (fun cdv A outer s H vs Q E hr h => ?_)
  · obtain ⟨p, u, d, t, s, N, rfl, _⟩ := h
    rfl
  · obtain ⟨p, u, d, t, s, N, rfl, hB, hN, k⟩ := h
    have hr3 : Room 3 _ := hr.mono (by decide)
    have hr1 : Room 1 _ := hr.mono (by decide)
    refine ⟨_, pss_cons (ps_if (pt_cmpR op_gt (pv 3) (pe_glob rfl cT (v := .int 2000) ⟨_, rfl⟩) (nomark _)) (pss_one (ps_ret (pe_lst (pa_cons (pe_un un_neg pe_int) pa_nil)))) pss_nil)
      (pss_cons (ps_set (i := 4) scNext.nd rfl (.inl rfl) (pe_meth (pv 0) T.cl Y.mR Y.GR hr Y.bR .nil pass0 (pa_cons (pv 1) (pa_cons (pv 2) pa_nil))))
      (pss_cons (ps_if (pt_cmpR op_lt (pv 4) pe_int (nomark _)) (pss_one (ps_ret (pe_lst (pa_cons (pv 4) pa_nil)))) pss_nil)
      (pss_cons (ps_set (i := 5) scNext.nd rfl (.inl rfl) (pe_tup (pa_cons (pv 1) (pa_cons (pv 2) pa_nil))))
      (pss_one (ps_ret (pe_call Y.GT hr3 (by rfl) Y.gT Y.kT Y.bT .nil pass0 (pa_cons (pe_call GN hr1 (by rfl) gN kN bN .nil pass0 (pa_cons (pe_meth (pv 0) T.cl Y.mB Y.GB hr Y.bB .nil pass0 (pa_cons (pv 5) pa_nil)) (pa_cons (pv 5) (pa_cons (pv 3) pa_nil)))) pa_nil))))))), ?_⟩
    obtain ⟨dx, pt, pq, ps, h1, h2, h3, h4, h5, h6, h7, h8⟩ := id hB
    refine ⟨_, rfl, _, _, rfl, rfl, _, rfl, ?_⟩
    refine ite2 (fun c => ?_) (fun ct => ?_)
    · have c : (2000 : Int) < (t : Int) := of_decide_eq_true c
      refine ⟨_, rfl, (by show 1 ≤ sizeLine; decide), fun q nq => ?_⟩
      have s2 := same_upd (o := HO.lst [V.int (-1)]) nq
      exact k _ (next_late (by omega)) _ q (hB.same s2) (Same.but s2) nq upd_same
    have ct : ¬ (2000 : Int) < (t : Int) := fun q => ct (decide_eq_true q)
    have ht : t ≤ 2000 := by omega
    refine ⟨_, rfl, p, dx, _, rfl, h1, bF_none (by decide +kernel) (by decide +kernel) (by decide +kernel) (by decide +kernel) (by decide +kernel), _, rfl, _, rfl, p, u, d, s, N, rfl, hB, fun H1 s1 => ?_⟩
    refine ⟨_, rfl, _, _, rfl, rfl, _, rfl, ?_⟩
    have hor := refusal_or s u d
    refine ite2 (fun c => ?_) (fun c => ?_)
    · have c : refusal s u d < 0 := of_decide_eq_true c
      refine ⟨_, rfl, (by show 1 ≤ sizeLine; decide), fun q nq => ?_⟩
      have s2 := s1.trans (same_upd (o := HO.lst [V.int (refusal s u d)]) nq)
      exact k _ (next_neg h7 ht c) _ q (hB.same s2) (Same.but s2) (s1.free nq) upd_same
    have c : ¬ refusal s u d < 0 := fun q => c (decide_eq_true q)
    obtain ⟨_, c1, c2, x, hx⟩ := hor.resolve_left c
    have sf := sm_of c1
    have u0 : (0 : Int) < (u : Int) := by
      have := (asked_iff.mp c1).2.2.1
      omega
    refine ⟨_, rfl, _, rfl, (by show 2 ≤ sizeLine; decide), fun T1 nT1 => ?_⟩
    have s2 := s1.trans (same_upd (o := HO.tup [V.int (u : Int), V.int (d : Int)]) nT1)
    refine ⟨_, rfl, p, dx, _, rfl, s2 _ _ h1, bF_none (by decide +kernel) (by decide +kernel) (by decide +kernel) (by decide +kernel) (by decide +kernel), _, rfl, ?_⟩
    refine ⟨p, T1, s, u, d, x, N, rfl, hB.same s2, upd_same, c1, c2, hx, fun H2 r a b hw s3 hW => ?_⟩
    refine ⟨_, rfl, _, rfl, r, T1, a, b, ((u : Int), (d : Int)), t, rfl, hW, s3 _ _ upd_same, u0, sf, ht, fun H3 r2 s4 hW2 => ?_⟩
    refine ⟨r2, _, _, (d : Int), rfl, hW2, ⟨sf.2.2.1, sf.2.2.2⟩, fun H4 q s5 nq eq => ?_⟩
    have s6 := s2.trans (s3.trans (s4.trans s5))
    refine k _ (next_yes h7 ht c1 c2 hx) _ q (hB.same s6) (Same.but s6) ((s2.trans (s3.trans s4)).free nq) ?_
    rw [next_is (f := ((u : Int), (d : Int))) sf.2.2.1 u0 (w1 := a) (w2 := b) hw, out_win sf.2.2.1]
    exact eq
/-! ### beats -/
def spBeats (C D : Addr) : Sp := fun vs H Q _ => ∃ (p : Addr) (j : Nat) (s : Sy41.St) (N : Addr → Prop), vs = [.ref p, .int (j : Int)] ∧ DoesL C D N p s (.beats j) H Q
theorem beats_step {s : Sy41.St} (k : Ok s) (j : Nat) : Sy41.step s (.beats j) = (s, match (foundOf s)[j]? with | none => Sy41.ok (-2) | some x => ⟨(x.row.length : Nat), [x.row]⟩) := by
  show (s, match (Sy41.stretches s)[j]? with | none => Sy41.ok (-2) | some x => (⟨(x.beats.length : Nat), [x.beats]⟩ : Sy41.Ans)) = _
  rw [← found_is k, List.getElem?_map]
  cases (foundOf s)[j]? with
  | none => rfl
  | some x => rfl
theorem ok_beats {f fT : Addr} {fd fdT : FuncData} (F : Fun K "beats" "EvenBeat.beats" sBeats f fd) (T : TxtB K mg C D) (TS : TxtS K mg D) (ml : mg "len" = none) (GT : FnOk P w K mg base CX0 1 fT fdT ["numbers"] spTold) (kT : PySem.W.keepIn K (.ref fT) = true) (bT : Binds K fdT ["numbers"] []) (gT : mg "told_list" = some (.ref fT)) :
    FnOk P w K mg base CX0 2 f fd ["self", "stretch"] (spBeats C D) := by
  refine F.ok scBeats (fun vs H Q E h => ?_) (fun cdv A outer s H vs Q E hr h => ?_)
  · obtain ⟨p, j, s, N, rfl, _⟩ := h
    rfl
  · obtain ⟨p, j, s, N, rfl, hB, hN, k⟩ := h
    refine ⟨_, pss_cons (ps_if (pt_cmpR op_ge (pv 1) (pe_callB call_len_seq (by rfl) ml PySem.boot_len (pa_cons (pe_fld (pv 0) rfl) pa_nil)) (nomark _)) (pss_one (ps_ret (pe_lst (pa_cons (pe_un un_neg pe_int) pa_nil)))) pss_nil)
      (pss_cons (ps_set (i := 2) scBeats.nd rfl (.inl rfl) (pe_fld (pe_ix ix_list (pe_fld (pv 0) rfl) (pv 1) (fun _ _ => rfl)) rfl))
      (pss_one (ps_ret (pe_op op_cat (pe_lst (pa_cons (pe_callB call_len_seq (by rfl) ml PySem.boot_len (pa_cons (pv 2) pa_nil)) pa_nil)) (pe_call GT hr (by rfl) gT kT bT .nil pass0 (pa_cons (pv 2) pa_nil)))))), ?_⟩
    obtain ⟨dx, pt, pq, ps, h1, h2, h3, h4, h5, h6, h7, h8⟩ := id hB
    have hst := beats_step h7 j
    have elen : (ps.map V.ref).length = (foundOf s).length := by
      rw [List.length_map]
      exact h6.length
    refine ⟨_, rfl, _, rfl, p, C, dx, _, _, rfl, h1, T.cl, T.nQ, bF_str _ _ _ _ _, pq, _, rfl, .inl (SqL.of h4), _, _, rfl, rfl, _, rfl, ?_⟩
    refine ite2 (fun c => ?_) (fun c => ?_)
    · have c : (((ps.map V.ref).length : Nat) : Int) ≤ (j : Int) := of_decide_eq_true c
      rw [List.getElem?_eq_none (by omega)] at hst
      refine ⟨_, rfl, (by show 1 ≤ sizeLine; decide), fun q nq => ?_⟩
      have s2 := same_upd (o := HO.lst [V.int (-2)]) nq
      exact k _ hst _ q (hB.same s2) (Same.but s2) nq upd_same
    have c : ¬ (((ps.map V.ref).length : Nat) : Int) ≤ (j : Int) := fun q => c (decide_eq_true q)
    have hj : j < ps.length := by
      rw [List.length_map] at c
      omega
    have ha : ps[j]? = some ps[j] := List.getElem?_eq_getElem hj
    obtain ⟨x, hx, dx2, pa, pb, pr, g1, g2, g3, g4, g5⟩ := paired_get h6 ha
    rw [hx] at hst
    have fx := found_fit h7 x (List.mem_of_getElem? hx)
    have hg : (ps.map V.ref)[j]? = some (V.ref ps[j]) := by
      rw [List.getElem?_map, ha]
      rfl
    have hlr : x.row.length ≤ 10 := by
      rw [fx.len]
      exact h8
    refine ⟨_, rfl, p, C, dx, _, _, rfl, h1, T.cl, T.nQ, bF_str _ _ _ _ _, _, rfl, pq, _, _, _, rfl, rfl, SqL.of h4, atI_nat hg, ps[j], D, dx2, _, _, rfl, g1, TS.cl, TS.nR, sF_r _ _ _, ?_⟩
    refine ⟨_, rfl, pr, _, rfl, .inl (SqL.of g4), (by show 1 ≤ sizeLine; decide), fun o1 no1 => ?_⟩
    have s2 := same_upd (o := HO.lst [V.int ((x.row.map V.int).length : Nat)]) no1
    refine ⟨_, rfl, pr, x.row, rfl, s2 _ _ g4, (by rw [sizeLine_eq]; omega), fun H3 q3 s3 nq3 eq3 => ?_⟩
    refine ⟨o1, q3, _, _, rfl, rfl, s3 _ _ upd_same, eq3, ?_, fun q nq => ?_⟩
    · have e9 : ((toldL x.row).map V.int).length = x.row.length + 1 := by
        rw [List.length_map]
        rfl
      rw [e9, sizeLine_eq]
      show 1 + _ ≤ _
      omega
    have s4 := same_upd (o := HO.lst ([V.int ((x.row.map V.int).length : Nat)] ++ (toldL x.row).map V.int)) nq
    have s5 := s2.trans (s3.trans s4)
    refine k _ hst _ q (hB.same s5) (Same.but s5) ((s2.trans s3).free nq) ?_
    rw [upd_same, List.length_map]
    congr 2
    show _ = List.map V.int ((x.row.length : Int) :: (([x.row] : List (List Int)).flatMap fun (w : List Int) => (w.length : Int) :: w))
    rw [List.flatMap_cons, List.flatMap_nil, List.append_nil]
    rfl
/-! ### alone -/
def spAlone (C D : Addr) : Sp := fun vs H Q _ => ∃ (p : Addr) (s : Sy41.St) (N : Addr → Prop), vs = [.ref p] ∧ Does C D N p s .alone H Q
theorem ok_alone {f : Addr} {fd : FuncData} (F : Fun K "alone" "EvenBeat.alone" sAlone f fd) (T : TxtB K mg C D) (ml : mg "len" = none) : FnOk P w K mg base CX0 1 f fd ["self"] (spAlone C D) := by
  refine F.ok scAlone (fun vs H Q E h => ?_) (fun cdv A outer s H vs Q E hr h => ?_)
  · obtain ⟨p, s, N, rfl, _⟩ := h
    rfl
  · obtain ⟨p, s, N, rfl, hB, hN, k⟩ := h
    refine ⟨_, pss_cons (ps_if (pt_cmpR op_eq (pe_callB call_len_seq (by rfl) ml PySem.boot_len (pa_cons (pe_fld (pv 0) rfl) pa_nil)) pe_int (nomark _)) (pss_one (ps_ret pe_int)) pss_nil) (pss_one (ps_ret pe_int)), ?_⟩
    obtain ⟨dx, pt, pq, ps, h1, h2, h3, h4, h5, h6, h7, h8⟩ := id hB
    have elen : (ps.map V.ref).length = (Sy41.stretches s).length := by
      rw [List.length_map, h6.length, found_length h7]
    have hst : Sy41.step s .alone = (s, Sy41.ok (if (Sy41.stretches s).length = 1 then 1 else 0)) := rfl
    refine ⟨_, rfl, p, C, dx, _, _, rfl, h1, T.cl, T.nQ, bF_str _ _ _ _ _, pq, _, rfl, .inl (SqL.of h4), rfl, _, rfl, ?_⟩
    refine ite2 (fun c => ?_) (fun c => ?_)
    · have c := int_eq_of c
      rw [if_pos (by omega)] at hst
      exact k _ hst H hB (But.refl p H)
    · have c := int_ne_of c
      rw [if_neg (by omega)] at hst
      exact k _ hst H hB (But.refl p H)
/-! ### times -/
def spTimes (C D : Addr) : Sp := fun vs H Q _ => ∃ (p : Addr) (s : Sy41.St) (N : Addr → Prop), vs = [.ref p] ∧ DoesL C D N p s .times H Q
theorem ok_times {f fT : Addr} {fd fdT : FuncData} (F : Fun K "times" "EvenBeat.times" sTimes f fd) (T : TxtB K mg C D) (ml : mg "len" = none) (GT : FnOk P w K mg base CX0 1 fT fdT ["numbers"] spTold) (kT : PySem.W.keepIn K (.ref fT) = true) (bT : Binds K fdT ["numbers"] []) (gT : mg "told_list" = some (.ref fT)) :
    FnOk P w K mg base CX0 2 f fd ["self"] (spTimes C D) := by
  refine F.ok scTimes (fun vs H Q E h => ?_) (fun cdv A outer s H vs Q E hr h => ?_)
  · obtain ⟨p, s, N, rfl, _⟩ := h
    rfl
  · obtain ⟨p, s, N, rfl, hB, hN, k⟩ := h
    refine ⟨_, pss_one (ps_ret (pe_op op_cat (pe_lst (pa_cons (pe_callB call_len_seq (by rfl) ml PySem.boot_len (pa_cons (pe_fld (pv 0) rfl) pa_nil)) pa_nil)) (pe_call GT hr (by rfl) gT kT bT .nil pass0 (pa_cons (pe_fld (pv 0) rfl) pa_nil)))), ?_⟩
    obtain ⟨dx, pt, pq, ps, h1, h2, h3, h4, h5, h6, h7, h8⟩ := id hB
    refine ⟨_, rfl, p, C, dx, _, _, rfl, h1, T.cl, T.nT, bF_seen _ _ _ _ _, pt, _, rfl, .inl (SqL.of h2), (by show 1 ≤ sizeLine; decide), fun o1 no1 => ?_⟩
    have s2 := same_upd (o := HO.lst [V.int ((vN s.times).length : Nat)]) no1
    have ht2 := (s2 _ _ h2).trans (congrArg (fun z => some (HO.lst z)) (vN_map s.times))
    refine ⟨_, rfl, p, C, dx, _, _, rfl, s2 _ _ h1, T.cl, T.nT, bF_seen _ _ _ _ _, pt, s.times.map (fun (n : Nat) => (n : Int)), rfl, ht2, (by rw [List.length_map, sizeLine_eq]; omega), fun H3 q3 s3 nq3 eq3 => ?_⟩
    refine ⟨o1, q3, _, _, rfl, rfl, s3 _ _ upd_same, eq3, ?_, fun q nq => ?_⟩
    · have e9 : ((toldL (s.times.map (fun (n : Nat) => (n : Int)))).map V.int).length = s.times.length + 1 := by
        rw [List.length_map]
        show (s.times.map (fun (n : Nat) => (n : Int))).length + 1 = _
        rw [List.length_map]
      rw [e9, sizeLine_eq]
      show 1 + _ ≤ _
      omega
    have s4 := same_upd (o := HO.lst ([V.int ((vN s.times).length : Nat)] ++ (toldL (s.times.map (fun (n : Nat) => (n : Int)))).map V.int)) nq
    have s5 := s2.trans (s3.trans s4)
    refine k _ rfl _ q (hB.same s5) (Same.but s5) ((s2.trans s3).free nq) ?_
    rw [upd_same, vN_len]
    congr 2
    show _ = List.map V.int ((s.times.length : Int) :: (([s.times.map (fun (n : Nat) => (n : Int))] : List (List Int)).flatMap fun (w : List Int) => (w.length : Int) :: w))
    rw [List.flatMap_cons, List.flatMap_nil, List.append_nil]
    rfl
end
end Ev
set_option Elab.async false
set_option maxRecDepth 100000
set_option maxHeartbeats 2000000
namespace Ev
open PySem PySem.Spec PyProof.Rows L2
abbrev sAnswers : Stmt := topS 29
theorem scAns : FnScope ["calls", "beat", "told", "place", "call", "numbers_end", "answer"] ["calls"] (defScope sAnswers) := ⟨rfl, rfl, rfl, by decide +kernel, rfl, by decide +kernel, by decide +kernel⟩
theorem BeatAt.upd {C D : Addr} {N : Addr → Prop} {H : Hp} {p o : Addr} {s : Sy41.St} {xs ys : List V} (h : BeatAt C D N H p s) (ho : H o = some (.lst xs)) (hN : ¬ N o) : BeatAt C D N (upd H o (.lst ys)) p s := by
  obtain ⟨dx, pt, pq, ps, h1, h2, h3, h4, h5, h6, h7, h8⟩ := h
  have n1 : p ≠ o := ne_of h1 ho (by intro z; cases z)
  have n2 : pt ≠ o := fun e => hN (e ▸ h3)
  have n3 : pq ≠ o := fun e => hN (e ▸ h5)
  refine ⟨dx, pt, pq, ps, ?_, ?_, h3, ?_, h5, StrsAt.upd h6 ho hN, h7, h8⟩
  · rw [upd_ne n1]; exact h1
  · rw [upd_ne n2]; exact h2
  · rw [upd_ne n3]; exact h4
/-- its lists stand in the heap -/
theorem BeatAt.there {C D : Addr} {N : Addr → Prop} {H : Hp} {p : Addr} {s : Sy41.St} (h : BeatAt C D N H p s) : BeatAt C D (fun b => H b ≠ none) H p s := by
  obtain ⟨dx, pt, pq, ps, h1, h2, h3, h4, h5, h6, h7, h8⟩ := h
  have ne : ∀ {b : Addr} {z : HO}, H b = some z → H b ≠ none := fun e q => by
    rw [e] at q
    cases q
  refine ⟨dx, pt, pq, ps, h1, h2, ne h2, h4, ne h4, Paired.mapP h6 fun a b hab => ?_, h7, h8⟩
  obtain ⟨dx3, pa, pb, pr, g1, g2, g3, g4, g5⟩ := hab
  exact ⟨dx3, pa, pb, pr, g1, g2, g3, g4, ne g4⟩
theorem BeatAt.imp {C D : Addr} {N N' : Addr → Prop} {H : Hp} {p : Addr} {s : Sy41.St} (h : BeatAt C D N H p s) (k : ∀ b, N b → N' b) : BeatAt C D N' H p s := by
  obtain ⟨dx, pt, pq, ps, h1, h2, h3, h4, h5, h6, h7, h8⟩ := h
  exact ⟨dx, pt, pq, ps, h1, h2, k _ h3, h4, k _ h5, h6.imp k, h7, h8⟩
theorem cut_part (xs : List V) (i j : Nat) (h : i + j ≤ xs.length) : cutV xs (some (i : Int)) (some ((i + j : Nat) : Int)) = (xs.drop i).take j := by
  unfold cutV
  rw [HT.sIx_nat, HT.sIx_nat]
  have e1 : min i xs.length = i := by omega
  have e2 : min (i + j) xs.length = i + j := by omega
  rw [e1, e2]
  congr 1
  omega
section
variable {P : Program} {w : World} {K : PySem.W.Frag} {mg : Str → Option Value} {base : Heap} {C D : Addr}
/-- one call's answer: a new list -/
def spAnswer (K : PySem.W.Frag) (C D : Addr) : Sp := fun vs H Q _ => ∃ (p pn : Addr) (c0 : Int) (xs : List Int) (s : Sy41.St) (N : Addr → Prop), vs = [.ref p, .int c0, .ref pn] ∧ SqL K H pn (xs.map V.int) ∧ Call1 (c0 :: xs) ∧ BeatAt C D N H p s ∧ (∀ b, H b = none → N b) ∧
  ∀ H' q, BeatAt C D N H' p (Sy41Neutral.step s (c0 :: xs)).1 → But p H H' → H q = none → H' q = some (.lst ((Sy41Neutral.step s (c0 :: xs)).2.map V.int)) → Q (.ref q) H'
def spAns (K : PySem.W.Frag) : Sp := fun vs H Q _ => ∃ (a : Addr) (ns : List Int) (cs : List (List Int)), vs = [.ref a] ∧ SqL K H a (ns.map V.int) ∧ Asked ns cs ∧
  ∀ (H' : Hp) (q : Addr), H' q = some (.lst ((tellN Sy41.init cs).map V.int)) → Q (.ref q) H'
theorem ok_ans {k : Nat} {f fI fA hn : Addr} {fd fdI fdA : FuncData} (hk : 8 ≤ k) (F : Fun K "answers" "answers" sAnswers f fd) (T : TxtB K mg C D) (ml : mg "len" = none) (M : Mk K C fI) (GI : FnOk P w K mg base CX0 8 fI fdI ["self"] (spInitB C D)) (bI : Binds K fdI ["self"] [])
    (GA : FnOk P w K mg base CX0 k fA fdA ["beat", "call", "numbers"] (spAnswer K C D)) (kA : PySem.W.keepIn K (.ref fA) = true) (bA : Binds K fdA ["beat", "call", "numbers"] []) (gA : mg "answer_call" = some (.ref fA))
    (gH : mg "HANDED_NUMBERS" = some (.ref hn)) (hH : ∀ H, SqT K H hn (handed.map V.int)) : FnOk P w K mg base CX0 (k + 2) f fd ["calls"] (spAns K) := by
  refine F.ok scAns (fun vs H Q E h => ?_) (fun cdv A outer s H vs Q E hr h => ?_)
  · obtain ⟨a, ns, cs, rfl, _⟩ := h
    rfl
  · obtain ⟨a, ns, cs, rfl, hS, ask, kk⟩ := h
    have hr9 : Room 9 _ := hr.mono (by omega)
    have hrk : Room k _ := hr.mono (by omega)
    refine ⟨_, pss_cons (ps_set (i := 1) scAns.nd rfl (.inl rfl) (pe_make0 M GI hr9 (by rfl) T.gC bI .nil pass0))
      (pss_cons (ps_set (i := 2) scAns.nd rfl (.inl rfl) (pe_lst pa_nil))
      (pss_cons (ps_set (i := 3) scAns.nd rfl (.inl rfl) pe_int)
      (pss_cons (ps_while PassesOwn.never (pt_cmpR op_lt (pv 3) (pe_callB call_len_seq (by rfl) ml PySem.boot_len (pa_cons (pv 0) pa_nil)) (nomark _))
        (pss_cons (ps_set (i := 4) scAns.nd rfl (.inl rfl) (pe_ix ix_list (pv 0) (pv 3) (fun _ _ => rfl)))
        (pss_cons (ps_set (i := 5) scAns.nd rfl (.inl rfl) (pe_op op_add (pe_op op_add (pv 3) pe_int) (pe_ix ix_tup (pe_glob rfl gH (v := .ref hn) rfl) (pv 4) (fun _ _ => rfl))))
        (pss_cons (ps_set (i := 6) scAns.nd rfl (.inl rfl) (pe_call GA hrk (by rfl) gA kA bA .nil pass0 (pa_cons (pv 1) (pa_cons (pv 4) (pa_cons (pe_slice sl_list (pv 0) (po_some (pe_op op_add (pv 3) pe_int)) (po_some (pv 5))) pa_nil)))))
        (pss_cons (ps_expr (pe_bm PySem.F.plainAttrs_list PySem.F.slot_list_append PySem.F.type_list_append mt_append (pv 2) (pa_cons (pe_callB call_len_seq (by rfl) ml PySem.boot_len (pa_cons (pv 6) pa_nil)) pa_nil)))
        (pss_cons (ps_expr (pe_bm PySem.F.plainAttrs_list PySem.F.slot_list_extend PySem.F.type_list_extend mt_extend (pv 2) (pa_cons (pv 6) pa_nil)))
        (pss_one (ps_set (i := 3) scAns.nd rfl (.inl rfl) (pv 5)))))))))
      (pss_one (ps_ret (pv 2)))))), ?_⟩
    -- beat = EvenBeat()
    intro p dx np ndp nep
    refine ⟨p, dx, Any, rfl, upd_same, fun _ _ => trivial, fun H1 hB hbut => ⟨rfl, ?_⟩⟩
    have s1 : Same H H1 := Same.made np ndp hbut
    refine ⟨(by show 0 ≤ sizeLine; decide), fun o no => ?_⟩
    have s2 := same_upd (o := HO.lst []) no
    have noH : H o = none := s1.free no
    have hB2 : BeatAt C D (fun b => b ≠ o) (upd H1 o (.lst [])) p Sy41.init := (hB.there.imp fun b hb (e : b = o) => hb (by rw [e]; exact no)).same s2
    refine while_by (fun σ H' => ∃ (done rest : List (List Int)) (v4 v5 v6 : Option V), σ = [some (.ref a), some (.ref p), some (.ref o), some (.int (done.flatten.length : Int)), v4, v5, v6] ∧ cs = done ++ rest ∧ Same H H' ∧
      H' o = some (.lst ((tellN Sy41.init done).map V.int)) ∧ BeatAt C D (fun b => b ≠ o) H' p (after Sy41.init done)) (fun σ _ => match σ with | [_, _, _, some (.int i), _, _, _] => ns.length - i.toNat | _ => 0)
      ⟨[], cs, none, none, none, rfl, rfl, s1.trans s2, upd_same, hB2⟩ ?_ ?_
    · rintro σ H' ⟨done, rest, v4, v5, v6, rfl, ecs, sm, eo, hBt⟩
      have hA := sm.seq hS
      refine ⟨_, rfl, _, rfl, a, _, rfl, .inl hA, _, _, rfl, rfl, _, rfl, ?_⟩
      have elen : (ns.map V.int).length = ns.length := List.length_map ..
      cases rest with
      | nil =>
        have e1 : ns.length = done.flatten.length := by
          rw [ask.eq, ecs, List.append_nil]
        have hno : ¬ decide ((done.flatten.length : Int) < ((ns.map V.int).length : Int)) = true := fun q => by
          have := of_decide_eq_true q
          omega
        refine ite2 (fun c => absurd c hno) (fun _ => ?_)
        rw [List.append_nil] at ecs
        rw [← ecs] at eo
        exact ⟨_, rfl, kk H' o eo⟩
      | cons c rest =>
        have hc : c ∈ cs := by
          rw [ecs]
          exact List.mem_append_right _ (List.Mem.head _)
        have hc1 := ask.one c hc
        obtain ⟨c0, xs, rfl⟩ := shp_ne hc1.shp
        have ens : ns = (done ++ (c0 :: xs) :: rest).flatten := by rw [ask.eq, ecs]
        have en : ns.length = done.flatten.length + (xs.length + 1) + rest.flatten.length := by
          rw [ens, List.flatten_append, List.length_append, List.flatten_cons, List.length_append, List.length_cons]
          omega
        have hyes : decide ((done.flatten.length : Int) < ((ns.map V.int).length : Int)) = true := decide_eq_true (by omega)
        refine ite2 (fun _ => ?_) (fun c => absurd hyes c)
        have hget : (ns.map V.int)[done.flatten.length]? = some (V.int c0) := by
          rw [List.getElem?_map, ens, flat_at]
          rfl
        obtain ⟨j, rfl, hj, hat⟩ := handed_at hc1.shp
        have hat2 : (handed.map V.int)[j]? = some (V.int (xs.length : Int)) := by
          rw [List.getElem?_map, hat]
          rfl
        refine ⟨_, rfl, _, rfl, a, _, _, _, rfl, rfl, hA, atI_nat hget, ?_⟩
        refine ⟨_, rfl, _, _, rfl, rfl, _, rfl, hn, _, _, _, rfl, rfl, hH _, atI_nat hat2, _, _, rfl, rfl, ?_⟩
        refine ⟨_, rfl, _, rfl, _, rfl, _, rfl, _, _, rfl, rfl, _, rfl, _, rfl, _, rfl, a, _, rfl, hA, fun pn npn => ?_⟩
        have e1 : ((done.flatten.length : Nat) : Int) + 1 = ((done.flatten.length + 1 : Nat) : Int) := by omega
        have e2 : ((done.flatten.length : Nat) : Int) + 1 + (xs.length : Int) = ((done.flatten.length + 1 + xs.length : Nat) : Int) := by omega
        rw [e2, e1]
        have ecut : cutV (ns.map V.int) (some ((done.flatten.length + 1 : Nat) : Int)) (some ((done.flatten.length + 1 + xs.length : Nat) : Int)) = xs.map V.int := by
          rw [cut_part _ _ _ (by omega), ← List.map_drop, ← List.map_take, ens, flat_cut]
        rw [ecut]
        have s3 := same_upd (o := HO.lst (xs.map V.int)) npn
        have eo3 := s3 _ _ eo
        refine ⟨p, pn, (j : Int), xs, after Sy41.init done, fun b => b ≠ o, rfl, SqL.of upd_same, hc1, hBt.same s3, fun b hb e => ?_, fun H4 q hB4 hbut4 nq eq => ?_⟩
        · rw [e, eo3] at hb
          cases hb
        have hp3 : ∃ z, upd H' pn (HO.lst (xs.map V.int)) p = some z ∧ o ≠ p := by
          obtain ⟨dx5, pt5, pq5, ps5, g1, _⟩ := hBt.same s3
          exact ⟨_, g1, ne_of eo3 g1 (by intro z; cases z)⟩
        obtain ⟨z3, gz, nop⟩ := hp3
        have eo4 := hbut4 _ _ eo3 nop
        have nqo : o ≠ q := ne_of_none eo3 nq
        generalize hst : Sy41Neutral.step (after Sy41.init done) ((j : Int) :: xs) = R at hB4 eq
        have etell : tellN Sy41.init (done ++ [(j : Int) :: xs]) = tellN Sy41.init done ++ ((R.2.length : Int) :: R.2) := by
          rw [tell_app]
          show tellN Sy41.init done ++ (((Sy41Neutral.step (after Sy41.init done) ((j : Int) :: xs)).2.length : Int) :: (Sy41Neutral.step (after Sy41.init done) ((j : Int) :: xs)).2 ++ []) = _
          rw [hst, List.append_nil]
        have hshort := ask.short
        have ecs2 : cs = (done ++ [(j : Int) :: xs]) ++ rest := by
          rw [ecs, List.append_assoc]
          rfl
        rw [ecs2, tell_app, etell, List.length_append, List.length_append, List.length_cons] at hshort
        -- told.append(len(answer))
        refine ⟨.ref o, rfl, .inl ⟨rfl, _, SqL.of eo4⟩, _, rfl, q, _, rfl, .inl (SqL.of eq), o, _, _, rfl, rfl, eo4, ?_, ?_⟩
        · rw [List.length_map, sizeLine_eq]
          omega
        -- told.extend(answer)
        refine ⟨.ref o, rfl, .inl ⟨rfl, _, SqL.of upd_same⟩, _, rfl, o, q, _, R.2.map V.int, rfl, rfl, upd_same, ?_, ?_, ?_⟩
        · rw [upd_ne (Ne.symm nqo)]
          exact eq
        · rw [List.length_append, List.length_map, List.length_map, List.length_singleton, sizeLine_eq]
          omega
        refine ⟨_, rfl, ⟨done ++ [(j : Int) :: xs], rest, some (.int (j : Int)), some (.int ((done.flatten.length + 1 + xs.length : Nat) : Int)), some (.ref q), ?_, ecs2, ?_, ?_, ?_⟩, ?_⟩
        · have e5 : (done ++ [(j : Int) :: xs]).flatten.length = done.flatten.length + 1 + xs.length := by
            rw [List.flatten_append, List.length_append]
            show _ + (((j : Int) :: xs) ++ []).length = _
            rw [List.append_nil, List.length_cons]
            omega
          rw [e5]
          rfl
        · intro b z e
          have nb : b ≠ o := ne_of_none e noH
          have nbp : b ≠ p := fun q => by
            rw [q] at e
            have hnone : H p = none := by
              have h9 := np
              exact h9
            rw [hnone] at e
            cases e
          rw [upd_ne nb, upd_ne nb]
          exact hbut4 _ _ (s3 _ _ (sm _ _ e)) nbp
        · rw [upd_same, etell, List.map_append, List.map_cons, List.length_map, List.append_assoc]
          rfl
        · have e6 : after Sy41.init (done ++ [(j : Int) :: xs]) = R.1 := by
            rw [after_app]
            show (Sy41Neutral.step (after Sy41.init done) ((j : Int) :: xs)).1 = R.1
            rw [hst]
          rw [e6]
          exact (hB4.upd eo4 (fun z => z rfl)).upd upd_same (fun z => z rfl)
        · show ns.length - (((done.flatten.length + 1 + xs.length : Nat) : Int)).toNat < ns.length - ((done.flatten.length : Nat) : Int).toNat
          omega
    · rintro σ H' Q Q' hQ h
      obtain ⟨v, e1, v2, e2, l, n2, e3, h3, i, j, e4, e5, b, e6, h6⟩ := h
      exact ⟨v, e1, v2, e2, l, n2, e3, h3, i, j, e4, e5, b, e6, hQ _ _ h6⟩
end
end Ev
set_option Elab.async false
set_option maxRecDepth 100000
set_option maxHeartbeats 4000000
namespace Ev
open PySem PySem.Spec PyProof.Rows L2
abbrev sCall : Stmt := topS 28
theorem scCall : FnScope ["beat", "call", "numbers"] ["beat", "call", "numbers"] (defScope sCall) := ⟨rfl, rfl, rfl, by decide +kernel, rfl, by decide +kernel, by decide +kernel⟩
/-! ### The calls that answer one number -/
theorem one_begins (s : Sy41.St) (a b d : Nat) : (Sy41.step s (.begins a b d)).2.l = [] := by
  show (if _ then (s, Sy41.ok (-1)) else (_, Sy41.ok 0) : Sy41.St × Sy41.Ans).2.l = []
  split <;> rfl
theorem one_seen (s : Sy41.St) (t : Nat) : (Sy41.step s (.seen t)).2.l = [] := by
  show (if _ then (s, Sy41.ok (-1)) else if _ then (s, Sy41.ok (-4)) else if _ then (s, Sy41.ok (-5)) else if _ then (s, Sy41.ok (-6)) else (_, Sy41.ok _) : Sy41.St × Sy41.Ans).2.l = []
  split
  · rfl
  · split
    · rfl
    · split
      · rfl
      · split <;> rfl
theorem one_drop (s : Sy41.St) (t : Nat) : (Sy41.step s (.drop t)).2.l = [] := by
  show (if _ then (s, Sy41.ok (-2)) else (_, Sy41.ok _) : Sy41.St × Sy41.Ans).2.l = []
  split <;> rfl
theorem one_could (s : Sy41.St) (t : Nat) : (Sy41.step s (.could t)).2.l = [] := by
  show (if _ then Sy41.ok (-1) else Sy41.ok _ : Sy41.Ans).l = []
  split <;> rfl
theorem one_alone (s : Sy41.St) : (Sy41.step s .alone).2.l = [] := rfl
theorem nat_of {x : Int} (h : 0 ≤ x ∧ x ≤ 4294967295) : ∃ n : Nat, x = (n : Int) := ⟨x.toNat, by omega⟩
theorem free_but {C D : Addr} {N : Addr → Prop} {H H' : Hp} {p q : Addr} {s : Sy41.St} (hB : BeatAt C D N H' p s) (h : But p H H') (nq : H' q = none) : H q = none := by
  obtain ⟨dx, pt, pq, ps, h1, _⟩ := hB
  have np : q ≠ p := fun e => by
    rw [e, h1] at nq
    cases nq
  cases e : H q with
  | none => rfl
  | some o =>
    rw [h _ _ e np] at nq
    cases nq
theorem out_one {a : Sy41.Ans} (h : a.l = []) : Sy41Neutral.out a = [a.v] := by
  unfold Sy41Neutral.out
  rw [h]
  rfl
section
variable {P : Program} {w : World} {K : PySem.W.Frag} {mg : Str → Option Value} {base : Heap} {C D : Addr}
/-- all calls at hand -/
structure CallsA (P : Program) (w : World) (K : PySem.W.Frag) (mg : Str → Option Value) (base : Heap) (C D : Addr) where
  f0 : Addr
  d0 : FuncData
  G0 : FnOk P w K mg base CX0 8 f0 d0 ["self", "lo", "hi", "off"] (spBegins C D)
  m0 : Meth K C "begins" f0
  b0 : Binds K d0 ["self", "lo", "hi", "off"] []
  f1 : Addr
  d1 : FuncData
  G1 : FnOk P w K mg base CX0 8 f1 d1 ["self", "time"] (spSeen C D)
  m1 : Meth K C "seen" f1
  b1 : Binds K d1 ["self", "time"] []
  f2 : Addr
  d2 : FuncData
  G2 : FnOk P w K mg base CX0 8 f2 d2 ["self", "time"] (spDrop C D)
  m2 : Meth K C "drop" f2
  b2 : Binds K d2 ["self", "time"] []
  f3 : Addr
  d3 : FuncData
  G3 : FnOk P w K mg base CX0 3 f3 d3 ["self"] (spPeriods C D)
  m3 : Meth K C "periods" f3
  b3 : Binds K d3 ["self"] []
  f4 : Addr
  d4 : FuncData
  G4 : FnOk P w K mg base CX0 4 f4 d4 ["self", "above", "below"] (spFits C D)
  m4 : Meth K C "fits" f4
  b4 : Binds K d4 ["self", "above", "below"] []
  f5 : Addr
  d5 : FuncData
  G5 : FnOk P w K mg base CX0 7 f5 d5 ["self", "time"] (spCould C D)
  m5 : Meth K C "could" f5
  b5 : Binds K d5 ["self", "time"] []
  f6 : Addr
  d6 : FuncData
  G6 : FnOk P w K mg base CX0 5 f6 d6 ["self", "above", "below"] (spWindow C D)
  m6 : Meth K C "window" f6
  b6 : Binds K d6 ["self", "above", "below"] []
  f7 : Addr
  d7 : FuncData
  G7 : FnOk P w K mg base CX0 2 f7 d7 ["self", "stretch"] (spBeats C D)
  m7 : Meth K C "beats" f7
  b7 : Binds K d7 ["self", "stretch"] []
  f8 : Addr
  d8 : FuncData
  G8 : FnOk P w K mg base CX0 5 f8 d8 ["self", "above", "below", "time"] (spNext C D)
  m8 : Meth K C "next_one" f8
  b8 : Binds K d8 ["self", "above", "below", "time"] []
  f9 : Addr
  d9 : FuncData
  G9 : FnOk P w K mg base CX0 1 f9 d9 ["self"] (spAlone C D)
  m9 : Meth K C "alone" f9
  b9 : Binds K d9 ["self"] []
  f10 : Addr
  d10 : FuncData
  G10 : FnOk P w K mg base CX0 2 f10 d10 ["self"] (spTimes C D)
  m10 : Meth K C "times" f10
  b10 : Binds K d10 ["self"] []
theorem ok_call {f : Addr} {fd : FuncData} (F : Fun K "answer_call" "answer_call" sCall f fd) (T : TxtB K mg C D) (A0 : CallsA P w K mg base C D) : FnOk P w K mg base CX0 9 f fd ["beat", "call", "numbers"] (spAnswer K C D) := by
  refine F.ok scCall (fun vs H Q E h => ?_) (fun cdv A outer s H vs Q E hr h => ?_)
  · obtain ⟨p, pn, c0, xs, s, N, rfl, _⟩ := h
    rfl
  · obtain ⟨p, pn, c0, xs, s, N, rfl, hL, hc, hB, hN, k⟩ := h
    refine ⟨_, pss_cons (ps_if (pt_cmpR op_eq (pv 1) pe_int (nomark _)) (pss_one (ps_ret (pe_lst (pa_cons (pe_meth (pv 0) T.cl A0.m0 A0.G0 hr A0.b0 .nil pass0 (pa_cons (pe_ix ix_list (pv 2) pe_int (fun _ _ => rfl)) (pa_cons (pe_ix ix_list (pv 2) pe_int (fun _ _ => rfl)) (pa_cons (pe_ix ix_list (pv 2) pe_int (fun _ _ => rfl)) pa_nil)))) pa_nil)))) pss_nil)
      (pss_cons (ps_if (pt_cmpR op_eq (pv 1) pe_int (nomark _)) (pss_one (ps_ret (pe_lst (pa_cons (pe_meth (pv 0) T.cl A0.m1 A0.G1 hr A0.b1 .nil pass0 (pa_cons (pe_ix ix_list (pv 2) pe_int (fun _ _ => rfl)) pa_nil)) pa_nil)))) pss_nil)
      (pss_cons (ps_if (pt_cmpR op_eq (pv 1) pe_int (nomark _)) (pss_one (ps_ret (pe_lst (pa_cons (pe_meth (pv 0) T.cl A0.m2 A0.G2 hr A0.b2 .nil pass0 (pa_cons (pe_ix ix_list (pv 2) pe_int (fun _ _ => rfl)) pa_nil)) pa_nil)))) pss_nil)
      (pss_cons (ps_if (pt_cmpR op_eq (pv 1) pe_int (nomark _)) (pss_one (ps_ret (pe_meth0 (pv 0) T.cl A0.m3 A0.G3 (hr.mono (by decide)) A0.b3 .nil pass0))) pss_nil)
      (pss_cons (ps_if (pt_cmpR op_eq (pv 1) pe_int (nomark _)) (pss_one (ps_ret (pe_meth (pv 0) T.cl A0.m4 A0.G4 (hr.mono (by decide)) A0.b4 .nil pass0 (pa_cons (pe_ix ix_list (pv 2) pe_int (fun _ _ => rfl)) (pa_cons (pe_ix ix_list (pv 2) pe_int (fun _ _ => rfl)) pa_nil))))) pss_nil)
      (pss_cons (ps_if (pt_cmpR op_eq (pv 1) pe_int (nomark _)) (pss_one (ps_ret (pe_lst (pa_cons (pe_meth (pv 0) T.cl A0.m5 A0.G5 (hr.mono (by decide)) A0.b5 .nil pass0 (pa_cons (pe_ix ix_list (pv 2) pe_int (fun _ _ => rfl)) pa_nil)) pa_nil)))) pss_nil)
      (pss_cons (ps_if (pt_cmpR op_eq (pv 1) pe_int (nomark _)) (pss_one (ps_ret (pe_meth (pv 0) T.cl A0.m6 A0.G6 (hr.mono (by decide)) A0.b6 .nil pass0 (pa_cons (pe_ix ix_list (pv 2) pe_int (fun _ _ => rfl)) (pa_cons (pe_ix ix_list (pv 2) pe_int (fun _ _ => rfl)) pa_nil))))) pss_nil)
      (pss_cons (ps_if (pt_cmpR op_eq (pv 1) pe_int (nomark _)) (pss_one (ps_ret (pe_meth (pv 0) T.cl A0.m7 A0.G7 (hr.mono (by decide)) A0.b7 .nil pass0 (pa_cons (pe_ix ix_list (pv 2) pe_int (fun _ _ => rfl)) pa_nil)))) pss_nil)
      (pss_cons (ps_if (pt_cmpR op_eq (pv 1) pe_int (nomark _)) (pss_one (ps_ret (pe_meth (pv 0) T.cl A0.m8 A0.G8 (hr.mono (by decide)) A0.b8 .nil pass0 (pa_cons (pe_ix ix_list (pv 2) pe_int (fun _ _ => rfl)) (pa_cons (pe_ix ix_list (pv 2) pe_int (fun _ _ => rfl)) (pa_cons (pe_ix ix_list (pv 2) pe_int (fun _ _ => rfl)) pa_nil)))))) pss_nil)
      (pss_cons (ps_if (pt_cmpR op_eq (pv 1) pe_int (nomark _)) (pss_one (ps_ret (pe_lst (pa_cons (pe_meth0 (pv 0) T.cl A0.m9 A0.G9 (hr.mono (by decide)) A0.b9 .nil pass0) pa_nil)))) pss_nil)
      (pss_one (ps_ret (pe_meth0 (pv 0) T.cl A0.m10 A0.G10 (hr.mono (by decide)) A0.b10 .nil pass0)))))))))))), ?_⟩
    obtain ⟨dx, pt, pq, ps, h1, h2, h3, h4, h5, h6, h7, h8⟩ := id hB

    rcases shp_cases hc.shp with ⟨a, b, c, e⟩ | ⟨a, e⟩ | ⟨a, e⟩ | e | ⟨a, b, e⟩ | ⟨a, e⟩ | ⟨a, b, e⟩ | ⟨a, e⟩ | ⟨a, b, c, e⟩ | e | e <;> cases e
    · -- begins
      have ba := hc.nat a (by simp)
      obtain ⟨a, rfl⟩ := nat_of ba
      have bb := hc.nat b (by simp)
      obtain ⟨b, rfl⟩ := nat_of bb
      have bc := hc.nat c (by simp)
      obtain ⟨c, rfl⟩ := nat_of bc
      refine ⟨_, rfl, rfl, _, rfl, ?_⟩
      refine iteT ?_
      have hst : Sy41Neutral.step s [0, (a : Int), (b : Int), (c : Int)] = ((Sy41.step s (.begins a b c)).1, Sy41Neutral.out (Sy41.step s (.begins a b c)).2) := step_of (call0 ba bb bc)
      rw [hst] at k
      refine ⟨_, rfl, p, dx, _, rfl, h1, (bF_none (by decide +kernel) (by decide +kernel) (by decide +kernel) (by decide +kernel) (by decide +kernel)), _, rfl, pn, _, _, _, rfl, rfl, hL, atI_nat (j := 0) rfl, _, rfl, pn, _, _, _, rfl, rfl, hL, atI_nat (j := 1) rfl, _, rfl, pn, _, _, _, rfl, rfl, hL, atI_nat (j := 2) rfl, p, a, b, c, s, N, rfl, hB, hN, fun R e H' hB' hbut => ?_⟩
      subst e
      refine ⟨(by show 1 ≤ sizeLine; decide), fun q nq => ?_⟩
      rw [out_one (one_begins s _ _ _)] at k
      refine k _ q (hB'.same (same_upd nq)) (hbut.trans (Same.but (same_upd nq))) (free_but hB' hbut nq) upd_same
    · -- seen
      have ba := hc.nat a (by simp)
      obtain ⟨a, rfl⟩ := nat_of ba
      refine ⟨_, rfl, rfl, _, rfl, ?_⟩
      refine iteF ?_
      refine ⟨_, rfl, rfl, _, rfl, ?_⟩
      refine iteT ?_
      have hst : Sy41Neutral.step s [1, (a : Int)] = ((Sy41.step s (.seen a)).1, Sy41Neutral.out (Sy41.step s (.seen a)).2) := step_of (call1 ba)
      rw [hst] at k
      refine ⟨_, rfl, p, dx, _, rfl, h1, (bF_none (by decide +kernel) (by decide +kernel) (by decide +kernel) (by decide +kernel) (by decide +kernel)), _, rfl, pn, _, _, _, rfl, rfl, hL, atI_nat (j := 0) rfl, p, a, s, N, rfl, hB, hN, fun R e H' hB' hbut => ?_⟩
      subst e
      refine ⟨(by show 1 ≤ sizeLine; decide), fun q nq => ?_⟩
      rw [out_one (one_seen s _)] at k
      refine k _ q (hB'.same (same_upd nq)) (hbut.trans (Same.but (same_upd nq))) (free_but hB' hbut nq) upd_same
    · -- drop
      have ba := hc.nat a (by simp)
      obtain ⟨a, rfl⟩ := nat_of ba
      refine ⟨_, rfl, rfl, _, rfl, ?_⟩
      refine iteF ?_
      refine ⟨_, rfl, rfl, _, rfl, ?_⟩
      refine iteF ?_
      refine ⟨_, rfl, rfl, _, rfl, ?_⟩
      refine iteT ?_
      have hst : Sy41Neutral.step s [2, (a : Int)] = ((Sy41.step s (.drop a)).1, Sy41Neutral.out (Sy41.step s (.drop a)).2) := step_of (call2 ba)
      rw [hst] at k
      refine ⟨_, rfl, p, dx, _, rfl, h1, (bF_none (by decide +kernel) (by decide +kernel) (by decide +kernel) (by decide +kernel) (by decide +kernel)), _, rfl, pn, _, _, _, rfl, rfl, hL, atI_nat (j := 0) rfl, p, a, s, N, rfl, hB, hN, fun R e H' hB' hbut => ?_⟩
      subst e
      refine ⟨(by show 1 ≤ sizeLine; decide), fun q nq => ?_⟩
      rw [out_one (one_drop s _)] at k
      refine k _ q (hB'.same (same_upd nq)) (hbut.trans (Same.but (same_upd nq))) (free_but hB' hbut nq) upd_same
    · -- periods
      refine ⟨_, rfl, rfl, _, rfl, ?_⟩
      refine iteF ?_
      refine ⟨_, rfl, rfl, _, rfl, ?_⟩
      refine iteF ?_
      refine ⟨_, rfl, rfl, _, rfl, ?_⟩
      refine iteF ?_
      refine ⟨_, rfl, rfl, _, rfl, ?_⟩
      refine iteT ?_
      have hst : Sy41Neutral.step s [3] = ((Sy41.step s (.periods)).1, Sy41Neutral.out (Sy41.step s (.periods)).2) := step_of (call3)
      rw [hst] at k
      refine ⟨_, rfl, p, dx, _, rfl, h1, (bF_none (by decide +kernel) (by decide +kernel) (by decide +kernel) (by decide +kernel) (by decide +kernel)), p, s, N, rfl, hB, hN, fun R e H' q hB' hbut nq eq => ?_⟩
      subst e
      exact k H' q hB' hbut nq eq
    · -- fits
      have ba := hc.nat a (by simp)
      obtain ⟨a, rfl⟩ := nat_of ba
      have bb := hc.nat b (by simp)
      obtain ⟨b, rfl⟩ := nat_of bb
      refine ⟨_, rfl, rfl, _, rfl, ?_⟩
      refine iteF ?_
      refine ⟨_, rfl, rfl, _, rfl, ?_⟩
      refine iteF ?_
      refine ⟨_, rfl, rfl, _, rfl, ?_⟩
      refine iteF ?_
      refine ⟨_, rfl, rfl, _, rfl, ?_⟩
      refine iteF ?_
      refine ⟨_, rfl, rfl, _, rfl, ?_⟩
      refine iteT ?_
      have hst : Sy41Neutral.step s [4, (a : Int), (b : Int)] = ((Sy41.step s (.fits a b)).1, Sy41Neutral.out (Sy41.step s (.fits a b)).2) := step_of (call4 ba bb)
      rw [hst] at k
      refine ⟨_, rfl, p, dx, _, rfl, h1, (bF_none (by decide +kernel) (by decide +kernel) (by decide +kernel) (by decide +kernel) (by decide +kernel)), _, rfl, pn, _, _, _, rfl, rfl, hL, atI_nat (j := 0) rfl, _, rfl, pn, _, _, _, rfl, rfl, hL, atI_nat (j := 1) rfl, p, a, b, s, N, rfl, hB, hN, fun R e H' q hB' hbut nq eq => ?_⟩
      subst e
      exact k H' q hB' hbut nq eq
    · -- could
      have ba := hc.nat a (by simp)
      obtain ⟨a, rfl⟩ := nat_of ba
      refine ⟨_, rfl, rfl, _, rfl, ?_⟩
      refine iteF ?_
      refine ⟨_, rfl, rfl, _, rfl, ?_⟩
      refine iteF ?_
      refine ⟨_, rfl, rfl, _, rfl, ?_⟩
      refine iteF ?_
      refine ⟨_, rfl, rfl, _, rfl, ?_⟩
      refine iteF ?_
      refine ⟨_, rfl, rfl, _, rfl, ?_⟩
      refine iteF ?_
      refine ⟨_, rfl, rfl, _, rfl, ?_⟩
      refine iteT ?_
      have hst : Sy41Neutral.step s [5, (a : Int)] = ((Sy41.step s (.could a)).1, Sy41Neutral.out (Sy41.step s (.could a)).2) := step_of (call5 ba)
      rw [hst] at k
      refine ⟨_, rfl, p, dx, _, rfl, h1, (bF_none (by decide +kernel) (by decide +kernel) (by decide +kernel) (by decide +kernel) (by decide +kernel)), _, rfl, pn, _, _, _, rfl, rfl, hL, atI_nat (j := 0) rfl, p, a, s, N, rfl, hB, hN, fun R e H' hB' hbut => ?_⟩
      subst e
      refine ⟨(by show 1 ≤ sizeLine; decide), fun q nq => ?_⟩
      rw [out_one (one_could s _)] at k
      refine k _ q (hB'.same (same_upd nq)) (hbut.trans (Same.but (same_upd nq))) (free_but hB' hbut nq) upd_same
    · -- window
      have ba := hc.nat a (by simp)
      obtain ⟨a, rfl⟩ := nat_of ba
      have bb := hc.nat b (by simp)
      obtain ⟨b, rfl⟩ := nat_of bb
      refine ⟨_, rfl, rfl, _, rfl, ?_⟩
      refine iteF ?_
      refine ⟨_, rfl, rfl, _, rfl, ?_⟩
      refine iteF ?_
      refine ⟨_, rfl, rfl, _, rfl, ?_⟩
      refine iteF ?_
      refine ⟨_, rfl, rfl, _, rfl, ?_⟩
      refine iteF ?_
      refine ⟨_, rfl, rfl, _, rfl, ?_⟩
      refine iteF ?_
      refine ⟨_, rfl, rfl, _, rfl, ?_⟩
      refine iteF ?_
      refine ⟨_, rfl, rfl, _, rfl, ?_⟩
      refine iteT ?_
      have hst : Sy41Neutral.step s [6, (a : Int), (b : Int)] = ((Sy41.step s (.window a b)).1, Sy41Neutral.out (Sy41.step s (.window a b)).2) := step_of (call6 ba bb)
      rw [hst] at k
      refine ⟨_, rfl, p, dx, _, rfl, h1, (bF_none (by decide +kernel) (by decide +kernel) (by decide +kernel) (by decide +kernel) (by decide +kernel)), _, rfl, pn, _, _, _, rfl, rfl, hL, atI_nat (j := 0) rfl, _, rfl, pn, _, _, _, rfl, rfl, hL, atI_nat (j := 1) rfl, p, a, b, s, N, rfl, hB, hN, fun R e H' q hB' hbut nq eq => ?_⟩
      subst e
      exact k H' q hB' hbut nq eq
    · -- beats
      have ba := hc.nat a (by simp)
      obtain ⟨a, rfl⟩ := nat_of ba
      refine ⟨_, rfl, rfl, _, rfl, ?_⟩
      refine iteF ?_
      refine ⟨_, rfl, rfl, _, rfl, ?_⟩
      refine iteF ?_
      refine ⟨_, rfl, rfl, _, rfl, ?_⟩
      refine iteF ?_
      refine ⟨_, rfl, rfl, _, rfl, ?_⟩
      refine iteF ?_
      refine ⟨_, rfl, rfl, _, rfl, ?_⟩
      refine iteF ?_
      refine ⟨_, rfl, rfl, _, rfl, ?_⟩
      refine iteF ?_
      refine ⟨_, rfl, rfl, _, rfl, ?_⟩
      refine iteF ?_
      refine ⟨_, rfl, rfl, _, rfl, ?_⟩
      refine iteT ?_
      have hst : Sy41Neutral.step s [7, (a : Int)] = ((Sy41.step s (.beats a)).1, Sy41Neutral.out (Sy41.step s (.beats a)).2) := step_of (call7 ba)
      rw [hst] at k
      refine ⟨_, rfl, p, dx, _, rfl, h1, (bF_none (by decide +kernel) (by decide +kernel) (by decide +kernel) (by decide +kernel) (by decide +kernel)), _, rfl, pn, _, _, _, rfl, rfl, hL, atI_nat (j := 0) rfl, p, a, s, N, rfl, hB, hN, fun R e H' q hB' hbut nq eq => ?_⟩
      subst e
      exact k H' q hB' hbut nq eq
    · -- next_one
      have ba := hc.nat a (by simp)
      obtain ⟨a, rfl⟩ := nat_of ba
      have bb := hc.nat b (by simp)
      obtain ⟨b, rfl⟩ := nat_of bb
      have bc := hc.nat c (by simp)
      obtain ⟨c, rfl⟩ := nat_of bc
      refine ⟨_, rfl, rfl, _, rfl, ?_⟩
      refine iteF ?_
      refine ⟨_, rfl, rfl, _, rfl, ?_⟩
      refine iteF ?_
      refine ⟨_, rfl, rfl, _, rfl, ?_⟩
      refine iteF ?_
      refine ⟨_, rfl, rfl, _, rfl, ?_⟩
      refine iteF ?_
      refine ⟨_, rfl, rfl, _, rfl, ?_⟩
      refine iteF ?_
      refine ⟨_, rfl, rfl, _, rfl, ?_⟩
      refine iteF ?_
      refine ⟨_, rfl, rfl, _, rfl, ?_⟩
      refine iteF ?_
      refine ⟨_, rfl, rfl, _, rfl, ?_⟩
      refine iteF ?_
      refine ⟨_, rfl, rfl, _, rfl, ?_⟩
      refine iteT ?_
      have hst : Sy41Neutral.step s [8, (a : Int), (b : Int), (c : Int)] = ((Sy41.step s (.next a b c)).1, Sy41Neutral.out (Sy41.step s (.next a b c)).2) := step_of (call8 ba bb bc)
      rw [hst] at k
      refine ⟨_, rfl, p, dx, _, rfl, h1, (bF_none (by decide +kernel) (by decide +kernel) (by decide +kernel) (by decide +kernel) (by decide +kernel)), _, rfl, pn, _, _, _, rfl, rfl, hL, atI_nat (j := 0) rfl, _, rfl, pn, _, _, _, rfl, rfl, hL, atI_nat (j := 1) rfl, _, rfl, pn, _, _, _, rfl, rfl, hL, atI_nat (j := 2) rfl, p, a, b, c, s, N, rfl, hB, hN, fun R e H' q hB' hbut nq eq => ?_⟩
      subst e
      exact k H' q hB' hbut nq eq
    · -- alone
      refine ⟨_, rfl, rfl, _, rfl, ?_⟩
      refine iteF ?_
      refine ⟨_, rfl, rfl, _, rfl, ?_⟩
      refine iteF ?_
      refine ⟨_, rfl, rfl, _, rfl, ?_⟩
      refine iteF ?_
      refine ⟨_, rfl, rfl, _, rfl, ?_⟩
      refine iteF ?_
      refine ⟨_, rfl, rfl, _, rfl, ?_⟩
      refine iteF ?_
      refine ⟨_, rfl, rfl, _, rfl, ?_⟩
      refine iteF ?_
      refine ⟨_, rfl, rfl, _, rfl, ?_⟩
      refine iteF ?_
      refine ⟨_, rfl, rfl, _, rfl, ?_⟩
      refine iteF ?_
      refine ⟨_, rfl, rfl, _, rfl, ?_⟩
      refine iteF ?_
      refine ⟨_, rfl, rfl, _, rfl, ?_⟩
      refine iteT ?_
      have hst : Sy41Neutral.step s [9] = ((Sy41.step s (.alone)).1, Sy41Neutral.out (Sy41.step s (.alone)).2) := step_of (call9)
      rw [hst] at k
      refine ⟨_, rfl, p, dx, _, rfl, h1, (bF_none (by decide +kernel) (by decide +kernel) (by decide +kernel) (by decide +kernel) (by decide +kernel)), p, s, N, rfl, hB, hN, fun R e H' hB' hbut => ?_⟩
      subst e
      refine ⟨(by show 1 ≤ sizeLine; decide), fun q nq => ?_⟩
      rw [out_one (one_alone s)] at k
      refine k _ q (hB'.same (same_upd nq)) (hbut.trans (Same.but (same_upd nq))) (free_but hB' hbut nq) upd_same
    · -- times
      refine ⟨_, rfl, rfl, _, rfl, ?_⟩
      refine iteF ?_
      refine ⟨_, rfl, rfl, _, rfl, ?_⟩
      refine iteF ?_
      refine ⟨_, rfl, rfl, _, rfl, ?_⟩
      refine iteF ?_
      refine ⟨_, rfl, rfl, _, rfl, ?_⟩
      refine iteF ?_
      refine ⟨_, rfl, rfl, _, rfl, ?_⟩
      refine iteF ?_
      refine ⟨_, rfl, rfl, _, rfl, ?_⟩
      refine iteF ?_
      refine ⟨_, rfl, rfl, _, rfl, ?_⟩
      refine iteF ?_
      refine ⟨_, rfl, rfl, _, rfl, ?_⟩
      refine iteF ?_
      refine ⟨_, rfl, rfl, _, rfl, ?_⟩
      refine iteF ?_
      refine ⟨_, rfl, rfl, _, rfl, ?_⟩
      refine iteF ?_
      have hst : Sy41Neutral.step s [10] = ((Sy41.step s (.times)).1, Sy41Neutral.out (Sy41.step s (.times)).2) := step_of (call10)
      rw [hst] at k
      refine ⟨_, rfl, p, dx, _, rfl, h1, (bF_none (by decide +kernel) (by decide +kernel) (by decide +kernel) (by decide +kernel) (by decide +kernel)), p, s, N, rfl, hB, hN, fun R e H' q hB' hbut nq eq => ?_⟩
      subst e
      exact k H' q hB' hbut nq eq
end
end Ev
set_option Elab.async false
set_option maxRecDepth 100000
set_option maxHeartbeats 2000000
namespace Ev
open PySem PySem.Spec PyProof.Rows L2
theorem all_mk {P : Program} {w : World} {K : PySem.W.Frag} {h : Heap} {mg : Str → Option Value} {fa : Addr} (X : K.In h) (G : h.Ns mainGlobals mg) (hfa : mg "answers" = some (.ref fa))
    {D : Addr}
    {C : Addr}
    {f_gcd : Addr} {od_gcd an_gcd : Option Addr} {sl_gcd : Array (Option Value)} {oc_gcd kV_gcd dc_gcd pm_gcd cd_gcd ct_gcd : Value}
    {f_low : Addr} {od_low an_low : Option Addr} {sl_low : Array (Option Value)} {oc_low kV_low dc_low pm_low cd_low ct_low : Value}
    {f_less : Addr} {od_less an_less : Option Addr} {sl_less : Array (Option Value)} {oc_less kV_less dc_less pm_less cd_less ct_less : Value}
    {f_greater : Addr} {od_greater an_greater : Option Addr} {sl_greater : Array (Option Value)} {oc_greater kV_greater dc_greater pm_greater cd_greater ct_greater : Value}
    {f_lesser : Addr} {od_lesser an_lesser : Option Addr} {sl_lesser : Array (Option Value)} {oc_lesser kV_lesser dc_lesser pm_lesser cd_lesser ct_lesser : Value}
    {f_down : Addr} {od_down an_down : Option Addr} {sl_down : Array (Option Value)} {oc_down kV_down dc_down pm_down cd_down ct_down : Value}
    {f_up : Addr} {od_up an_up : Option Addr} {sl_up : Array (Option Value)} {oc_up kV_up dc_up pm_up cd_up ct_up : Value}
    {f_initS : Addr} {od_initS an_initS : Option Addr} {sl_initS : Array (Option Value)} {oc_initS kV_initS dc_initS pm_initS cd_initS ct_initS : Value}
    {f_holds : Addr} {od_holds an_holds : Option Addr} {sl_holds : Array (Option Value)} {oc_holds kV_holds dc_holds pm_holds cd_holds ct_holds : Value}
    {f_try : Addr} {od_try an_try : Option Addr} {sl_try : Array (Option Value)} {oc_try kV_try dc_try pm_try cd_try ct_try : Value}
    {f_nar : Addr} {od_nar an_nar : Option Addr} {sl_nar : Array (Option Value)} {oc_nar kV_nar dc_nar pm_nar cd_nar ct_nar : Value}
    {f_parts : Addr} {od_parts an_parts : Option Addr} {sl_parts : Array (Option Value)} {oc_parts kV_parts dc_parts pm_parts cd_parts ct_parts : Value}
    {f_find : Addr} {od_find an_find : Option Addr} {sl_find : Array (Option Value)} {oc_find kV_find dc_find pm_find cd_find ct_find : Value}
    {f_win : Addr} {od_win an_win : Option Addr} {sl_win : Array (Option Value)} {oc_win kV_win dc_win pm_win cd_win ct_win : Value}
    {f_ahead : Addr} {od_ahead an_ahead : Option Addr} {sl_ahead : Array (Option Value)} {oc_ahead kV_ahead dc_ahead pm_ahead cd_ahead ct_ahead : Value}
    {f_ask : Addr} {od_ask an_ask : Option Addr} {sl_ask : Array (Option Value)} {oc_ask kV_ask dc_ask pm_ask cd_ask ct_ask : Value}
    {f_told : Addr} {od_told an_told : Option Addr} {sl_told : Array (Option Value)} {oc_told kV_told dc_told pm_told cd_told ct_told : Value}
    {f_tw : Addr} {od_tw an_tw : Option Addr} {sl_tw : Array (Option Value)} {oc_tw kV_tw dc_tw pm_tw cd_tw ct_tw : Value}
    {f_initB : Addr} {od_initB an_initB : Option Addr} {sl_initB : Array (Option Value)} {oc_initB kV_initB dc_initB pm_initB cd_initB ct_initB : Value}
    {f_with : Addr} {od_with an_with : Option Addr} {sl_with : Array (Option Value)} {oc_with kV_with dc_with pm_with cd_with ct_with : Value}
    {f_keep : Addr} {od_keep an_keep : Option Addr} {sl_keep : Array (Option Value)} {oc_keep kV_keep dc_keep pm_keep cd_keep ct_keep : Value}
    {f_of : Addr} {od_of an_of : Option Addr} {sl_of : Array (Option Value)} {oc_of kV_of dc_of pm_of cd_of ct_of : Value}
    {f_ref : Addr} {od_ref an_ref : Option Addr} {sl_ref : Array (Option Value)} {oc_ref kV_ref dc_ref pm_ref cd_ref ct_ref : Value}
    {f_by : Addr} {od_by an_by : Option Addr} {sl_by : Array (Option Value)} {oc_by kV_by dc_by pm_by cd_by ct_by : Value}
    {f_begins : Addr} {od_begins an_begins : Option Addr} {sl_begins : Array (Option Value)} {oc_begins kV_begins dc_begins pm_begins cd_begins ct_begins : Value}
    {f_seen : Addr} {od_seen an_seen : Option Addr} {sl_seen : Array (Option Value)} {oc_seen kV_seen dc_seen pm_seen cd_seen ct_seen : Value}
    {f_drop : Addr} {od_drop an_drop : Option Addr} {sl_drop : Array (Option Value)} {oc_drop kV_drop dc_drop pm_drop cd_drop ct_drop : Value}
    {f_periods : Addr} {od_periods an_periods : Option Addr} {sl_periods : Array (Option Value)} {oc_periods kV_periods dc_periods pm_periods cd_periods ct_periods : Value}
    {f_could : Addr} {od_could an_could : Option Addr} {sl_could : Array (Option Value)} {oc_could kV_could dc_could pm_could cd_could ct_could : Value}
    {f_fits : Addr} {od_fits an_fits : Option Addr} {sl_fits : Array (Option Value)} {oc_fits kV_fits dc_fits pm_fits cd_fits ct_fits : Value}
    {f_window : Addr} {od_window an_window : Option Addr} {sl_window : Array (Option Value)} {oc_window kV_window dc_window pm_window cd_window ct_window : Value}
    {f_beats : Addr} {od_beats an_beats : Option Addr} {sl_beats : Array (Option Value)} {oc_beats kV_beats dc_beats pm_beats cd_beats ct_beats : Value}
    {f_next : Addr} {od_next an_next : Option Addr} {sl_next : Array (Option Value)} {oc_next kV_next dc_next pm_next cd_next ct_next : Value}
    {f_alone : Addr} {od_alone an_alone : Option Addr} {sl_alone : Array (Option Value)} {oc_alone kV_alone dc_alone pm_alone cd_alone ct_alone : Value}
    {f_times : Addr} {od_times an_times : Option Addr} {sl_times : Array (Option Value)} {oc_times kV_times dc_times pm_times cd_times ct_times : Value}
    {f_call : Addr} {od_call an_call : Option Addr} {sl_call : Array (Option Value)} {oc_call kV_call dc_call pm_call cd_call ct_call : Value}
    {f_answers : Addr} {od_answers an_answers : Option Addr} {sl_answers : Array (Option Value)} {oc_answers kV_answers dc_answers pm_answers cd_answers ct_answers : Value}
    {t_SHORTEST_LO : Tok}
    {t_LONGEST_HI : Tok}
    {t_LATEST_TIME : Tok}
    {t_MOST_TIMES : Tok}
    {t_GREATEST_BELOW : Tok}
    {h_hn : Addr} {hd_hn : Option Addr} {hs_hn : Array (Option Value)} {hn_hn : Nat} {tk_hn0 tk_hn1 tk_hn2 tk_hn3 tk_hn4 tk_hn5 tk_hn6 tk_hn7 tk_hn8 tk_hn9 tk_hn10 : Tok}
    (aD : PySem.W.nsIn K mainGlobals "Stretch" = some (some (.ref D)))
    (aC : PySem.W.nsIn K mainGlobals "EvenBeat" = some (some (.ref C)))
    (a_gcd : PySem.W.nsIn K mainGlobals "greatest_divisor" = some (some (.ref f_gcd)))
    (l_gcd : K.lookup f_gcd = some ⟨oc_gcd, od_gcd, .func (PySem.W.fnOf "greatest_divisor" "greatest_divisor" (defArgs sGcd) (defBody sGcd) (defScope sGcd) .none kV_gcd dc_gcd pm_gcd an_gcd cd_gcd ct_gcd), sl_gcd⟩)
    (c_gcd : PySem.W.codeIn K cd_gcd "greatest_divisor" = true)
    (k_gcd : PySem.W.keepIn K (.ref f_gcd) = true)
    (a_low : PySem.W.nsIn K mainGlobals "lowest_terms" = some (some (.ref f_low)))
    (l_low : K.lookup f_low = some ⟨oc_low, od_low, .func (PySem.W.fnOf "lowest_terms" "lowest_terms" (defArgs sLow) (defBody sLow) (defScope sLow) .none kV_low dc_low pm_low an_low cd_low ct_low), sl_low⟩)
    (c_low : PySem.W.codeIn K cd_low "lowest_terms" = true)
    (k_low : PySem.W.keepIn K (.ref f_low) = true)
    (a_less : PySem.W.nsIn K mainGlobals "is_less" = some (some (.ref f_less)))
    (l_less : K.lookup f_less = some ⟨oc_less, od_less, .func (PySem.W.fnOf "is_less" "is_less" (defArgs sLess) (defBody sLess) (defScope sLess) .none kV_less dc_less pm_less an_less cd_less ct_less), sl_less⟩)
    (c_less : PySem.W.codeIn K cd_less "is_less" = true)
    (k_less : PySem.W.keepIn K (.ref f_less) = true)
    (a_greater : PySem.W.nsIn K mainGlobals "greater" = some (some (.ref f_greater)))
    (l_greater : K.lookup f_greater = some ⟨oc_greater, od_greater, .func (PySem.W.fnOf "greater" "greater" (defArgs sGreater) (defBody sGreater) (defScope sGreater) .none kV_greater dc_greater pm_greater an_greater cd_greater ct_greater), sl_greater⟩)
    (c_greater : PySem.W.codeIn K cd_greater "greater" = true)
    (k_greater : PySem.W.keepIn K (.ref f_greater) = true)
    (a_lesser : PySem.W.nsIn K mainGlobals "lesser" = some (some (.ref f_lesser)))
    (l_lesser : K.lookup f_lesser = some ⟨oc_lesser, od_lesser, .func (PySem.W.fnOf "lesser" "lesser" (defArgs sLesser) (defBody sLesser) (defScope sLesser) .none kV_lesser dc_lesser pm_lesser an_lesser cd_lesser ct_lesser), sl_lesser⟩)
    (c_lesser : PySem.W.codeIn K cd_lesser "lesser" = true)
    (k_lesser : PySem.W.keepIn K (.ref f_lesser) = true)
    (a_down : PySem.W.nsIn K mainGlobals "divided_down" = some (some (.ref f_down)))
    (l_down : K.lookup f_down = some ⟨oc_down, od_down, .func (PySem.W.fnOf "divided_down" "divided_down" (defArgs sDown) (defBody sDown) (defScope sDown) .none kV_down dc_down pm_down an_down cd_down ct_down), sl_down⟩)
    (c_down : PySem.W.codeIn K cd_down "divided_down" = true)
    (k_down : PySem.W.keepIn K (.ref f_down) = true)
    (a_up : PySem.W.nsIn K mainGlobals "divided_up" = some (some (.ref f_up)))
    (l_up : K.lookup f_up = some ⟨oc_up, od_up, .func (PySem.W.fnOf "divided_up" "divided_up" (defArgs sUp) (defBody sUp) (defScope sUp) .none kV_up dc_up pm_up an_up cd_up ct_up), sl_up⟩)
    (c_up : PySem.W.codeIn K cd_up "divided_up" = true)
    (k_up : PySem.W.keepIn K (.ref f_up) = true)
    (a_initS : PySem.W.findIn K (.ref D) "__init__" = some (some (.ref f_initS)))
    (i_initS : PySem.W.isFn K (.ref f_initS) = true)
    (l_initS : K.lookup f_initS = some ⟨oc_initS, od_initS, .func (PySem.W.fnOf "__init__" "Stretch.__init__" (defArgs sInitS) (defBody sInitS) (defScope sInitS) .none kV_initS dc_initS pm_initS an_initS cd_initS ct_initS), sl_initS⟩)
    (c_initS : PySem.W.codeIn K cd_initS "Stretch.__init__" = true)
    (k_initS : PySem.W.keepIn K (.ref f_initS) = true)
    (a_holds : PySem.W.findIn K (.ref D) "holds" = some (some (.ref f_holds)))
    (i_holds : PySem.W.isFn K (.ref f_holds) = true)
    (l_holds : K.lookup f_holds = some ⟨oc_holds, od_holds, .func (PySem.W.fnOf "holds" "Stretch.holds" (defArgs sHolds) (defBody sHolds) (defScope sHolds) .none kV_holds dc_holds pm_holds an_holds cd_holds ct_holds), sl_holds⟩)
    (c_holds : PySem.W.codeIn K cd_holds "Stretch.holds" = true)
    (k_holds : PySem.W.keepIn K (.ref f_holds) = true)
    (a_try : PySem.W.nsIn K mainGlobals "beats_to_try" = some (some (.ref f_try)))
    (l_try : K.lookup f_try = some ⟨oc_try, od_try, .func (PySem.W.fnOf "beats_to_try" "beats_to_try" (defArgs sTry) (defBody sTry) (defScope sTry) .none kV_try dc_try pm_try an_try cd_try ct_try), sl_try⟩)
    (c_try : PySem.W.codeIn K cd_try "beats_to_try" = true)
    (k_try : PySem.W.keepIn K (.ref f_try) = true)
    (a_nar : PySem.W.nsIn K mainGlobals "narrowed" = some (some (.ref f_nar)))
    (l_nar : K.lookup f_nar = some ⟨oc_nar, od_nar, .func (PySem.W.fnOf "narrowed" "narrowed" (defArgs sNar) (defBody sNar) (defScope sNar) .none kV_nar dc_nar pm_nar an_nar cd_nar ct_nar), sl_nar⟩)
    (c_nar : PySem.W.codeIn K cd_nar "narrowed" = true)
    (k_nar : PySem.W.keepIn K (.ref f_nar) = true)
    (a_parts : PySem.W.nsIn K mainGlobals "parts_with" = some (some (.ref f_parts)))
    (l_parts : K.lookup f_parts = some ⟨oc_parts, od_parts, .func (PySem.W.fnOf "parts_with" "parts_with" (defArgs sParts) (defBody sParts) (defScope sParts) .none kV_parts dc_parts pm_parts an_parts cd_parts ct_parts), sl_parts⟩)
    (c_parts : PySem.W.codeIn K cd_parts "parts_with" = true)
    (k_parts : PySem.W.keepIn K (.ref f_parts) = true)
    (a_find : PySem.W.nsIn K mainGlobals "find_stretches" = some (some (.ref f_find)))
    (l_find : K.lookup f_find = some ⟨oc_find, od_find, .func (PySem.W.fnOf "find_stretches" "find_stretches" (defArgs sFind) (defBody sFind) (defScope sFind) .none kV_find dc_find pm_find an_find cd_find ct_find), sl_find⟩)
    (c_find : PySem.W.codeIn K cd_find "find_stretches" = true)
    (k_find : PySem.W.keepIn K (.ref f_find) = true)
    (a_win : PySem.W.nsIn K mainGlobals "window_of_beat_0" = some (some (.ref f_win)))
    (l_win : K.lookup f_win = some ⟨oc_win, od_win, .func (PySem.W.fnOf "window_of_beat_0" "window_of_beat_0" (defArgs sWin) (defBody sWin) (defScope sWin) .none kV_win dc_win pm_win an_win cd_win ct_win), sl_win⟩)
    (c_win : PySem.W.codeIn K cd_win "window_of_beat_0" = true)
    (k_win : PySem.W.keepIn K (.ref f_win) = true)
    (a_ahead : PySem.W.nsIn K mainGlobals "window_not_ahead" = some (some (.ref f_ahead)))
    (l_ahead : K.lookup f_ahead = some ⟨oc_ahead, od_ahead, .func (PySem.W.fnOf "window_not_ahead" "window_not_ahead" (defArgs sAhead) (defBody sAhead) (defScope sAhead) .none kV_ahead dc_ahead pm_ahead an_ahead cd_ahead ct_ahead), sl_ahead⟩)
    (c_ahead : PySem.W.codeIn K cd_ahead "window_not_ahead" = true)
    (k_ahead : PySem.W.keepIn K (.ref f_ahead) = true)
    (a_ask : PySem.W.nsIn K mainGlobals "is_askable" = some (some (.ref f_ask)))
    (l_ask : K.lookup f_ask = some ⟨oc_ask, od_ask, .func (PySem.W.fnOf "is_askable" "is_askable" (defArgs sAsk) (defBody sAsk) (defScope sAsk) .none kV_ask dc_ask pm_ask an_ask cd_ask ct_ask), sl_ask⟩)
    (c_ask : PySem.W.codeIn K cd_ask "is_askable" = true)
    (k_ask : PySem.W.keepIn K (.ref f_ask) = true)
    (a_told : PySem.W.nsIn K mainGlobals "told_list" = some (some (.ref f_told)))
    (l_told : K.lookup f_told = some ⟨oc_told, od_told, .func (PySem.W.fnOf "told_list" "told_list" (defArgs sTold) (defBody sTold) (defScope sTold) .none kV_told dc_told pm_told an_told cd_told ct_told), sl_told⟩)
    (c_told : PySem.W.codeIn K cd_told "told_list" = true)
    (k_told : PySem.W.keepIn K (.ref f_told) = true)
    (a_tw : PySem.W.nsIn K mainGlobals "told_window" = some (some (.ref f_tw)))
    (l_tw : K.lookup f_tw = some ⟨oc_tw, od_tw, .func (PySem.W.fnOf "told_window" "told_window" (defArgs sTW) (defBody sTW) (defScope sTW) .none kV_tw dc_tw pm_tw an_tw cd_tw ct_tw), sl_tw⟩)
    (c_tw : PySem.W.codeIn K cd_tw "told_window" = true)
    (k_tw : PySem.W.keepIn K (.ref f_tw) = true)
    (a_initB : PySem.W.findIn K (.ref C) "__init__" = some (some (.ref f_initB)))
    (i_initB : PySem.W.isFn K (.ref f_initB) = true)
    (l_initB : K.lookup f_initB = some ⟨oc_initB, od_initB, .func (PySem.W.fnOf "__init__" "EvenBeat.__init__" (defArgs sInitB) (defBody sInitB) (defScope sInitB) .none kV_initB dc_initB pm_initB an_initB cd_initB ct_initB), sl_initB⟩)
    (c_initB : PySem.W.codeIn K cd_initB "EvenBeat.__init__" = true)
    (k_initB : PySem.W.keepIn K (.ref f_initB) = true)
    (a_with : PySem.W.findIn K (.ref C) "stretches_with" = some (some (.ref f_with)))
    (i_with : PySem.W.isFn K (.ref f_with) = true)
    (l_with : K.lookup f_with = some ⟨oc_with, od_with, .func (PySem.W.fnOf "stretches_with" "EvenBeat.stretches_with" (defArgs sWith) (defBody sWith) (defScope sWith) .none kV_with dc_with pm_with an_with cd_with ct_with), sl_with⟩)
    (c_with : PySem.W.codeIn K cd_with "EvenBeat.stretches_with" = true)
    (k_with : PySem.W.keepIn K (.ref f_with) = true)
    (a_keep : PySem.W.findIn K (.ref C) "keep_times" = some (some (.ref f_keep)))
    (i_keep : PySem.W.isFn K (.ref f_keep) = true)
    (l_keep : K.lookup f_keep = some ⟨oc_keep, od_keep, .func (PySem.W.fnOf "keep_times" "EvenBeat.keep_times" (defArgs sKeep) (defBody sKeep) (defScope sKeep) .none kV_keep dc_keep pm_keep an_keep cd_keep ct_keep), sl_keep⟩)
    (c_keep : PySem.W.codeIn K cd_keep "EvenBeat.keep_times" = true)
    (k_keep : PySem.W.keepIn K (.ref f_keep) = true)
    (a_of : PySem.W.findIn K (.ref C) "stretch_of" = some (some (.ref f_of)))
    (i_of : PySem.W.isFn K (.ref f_of) = true)
    (l_of : K.lookup f_of = some ⟨oc_of, od_of, .func (PySem.W.fnOf "stretch_of" "EvenBeat.stretch_of" (defArgs sOf) (defBody sOf) (defScope sOf) .none kV_of dc_of pm_of an_of cd_of ct_of), sl_of⟩)
    (c_of : PySem.W.codeIn K cd_of "EvenBeat.stretch_of" = true)
    (k_of : PySem.W.keepIn K (.ref f_of) = true)
    (a_ref : PySem.W.findIn K (.ref C) "window_refusal" = some (some (.ref f_ref)))
    (i_ref : PySem.W.isFn K (.ref f_ref) = true)
    (l_ref : K.lookup f_ref = some ⟨oc_ref, od_ref, .func (PySem.W.fnOf "window_refusal" "EvenBeat.window_refusal" (defArgs sRef) (defBody sRef) (defScope sRef) .none kV_ref dc_ref pm_ref an_ref cd_ref ct_ref), sl_ref⟩)
    (c_ref : PySem.W.codeIn K cd_ref "EvenBeat.window_refusal" = true)
    (k_ref : PySem.W.keepIn K (.ref f_ref) = true)
    (a_by : PySem.W.findIn K (.ref C) "window_by" = some (some (.ref f_by)))
    (i_by : PySem.W.isFn K (.ref f_by) = true)
    (l_by : K.lookup f_by = some ⟨oc_by, od_by, .func (PySem.W.fnOf "window_by" "EvenBeat.window_by" (defArgs sBy) (defBody sBy) (defScope sBy) .none kV_by dc_by pm_by an_by cd_by ct_by), sl_by⟩)
    (c_by : PySem.W.codeIn K cd_by "EvenBeat.window_by" = true)
    (k_by : PySem.W.keepIn K (.ref f_by) = true)
    (a_begins : PySem.W.findIn K (.ref C) "begins" = some (some (.ref f_begins)))
    (i_begins : PySem.W.isFn K (.ref f_begins) = true)
    (l_begins : K.lookup f_begins = some ⟨oc_begins, od_begins, .func (PySem.W.fnOf "begins" "EvenBeat.begins" (defArgs sBegins) (defBody sBegins) (defScope sBegins) .none kV_begins dc_begins pm_begins an_begins cd_begins ct_begins), sl_begins⟩)
    (c_begins : PySem.W.codeIn K cd_begins "EvenBeat.begins" = true)
    (k_begins : PySem.W.keepIn K (.ref f_begins) = true)
    (a_seen : PySem.W.findIn K (.ref C) "seen" = some (some (.ref f_seen)))
    (i_seen : PySem.W.isFn K (.ref f_seen) = true)
    (l_seen : K.lookup f_seen = some ⟨oc_seen, od_seen, .func (PySem.W.fnOf "seen" "EvenBeat.seen" (defArgs sSeen) (defBody sSeen) (defScope sSeen) .none kV_seen dc_seen pm_seen an_seen cd_seen ct_seen), sl_seen⟩)
    (c_seen : PySem.W.codeIn K cd_seen "EvenBeat.seen" = true)
    (k_seen : PySem.W.keepIn K (.ref f_seen) = true)
    (a_drop : PySem.W.findIn K (.ref C) "drop" = some (some (.ref f_drop)))
    (i_drop : PySem.W.isFn K (.ref f_drop) = true)
    (l_drop : K.lookup f_drop = some ⟨oc_drop, od_drop, .func (PySem.W.fnOf "drop" "EvenBeat.drop" (defArgs sDrop) (defBody sDrop) (defScope sDrop) .none kV_drop dc_drop pm_drop an_drop cd_drop ct_drop), sl_drop⟩)
    (c_drop : PySem.W.codeIn K cd_drop "EvenBeat.drop" = true)
    (k_drop : PySem.W.keepIn K (.ref f_drop) = true)
    (a_periods : PySem.W.findIn K (.ref C) "periods" = some (some (.ref f_periods)))
    (i_periods : PySem.W.isFn K (.ref f_periods) = true)
    (l_periods : K.lookup f_periods = some ⟨oc_periods, od_periods, .func (PySem.W.fnOf "periods" "EvenBeat.periods" (defArgs sPeriods) (defBody sPeriods) (defScope sPeriods) .none kV_periods dc_periods pm_periods an_periods cd_periods ct_periods), sl_periods⟩)
    (c_periods : PySem.W.codeIn K cd_periods "EvenBeat.periods" = true)
    (k_periods : PySem.W.keepIn K (.ref f_periods) = true)
    (a_could : PySem.W.findIn K (.ref C) "could" = some (some (.ref f_could)))
    (i_could : PySem.W.isFn K (.ref f_could) = true)
    (l_could : K.lookup f_could = some ⟨oc_could, od_could, .func (PySem.W.fnOf "could" "EvenBeat.could" (defArgs sCould) (defBody sCould) (defScope sCould) .none kV_could dc_could pm_could an_could cd_could ct_could), sl_could⟩)
    (c_could : PySem.W.codeIn K cd_could "EvenBeat.could" = true)
    (k_could : PySem.W.keepIn K (.ref f_could) = true)
    (a_fits : PySem.W.findIn K (.ref C) "fits" = some (some (.ref f_fits)))
    (i_fits : PySem.W.isFn K (.ref f_fits) = true)
    (l_fits : K.lookup f_fits = some ⟨oc_fits, od_fits, .func (PySem.W.fnOf "fits" "EvenBeat.fits" (defArgs sFits) (defBody sFits) (defScope sFits) .none kV_fits dc_fits pm_fits an_fits cd_fits ct_fits), sl_fits⟩)
    (c_fits : PySem.W.codeIn K cd_fits "EvenBeat.fits" = true)
    (k_fits : PySem.W.keepIn K (.ref f_fits) = true)
    (a_window : PySem.W.findIn K (.ref C) "window" = some (some (.ref f_window)))
    (i_window : PySem.W.isFn K (.ref f_window) = true)
    (l_window : K.lookup f_window = some ⟨oc_window, od_window, .func (PySem.W.fnOf "window" "EvenBeat.window" (defArgs sWindow) (defBody sWindow) (defScope sWindow) .none kV_window dc_window pm_window an_window cd_window ct_window), sl_window⟩)
    (c_window : PySem.W.codeIn K cd_window "EvenBeat.window" = true)
    (k_window : PySem.W.keepIn K (.ref f_window) = true)
    (a_beats : PySem.W.findIn K (.ref C) "beats" = some (some (.ref f_beats)))
    (i_beats : PySem.W.isFn K (.ref f_beats) = true)
    (l_beats : K.lookup f_beats = some ⟨oc_beats, od_beats, .func (PySem.W.fnOf "beats" "EvenBeat.beats" (defArgs sBeats) (defBody sBeats) (defScope sBeats) .none kV_beats dc_beats pm_beats an_beats cd_beats ct_beats), sl_beats⟩)
    (c_beats : PySem.W.codeIn K cd_beats "EvenBeat.beats" = true)
    (k_beats : PySem.W.keepIn K (.ref f_beats) = true)
    (a_next : PySem.W.findIn K (.ref C) "next_one" = some (some (.ref f_next)))
    (i_next : PySem.W.isFn K (.ref f_next) = true)
    (l_next : K.lookup f_next = some ⟨oc_next, od_next, .func (PySem.W.fnOf "next_one" "EvenBeat.next_one" (defArgs sNext) (defBody sNext) (defScope sNext) .none kV_next dc_next pm_next an_next cd_next ct_next), sl_next⟩)
    (c_next : PySem.W.codeIn K cd_next "EvenBeat.next_one" = true)
    (k_next : PySem.W.keepIn K (.ref f_next) = true)
    (a_alone : PySem.W.findIn K (.ref C) "alone" = some (some (.ref f_alone)))
    (i_alone : PySem.W.isFn K (.ref f_alone) = true)
    (l_alone : K.lookup f_alone = some ⟨oc_alone, od_alone, .func (PySem.W.fnOf "alone" "EvenBeat.alone" (defArgs sAlone) (defBody sAlone) (defScope sAlone) .none kV_alone dc_alone pm_alone an_alone cd_alone ct_alone), sl_alone⟩)
    (c_alone : PySem.W.codeIn K cd_alone "EvenBeat.alone" = true)
    (k_alone : PySem.W.keepIn K (.ref f_alone) = true)
    (a_times : PySem.W.findIn K (.ref C) "times" = some (some (.ref f_times)))
    (i_times : PySem.W.isFn K (.ref f_times) = true)
    (l_times : K.lookup f_times = some ⟨oc_times, od_times, .func (PySem.W.fnOf "times" "EvenBeat.times" (defArgs sTimes) (defBody sTimes) (defScope sTimes) .none kV_times dc_times pm_times an_times cd_times ct_times), sl_times⟩)
    (c_times : PySem.W.codeIn K cd_times "EvenBeat.times" = true)
    (k_times : PySem.W.keepIn K (.ref f_times) = true)
    (a_call : PySem.W.nsIn K mainGlobals "answer_call" = some (some (.ref f_call)))
    (l_call : K.lookup f_call = some ⟨oc_call, od_call, .func (PySem.W.fnOf "answer_call" "answer_call" (defArgs sCall) (defBody sCall) (defScope sCall) .none kV_call dc_call pm_call an_call cd_call ct_call), sl_call⟩)
    (c_call : PySem.W.codeIn K cd_call "answer_call" = true)
    (k_call : PySem.W.keepIn K (.ref f_call) = true)
    (a_answers : PySem.W.nsIn K mainGlobals "answers" = some (some (.ref f_answers)))
    (l_answers : K.lookup f_answers = some ⟨oc_answers, od_answers, .func (PySem.W.fnOf "answers" "answers" (defArgs sAnswers) (defBody sAnswers) (defScope sAnswers) .none kV_answers dc_answers pm_answers an_answers cd_answers ct_answers), sl_answers⟩)
    (c_answers : PySem.W.codeIn K cd_answers "answers" = true)
    (k_answers : PySem.W.keepIn K (.ref f_answers) = true)
    (pgD : PySem.W.plainGet K D Str.empty = true)
    (hdD : PySem.W.hasDictIn K D = true)
    (poD : PySem.W.plainOver K D = true)
    (saD : PySem.W.findIn K (.ref D) "__setattr__" = some (some (.builtin "object.__setattr__")))
    (mkD : PySem.W.makesIn K D = true)
    (kcD : PySem.W.keepIn K (.ref D) = true)
    (nD_shortest : PySem.W.findIn K (.ref D) "shortest" = some none)
    (nD_longest : PySem.W.findIn K (.ref D) "longest" = some none)
    (nD_row : PySem.W.findIn K (.ref D) "row" = some none)
    (pgC : PySem.W.plainGet K C Str.empty = true)
    (hdC : PySem.W.hasDictIn K C = true)
    (poC : PySem.W.plainOver K C = true)
    (saC : PySem.W.findIn K (.ref C) "__setattr__" = some (some (.builtin "object.__setattr__")))
    (mkC : PySem.W.makesIn K C = true)
    (kcC : PySem.W.keepIn K (.ref C) = true)
    (nC_lo : PySem.W.findIn K (.ref C) "lo" = some none)
    (nC_hi : PySem.W.findIn K (.ref C) "hi" = some none)
    (nC_off : PySem.W.findIn K (.ref C) "off" = some none)
    (nC_seen_times : PySem.W.findIn K (.ref C) "seen_times" = some none)
    (nC_stretches : PySem.W.findIn K (.ref C) "stretches" = some none)
    (nC_holds : PySem.W.findIn K (.ref C) "holds" = some none)
    (v_SHORTEST_LO : PySem.W.nsIn K mainGlobals "SHORTEST_LO" = some (some (.int 8 t_SHORTEST_LO)))
    (v_LONGEST_HI : PySem.W.nsIn K mainGlobals "LONGEST_HI" = some (some (.int 1000 t_LONGEST_HI)))
    (v_LATEST_TIME : PySem.W.nsIn K mainGlobals "LATEST_TIME" = some (some (.int 2000 t_LATEST_TIME)))
    (v_MOST_TIMES : PySem.W.nsIn K mainGlobals "MOST_TIMES" = some (some (.int 10 t_MOST_TIMES)))
    (v_GREATEST_BELOW : PySem.W.nsIn K mainGlobals "GREATEST_BELOW" = some (some (.int 1000 t_GREATEST_BELOW)))
    (w_hn : PySem.W.nsIn K mainGlobals "HANDED_NUMBERS" = some (some (.ref h_hn)))
    (wl_hn : K.lookup h_hn = some ⟨.type "tuple", hd_hn, .seq #[.int 3 tk_hn0, .int 1 tk_hn1, .int 1 tk_hn2, .int 0 tk_hn3, .int 2 tk_hn4, .int 1 tk_hn5, .int 2 tk_hn6, .int 1 tk_hn7, .int 3 tk_hn8, .int 0 tk_hn9, .int 0 tk_hn10] hn_hn, hs_hn⟩)
    (z_len : PySem.W.nsIn K mainGlobals "len" = some none)
    (z_sorted : PySem.W.nsIn K mainGlobals "sorted" = some none)
    (z_list : PySem.W.nsIn K mainGlobals "list" = some none)
    (z_range : PySem.W.nsIn K mainGlobals "range" = some none)
    (z_zip : PySem.W.nsIn K mainGlobals "zip" = some none)
    (z_enumerate : PySem.W.nsIn K mainGlobals "enumerate" = some none)
    (z_max : PySem.W.nsIn K mainGlobals "max" = some none)
    (z_min : PySem.W.nsIn K mainGlobals "min" = some none) :
    ∃ fd : FuncData, (∀ (s : Shared) (us : List Value), us.length = (["calls"] : List Str).length → BindsTo s fd ⟨us, []⟩ ((["calls"] : List Str).zip us)) ∧ ∀ base : Heap, K.In base → base.Ns mainGlobals mg → FnOk P w K mg base CX0 11 fa fd ["calls"] (spAns K) := by
  have e := hfa.symm.trans (PySem.W.mg_of X G a_answers)
  cases e
  have F_gcd := fun_mk (st := sGcd) l_gcd c_gcd k_gcd
  have b_gcd := F_gcd.binds (ps := ["first", "second"]) fun _ _ _ _ _ _ us hl => match us, hl with | [_, _], _ => rfl
  have g_gcd := PySem.W.mg_of X G a_gcd
  have F_low := fun_mk (st := sLow) l_low c_low k_low
  have b_low := F_low.binds (ps := ["fraction"]) fun _ _ _ _ _ _ us hl => match us, hl with | [_], _ => rfl
  have g_low := PySem.W.mg_of X G a_low
  have F_less := fun_mk (st := sLess) l_less c_less k_less
  have b_less := F_less.binds (ps := ["one", "other"]) fun _ _ _ _ _ _ us hl => match us, hl with | [_, _], _ => rfl
  have g_less := PySem.W.mg_of X G a_less
  have F_greater := fun_mk (st := sGreater) l_greater c_greater k_greater
  have b_greater := F_greater.binds (ps := ["one", "other"]) fun _ _ _ _ _ _ us hl => match us, hl with | [_, _], _ => rfl
  have g_greater := PySem.W.mg_of X G a_greater
  have F_lesser := fun_mk (st := sLesser) l_lesser c_lesser k_lesser
  have b_lesser := F_lesser.binds (ps := ["one", "other"]) fun _ _ _ _ _ _ us hl => match us, hl with | [_, _], _ => rfl
  have g_lesser := PySem.W.mg_of X G a_lesser
  have F_down := fun_mk (st := sDown) l_down c_down k_down
  have b_down := F_down.binds (ps := ["number", "fraction"]) fun _ _ _ _ _ _ us hl => match us, hl with | [_, _], _ => rfl
  have g_down := PySem.W.mg_of X G a_down
  have F_up := fun_mk (st := sUp) l_up c_up k_up
  have b_up := F_up.binds (ps := ["number", "fraction"]) fun _ _ _ _ _ _ us hl => match us, hl with | [_, _], _ => rfl
  have g_up := PySem.W.mg_of X G a_up
  have F_initS := fun_mk (st := sInitS) l_initS c_initS k_initS
  have b_initS := F_initS.binds (ps := ["self", "shortest", "longest", "row"]) fun _ _ _ _ _ _ us hl => match us, hl with | [_, _, _, _], _ => rfl
  have F_holds := fun_mk (st := sHolds) l_holds c_holds k_holds
  have b_holds := F_holds.binds (ps := ["self", "period"]) fun _ _ _ _ _ _ us hl => match us, hl with | [_, _], _ => rfl
  have m_holds : Meth K D "holds" f_holds := ⟨a_holds, i_holds, k_holds⟩
  have F_try := fun_mk (st := sTry) l_try c_try k_try
  have b_try := F_try.binds (ps := ["stretch", "times", "time", "slack"]) fun _ _ _ _ _ _ us hl => match us, hl with | [_, _, _, _], _ => rfl
  have g_try := PySem.W.mg_of X G a_try
  have F_nar := fun_mk (st := sNar) l_nar c_nar k_nar
  have b_nar := F_nar.binds (ps := ["stretch", "times", "time", "beat", "slack"]) fun _ _ _ _ _ _ us hl => match us, hl with | [_, _, _, _, _], _ => rfl
  have g_nar := PySem.W.mg_of X G a_nar
  have F_parts := fun_mk (st := sParts) l_parts c_parts k_parts
  have b_parts := F_parts.binds (ps := ["stretch", "times", "time", "slack"]) fun _ _ _ _ _ _ us hl => match us, hl with | [_, _, _, _], _ => rfl
  have g_parts := PySem.W.mg_of X G a_parts
  have F_find := fun_mk (st := sFind) l_find c_find k_find
  have b_find := F_find.binds (ps := ["lo", "hi", "off", "times"]) fun _ _ _ _ _ _ us hl => match us, hl with | [_, _, _, _], _ => rfl
  have g_find := PySem.W.mg_of X G a_find
  have F_win := fun_mk (st := sWin) l_win c_win k_win
  have b_win := F_win.binds (ps := ["times", "row", "off", "period"]) fun _ _ _ _ _ _ us hl => match us, hl with | [_, _, _, _], _ => rfl
  have g_win := PySem.W.mg_of X G a_win
  have F_ahead := fun_mk (st := sAhead) l_ahead c_ahead k_ahead
  have b_ahead := F_ahead.binds (ps := ["window", "period", "time"]) fun _ _ _ _ _ _ us hl => match us, hl with | [_, _, _], _ => rfl
  have g_ahead := PySem.W.mg_of X G a_ahead
  have F_ask := fun_mk (st := sAsk) l_ask c_ask k_ask
  have b_ask := F_ask.binds (ps := ["above", "below"]) fun _ _ _ _ _ _ us hl => match us, hl with | [_, _], _ => rfl
  have g_ask := PySem.W.mg_of X G a_ask
  have F_told := fun_mk (st := sTold) l_told c_told k_told
  have b_told := F_told.binds (ps := ["numbers"]) fun _ _ _ _ _ _ us hl => match us, hl with | [_], _ => rfl
  have g_told := PySem.W.mg_of X G a_told
  have F_tw := fun_mk (st := sTW) l_tw c_tw k_tw
  have b_tw := F_tw.binds (ps := ["window"]) fun _ _ _ _ _ _ us hl => match us, hl with | [_], _ => rfl
  have g_tw := PySem.W.mg_of X G a_tw
  have F_initB := fun_mk (st := sInitB) l_initB c_initB k_initB
  have b_initB := F_initB.binds (ps := ["self"]) fun _ _ _ _ _ _ us hl => match us, hl with | [_], _ => rfl
  have F_with := fun_mk (st := sWith) l_with c_with k_with
  have b_with := F_with.binds (ps := ["self", "times"]) fun _ _ _ _ _ _ us hl => match us, hl with | [_, _], _ => rfl
  have m_with : Meth K C "stretches_with" f_with := ⟨a_with, i_with, k_with⟩
  have F_keep := fun_mk (st := sKeep) l_keep c_keep k_keep
  have b_keep := F_keep.binds (ps := ["self", "times"]) fun _ _ _ _ _ _ us hl => match us, hl with | [_, _], _ => rfl
  have m_keep : Meth K C "keep_times" f_keep := ⟨a_keep, i_keep, k_keep⟩
  have F_of := fun_mk (st := sOf) l_of c_of k_of
  have b_of := F_of.binds (ps := ["self", "period"]) fun _ _ _ _ _ _ us hl => match us, hl with | [_, _], _ => rfl
  have m_of : Meth K C "stretch_of" f_of := ⟨a_of, i_of, k_of⟩
  have F_ref := fun_mk (st := sRef) l_ref c_ref k_ref
  have b_ref := F_ref.binds (ps := ["self", "above", "below"]) fun _ _ _ _ _ _ us hl => match us, hl with | [_, _, _], _ => rfl
  have m_ref : Meth K C "window_refusal" f_ref := ⟨a_ref, i_ref, k_ref⟩
  have F_by := fun_mk (st := sBy) l_by c_by k_by
  have b_by := F_by.binds (ps := ["self", "period"]) fun _ _ _ _ _ _ us hl => match us, hl with | [_, _], _ => rfl
  have m_by : Meth K C "window_by" f_by := ⟨a_by, i_by, k_by⟩
  have F_begins := fun_mk (st := sBegins) l_begins c_begins k_begins
  have b_begins := F_begins.binds (ps := ["self", "lo", "hi", "off"]) fun _ _ _ _ _ _ us hl => match us, hl with | [_, _, _, _], _ => rfl
  have m_begins : Meth K C "begins" f_begins := ⟨a_begins, i_begins, k_begins⟩
  have F_seen := fun_mk (st := sSeen) l_seen c_seen k_seen
  have b_seen := F_seen.binds (ps := ["self", "time"]) fun _ _ _ _ _ _ us hl => match us, hl with | [_, _], _ => rfl
  have m_seen : Meth K C "seen" f_seen := ⟨a_seen, i_seen, k_seen⟩
  have F_drop := fun_mk (st := sDrop) l_drop c_drop k_drop
  have b_drop := F_drop.binds (ps := ["self", "time"]) fun _ _ _ _ _ _ us hl => match us, hl with | [_, _], _ => rfl
  have m_drop : Meth K C "drop" f_drop := ⟨a_drop, i_drop, k_drop⟩
  have F_periods := fun_mk (st := sPeriods) l_periods c_periods k_periods
  have b_periods := F_periods.binds (ps := ["self"]) fun _ _ _ _ _ _ us hl => match us, hl with | [_], _ => rfl
  have m_periods : Meth K C "periods" f_periods := ⟨a_periods, i_periods, k_periods⟩
  have F_could := fun_mk (st := sCould) l_could c_could k_could
  have b_could := F_could.binds (ps := ["self", "time"]) fun _ _ _ _ _ _ us hl => match us, hl with | [_, _], _ => rfl
  have m_could : Meth K C "could" f_could := ⟨a_could, i_could, k_could⟩
  have F_fits := fun_mk (st := sFits) l_fits c_fits k_fits
  have b_fits := F_fits.binds (ps := ["self", "above", "below"]) fun _ _ _ _ _ _ us hl => match us, hl with | [_, _, _], _ => rfl
  have m_fits : Meth K C "fits" f_fits := ⟨a_fits, i_fits, k_fits⟩
  have F_window := fun_mk (st := sWindow) l_window c_window k_window
  have b_window := F_window.binds (ps := ["self", "above", "below"]) fun _ _ _ _ _ _ us hl => match us, hl with | [_, _, _], _ => rfl
  have m_window : Meth K C "window" f_window := ⟨a_window, i_window, k_window⟩
  have F_beats := fun_mk (st := sBeats) l_beats c_beats k_beats
  have b_beats := F_beats.binds (ps := ["self", "stretch"]) fun _ _ _ _ _ _ us hl => match us, hl with | [_, _], _ => rfl
  have m_beats : Meth K C "beats" f_beats := ⟨a_beats, i_beats, k_beats⟩
  have F_next := fun_mk (st := sNext) l_next c_next k_next
  have b_next := F_next.binds (ps := ["self", "above", "below", "time"]) fun _ _ _ _ _ _ us hl => match us, hl with | [_, _, _, _], _ => rfl
  have m_next : Meth K C "next_one" f_next := ⟨a_next, i_next, k_next⟩
  have F_alone := fun_mk (st := sAlone) l_alone c_alone k_alone
  have b_alone := F_alone.binds (ps := ["self"]) fun _ _ _ _ _ _ us hl => match us, hl with | [_], _ => rfl
  have m_alone : Meth K C "alone" f_alone := ⟨a_alone, i_alone, k_alone⟩
  have F_times := fun_mk (st := sTimes) l_times c_times k_times
  have b_times := F_times.binds (ps := ["self"]) fun _ _ _ _ _ _ us hl => match us, hl with | [_], _ => rfl
  have m_times : Meth K C "times" f_times := ⟨a_times, i_times, k_times⟩
  have F_call := fun_mk (st := sCall) l_call c_call k_call
  have b_call := F_call.binds (ps := ["beat", "call", "numbers"]) fun _ _ _ _ _ _ us hl => match us, hl with | [_, _, _], _ => rfl
  have g_call := PySem.W.mg_of X G a_call
  have F_answers := fun_mk (st := sAnswers) l_answers c_answers k_answers
  have g_answers := PySem.W.mg_of X G a_answers
  have MD : Mk K D f_initS := ⟨mkD, a_initS, i_initS, kcD⟩
  have clD : Cls K D := ⟨pgD, hdD, poD, saD⟩
  have gD := PySem.W.mg_of X G aD
  have MC : Mk K C f_initB := ⟨mkC, a_initB, i_initB, kcC⟩
  have clC : Cls K C := ⟨pgC, hdC, poC, saC⟩
  have gC := PySem.W.mg_of X G aC
  have d_SHORTEST_LO := PySem.W.mg_of X G v_SHORTEST_LO
  have d_LONGEST_HI := PySem.W.mg_of X G v_LONGEST_HI
  have d_LATEST_TIME := PySem.W.mg_of X G v_LATEST_TIME
  have d_MOST_TIMES := PySem.W.mg_of X G v_MOST_TIMES
  have d_GREATEST_BELOW := PySem.W.mg_of X G v_GREATEST_BELOW
  have y_len := PySem.W.mg_none_of X G z_len
  have y_sorted := PySem.W.mg_none_of X G z_sorted
  have y_list := PySem.W.mg_none_of X G z_list
  have y_range := PySem.W.mg_none_of X G z_range
  have y_zip := PySem.W.mg_none_of X G z_zip
  have y_enumerate := PySem.W.mg_none_of X G z_enumerate
  have y_max := PySem.W.mg_none_of X G z_max
  have y_min := PySem.W.mg_none_of X G z_min
  have gw_hn := PySem.W.mg_of X G w_hn
  have hw_hn : ∀ H, SqT K H h_hn (([3, 1, 1, 0, 2, 1, 2, 1, 3, 0, 0] : List Int).map V.int) := fun H => .inr ⟨_, _, _, wl_hn, rfl, rfl, by show 11 ≤ sizeLine; decide, .cons ⟨_, rfl⟩ (.cons ⟨_, rfl⟩ (.cons ⟨_, rfl⟩ (.cons ⟨_, rfl⟩ (.cons ⟨_, rfl⟩ (.cons ⟨_, rfl⟩ (.cons ⟨_, rfl⟩ (.cons ⟨_, rfl⟩ (.cons ⟨_, rfl⟩ (.cons ⟨_, rfl⟩ (.cons ⟨_, rfl⟩ .nil))))))))))⟩
  have TS : TxtS K mg D := ⟨clD, nD_shortest, nD_longest, nD_row, gD⟩
  have TB : TxtB K mg C D := ⟨clC, nC_lo, nC_hi, nC_off, nC_seen_times, nC_stretches, gC, fun e => by
    rw [e] at nC_holds
    rw [nC_holds] at a_holds
    cases a_holds⟩
  have TK : TxtK mg := ⟨⟨_, d_SHORTEST_LO⟩, ⟨_, d_LONGEST_HI⟩, ⟨_, d_LATEST_TIME⟩, ⟨_, d_MOST_TIMES⟩, ⟨_, d_GREATEST_BELOW⟩⟩
  refine ⟨PySem.W.fnOf "answers" "answers" (defArgs sAnswers) (defBody sAnswers) (defScope sAnswers) .none kV_answers dc_answers pm_answers an_answers cd_answers ct_answers, fun s us hu => match us, hu with | [_], _ => .of_eq rfl, fun base _ _ => ?_⟩
  have GT : FnOk P w K mg base CX0 2 f_try _ ["stretch", "times", "time", "slack"] (spTry K D) := ok_try F_try TS F_down b_down g_down F_up b_up g_up y_len y_list y_range
  have GN : FnOk P w K mg base CX0 3 f_nar _ ["stretch", "times", "time", "beat", "slack"] (spNar K D) := ok_nar F_nar TS F_greater b_greater g_greater F_lesser b_lesser g_lesser F_less b_less g_less MD F_initS b_initS y_zip
  have GP : FnOk P w K mg base CX0 4 f_parts _ ["stretch", "times", "time", "slack"] (spParts K D) := ok_parts F_parts ⟨_, _, _, _, GT, k_try, b_try, g_try, GN, k_nar, b_nar, g_nar⟩
  have GF : FnOk P w K mg base CX0 5 f_find _ ["lo", "hi", "off", "times"] (spFind K D) := ok_find F_find TS GP k_parts b_parts g_parts MD F_initS b_initS y_enumerate
  have GW : FnOk P w K mg base CX0 6 f_with _ ["self", "times"] (spWith C D K) := ok_with F_with TB GF k_find b_find g_find
  have GK : FnOk P w K mg base CX0 7 f_keep _ ["self", "times"] (spKeep C D) := ok_keep F_keep TB GW m_with b_with
  have GI : FnOk P w K mg base CX0 8 f_initB _ ["self"] (spInitB C D) := ok_initB F_initB TB GK m_keep b_keep
  have Z : Calls2 P w K mg base C D := ⟨TB, TK, y_len, y_sorted, _, _, GW, m_with, b_with, _, _, GK, m_keep, b_keep⟩
  have GO : FnOk P w K mg base CX0 1 f_told _ ["numbers"] spTold := ok_told F_told y_len
  have GL : FnOk P w K mg base CX0 2 f_low _ ["fraction"] spLow := ok_low F_low F_gcd b_gcd g_gcd
  have GTW : FnOk P w K mg base CX0 3 f_tw _ ["window"] spTW := ok_tw F_tw GO k_told b_told g_told GL k_low b_low g_low y_list
  have GAsk : FnOk P w K mg base CX0 1 f_ask _ ["above", "below"] spAsk := ok_ask F_ask TK
  have GHo : FnOk P w K mg base CX0 2 f_holds _ ["self", "period"] (spHolds D) := ok_holds F_holds TS F_less b_less g_less
  have GOf : FnOk P w K mg base CX0 3 f_of _ ["self", "period"] (spOf C D) := ok_of F_of TB TS GHo m_holds b_holds
  have GWin : FnOk P w K mg base CX0 1 f_win _ ["times", "row", "off", "period"] (spWin K) := ok_win F_win y_zip y_max y_min
  have GAh : FnOk P w K mg base CX0 1 f_ahead _ ["window", "period", "time"] spAhead := ok_ahead F_ahead
  have GRef : FnOk P w K mg base CX0 4 f_ref _ ["self", "above", "below"] (spRef C D) := ok_ref F_ref TB y_len GAsk k_ask b_ask g_ask GOf m_of b_of
  have GBy : FnOk P w K mg base CX0 4 f_by _ ["self", "period"] (spBy C D) := ok_by F_by TB TS GOf m_of b_of GWin k_win b_win g_win
  have Y : Calls3 P w K mg base C D := ⟨_, _, GRef, m_ref, b_ref, _, _, GBy, m_by, b_by, _, _, GTW, k_tw, b_tw, g_tw⟩
  have G0 : FnOk P w K mg base CX0 8 f_begins _ ["self", "lo", "hi", "off"] (spBegins C D) := ok_begins F_begins Z
  have G1 : FnOk P w K mg base CX0 8 f_seen _ ["self", "time"] (spSeen C D) := ok_seen F_seen Z
  have G2 : FnOk P w K mg base CX0 8 f_drop _ ["self", "time"] (spDrop C D) := ok_drop F_drop Z
  have G3 : FnOk P w K mg base CX0 3 f_periods _ ["self"] (spPeriods C D) := ok_periods F_periods Z TS GL k_low b_low g_low GO k_told b_told g_told
  have G4 : FnOk P w K mg base CX0 4 f_fits _ ["self", "above", "below"] (spFits C D) := ok_fits F_fits Z TS GAsk k_ask b_ask g_ask GOf m_of b_of GO k_told b_told g_told
  have G5 : FnOk P w K mg base CX0 7 f_could _ ["self", "time"] (spCould C D) := ok_could F_could Z
  have G6 : FnOk P w K mg base CX0 5 f_window _ ["self", "above", "below"] (spWindow C D) := ok_window F_window TB Y
  have G7 : FnOk P w K mg base CX0 2 f_beats _ ["self", "stretch"] (spBeats C D) := ok_beats F_beats TB TS y_len GO k_told b_told g_told
  have G8 : FnOk P w K mg base CX0 5 f_next _ ["self", "above", "below", "time"] (spNext C D) := ok_next F_next TB TK Y GAh k_ahead b_ahead g_ahead
  have G9 : FnOk P w K mg base CX0 1 f_alone _ ["self"] (spAlone C D) := ok_alone F_alone TB y_len
  have G10 : FnOk P w K mg base CX0 2 f_times _ ["self"] (spTimes C D) := ok_times F_times TB y_len GO k_told b_told g_told
  have A0 : CallsA P w K mg base C D := ⟨_, _, G0, m_begins, b_begins, _, _, G1, m_seen, b_seen, _, _, G2, m_drop, b_drop, _, _, G3, m_periods, b_periods, _, _, G4, m_fits, b_fits, _, _, G5, m_could, b_could, _, _, G6, m_window, b_window, _, _, G7, m_beats, b_beats, _, _, G8, m_next, b_next, _, _, G9, m_alone, b_alone, _, _, G10, m_times, b_times⟩
  have GA : FnOk P w K mg base CX0 9 f_call _ ["beat", "call", "numbers"] (spAnswer K C D) := ok_call F_call TB A0
  exact ok_ans (by decide) F_answers TB y_len MC GI b_initB GA k_call b_call g_call gw_hn hw_hn
end Ev
set_option Elab.async false
set_option maxRecDepth 100000
open PySem PySem.W PyProof.Rows
set_option maxRecDepth 100000 in
set_option maxHeartbeats 8000000 in
theorem PySem.Challenge.cw_evenbeats_s01_answers_holds : PySem.Challenge.rw_evenbeats_s01_answers.Holds := by
  w_on; k_headS; (case hw => exact ⟨[.list [.int 3]], by decide +kernel, by decide +kernel⟩)
  k_fillS
  refine L2.walk_specK (r := PySem.Challenge.rw_evenbeats_s01_answers) (k := 11) (CX := L2.CX0) (ps := ["calls"]) (sp := Ev.spAns) (by decide +kernel) rfl rfl ⟨rfl, by decide, by decide⟩ (fun w h Y => PySem.W.kIn_of Y) ?F ?S (fun _ _ _ _ z => z)
  case F =>
    intro w mg fa h Y KX G hmg
    refine' Ev.all_mk KX G hmg ?aD ?aC ?a_gcd ?l_gcd ?c_gcd ?k_gcd ?a_low ?l_low ?c_low ?k_low ?a_less ?l_less ?c_less ?k_less ?a_greater ?l_greater ?c_greater ?k_greater ?a_lesser ?l_lesser ?c_lesser ?k_lesser ?a_down ?l_down ?c_down ?k_down ?a_up ?l_up ?c_up ?k_up ?a_initS ?i_initS ?l_initS ?c_initS ?k_initS ?a_holds ?i_holds ?l_holds ?c_holds ?k_holds ?a_try ?l_try ?c_try ?k_try ?a_nar ?l_nar ?c_nar ?k_nar ?a_parts ?l_parts ?c_parts ?k_parts ?a_find ?l_find ?c_find ?k_find ?a_win ?l_win ?c_win ?k_win ?a_ahead ?l_ahead ?c_ahead ?k_ahead ?a_ask ?l_ask ?c_ask ?k_ask ?a_told ?l_told ?c_told ?k_told ?a_tw ?l_tw ?c_tw ?k_tw ?a_initB ?i_initB ?l_initB ?c_initB ?k_initB ?a_with ?i_with ?l_with ?c_with ?k_with ?a_keep ?i_keep ?l_keep ?c_keep ?k_keep ?a_of ?i_of ?l_of ?c_of ?k_of ?a_ref ?i_ref ?l_ref ?c_ref ?k_ref ?a_by ?i_by ?l_by ?c_by ?k_by ?a_begins ?i_begins ?l_begins ?c_begins ?k_begins ?a_seen ?i_seen ?l_seen ?c_seen ?k_seen ?a_drop ?i_drop ?l_drop ?c_drop ?k_drop ?a_periods ?i_periods ?l_periods ?c_periods ?k_periods ?a_could ?i_could ?l_could ?c_could ?k_could ?a_fits ?i_fits ?l_fits ?c_fits ?k_fits ?a_window ?i_window ?l_window ?c_window ?k_window ?a_beats ?i_beats ?l_beats ?c_beats ?k_beats ?a_next ?i_next ?l_next ?c_next ?k_next ?a_alone ?i_alone ?l_alone ?c_alone ?k_alone ?a_times ?i_times ?l_times ?c_times ?k_times ?a_call ?l_call ?c_call ?k_call ?a_answers ?l_answers ?c_answers ?k_answers ?pgD ?hdD ?poD ?saD ?mkD ?kcD ?nD_shortest ?nD_longest ?nD_row ?pgC ?hdC ?poC ?saC ?mkC ?kcC ?nC_lo ?nC_hi ?nC_off ?nC_seen_times ?nC_stretches ?nC_holds ?v_SHORTEST_LO ?v_LONGEST_HI ?v_LATEST_TIME ?v_MOST_TIMES ?v_GREATEST_BELOW ?w_hn ?wl_hn ?z_len ?z_sorted ?z_list ?z_range ?z_zip ?z_enumerate ?z_max ?z_min
    (case aD => k_is)
    (case aC => k_is)
    (case a_gcd => k_is)
    (case l_gcd => k_is)
    (case c_gcd => k_is)
    (case k_gcd => k_is)
    (case a_low => k_is)
    (case l_low => k_is)
    (case c_low => k_is)
    (case k_low => k_is)
    (case a_less => k_is)
    (case l_less => k_is)
    (case c_less => k_is)
    (case k_less => k_is)
    (case a_greater => k_is)
    (case l_greater => k_is)
    (case c_greater => k_is)
    (case k_greater => k_is)
    (case a_lesser => k_is)
    (case l_lesser => k_is)
    (case c_lesser => k_is)
    (case k_lesser => k_is)
    (case a_down => k_is)
    (case l_down => k_is)
    (case c_down => k_is)
    (case k_down => k_is)
    (case a_up => k_is)
    (case l_up => k_is)
    (case c_up => k_is)
    (case k_up => k_is)
    (case a_initS => k_is)
    (case i_initS => k_is)
    (case l_initS => k_is)
    (case c_initS => k_is)
    (case k_initS => k_is)
    (case a_holds => k_is)
    (case i_holds => k_is)
    (case l_holds => k_is)
    (case c_holds => k_is)
    (case k_holds => k_is)
    (case a_try => k_is)
    (case l_try => k_is)
    (case c_try => k_is)
    (case k_try => k_is)
    (case a_nar => k_is)
    (case l_nar => k_is)
    (case c_nar => k_is)
    (case k_nar => k_is)
    (case a_parts => k_is)
    (case l_parts => k_is)
    (case c_parts => k_is)
    (case k_parts => k_is)
    (case a_find => k_is)
    (case l_find => k_is)
    (case c_find => k_is)
    (case k_find => k_is)
    (case a_win => k_is)
    (case l_win => k_is)
    (case c_win => k_is)
    (case k_win => k_is)
    (case a_ahead => k_is)
    (case l_ahead => k_is)
    (case c_ahead => k_is)
    (case k_ahead => k_is)
    (case a_ask => k_is)
    (case l_ask => k_is)
    (case c_ask => k_is)
    (case k_ask => k_is)
    (case a_told => k_is)
    (case l_told => k_is)
    (case c_told => k_is)
    (case k_told => k_is)
    (case a_tw => k_is)
    (case l_tw => k_is)
    (case c_tw => k_is)
    (case k_tw => k_is)
    (case a_initB => k_is)
    (case i_initB => k_is)
    (case l_initB => k_is)
    (case c_initB => k_is)
    (case k_initB => k_is)
    (case a_with => k_is)
    (case i_with => k_is)
    (case l_with => k_is)
    (case c_with => k_is)
    (case k_with => k_is)
    (case a_keep => k_is)
    (case i_keep => k_is)
    (case l_keep => k_is)
    (case c_keep => k_is)
    (case k_keep => k_is)
    (case a_of => k_is)
    (case i_of => k_is)
    (case l_of => k_is)
    (case c_of => k_is)
    (case k_of => k_is)
    (case a_ref => k_is)
    (case i_ref => k_is)
    (case l_ref => k_is)
    (case c_ref => k_is)
    (case k_ref => k_is)
    (case a_by => k_is)
    (case i_by => k_is)
    (case l_by => k_is)
    (case c_by => k_is)
    (case k_by => k_is)
    (case a_begins => k_is)
    (case i_begins => k_is)
    (case l_begins => k_is)
    (case c_begins => k_is)
    (case k_begins => k_is)
    (case a_seen => k_is)
    (case i_seen => k_is)
    (case l_seen => k_is)
    (case c_seen => k_is)
    (case k_seen => k_is)
    (case a_drop => k_is)
    (case i_drop => k_is)
    (case l_drop => k_is)
    (case c_drop => k_is)
    (case k_drop => k_is)
    (case a_periods => k_is)
    (case i_periods => k_is)
    (case l_periods => k_is)
    (case c_periods => k_is)
    (case k_periods => k_is)
    (case a_could => k_is)
    (case i_could => k_is)
    (case l_could => k_is)
    (case c_could => k_is)
    (case k_could => k_is)
    (case a_fits => k_is)
    (case i_fits => k_is)
    (case l_fits => k_is)
    (case c_fits => k_is)
    (case k_fits => k_is)
    (case a_window => k_is)
    (case i_window => k_is)
    (case l_window => k_is)
    (case c_window => k_is)
    (case k_window => k_is)
    (case a_beats => k_is)
    (case i_beats => k_is)
    (case l_beats => k_is)
    (case c_beats => k_is)
    (case k_beats => k_is)
    (case a_next => k_is)
    (case i_next => k_is)
    (case l_next => k_is)
    (case c_next => k_is)
    (case k_next => k_is)
    (case a_alone => k_is)
    (case i_alone => k_is)
    (case l_alone => k_is)
    (case c_alone => k_is)
    (case k_alone => k_is)
    (case a_times => k_is)
    (case i_times => k_is)
    (case l_times => k_is)
    (case c_times => k_is)
    (case k_times => k_is)
    (case a_call => k_is)
    (case l_call => k_is)
    (case c_call => k_is)
    (case k_call => k_is)
    (case a_answers => k_is)
    (case l_answers => k_is)
    (case c_answers => k_is)
    (case k_answers => k_is)
    (case pgD => k_is)
    (case hdD => k_is)
    (case poD => k_is)
    (case saD => k_is)
    (case mkD => k_is)
    (case kcD => k_is)
    (case nD_shortest => k_is)
    (case nD_longest => k_is)
    (case nD_row => k_is)
    (case pgC => k_is)
    (case hdC => k_is)
    (case poC => k_is)
    (case saC => k_is)
    (case mkC => k_is)
    (case kcC => k_is)
    (case nC_lo => k_is)
    (case nC_hi => k_is)
    (case nC_off => k_is)
    (case nC_seen_times => k_is)
    (case nC_stretches => k_is)
    (case nC_holds => k_is)
    (case v_SHORTEST_LO => k_is)
    (case v_LONGEST_HI => k_is)
    (case v_LATEST_TIME => k_is)
    (case v_MOST_TIMES => k_is)
    (case v_GREATEST_BELOW => k_is)
    (case w_hn => k_is)
    (case wl_hn => k_is)
    (case z_len => k_is)
    (case z_sorted => k_is)
    (case z_list => k_is)
    (case z_range => k_is)
    (case z_zip => k_is)
    (case z_enumerate => k_is)
    (case z_max => k_is)
    (case z_min => k_is)
  case S =>
    intro K H xs a hO hwi hask hx
    cases hx with
    | cons h1 h2 =>
      cases h2
      cases h1 with
      | lst hs ha =>
        have e := L2.ints_dw a.1 _ ha
        subst e
        obtain ⟨cs, hcs⟩ := Ev.asked_of hask
        refine ⟨_, a.1, cs, rfl, hs, hcs, fun H' p hp => ?_⟩
        have h9 : PySy41.answers a.1 = Ev.tellN Sy41.init cs := hcs.ans
        rw [← h9] at hp
        exact .lst (L2.SqL.of hp) (L2.dw_ints _)
