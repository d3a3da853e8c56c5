import PyProof.Rows.All
import Wide.All
import OpenK.AllK
import Wide.FinOn
import Open.SpecLaws
import KE.OsGo
import HandS.ForSpec
import HandS.Wide
import HandS.TupAny
import PyFlatLaws
import PySem.Challenge.RW_stationsignals_s01_answers
import HandS.Comp
set_option linter.all false
/-! Fractions: what the specification's are, their sizes, the loop of the greatest common divisor. -/
namespace Sig
open Kv414 (Q Factor)
open Kv415 (Station Point)

/-- with nothing in common, the second 1 or more -/
structure Red (q : Q) : Prop where
  pos : 0 < q.d
  one : Nat.gcd q.n.natAbs q.d = 1
/-- within so many bits -/
structure Sz (k : Nat) (q : Q) : Prop where
  pos : 0 < q.d
  up : q.n.natAbs < 2 ^ k
  lo : q.d < 2 ^ k

theorem gcd_pos {n : Int} {d : Nat} (h : 0 < d) : 0 < Nat.gcd n.natAbs d := Nat.gcd_pos_of_pos_right _ h
theorem red_eq {n : Int} {d : Nat} (h : 0 < d) : Q.red ⟨n, d⟩ = ⟨n / (Nat.gcd n.natAbs d : Int), d / Nat.gcd n.natAbs d⟩ := by
  have g := gcd_pos (n := n) h
  show (if Nat.gcd n.natAbs d = 0 then (⟨0, 1⟩ : Q) else ⟨n / ((Nat.gcd n.natAbs d : Nat) : Int), d / Nat.gcd n.natAbs d⟩) = _
  rw [if_neg (by omega)]
theorem div_abs {n : Int} {g : Nat} (hg : 0 < g) (h : g ∣ n.natAbs) : (n / (g : Int)).natAbs = n.natAbs / g := by
  have h2 : (g : Int) ∣ n := Int.ofNat_dvd_left.mpr h
  rw [Int.natAbs_ediv_of_dvd h2, Int.natAbs_natCast]
theorem red_red {n : Int} {d : Nat} (h : 0 < d) : Red (Q.red ⟨n, d⟩) := by
  have g := gcd_pos (n := n) h
  have hd : Nat.gcd n.natAbs d ∣ d := Nat.gcd_dvd_right _ _
  have hn : Nat.gcd n.natAbs d ∣ n.natAbs := Nat.gcd_dvd_left _ _
  rw [red_eq h]
  refine ⟨Nat.div_pos (Nat.le_of_dvd h hd) g, ?_⟩
  show Nat.gcd (n / (Nat.gcd n.natAbs d : Int)).natAbs (d / Nat.gcd n.natAbs d) = 1
  rw [div_abs g hn, Nat.gcd_div hn hd, Nat.div_self g]
theorem red_of {q : Q} (h : Red q) : q.red = q := by
  obtain ⟨n, d⟩ := q
  have h1 : Nat.gcd n.natAbs d = 1 := h.one
  rw [red_eq h.pos, h1]
  show (⟨n / ((1 : Nat) : Int), d / 1⟩ : Q) = ⟨n, d⟩
  rw [Nat.div_one, show ((1 : Nat) : Int) = 1 from rfl, Int.ediv_one]
theorem told_of {q : Q} (h : Red q) : q.told = [q.n, (q.d : Int)] := by
  show [q.red.n, (q.red.d : Int)] = _
  rw [red_of h]
theorem red_sz {n : Int} {d k : Nat} (h : 0 < d) (hn : n.natAbs < 2 ^ k) (hd : d < 2 ^ k) : Sz k (Q.red ⟨n, d⟩) := by
  have g := gcd_pos (n := n) h
  have hdv : Nat.gcd n.natAbs d ∣ d := Nat.gcd_dvd_right _ _
  have hnv : Nat.gcd n.natAbs d ∣ n.natAbs := Nat.gcd_dvd_left _ _
  rw [red_eq h]
  refine ⟨Nat.div_pos (Nat.le_of_dvd h hdv) g, ?_, Nat.lt_of_le_of_lt (Nat.div_le_self _ _) hd⟩
  show (n / (Nat.gcd n.natAbs d : Int)).natAbs < 2 ^ k
  rw [div_abs g hnv]
  exact Nat.lt_of_le_of_lt (Nat.div_le_self _ _) hn
theorem Sz.mono {i j : Nat} {q : Q} (h : Sz i q) (e : i ≤ j) : Sz j q :=
  ⟨h.pos, Nat.lt_of_lt_of_le h.up (Nat.pow_le_pow_right (by decide) e), Nat.lt_of_lt_of_le h.lo (Nat.pow_le_pow_right (by decide) e)⟩
theorem mul_lt {x y i j : Nat} (hx : x < 2 ^ i) (hy : y < 2 ^ j) : x * y < 2 ^ (i + j) := by
  rw [Nat.pow_add]
  exact Nat.mul_lt_mul'' hx hy
theorem lt_pow {x i j : Nat} (h : x < 2 ^ i) (e : i ≤ j) : x < 2 ^ j := Nat.lt_of_lt_of_le h (Nat.pow_le_pow_right (by decide) e)
theorem sum_lt {x y : Int} {k : Nat} (hx : x.natAbs < 2 ^ k) (hy : y.natAbs < 2 ^ k) : (x + y).natAbs < 2 ^ (k + 1) := by
  rw [Nat.pow_succ]
  omega
theorem dif_lt {x y : Int} {k : Nat} (hx : x.natAbs < 2 ^ k) (hy : y.natAbs < 2 ^ k) : (x - y).natAbs < 2 ^ (k + 1) := by
  rw [Nat.pow_succ]
  omega
theorem nd_lt {n : Int} {d i j : Nat} (hn : n.natAbs < 2 ^ i) (hd : d < 2 ^ j) : (n * (d : Int)).natAbs < 2 ^ (i + j) := by
  rw [Int.natAbs_mul, Int.natAbs_natCast]
  exact mul_lt hn hd
theorem add_red {a b : Q} (ha : 0 < a.d) (hb : 0 < b.d) : Red (a.add b) := red_red (Nat.mul_pos ha hb)
theorem sub_red {a b : Q} (ha : 0 < a.d) (hb : 0 < b.d) : Red (a.sub b) := red_red (Nat.mul_pos ha hb)
theorem mul_red {a b : Q} (ha : 0 < a.d) (hb : 0 < b.d) : Red (a.mul b) := red_red (Nat.mul_pos ha hb)
theorem add_sz {a b : Q} {i j : Nat} (ha : Sz i a) (hb : Sz j b) : Sz (i + j + 1) (a.add b) :=
  red_sz (Nat.mul_pos ha.pos hb.pos) (sum_lt (nd_lt ha.up hb.lo) (by rw [Nat.add_comm i j]; exact nd_lt hb.up ha.lo))
    (Nat.lt_of_lt_of_le (mul_lt ha.lo hb.lo) (Nat.pow_le_pow_right (by decide) (by omega)))
theorem sub_sz {a b : Q} {i j : Nat} (ha : Sz i a) (hb : Sz j b) : Sz (i + j + 1) (a.sub b) :=
  red_sz (Nat.mul_pos ha.pos hb.pos) (dif_lt (nd_lt ha.up hb.lo) (by rw [Nat.add_comm i j]; exact nd_lt hb.up ha.lo))
    (Nat.lt_of_lt_of_le (mul_lt ha.lo hb.lo) (Nat.pow_le_pow_right (by decide) (by omega)))
theorem mul_sz {a b : Q} {i j : Nat} (ha : Sz i a) (hb : Sz j b) : Sz (i + j) (a.mul b) :=
  red_sz (Nat.mul_pos ha.pos hb.pos) (by rw [Int.natAbs_mul]; exact mul_lt ha.up hb.up) (mul_lt ha.lo hb.lo)
theorem of_sz {z : Int} {k : Nat} (h : z.natAbs < 2 ^ k) (hk : 0 < k) : Sz k (Q.of z) :=
  ⟨Nat.zero_lt_one, h, Nat.one_lt_two_pow (by omega)⟩
theorem of_red (z : Int) : Red (Q.of z) := ⟨Nat.zero_lt_one, Nat.gcd_one_right _⟩
theorem add_comm (a b : Q) : a.add b = b.add a := by
  show Q.red ⟨a.n * b.d + b.n * a.d, a.d * b.d⟩ = Q.red ⟨b.n * a.d + a.n * b.d, b.d * a.d⟩
  rw [Int.add_comm, Nat.mul_comm]
theorem mul_comm (a b : Q) : a.mul b = b.mul a := by
  show Q.red ⟨a.n * b.n, a.d * b.d⟩ = Q.red ⟨b.n * a.n, b.d * a.d⟩
  rw [Int.mul_comm, Nat.mul_comm]
/-- two fractions with nothing in common that are the same by crosswise products are the same -/
theorem eq_of_cross {a b : Q} (ha : Red a) (hb : Red b) (h : a.n * (b.d : Int) = b.n * (a.d : Int)) : a = b := by
  obtain ⟨n, d⟩ := a
  obtain ⟨m, e⟩ := b
  have h' : n * (e : Int) = m * (d : Int) := h
  have ha1 : Nat.gcd n.natAbs d = 1 := ha.one
  have hb1 : Nat.gcd m.natAbs e = 1 := hb.one
  have hd0 : 0 < d := ha.pos
  have he0 : 0 < e := hb.pos
  have hab : n.natAbs * e = m.natAbs * d := by
    have := congrArg Int.natAbs h'
    rw [Int.natAbs_mul, Int.natAbs_mul, Int.natAbs_natCast, Int.natAbs_natCast] at this
    exact this
  have h1 : d ∣ e := by
    have : d ∣ n.natAbs * e := ⟨m.natAbs, by rw [hab, Nat.mul_comm]⟩
    exact Nat.Coprime.dvd_of_dvd_mul_left (Nat.Coprime.symm ha1) this
  have h2 : e ∣ d := by
    have : e ∣ m.natAbs * d := ⟨n.natAbs, by rw [← hab, Nat.mul_comm]⟩
    exact Nat.Coprime.dvd_of_dvd_mul_left (Nat.Coprime.symm hb1) this
  have ed : d = e := Nat.dvd_antisymm h1 h2
  subst ed
  have : n = m := Int.eq_of_mul_eq_mul_right (by omega) h'
  subst this
  rfl
/-- the greater of two: the program's test is <, the specification's <= -/
theorem greater_is {x y : Q} (hx : Red x) (hy : Red y) : (if x.n * (y.d : Int) < y.n * (x.d : Int) then y else x) = (if x.le y = true then y else x) := by
  show _ = if decide (x.n * (y.d : Int) ≤ y.n * (x.d : Int)) = true then y else x
  by_cases h : x.n * (y.d : Int) < y.n * (x.d : Int)
  · rw [if_pos h, if_pos (decide_eq_true (by omega))]
  · rw [if_neg h]
    by_cases h2 : x.n * (y.d : Int) ≤ y.n * (x.d : Int)
    · rw [if_pos (decide_eq_true h2)]
      exact eq_of_cross hx hy (by omega)
    · rw [if_neg (by rw [decide_eq_false h2]; exact Bool.false_ne_true)]

/-! ### the loop of greatest_common -/
theorem gcd_step {a b : Nat} : Nat.gcd (b % a) a = Nat.gcd a b := (Nat.gcd_rec a b).symm
theorem abs_is (i : Int) : (if i < 0 then -i else i) = (i.natAbs : Int) := by
  split <;> omega

/-! ### stations -/
structure Wf (s : Station) : Prop where
  t : -99 ≤ s.e.t ∧ s.e.t ≤ 99
  x : -99 ≤ s.e.x ∧ s.e.x ≤ 99
  p : 1 ≤ s.k.p ∧ s.k.p ≤ 9
  q : 1 ≤ s.k.q ∧ s.k.q ≤ 9
  one : Nat.gcd s.k.p s.k.q = 1
theorem lt8 {z : Int} (h : -198 ≤ z ∧ z ≤ 198) : z.natAbs < 2 ^ 8 := by
  show z.natAbs < 256
  omega
theorem Wf.u {s : Station} (h : Wf s) : Sz 8 (Q.of s.e.u) := of_sz (lt8 (by have := h.t; have := h.x; show -198 ≤ s.e.t - s.e.x ∧ s.e.t - s.e.x ≤ 198; omega)) (by decide)
theorem Wf.v {s : Station} (h : Wf s) : Sz 8 (Q.of s.e.v) := of_sz (lt8 (by have := h.t; have := h.x; show -198 ≤ s.e.t + s.e.x ∧ s.e.t + s.e.x ≤ 198; omega)) (by decide)
theorem Wf.sup {s : Station} (h : Wf s) : Sz 4 s.k.up := ⟨h.q.1, by show ((s.k.p : Nat) : Int).natAbs < 16; have := h.p; omega, by show s.k.q < 16; have := h.q; omega⟩
theorem Wf.sdown {s : Station} (h : Wf s) : Sz 4 s.k.down := ⟨h.p.1, by show ((s.k.q : Nat) : Int).natAbs < 16; have := h.q; omega, by show s.k.p < 16; have := h.p; omega⟩
structure SzP (k : Nat) (p : Point) : Prop where
  u : Sz k p.u
  v : Sz k p.v
structure RedP (p : Point) : Prop where
  u : Red p.u
  v : Red p.v
theorem SzP.mono {i j : Nat} {p : Point} (h : SzP i p) (e : i ≤ j) : SzP j p := ⟨h.u.mono e, h.v.mono e⟩
theorem at_sz {s : Station} {c : Q} {k : Nat} (h : Wf s) (hc : Sz k c) : SzP (k + 13) (s.at_ c) :=
  ⟨(add_sz h.u (mul_sz h.sdown hc)).mono (by omega), (add_sz h.v (mul_sz h.sup hc)).mono (by omega)⟩
theorem at_red {s : Station} {c : Q} (h : Wf s) (hc : 0 < c.d) : RedP (s.at_ c) :=
  ⟨add_red h.u.pos (mul_red h.sdown.pos hc).pos, add_red h.v.pos (mul_red h.sup.pos hc).pos⟩
theorem atU_sz {s : Station} {u : Q} {k : Nat} (h : Wf s) (hu : Sz k u) : Sz (k + 13) (s.atU u) := (mul_sz (sub_sz hu h.u) h.sup).mono (by omega)
theorem atV_sz {s : Station} {v : Q} {k : Nat} (h : Wf s) (hv : Sz k v) : Sz (k + 13) (s.atV v) := (mul_sz (sub_sz hv h.v) h.sdown).mono (by omega)
theorem atU_red {s : Station} {u : Q} (h : Wf s) (hu : 0 < u.d) : Red (s.atU u) := mul_red (sub_red hu h.u.pos).pos h.sup.pos
theorem atV_red {s : Station} {v : Q} (h : Wf s) (hv : 0 < v.d) : Red (s.atV v) := mul_red (sub_red hv h.v.pos).pos h.sdown.pos
theorem hears_sz {s : Station} {p : Point} {k : Nat} (h : Wf s) (hp : SzP k p) : Sz (k + 13) (s.hears p) := by
  show Sz (k + 13) (if (s.atU p.u).le (s.atV p.v) then s.atV p.v else s.atU p.u)
  split
  · exact atV_sz h hp.v
  · exact atU_sz h hp.u
theorem till_sz {s : Station} {p : Point} {k : Nat} (h : Wf s) (hp : SzP k p) : Sz (k + 13) (s.till p) := by
  show Sz (k + 13) (if (s.atU p.u).le (s.atV p.v) then s.atU p.u else s.atV p.v)
  split
  · exact atU_sz h hp.u
  · exact atV_sz h hp.v
theorem hears_red {s : Station} {p : Point} (h : Wf s) (hu : 0 < p.u.d) (hv : 0 < p.v.d) : Red (s.hears p) := by
  show Red (if (s.atU p.u).le (s.atV p.v) then s.atV p.v else s.atU p.u)
  split
  · exact atV_red h hv
  · exact atU_red h hu
theorem till_red {s : Station} {p : Point} (h : Wf s) (hu : 0 < p.u.d) (hv : 0 < p.v.d) : Red (s.till p) := by
  show Red (if (s.atU p.u).le (s.atV p.v) then s.atU p.u else s.atV p.v)
  split
  · exact atU_red h hu
  · exact atV_red h hv
/-- what is heard of where another was -/
def hop (a b : Station) (c : Q) : Q := b.hears (a.at_ c)
theorem hop_sz {a b : Station} {c : Q} {k : Nat} (ha : Wf a) (hb : Wf b) (hc : Sz k c) : Sz (k + 26) (hop a b c) := hears_sz hb (at_sz ha hc)
theorem hop_red {a b : Station} {c : Q} (ha : Wf a) (hb : Wf b) (hc : 0 < c.d) : Red (hop a b c) := hears_red hb (at_red ha hc).u.pos (at_red ha hc).v.pos
/-- a factor with nothing in common -/
theorem factor_red {p q : Nat} (hp : 1 ≤ p) (hq : 1 ≤ q) : ((Factor.red ⟨p, q⟩).p : Int) = (Q.red ⟨(p : Int), q⟩).n ∧ (Factor.red ⟨p, q⟩).q = (Q.red ⟨(p : Int), q⟩).d := by
  rw [red_eq hq]
  exact ⟨rfl, rfl⟩
theorem wf_mk {t x : Int} {p q : Nat} (ht : -99 ≤ t ∧ t ≤ 99) (hx : -99 ≤ x ∧ x ≤ 99) (hp : 1 ≤ p ∧ p ≤ 9) (hq : 1 ≤ q ∧ q ≤ 9) : Wf ⟨⟨t, x⟩, Factor.red ⟨p, q⟩⟩ := by
  have g : 0 < Nat.gcd p q := Nat.gcd_pos_of_pos_left _ hp.1
  have dp : Nat.gcd p q ∣ p := Nat.gcd_dvd_left _ _
  have dq : Nat.gcd p q ∣ q := Nat.gcd_dvd_right _ _
  refine ⟨ht, hx, ⟨?_, ?_⟩, ⟨?_, ?_⟩, ?_⟩
  · exact Nat.div_pos (Nat.le_of_dvd hp.1 dp) g
  · exact Nat.le_trans (Nat.div_le_self _ _) hp.2
  · exact Nat.div_pos (Nat.le_of_dvd hq.1 dq) g
  · exact Nat.le_trans (Nat.div_le_self _ _) hq.2
  · show Nat.gcd (p / Nat.gcd p q) (q / Nat.gcd p q) = 1
    rw [Nat.gcd_div dp dq, Nat.div_self g]
/-- a clock's number -/
theorem clock_sz {n : Int} {d : Nat} (hn : -999 ≤ n ∧ n ≤ 999) (hd : 1 ≤ d ∧ d ≤ 99) : Sz 10 (Kv415.t_ n d) := red_sz hd.1 (by show n.natAbs < 1024; omega) (by show d < 1024; omega)
theorem clock_red {n : Int} {d : Nat} (hd : 1 ≤ d) : Red (Kv415.t_ n d) := red_red hd

end Sig
set_option linter.all false
set_option maxRecDepth 100000
set_option maxHeartbeats 4000000
/-! Fractions as rational numbers: what two ways of reckoning give is the same if it is the same number. -/
namespace Sig
open Kv414 (Q Factor)
open Kv415 (Station Point)
def val (q : Q) : Rat := mkRat q.n q.d
theorem val_eq {a b : Q} (ha : 0 < a.d) (hb : 0 < b.d) : val a = val b ↔ a.n * (b.d : Int) = b.n * (a.d : Int) := Rat.mkRat_eq_iff (by omega) (by omega)
theorem same_val {a b : Q} (ha : Red a) (hb : Red b) (h : val a = val b) : a = b := eq_of_cross ha hb ((val_eq ha.pos hb.pos).mp h)
theorem val_div (q : Q) : val q = (q.n : Rat) / (q.d : Rat) := Rat.mkRat_eq_div _ _
theorem cast_ne {d : Nat} (h : 0 < d) : (d : Rat) ≠ 0 := by
  intro z
  have : d = 0 := by exact_mod_cast z
  omega
theorem val_red {n : Int} {d : Nat} (h : 0 < d) : val (Q.red ⟨n, d⟩) = val ⟨n, d⟩ := by
  have g := gcd_pos (n := n) h
  have hn : (Nat.gcd n.natAbs d : Int) ∣ n := Int.ofNat_dvd_left.mpr (Nat.gcd_dvd_left _ _)
  have hd : Nat.gcd n.natAbs d ∣ d := Nat.gcd_dvd_right _ _
  refine (val_eq (red_red h).pos h).mpr ?_
  rw [red_eq h]
  show n / (Nat.gcd n.natAbs d : Int) * (d : Int) = n * ((d / Nat.gcd n.natAbs d : Nat) : Int)
  obtain ⟨u, hu⟩ := hn
  obtain ⟨v, hv⟩ := hd
  generalize Nat.gcd n.natAbs d = m at *
  subst hu
  subst hv
  rw [Int.mul_ediv_cancel_left _ (by omega), Nat.mul_div_cancel_left _ g, Int.natCast_mul, Int.mul_comm (m : Int) u, Int.mul_assoc]
theorem val_add {a b : Q} (ha : 0 < a.d) (hb : 0 < b.d) : val (a.add b) = val a + val b := by
  have h1 := cast_ne ha
  have h2 := cast_ne hb
  rw [show a.add b = Q.red ⟨a.n * b.d + b.n * a.d, a.d * b.d⟩ from rfl, val_red (Nat.mul_pos ha hb), val_div, val_div, val_div]
  show ((a.n * (b.d : Int) + b.n * (a.d : Int) : Int) : Rat) / ((a.d * b.d : Nat) : Rat) = _
  rw [Rat.intCast_add, Rat.intCast_mul, Rat.intCast_mul, Rat.natCast_mul, Rat.intCast_natCast, Rat.intCast_natCast]
  grind
theorem val_sub {a b : Q} (ha : 0 < a.d) (hb : 0 < b.d) : val (a.sub b) = val a - val b := by
  have h1 := cast_ne ha
  have h2 := cast_ne hb
  rw [show a.sub b = Q.red ⟨a.n * b.d - b.n * a.d, a.d * b.d⟩ from rfl, val_red (Nat.mul_pos ha hb), val_div, val_div, val_div]
  show ((a.n * (b.d : Int) - b.n * (a.d : Int) : Int) : Rat) / ((a.d * b.d : Nat) : Rat) = _
  rw [Rat.intCast_sub, Rat.intCast_mul, Rat.intCast_mul, Rat.natCast_mul, Rat.intCast_natCast, Rat.intCast_natCast]
  grind
theorem val_mul {a b : Q} (ha : 0 < a.d) (hb : 0 < b.d) : val (a.mul b) = val a * val b := by
  have h1 := cast_ne ha
  have h2 := cast_ne hb
  rw [show a.mul b = Q.red ⟨a.n * b.n, a.d * b.d⟩ from rfl, val_red (Nat.mul_pos ha hb), val_div, val_div, val_div]
  show ((a.n * b.n : Int) : Rat) / ((a.d * b.d : Nat) : Rat) = _
  rw [Rat.intCast_mul, Rat.natCast_mul]
  grind
theorem val_of (z : Int) : val (Q.of z) = (z : Rat) := by
  rw [val_div]
  show (z : Rat) / ((1 : Nat) : Rat) = z
  grind
theorem val_inv {q : Q} (h : q.n ≠ 0) (hd : 0 < q.d) : val (Kv415.inv q) = 1 / val q := by
  have hn : 0 < q.n.natAbs := by omega
  have h1 := cast_ne hn
  have h2 := cast_ne hd
  have h3 : (q.n : Rat) ≠ 0 := by
    intro z
    exact h (by exact_mod_cast z)
  by_cases c : q.n < 0
  · rw [show Kv415.inv q = Q.red ⟨-(q.d : Int), q.n.natAbs⟩ by unfold Kv415.inv; rw [if_pos c], val_red hn, val_div, val_div]
    have e : ((q.n.natAbs : Nat) : Rat) = -(q.n : Rat) := by
      rw [← Rat.intCast_natCast, show ((q.n.natAbs : Nat) : Int) = -q.n by omega, Rat.intCast_neg]
    show ((-(q.d : Int) : Int) : Rat) / ((q.n.natAbs : Nat) : Rat) = _
    rw [e, Rat.intCast_neg, Rat.intCast_natCast]
    grind
  · rw [show Kv415.inv q = Q.red ⟨(q.d : Int), q.n.natAbs⟩ by unfold Kv415.inv; rw [if_neg c], val_red hn, val_div, val_div]
    have e : ((q.n.natAbs : Nat) : Rat) = (q.n : Rat) := by
      rw [← Rat.intCast_natCast, show ((q.n.natAbs : Nat) : Int) = q.n by omega]
    show (((q.d : Int) : Int) : Rat) / ((q.n.natAbs : Nat) : Rat) = _
    rw [e, Rat.intCast_natCast]
    grind
theorem inv_red {q : Q} (h : q.n ≠ 0) : Red (Kv415.inv q) := by
  have hn : 0 < q.n.natAbs := by omega
  unfold Kv415.inv
  split
  · exact red_red hn
  · exact red_red hn
theorem val_up {s : Station} (h : Wf s) : val s.k.up = (s.k.p : Rat) / (s.k.q : Rat) := by
  rw [val_div]
  show (((s.k.p : Nat) : Int) : Rat) / _ = _
  rw [Rat.intCast_natCast]
  rfl
theorem val_down {s : Station} (h : Wf s) : val s.k.down = (s.k.q : Rat) / (s.k.p : Rat) := by
  rw [val_div]
  show (((s.k.q : Nat) : Int) : Rat) / _ = _
  rw [Rat.intCast_natCast]
  rfl
theorem val_zero {q : Q} (hd : 0 < q.d) : val q = 0 ↔ q.n = 0 := by
  have h := val_eq hd (b := ⟨0, 1⟩) Nat.zero_lt_one
  rw [show val ⟨0, 1⟩ = 0 from rfl] at h
  rw [h]
  constructor
  · intro z
    have z' : q.n * ((1 : Nat) : Int) = 0 * (q.d : Int) := z
    omega
  · intro z
    show q.n * ((1 : Nat) : Int) = 0 * (q.d : Int)
    omega
end Sig
set_option Elab.async false
set_option linter.all false
set_option maxRecDepth 100000
set_option maxHeartbeats 4000000
/-! Where two meet: the specification's answer as a number. -/
namespace Sig
open Kv415
theorem pos_val {p q : Nat} (hp : 1 ≤ p) (hq : 1 ≤ q) : (0 : Rat) < (p : Rat) / (q : Rat) := by
  have h1 : (0 : Rat) < (p : Rat) := by exact_mod_cast hp
  have h2 : (0 : Rat) < (q : Rat) := by exact_mod_cast hq
  rw [Rat.div_def]
  exact Rat.mul_pos h1 (Rat.inv_pos.mpr h2)
theorem Wf.k_pos {s : Station} (h : Wf s) : (0 : Rat) < val s.k.up := by
  rw [val_up h]
  exact pos_val h.p.1 h.q.1
theorem Wf.down_val {s : Station} (h : Wf s) : val s.k.down = 1 / val s.k.up := by
  rw [val_up h, val_down h]
  have h1 := cast_ne h.p.1
  have h2 := cast_ne h.q.1
  grind
theorem up_red {s : Station} (h : Wf s) : Red s.k.up := ⟨h.q.1, by
  show Nat.gcd ((s.k.p : Nat) : Int).natAbs s.k.q = 1
  rw [Int.natAbs_natCast]
  exact h.one⟩
/-- the same factor -/
theorem same_factor {s r : Station} (hs : Wf s) (hr : Wf r) : val s.k.up = val r.k.up ↔ s.k = r.k := by
  constructor
  · intro h
    have e := same_val (up_red hs) (up_red hr) h
    have e1 : ((s.k.p : Nat) : Int) = ((r.k.p : Nat) : Int) := congrArg Kv414.Q.n e
    have e2 : s.k.q = r.k.q := congrArg Kv414.Q.d e
    cases hk : s.k with
    | mk p q =>
      cases hk2 : r.k with
      | mk p' q' =>
        rw [hk, hk2] at e1 e2
        have e1 : (p : Int) = (p' : Int) := e1
        have e2 : q = q' := e2
        subst e2
        have : p = p' := by omega
        subst this
        rfl
  · intro h
    rw [h]
theorem at_u {s : Station} {c : Kv414.Q} (h : Wf s) (hc : 0 < c.d) : val (s.at_ c).u = (s.e.u : Rat) + val c / val s.k.up := by
  show val ((Kv414.Q.of s.e.u).add (s.k.down.mul c)) = _
  rw [val_add h.u.pos (mul_red h.sdown.pos hc).pos, val_mul h.sdown.pos hc, val_of, h.down_val]
  have := h.k_pos
  grind
theorem at_v {s : Station} {c : Kv414.Q} (h : Wf s) (hc : 0 < c.d) : val (s.at_ c).v = (s.e.v : Rat) + val c * val s.k.up := by
  show val ((Kv414.Q.of s.e.v).add (s.k.up.mul c)) = _
  rw [val_add h.v.pos (mul_red h.sup.pos hc).pos, val_mul h.sup.pos hc, val_of]
  grind
theorem atU_val {s : Station} {u : Kv414.Q} (h : Wf s) (hu : 0 < u.d) : val (s.atU u) = (val u - (s.e.u : Rat)) * val s.k.up := by
  show val ((u.sub (Kv414.Q.of s.e.u)).mul s.k.up) = _
  rw [val_mul (sub_red hu h.u.pos).pos h.sup.pos, val_sub hu h.u.pos, val_of]
theorem atV_val {s : Station} {v : Kv414.Q} (h : Wf s) (hv : 0 < v.d) : val (s.atV v) = (val v - (s.e.v : Rat)) / val s.k.up := by
  show val ((v.sub (Kv414.Q.of s.e.v)).mul s.k.down) = _
  rw [val_mul (sub_red hv h.v.pos).pos h.sdown.pos, val_sub hv h.v.pos, val_of, h.down_val]
  have := h.k_pos
  grind
theorem sq_ne {a b : Rat} (ha : 0 < a) (hb : 0 < b) (h : a ≠ b) : a * a - b * b ≠ 0 := by
  intro z
  have : (a - b) * (a + b) = 0 := by grind
  have h1 : a - b ≠ 0 := by grind
  have h2 : a + b ≠ 0 := by grind
  grind
theorem meets_none {N : Now} {i j : Nat} (hi : Wf (N.st i)) (hj : Wf (N.st j)) (h : (N.st i).k = (N.st j).k) : N.meets i j = none := by
  have e : ((((N.st i).k.up.mul (N.st i).k.up)).sub ((N.st j).k.up.mul (N.st j).k.up)).n = 0 := by
    rw [h]
    refine (val_zero (sub_red (mul_red hj.sup.pos hj.sup.pos).pos (mul_red hj.sup.pos hj.sup.pos).pos).pos).mp ?_
    rw [val_sub (mul_red hj.sup.pos hj.sup.pos).pos (mul_red hj.sup.pos hj.sup.pos).pos]
    grind
  unfold Now.meets
  exact if_pos e
/-- both clocks, as numbers -/
theorem meets_some {N : Now} {i j : Nat} (hi : Wf (N.st i)) (hj : Wf (N.st j)) (h : ¬ (N.st i).k = (N.st j).k) : ∃ s r, N.meets i j = some (s, r) ∧ Red s ∧ Red r ∧
    val s = (((N.st j).e.v : Rat) - ((N.st i).e.v : Rat) - val (N.st j).k.up * val (N.st j).k.up * (((N.st j).e.u : Rat) - ((N.st i).e.u : Rat))) * val (N.st i).k.up / (val (N.st i).k.up * val (N.st i).k.up - val (N.st j).k.up * val (N.st j).k.up) ∧
    val r = (((N.st i).e.u : Rat) + val s / val (N.st i).k.up - ((N.st j).e.u : Rat)) * val (N.st j).k.up := by
  have pi := mul_red hi.sup.pos hi.sup.pos
  have pj := mul_red hj.sup.pos hj.sup.pos
  have pd := sub_red pi.pos pj.pos
  have vd : val (((N.st i).k.up.mul (N.st i).k.up).sub ((N.st j).k.up.mul (N.st j).k.up)) = val (N.st i).k.up * val (N.st i).k.up - val (N.st j).k.up * val (N.st j).k.up := by
    rw [val_sub pi.pos pj.pos, val_mul hi.sup.pos hi.sup.pos, val_mul hj.sup.pos hj.sup.pos]
  have hne : val (N.st i).k.up ≠ val (N.st j).k.up := fun z => h ((same_factor hi hj).mp z)
  have q0 := sq_ne hi.k_pos hj.k_pos hne
  have d0 : val (((N.st i).k.up.mul (N.st i).k.up).sub ((N.st j).k.up.mul (N.st j).k.up)) ≠ 0 := by
    rw [vd]
    exact q0
  have n0 : (((N.st i).k.up.mul (N.st i).k.up).sub ((N.st j).k.up.mul (N.st j).k.up)).n ≠ 0 := fun z => d0 ((val_zero pd.pos).mpr z)
  have ri := inv_red n0
  have pu := sub_red hj.u.pos hi.u.pos
  have pv := sub_red hj.v.pos hi.v.pos
  have pku := mul_red pj.pos pu.pos
  have pc := sub_red pv.pos pku.pos
  have pm := mul_red pc.pos hi.sup.pos
  have ps := mul_red pm.pos ri.pos
  have vs : val ((((((Kv414.Q.of (N.st j).e.v).sub (Kv414.Q.of (N.st i).e.v)).sub (((N.st j).k.up.mul (N.st j).k.up).mul ((Kv414.Q.of (N.st j).e.u).sub (Kv414.Q.of (N.st i).e.u)))).mul (N.st i).k.up).mul (inv (((N.st i).k.up.mul (N.st i).k.up).sub ((N.st j).k.up.mul (N.st j).k.up))))) =
      (((N.st j).e.v : Rat) - ((N.st i).e.v : Rat) - val (N.st j).k.up * val (N.st j).k.up * (((N.st j).e.u : Rat) - ((N.st i).e.u : Rat))) * val (N.st i).k.up / (val (N.st i).k.up * val (N.st i).k.up - val (N.st j).k.up * val (N.st j).k.up) := by
    rw [val_mul pm.pos ri.pos, val_mul pc.pos hi.sup.pos, val_sub pv.pos pku.pos, val_sub hj.v.pos hi.v.pos, val_mul pj.pos pu.pos, val_mul hj.sup.pos hj.sup.pos, val_sub hj.u.pos hi.u.pos, val_inv n0 pd.pos, vd, val_of, val_of, val_of, val_of]
    grind
  refine ⟨_, _, if_neg n0, ps, atU_red hj (at_red hi ps.pos).u.pos, vs, ?_⟩
  rw [atU_val hj (at_red hi ps.pos).u.pos, at_u hi ps.pos]
theorem put_parts {p q : Nat} (hp : 1 ≤ p) (hq : 1 ≤ q) : 1 ≤ (Kv414.Factor.red ⟨p, q⟩).p ∧ 1 ≤ (Kv414.Factor.red ⟨p, q⟩).q ∧ (((Kv414.Factor.red ⟨p, q⟩).p : Nat) : Rat) / (((Kv414.Factor.red ⟨p, q⟩).q : Nat) : Rat) = (p : Rat) / (q : Rat) := by
  have g : 0 < Nat.gcd p q := Nat.gcd_pos_of_pos_left _ hp
  have dp : Nat.gcd p q ∣ p := Nat.gcd_dvd_left _ _
  have dq : Nat.gcd p q ∣ q := Nat.gcd_dvd_right _ _
  refine ⟨Nat.div_pos (Nat.le_of_dvd hp dp) g, Nat.div_pos (Nat.le_of_dvd hq dq) g, ?_⟩
  show ((p / Nat.gcd p q : Nat) : Rat) / ((q / Nat.gcd p q : Nat) : Rat) = _
  have e1 : ((p / Nat.gcd p q : Nat) : Rat) * ((Nat.gcd p q : Nat) : Rat) = (p : Rat) := by
    rw [← Rat.natCast_mul, Nat.div_mul_cancel dp]
  have e2 : ((q / Nat.gcd p q : Nat) : Rat) * ((Nat.gcd p q : Nat) : Rat) = (q : Rat) := by
    rw [← Rat.natCast_mul, Nat.div_mul_cancel dq]
  have h1 := cast_ne g
  have h2 := cast_ne hq
  have h3 := cast_ne (Nat.div_pos (Nat.le_of_dvd hq dq) g)
  rw [← e1, ← e2]
  grind
/-- the speed of one as another tells it, as a number -/
theorem speed_is {x y : Station} (hx : Wf x) (hy : Wf y) : Red (Kv414.Factor.put y.k x.k.back).speed ∧
    val (Kv414.Factor.put y.k x.k.back).speed = ((val y.k.up / val x.k.up) * (val y.k.up / val x.k.up) - 1) / ((val y.k.up / val x.k.up) * (val y.k.up / val x.k.up) + 1) := by
  have k1 : 1 ≤ y.k.p * x.k.q := Nat.mul_pos hy.p.1 hx.q.1
  have k2 : 1 ≤ y.k.q * x.k.p := Nat.mul_pos hy.q.1 hx.p.1
  obtain ⟨h1, h2, h3⟩ := put_parts k1 k2
  have ek : ((y.k.p * x.k.q : Nat) : Rat) / ((y.k.q * x.k.p : Nat) : Rat) = val y.k.up / val x.k.up := by
    rw [val_up hx, val_up hy, Rat.natCast_mul, Rat.natCast_mul]
    have a1 := cast_ne hx.p.1
    have a2 := cast_ne hx.q.1
    have a3 := cast_ne hy.p.1
    have a4 := cast_ne hy.q.1
    grind
  rw [ek] at h3
  rw [show Kv414.Factor.put y.k x.k.back = Kv414.Factor.red ⟨y.k.p * x.k.q, y.k.q * x.k.p⟩ from rfl]
  generalize Kv414.Factor.red ⟨y.k.p * x.k.q, y.k.q * x.k.p⟩ = K at *
  obtain ⟨p, q⟩ := K
  dsimp only at h1 h2 h3
  show Red (Kv414.Q.red ⟨Int.ofNat (p * p) - Int.ofNat (q * q), p * p + q * q⟩) ∧ val (Kv414.Q.red ⟨Int.ofNat (p * p) - Int.ofNat (q * q), p * p + q * q⟩) = _
  have hd : 0 < p * p + q * q := Nat.lt_of_lt_of_le (Nat.mul_pos h1 h1) (Nat.le_add_right _ _)
  refine ⟨red_red hd, ?_⟩
  rw [val_red hd, val_div]
  show (((Int.ofNat (p * p) - Int.ofNat (q * q)) : Int) : Rat) / ((p * p + q * q : Nat) : Rat) = _
  have c1 : ((Int.ofNat (p * p) : Int) : Rat) = (p : Rat) * (p : Rat) := by
    rw [← Rat.natCast_mul]
    exact Rat.intCast_natCast _
  have c2 : ((Int.ofNat (q * q) : Int) : Rat) = (q : Rat) * (q : Rat) := by
    rw [← Rat.natCast_mul]
    exact Rat.intCast_natCast _
  have c3 : ((p * p + q * q : Nat) : Rat) ≠ 0 := cast_ne hd
  rw [Rat.intCast_sub, c1, c2, Rat.natCast_add, Rat.natCast_mul, Rat.natCast_mul, ← h3]
  rw [Rat.natCast_add, Rat.natCast_mul, Rat.natCast_mul] at c3
  have b1 := cast_ne h1
  have b2 := cast_ne h2
  generalize (p : Rat) = P at *
  generalize (q : Rat) = R at *
  have c4 : P / R * (P / R) + 1 ≠ 0 := by
    intro z
    have : P * P + R * R = 0 := by grind
    exact c3 this
  grind
end Sig
set_option Elab.async false
set_option linter.all false
set_option maxRecDepth 100000
set_option maxHeartbeats 4000000
/-! The program's way of reckoning where two meet, and the speed, against the specification's. -/
namespace Sig
open Kv414 (Q Factor)
open Kv415
/-- by a whole number that is not 0 -/
def ovr (x : Q) (z : Int) : Q := if z < 0 then Q.red ⟨-x.n, x.d * z.natAbs⟩ else Q.red ⟨x.n, x.d * z.natAbs⟩
theorem ovr_red {x : Q} {z : Int} (hx : 0 < x.d) (hz : z ≠ 0) : Red (ovr x z) := by
  have h : 0 < x.d * z.natAbs := Nat.mul_pos hx (by omega)
  unfold ovr
  split
  · exact red_red h
  · exact red_red h
theorem ovr_sz {x : Q} {z : Int} {k j : Nat} (hx : Sz k x) (hz : z ≠ 0) (hj : z.natAbs < 2 ^ j) : Sz (k + j) (ovr x z) := by
  have h : 0 < x.d * z.natAbs := Nat.mul_pos hx.pos (by omega)
  unfold ovr
  split
  · exact red_sz h (by rw [Int.natAbs_neg]; exact lt_pow hx.up (by omega)) (mul_lt hx.lo hj)
  · exact red_sz h (lt_pow hx.up (by omega)) (mul_lt hx.lo hj)
theorem val_ovr {x : Q} {z : Int} (hx : 0 < x.d) (hz : z ≠ 0) : val (ovr x z) = val x / (z : Rat) := by
  have h : 0 < x.d * z.natAbs := Nat.mul_pos hx (by omega)
  have h1 := cast_ne hx
  have h2 := cast_ne (show 0 < z.natAbs by omega)
  have h3 : (z : Rat) ≠ 0 := by
    intro e
    exact hz (by exact_mod_cast e)
  by_cases c : z < 0
  · rw [show ovr x z = Q.red ⟨-x.n, x.d * z.natAbs⟩ by unfold ovr; rw [if_pos c], val_red h, val_div, val_div]
    have e : ((z.natAbs : Nat) : Rat) = -(z : Rat) := by
      rw [← Rat.intCast_natCast, show ((z.natAbs : Nat) : Int) = -z by omega, Rat.intCast_neg]
    show ((-x.n : Int) : Rat) / ((x.d * z.natAbs : Nat) : Rat) = _
    rw [Rat.natCast_mul, e, Rat.intCast_neg]
    grind
  · rw [show ovr x z = Q.red ⟨x.n, x.d * z.natAbs⟩ by unfold ovr; rw [if_neg c], val_red h, val_div, val_div]
    have e : ((z.natAbs : Nat) : Rat) = (z : Rat) := by
      rw [← Rat.intCast_natCast, show ((z.natAbs : Nat) : Int) = z by omega]
    show ((x.n : Int) : Rat) / ((x.d * z.natAbs : Nat) : Rat) = _
    rw [Rat.natCast_mul, e]
    grind
/-- the squares of the factor of r by that of s -/
def sqU (s r : Station) : Nat := (r.k.p * s.k.q) * (r.k.p * s.k.q)
def sqV (s r : Station) : Nat := (r.k.q * s.k.p) * (r.k.q * s.k.p)
theorem le81 {a b : Nat} (ha : a ≤ 9) (hb : b ≤ 9) : a * b ≤ 81 := Nat.mul_le_mul ha hb
theorem sqU_le {s r : Station} (hs : Wf s) (hr : Wf r) : sqU s r ≤ 6561 := Nat.mul_le_mul (le81 hr.p.2 hs.q.2) (le81 hr.p.2 hs.q.2)
theorem sqV_le {s r : Station} (hs : Wf s) (hr : Wf r) : sqV s r ≤ 6561 := Nat.mul_le_mul (le81 hr.q.2 hs.p.2) (le81 hr.q.2 hs.p.2)
theorem sqU_pos {s r : Station} (hs : Wf s) (hr : Wf r) : 0 < sqU s r := Nat.mul_pos (Nat.mul_pos hr.p.1 hs.q.1) (Nat.mul_pos hr.p.1 hs.q.1)
theorem sqV_pos {s r : Station} (hs : Wf s) (hr : Wf r) : 0 < sqV s r := Nat.mul_pos (Nat.mul_pos hr.q.1 hs.p.1) (Nat.mul_pos hr.q.1 hs.p.1)
theorem sq_val {s r : Station} (hs : Wf s) (hr : Wf r) : ((sqU s r : Nat) : Rat) * (val s.k.up * val s.k.up) = ((sqV s r : Nat) : Rat) * (val r.k.up * val r.k.up) := by
  unfold sqU sqV
  rw [val_up hs, val_up hr, Rat.natCast_mul, Rat.natCast_mul, Rat.natCast_mul, Rat.natCast_mul]
  have a1 := cast_ne hs.q.1
  have a2 := cast_ne hr.q.1
  generalize (s.k.p : Rat) = A at *
  generalize (s.k.q : Rat) = B at *
  generalize (r.k.p : Rat) = C at *
  generalize (r.k.q : Rat) = D at *
  grind
/-- the speed, as the program reckons it -/
theorem speed_same {s r : Station} (hs : Wf s) (hr : Wf r) : Q.red ⟨(sqU s r : Int) - (sqV s r : Int), sqU s r + sqV s r⟩ = (Factor.put r.k s.k.back).speed := by
  obtain ⟨h1, h2⟩ := speed_is hs hr
  have hp : 0 < sqU s r + sqV s r := Nat.lt_of_lt_of_le (sqU_pos hs hr) (Nat.le_add_right _ _)
  refine same_val (red_red hp) h1 ?_
  rw [h2, val_red hp, val_div]
  show (((sqU s r : Int) - (sqV s r : Int) : Int) : Rat) / ((sqU s r + sqV s r : Nat) : Rat) = _
  rw [Rat.intCast_sub, Rat.intCast_natCast, Rat.intCast_natCast, Rat.natCast_add]
  have e := sq_val hs hr
  have k1 := hs.k_pos
  have k2 := hr.k_pos
  have v0 := cast_ne (sqV_pos hs hr)
  have d0 : ((sqU s r : Nat) : Rat) + ((sqV s r : Nat) : Rat) ≠ 0 := by
    have := cast_ne hp
    rw [Rat.natCast_add] at this
    exact this
  generalize ((sqU s r : Nat) : Rat) = U at *
  generalize ((sqV s r : Nat) : Rat) = V at *
  generalize val s.k.up = a at *
  generalize val r.k.up = b at *
  have a0 : a ≠ 0 := by grind
  have eU : U = V * (b / a * (b / a)) := by grind
  have c4 : b / a * (b / a) + 1 ≠ 0 := by
    intro z
    have : U + V = 0 := by grind
    exact d0 this
  generalize b / a * (b / a) = t at *
  subst eU
  grind
/-- what the clock of s shows where it meets r, as the program reckons it -/
def meetC (s r : Station) : Q := ovr (((s.atU (Q.of r.e.u)).mul ⟨(sqU s r : Int), 1⟩).sub ((s.atV (Q.of r.e.v)).mul ⟨(sqV s r : Int), 1⟩)) ((sqU s r : Int) - (sqV s r : Int))
theorem sq_differ {s r : Station} (hs : Wf s) (hr : Wf r) (h : ¬ s.k = r.k) : ((sqU s r : Nat) : Rat) - ((sqV s r : Nat) : Rat) ≠ 0 := by
  have hne : val s.k.up ≠ val r.k.up := fun z => h ((same_factor hs hr).mp z)
  have q0 := sq_ne hs.k_pos hr.k_pos hne
  have e := sq_val hs hr
  have v0 := cast_ne (sqV_pos hs hr)
  intro z
  have z' : ((sqU s r : Nat) : Rat) = ((sqV s r : Nat) : Rat) := by grind
  rw [z'] at e
  generalize ((sqV s r : Nat) : Rat) = V at *
  have : V * (val s.k.up * val s.k.up - val r.k.up * val r.k.up) = 0 := by grind
  grind
theorem sq_int {s r : Station} (hs : Wf s) (hr : Wf r) (h : ¬ s.k = r.k) : (sqU s r : Int) - (sqV s r : Int) ≠ 0 := fun z => by
  have q := sq_differ hs hr h
  have e : (sqU s r : Int) = (sqV s r : Int) := by omega
  have e2 : sqU s r = sqV s r := by omega
  rw [e2] at q
  exact q (by grind)
theorem sq_abs {s r : Station} (hs : Wf s) (hr : Wf r) : ((sqU s r : Int) - (sqV s r : Int)).natAbs < 2 ^ 13 := by
  have := sqU_le hs hr
  have := sqV_le hs hr
  show ((sqU s r : Int) - (sqV s r : Int)).natAbs < 8192
  omega
theorem whole_sz {n k : Nat} (h : n < 2 ^ k) (hk : 0 < k) : Sz k ⟨(n : Int), 1⟩ := ⟨Nat.zero_lt_one, by show ((n : Nat) : Int).natAbs < 2 ^ k; rw [Int.natAbs_natCast]; exact h, Nat.one_lt_two_pow (by omega)⟩
theorem sqU_sz {s r : Station} (hs : Wf s) (hr : Wf r) : Sz 13 ⟨(sqU s r : Int), 1⟩ := whole_sz (by show sqU s r < 8192; have := sqU_le hs hr; omega) (by decide)
theorem sqV_sz {s r : Station} (hs : Wf s) (hr : Wf r) : Sz 13 ⟨(sqV s r : Int), 1⟩ := whole_sz (by show sqV s r < 8192; have := sqV_le hs hr; omega) (by decide)
theorem meetL_sz {s r : Station} (hs : Wf s) (hr : Wf r) : Sz 34 ((s.atU (Q.of r.e.u)).mul ⟨(sqU s r : Int), 1⟩) := mul_sz (atU_sz hs hr.u) (sqU_sz hs hr)
theorem meetT_sz {s r : Station} (hs : Wf s) (hr : Wf r) : Sz 34 ((s.atV (Q.of r.e.v)).mul ⟨(sqV s r : Int), 1⟩) := mul_sz (atV_sz hs hr.v) (sqV_sz hs hr)
theorem meetC_sz {s r : Station} (hs : Wf s) (hr : Wf r) (h : ¬ s.k = r.k) : Sz 82 (meetC s r) := ovr_sz (sub_sz (meetL_sz hs hr) (meetT_sz hs hr)) (sq_int hs hr h) (sq_abs hs hr)
theorem meetC_red {s r : Station} (hs : Wf s) (hr : Wf r) (h : ¬ s.k = r.k) : Red (meetC s r) := ovr_red (sub_sz (meetL_sz hs hr) (meetT_sz hs hr)).pos (sq_int hs hr h)
theorem val_whole (n : Nat) : val ⟨(n : Int), 1⟩ = (n : Rat) := by
  rw [val_div]
  show (((n : Nat) : Int) : Rat) / ((1 : Nat) : Rat) = n
  rw [Rat.intCast_natCast]
  grind
theorem meet_alg {u v a b U V : Rat} (e : U * (a * a) = V * (b * b)) (a0 : a ≠ 0) (v0 : V ≠ 0) (q0 : a * a - b * b ≠ 0) (d0 : U - V ≠ 0) : (u * a * U - v / a * V) / (U - V) = (v - b * b * u) * a / (a * a - b * b) := by
  have h1 : (u * a * U - v / a * V) * (a * a - b * b) = (v - b * b * u) * a * (U - V) := by grind
  grind
theorem meetC_val {s r : Station} (hs : Wf s) (hr : Wf r) (h : ¬ s.k = r.k) :
    val (meetC s r) = ((r.e.v : Rat) - (s.e.v : Rat) - val r.k.up * val r.k.up * ((r.e.u : Rat) - (s.e.u : Rat))) * val s.k.up / (val s.k.up * val s.k.up - val r.k.up * val r.k.up) := by
  have hne : val s.k.up ≠ val r.k.up := fun z => h ((same_factor hs hr).mp z)
  have zi := sq_int hs hr h
  have p1 := (meetL_sz hs hr).pos
  have p2 := (meetT_sz hs hr).pos
  unfold meetC
  rw [val_ovr (sub_red p1 p2).pos zi, val_sub p1 p2, val_mul (atU_sz hs hr.u).pos (sqU_sz hs hr).pos, val_mul (atV_sz hs hr.v).pos (sqV_sz hs hr).pos, atU_val hs hr.u.pos, atV_val hs hr.v.pos, val_whole, val_whole, val_of, val_of,
    Rat.intCast_sub, Rat.intCast_natCast, Rat.intCast_natCast]
  have k1 := hs.k_pos
  exact meet_alg (sq_val hs hr) (by grind) (cast_ne (sqV_pos hs hr)) (sq_ne hs.k_pos hr.k_pos hne) (sq_differ hs hr h)
/-- where two meet, what the one sends comes to the other at once -/
theorem meets_are {N : Now} {i j : Nat} (hi : Wf (N.st i)) (hj : Wf (N.st j)) (h : ¬ (N.st i).k = (N.st j).k) : N.meets i j = some (meetC (N.st i) (N.st j), hop (N.st i) (N.st j) (meetC (N.st i) (N.st j))) := by
  obtain ⟨s, r, hm, rs, rr, vs, vr⟩ := meets_some hi hj h
  have es : s = meetC (N.st i) (N.st j) := same_val rs (meetC_red hi hj h) (vs.trans (meetC_val hi hj h).symm)
  subst es
  have er : r = hop (N.st i) (N.st j) (meetC (N.st i) (N.st j)) := by
    refine same_val rr (hop_red hi hj rs.pos) (vr.trans ?_)
    have pu := (at_red hi rs.pos).u.pos
    have pv := (at_red hi rs.pos).v.pos
    have vU : val ((N.st j).atU ((N.st i).at_ (meetC (N.st i) (N.st j))).u) = (((N.st i).e.u : Rat) + val (meetC (N.st i) (N.st j)) / val (N.st i).k.up - ((N.st j).e.u : Rat)) * val (N.st j).k.up := by
      rw [atU_val hj pu, at_u hi rs.pos]
    have vV : val ((N.st j).atV ((N.st i).at_ (meetC (N.st i) (N.st j))).v) = (((N.st i).e.u : Rat) + val (meetC (N.st i) (N.st j)) / val (N.st i).k.up - ((N.st j).e.u : Rat)) * val (N.st j).k.up := by
      rw [atV_val hj pv, at_v hi rs.pos]
      have hne : val (N.st i).k.up ≠ val (N.st j).k.up := fun z => h ((same_factor hi hj).mp z)
      have q0 := sq_ne hi.k_pos hj.k_pos hne
      have k1 := hi.k_pos
      have k2 := hj.k_pos
      generalize val (meetC (N.st i) (N.st j)) = c at *
      generalize val (N.st i).k.up = a at *
      generalize val (N.st j).k.up = b at *
      generalize ((N.st i).e.u : Rat) = xu at *
      generalize ((N.st j).e.u : Rat) = yu at *
      generalize ((N.st i).e.v : Rat) = xv at *
      generalize ((N.st j).e.v : Rat) = yv at *
      have a0 : a ≠ 0 := by grind
      have b0 : b ≠ 0 := by grind
      have ec : c * (a * a - b * b) = (yv - xv - b * b * (yu - xu)) * a := by grind
      grind
    show _ = val (if ((N.st j).atU ((N.st i).at_ (meetC (N.st i) (N.st j))).u).le ((N.st j).atV ((N.st i).at_ (meetC (N.st i) (N.st j))).v) then (N.st j).atV ((N.st i).at_ (meetC (N.st i) (N.st j))).v else (N.st j).atU ((N.st i).at_ (meetC (N.st i) (N.st j))).u)
    split
    · exact vV.symm
    · exact vU.symm
  rw [hm, er]
/-- from station to station -/
def along : List Station → Q → Q
  | a :: b :: r, q => along (b :: r) (hop a b q)
  | _, q => q
theorem along_step {a b : Station} {r : List Station} {q : Q} : along (a :: b :: r) q = along (b :: r) (hop a b q) := by
  rw [along]
theorem along_one {a : Station} {q : Q} : along [a] q = q := by
  rw [along]
  intro x y z e
  cases e
theorem along_chain {N : Now} : ∀ (l : List Nat) (q : Q), N.chain l q = along (l.map N.st) q
  | [], q => by
    rw [Now.chain]
    · show q = along [] q
      rw [along]
      intro x y z e
      cases e
    · intro x y z e
      cases e
  | [i], q => by
    show _ = along [N.st i] q
    rw [along_one, Now.chain]
    intro x y z e
    cases e
  | i :: j :: r, q => by
    show _ = along (N.st i :: N.st j :: r.map N.st) q
    rw [along_step, Now.chain]
    exact along_chain (j :: r) _
theorem along_red : ∀ (l : List Station) (q : Q), (∀ s ∈ l, Wf s) → Red q → Red (along l q)
  | [], q, _, hq => by
    rw [along]
    · exact hq
    · intro x y z e
      cases e
  | [s], q, _, hq => by
    rw [along_one]
    exact hq
  | a :: b :: r, q, h, hq => by
    rw [along_step]
    exact along_red (b :: r) _ (fun s hs => h s (List.mem_cons_of_mem _ hs)) (hop_red (h a (.head _)) (h b (.tail _ (.head _))) hq.pos)
end Sig
set_option Elab.async false
set_option linter.all false
set_option maxRecDepth 100000
set_option maxHeartbeats 2000000
/-! What lies in the heap, calls by promise, the words of the readings. -/
namespace Sig
open PySem PySem.Spec PyProof.Rows L2
abbrev Fr := Kv414.Q
abbrev Stn := Kv415.Station
abbrev Pnt := Kv415.Point

/-! ### heaps -/
theorem same_upd {H : Hp} {p : Addr} {o : HO} (h : H p = none) : Same H (upd H p o) := fun b u e => by
  rw [upd_ne (ne_of_none e h)]
  exact e
theorem same_tup {K : PySem.W.Frag} {H H' : Hp} {a : Addr} {xs : List V} (e : Same H H') (h : SqT K H a xs) : SqT K H' a xs := by
  rcases h with (h | ⟨o, h⟩) | h
  · exact .inl (.inl (e _ _ h))
  · exact .inl (.inr ⟨o, e _ _ h⟩)
  · exact .inr h
theorem cat_ok {K : PySem.W.Frag} {H : Hp} {Q : VK} {a b : Addr} {xs ys : List V} (ha : SqT K H a xs) (hb : SqT K H b ys) (hz : xs.length + ys.length ≤ sizeLine)
    (k : ∀ H' p, Same H H' → SqT K H' p (xs ++ ys) → Q (.ref p) H') : rCatA K (.ref a) (.ref b) H Q := by
  refine ⟨a, b, xs, ys, rfl, rfl, ha, hb, hz, fun e => ?_, fun _ e => ?_, fun _ _ p hp => k _ p (same_upd hp) (SqT.of upd_same)⟩
  · subst e
    exact k H b (Same.refl H) hb
  · subst e
    exact k H a (Same.refl H) (by rw [List.append_nil]; exact ha)
theorem sl_ok {K : PySem.W.Frag} {H : Hp} {Q : VK} {a : Addr} {xs : List V} {lo hi : Option Int} (ha : SqT K H a xs) (k : ∀ H' p, Same H H' → SqT K H' p (cutV xs lo hi) → Q (.ref p) H') : rSlA K (.ref a) lo hi H Q := by
  refine ⟨a, xs, rfl, ha, fun e => ?_, fun _ p hp => k _ p (same_upd hp) (SqT.of upd_same)⟩
  refine k H a (Same.refl H) ?_
  have c : cutV xs lo hi = xs := by
    unfold cutV
    rw [e.1, e.2]
    simp
  rw [c]
  exact ha

/-! ### calls by promise -/
section
variable (P : Program) (w : World) (K : PySem.W.Frag) (mg : Str → Option Value) (base : Heap)
/-- the def that the name x stands for keeps its promise -/
def Kept (k : Nat) (x : Str) (ps : List Str) (sp : Sp) : Prop := ∃ f fd, mg x = some (.ref f) ∧ PySem.W.keepIn K (.ref f) = true ∧ Binds K fd ps [] ∧ FnOk P w K mg base CX0 k f fd ps sp
/-- the class that x stands for: its __init__ keeps its promise -/
def KeptC (k : Nat) (x : Str) (C : Addr) (ps : List Str) (sp : Sp) : Prop := ∃ f fd, mg x = some (.ref C) ∧ Mk K C f ∧ Binds K fd ps [] ∧ FnOk P w K mg base CX0 k f fd ps sp
def KeptM (k : Nat) (C : Addr) (m : Str) (ps : List Str) (sp : Sp) : Prop := ∃ f fd, Meth K C m f ∧ Binds K fd ps [] ∧ FnOk P w K mg base CX0 k f fd ps sp
end
/-- a def of the text as it stands -/
structure Df (K : PySem.W.Frag) (mg : Str → Option Value) (x : Str) (st : Stmt) (ps : List Str) (f : Addr) (fd : FuncData) : Prop where
  F : Fun K x x st f fd
  m : mg x = some (.ref f)
  b : Binds K fd ps []
theorem Df.kept {P : Program} {w : World} {K : PySem.W.Frag} {mg : Str → Option Value} {base : Heap} {x : Str} {st : Stmt} {ps : List Str} {f : Addr} {fd : FuncData} {k : Nat} {sp : Sp} (D : Df K mg x st ps f fd) (h : FnOk P w K mg base CX0 k f fd ps sp) : Kept P w K mg base k x ps sp := ⟨f, fd, D.m, D.F.kp, D.b, h⟩
def CI (mg : Str → Option Value) (x : Str) (v : Int) : Prop := ∃ t, mg x = some (.int v t)
section
variable {X : Cx} {k : Nat} {C : Addr} {x m : Str} {ps : List Str} {sp : Sp} {p pos apos : Pos} {e o : Expr} {es : List Expr} {t : TA} {ta : TE} {v : Int}
theorem pe_const (h : CI X.mg x v) (hg : Gl X x := by rfl) (hdb : (x == ("__debug__" : Str)) = false := by decide) : PE X (.Name x pos) (tC (.int v)) := by
  obtain ⟨t, h⟩ := h
  exact pe_glob hg h ⟨_, rfl⟩ hdb
theorem pe_globR {a : Addr} (h : X.mg x = some (.ref a)) (hg : Gl X x := by rfl) (hdb : (x == ("__debug__" : Str)) = false := by decide) : PE X (.Name x pos) (tC (.ref a)) := pe_glob hg h rfl hdb
theorem pe_callQ (Z : Kept X.prog X.w X.K X.mg X.base k x ps sp) (hr : Room k X.A) (hg : Gl X x) (ha : PA X (e :: es) t) (hdb : (x == ("__debug__" : Str)) = false := by decide)
    (he : starEach (e :: es) X.env = (false, eval e X.env) :: starEach es X.env := by rfl) (hpl : (backTo pos (starEach es X.env)).any (·.1) = false := by rfl) : PE X (.Call (.Name x p) (e :: es) [] pos) (tCall sp [] E0 t) := by
  obtain ⟨f, fd, hm, hk, hb, F⟩ := Z
  exact pe_call F hr hg hm hk hb .nil pass0 ha hdb he hpl
theorem pe_makeQ (Z : KeptC X.prog X.w X.K X.mg X.base k x C ps sp) (hr : Room (k + 1) X.A) (hg : Gl X x) (ha : PA X (e :: es) t) (hdb : (x == ("__debug__" : Str)) = false := by decide)
    (he : starEach (e :: es) X.env = (false, eval e X.env) :: starEach es X.env := by rfl) (hpl : (backTo pos (starEach es X.env)).any (·.1) = false := by rfl) : PE X (.Call (.Name x p) (e :: es) [] pos) (tMake C sp [] E0 t) := by
  obtain ⟨f, fd, hm, M, hb, F⟩ := Z
  exact pe_make M F hr hg hm hb .nil pass0 ha hdb he hpl
theorem pe_makeQ0 (Z : KeptC X.prog X.w X.K X.mg X.base k x C ps sp) (hr : Room (k + 1) X.A) (hg : Gl X x) (hdb : (x == ("__debug__" : Str)) = false := by decide) : PE X (.Call (.Name x p) [] [] pos) (tMake C sp [] E0 tNil) := by
  obtain ⟨f, fd, hm, M, hb, F⟩ := Z
  exact pe_make0 M F hr hg hm hb .nil pass0 hdb
theorem pe_methQ {pl : Sem Bool} (he : PE X o ta) (c : Cls X.K C) (Z : KeptM X.prog X.w X.K X.mg X.base k C m ps sp) (hr : Room k X.A) (ha : PA X (e :: es) t)
    (hst : starEach (e :: es) X.env = (false, eval e X.env) :: starEach es X.env := by rfl) (hpl : (backTo pos (starEach es X.env)).any (·.1) = false := by rfl)
    (ht : eval (.Call (.Attribute o m apos) (e :: es) [] pos) X.env = (do
      let ov ← eval o X.env
      standAt apos.atName
      let (f, first) ← holding [ov] (getMethod ov m pl)
      callWith pos f first (backTo pos (starEach (e :: es) X.env)) (backToKw pos (keywordEach [] X.env))) := by rfl) :
    PE X (.Call (.Attribute o m apos) (e :: es) [] pos) (tMeth C m sp [] E0 ta t) := by
  obtain ⟨f, fd, hm, hb, F⟩ := Z
  exact pe_meth he c hm F hr hb .nil pass0 ha hst hpl ht
theorem pe_methQ0 {pl : Sem Bool} (he : PE X o ta) (c : Cls X.K C) (Z : KeptM X.prog X.w X.K X.mg X.base k C m ps sp) (hr : Room k X.A)
    (ht : eval (.Call (.Attribute o m apos) [] [] pos) X.env = (do
      let ov ← eval o X.env
      standAt apos.atName
      let (f, first) ← holding [ov] (getMethod ov m pl)
      callWith pos f first (backTo pos (starEach [] X.env)) (backToKw pos (keywordEach [] X.env))) := by rfl) :
    PE X (.Call (.Attribute o m apos) [] [] pos) (tMeth C m sp [] E0 ta tNil) := by
  obtain ⟨f, fd, hm, hb, F⟩ := Z
  exact pe_meth0 he c hm F hr hb .nil pass0 ht
end
theorem boot_absQ : bootBuiltins "abs" = some (.builtin "abs") := PyProof.Rows.boot_abs

/-! ### fractions, points, stations in the heap -/
def FrAt (K : PySem.W.Frag) (H : Hp) (a : Addr) (q : Fr) : Prop := SqT K H a [.int q.n, .int (q.d : Int)]
theorem FrAt.to {K : PySem.W.Frag} {H H' : Hp} {a : Addr} {q : Fr} (h : FrAt K H a q) (e : Same H H') : FrAt K H' a q := same_tup e h
def GivesFr (K : PySem.W.Frag) (H : Hp) (Q : VK) (q : Fr) : Prop := ∀ H' p, Same H H' → FrAt K H' p q → Q (.ref p) H'
theorem GivesFr.new {K : PySem.W.Frag} {H H1 : Hp} {Q : VK} {q : Fr} (g : GivesFr K H Q q) (e : Same H H1) {n d : Int} (hn : n = q.n) (hd : d = (q.d : Int)) : ∀ p, H1 p = none → Q (.ref p) (upd H1 p (.tup [.int n, .int d])) := fun p hp => by
  subst hn hd
  exact g _ p (e.trans (same_upd hp)) (SqT.of upd_same)
structure PtAt (K : PySem.W.Frag) (H : Hp) (a : Addr) (pt : Pnt) : Prop where
  ex : ∃ u v, SqT K H a [.ref u, .ref v] ∧ FrAt K H u pt.u ∧ FrAt K H v pt.v
theorem PtAt.to {K : PySem.W.Frag} {H H' : Hp} {a : Addr} {q : Pnt} (h : PtAt K H a q) (e : Same H H') : PtAt K H' a q := by
  obtain ⟨u, v, h1, h2, h3⟩ := h.ex
  exact ⟨u, v, same_tup e h1, h2.to e, h3.to e⟩
/-- a station's attributes, in the order in which they are set -/
def sF (s : Stn) : List (Str × V) := [("time", .int s.e.t), ("place", .int s.e.x), ("p", .int (s.k.p : Int)), ("q", .int (s.k.q : Int))]
theorem lk_here {k : Str} {v : V} {r : List (Str × V)} : List.lookup k ((k, v) :: r) = some v := by
  have e : (k == k) = true := beq_self_eq_true k
  simp only [List.lookup, e]
theorem lk_past {k g : Str} {v : V} {r : List (Str × V)} (h : (k == g) = false) : List.lookup k ((g, v) :: r) = List.lookup k r := by
  simp only [List.lookup, h]
theorem put_here {f : Str} {v x : V} {r : List (Str × V)} : putF f v ((f, x) :: r) = (f, v) :: r := if_pos rfl
theorem put_past {f g : Str} {v x : V} {r : List (Str × V)} (h : ¬ g = f) : putF f v ((g, x) :: r) = (g, x) :: putF f v r := if_neg h
theorem sF_time (s : Stn) : (sF s).lookup ("time" : Str) = some (.int s.e.t) := lk_here
theorem sF_place (s : Stn) : (sF s).lookup ("place" : Str) = some (.int s.e.x) := (lk_past (by decide +kernel)).trans lk_here
theorem sF_p (s : Stn) : (sF s).lookup ("p" : Str) = some (.int (s.k.p : Int)) := (lk_past (by decide +kernel)).trans ((lk_past (by decide +kernel)).trans lk_here)
theorem sF_q (s : Stn) : (sF s).lookup ("q" : Str) = some (.int (s.k.q : Int)) := (lk_past (by decide +kernel)).trans ((lk_past (by decide +kernel)).trans ((lk_past (by decide +kernel)).trans lk_here))
def StAt (C : Addr) (H : Hp) (a : Addr) (s : Stn) : Prop := ∃ dx, H a = some (.ins C dx (sF s))
theorem StAt.to {C : Addr} {H H' : Hp} {a : Addr} {s : Stn} (h : StAt C H a s) (e : Same H H') : StAt C H' a s := by
  obtain ⟨dx, h⟩ := h
  exact ⟨dx, e _ _ h⟩

/-! ### tests whose answer is known -/
theorem if_true_of {c : Bool} {A B : Prop} (hc : c = true) (h : A) : if c = true then A else B := by
  rw [if_pos hc]
  exact h
theorem if_false_of {c : Bool} {A B : Prop} (hc : c = false) (h : B) : if c = true then A else B := by
  rw [hc, if_neg Bool.false_ne_true]
  exact h
theorem if_cases {c : Bool} {A B : Prop} (h1 : c = true → A) (h2 : c = false → B) : if c = true then A else B := by
  cases c with
  | true => exact if_true_of rfl (h1 rfl)
  | false => exact if_false_of rfl (h2 rfl)

theorem not_t {b : Bool} (h : (!b) = true) : b = false := by
  cases b with
  | true => cases h
  | false => rfl
theorem not_f {b : Bool} (h : (!b) = false) : b = true := by
  cases b with
  | false => cases h
  | true => rfl
/-! ### what the reckoning of fractions asks of sizes -/
theorem Sz.mulW {i j : Nat} {x : Fr} {y : Fr} (hx : Sz i x) (hy : Sz j y) (hi : 0 < i) (hj : 0 < j) (h : i + j ≤ 1000000) : CMulW x.n (y.d : Int) :=
  wide_mul hx.up (by rw [Int.natAbs_natCast]; exact hy.lo) hi hj h
theorem Sz.mulD {i j : Nat} {x : Fr} {y : Fr} (hx : Sz i x) (hy : Sz j y) (hi : 0 < i) (hj : 0 < j) (h : i + j ≤ 1000000) : CMulW (x.d : Int) (y.d : Int) :=
  wide_mul (by rw [Int.natAbs_natCast]; exact hx.lo) (by rw [Int.natAbs_natCast]; exact hy.lo) hi hj h
end Sig
set_option Elab.async false
set_option linter.all false
set_option maxRecDepth 100000
set_option maxHeartbeats 2000000
/-! The program's text by places. -/
namespace Sig
open PySem PySem.Spec PyProof.Rows L2
def top (i : Nat) : Stmt := PySem.Challenge.pw_stationsignals_s01_answers.main.body.getD i (.Pass ⟨0, 0, 0, 0⟩)
abbrev s_Board__init_ : Stmt := inClass (top 2) 0
abbrev n_Board__init_ : List Str := ["self"]
abbrev p_Board__init_ : List Str := ["self"]
theorem sc_Board__init_ : FnScope n_Board__init_ p_Board__init_ (defScope s_Board__init_) := ⟨rfl, rfl, rfl, by decide +kernel, rfl, by decide +kernel, by decide +kernel⟩
abbrev s_Board_begin : Stmt := inClass (top 2) 1
abbrev n_Board_begin : List Str := ["self"]
abbrev p_Board_begin : List Str := ["self"]
theorem sc_Board_begin : FnScope n_Board_begin p_Board_begin (defScope s_Board_begin) := ⟨rfl, rfl, rfl, by decide +kernel, rfl, by decide +kernel, by decide +kernel⟩
abbrev s_Board_change_to : Stmt := inClass (top 2) 2
abbrev n_Board_change_to : List Str := ["self", "stations", "past"]
abbrev p_Board_change_to : List Str := ["self", "stations"]
theorem sc_Board_change_to : FnScope n_Board_change_to p_Board_change_to (defScope s_Board_change_to) := ⟨rfl, rfl, rfl, by decide +kernel, rfl, by decide +kernel, by decide +kernel⟩
abbrev s_Board_take_back : Stmt := inClass (top 2) 3
abbrev n_Board_take_back : List Str := ["self"]
abbrev p_Board_take_back : List Str := ["self"]
theorem sc_Board_take_back : FnScope n_Board_take_back p_Board_take_back (defScope s_Board_take_back) := ⟨rfl, rfl, rfl, by decide +kernel, rfl, by decide +kernel, by decide +kernel⟩
abbrev s_greatest_common : Stmt := top 4
abbrev n_greatest_common : List Str := ["a", "b", "rest"]
abbrev p_greatest_common : List Str := ["a", "b"]
theorem sc_greatest_common : FnScope n_greatest_common p_greatest_common (defScope s_greatest_common) := ⟨rfl, rfl, rfl, by decide +kernel, rfl, by decide +kernel, by decide +kernel⟩
abbrev s_ratio : Stmt := top 5
abbrev n_ratio : List Str := ["upper", "lower", "shared"]
abbrev p_ratio : List Str := ["upper", "lower"]
theorem sc_ratio : FnScope n_ratio p_ratio (defScope s_ratio) := ⟨rfl, rfl, rfl, by decide +kernel, rfl, by decide +kernel, by decide +kernel⟩
abbrev s_plus : Stmt := top 6
abbrev n_plus : List Str := ["a", "b"]
abbrev p_plus : List Str := ["a", "b"]
theorem sc_plus : FnScope n_plus p_plus (defScope s_plus) := ⟨rfl, rfl, rfl, by decide +kernel, rfl, by decide +kernel, by decide +kernel⟩
abbrev s_minus : Stmt := top 7
abbrev n_minus : List Str := ["a", "b"]
abbrev p_minus : List Str := ["a", "b"]
theorem sc_minus : FnScope n_minus p_minus (defScope s_minus) := ⟨rfl, rfl, rfl, by decide +kernel, rfl, by decide +kernel, by decide +kernel⟩
abbrev s_scaled : Stmt := top 8
abbrev n_scaled : List Str := ["a", "p", "q"]
abbrev p_scaled : List Str := ["a", "p", "q"]
theorem sc_scaled : FnScope n_scaled p_scaled (defScope s_scaled) := ⟨rfl, rfl, rfl, by decide +kernel, rfl, by decide +kernel, by decide +kernel⟩
abbrev s_over : Stmt := top 9
abbrev n_over : List Str := ["a", "whole"]
abbrev p_over : List Str := ["a", "whole"]
theorem sc_over : FnScope n_over p_over (defScope s_over) := ⟨rfl, rfl, rfl, by decide +kernel, rfl, by decide +kernel, by decide +kernel⟩
abbrev s_is_less : Stmt := top 10
abbrev n_is_less : List Str := ["a", "b"]
abbrev p_is_less : List Str := ["a", "b"]
theorem sc_is_less : FnScope n_is_less p_is_less (defScope s_is_less) := ⟨rfl, rfl, rfl, by decide +kernel, rfl, by decide +kernel, by decide +kernel⟩
abbrev s_greater : Stmt := top 11
abbrev n_greater : List Str := ["a", "b"]
abbrev p_greater : List Str := ["a", "b"]
theorem sc_greater : FnScope n_greater p_greater (defScope s_greater) := ⟨rfl, rfl, rfl, by decide +kernel, rfl, by decide +kernel, by decide +kernel⟩
abbrev s_lesser : Stmt := top 12
abbrev n_lesser : List Str := ["a", "b"]
abbrev p_lesser : List Str := ["a", "b"]
theorem sc_lesser : FnScope n_lesser p_lesser (defScope s_lesser) := ⟨rfl, rfl, rfl, by decide +kernel, rfl, by decide +kernel, by decide +kernel⟩
abbrev s_Station__init_ : Stmt := inClass (top 17) 0
abbrev n_Station__init_ : List Str := ["self", "time", "place", "p", "q", "factor"]
abbrev p_Station__init_ : List Str := ["self", "time", "place", "p", "q"]
theorem sc_Station__init_ : FnScope n_Station__init_ p_Station__init_ (defScope s_Station__init_) := ⟨rfl, rfl, rfl, by decide +kernel, rfl, by decide +kernel, by decide +kernel⟩
abbrev s_spot_point : Stmt := top 18
abbrev n_spot_point : List Str := ["t", "x"]
abbrev p_spot_point : List Str := ["t", "x"]
theorem sc_spot_point : FnScope n_spot_point p_spot_point (defScope s_spot_point) := ⟨rfl, rfl, rfl, by decide +kernel, rfl, by decide +kernel, by decide +kernel⟩
abbrev s_start_of : Stmt := top 19
abbrev n_start_of : List Str := ["station"]
abbrev p_start_of : List Str := ["station"]
theorem sc_start_of : FnScope n_start_of p_start_of (defScope s_start_of) := ⟨rfl, rfl, rfl, by decide +kernel, rfl, by decide +kernel, by decide +kernel⟩
abbrev s_point_at : Stmt := top 20
abbrev n_point_at : List Str := ["station", "clock", "start", "less", "together"]
abbrev p_point_at : List Str := ["station", "clock"]
theorem sc_point_at : FnScope n_point_at p_point_at (defScope s_point_at) := ⟨rfl, rfl, rfl, by decide +kernel, rfl, by decide +kernel, by decide +kernel⟩
abbrev s_time_of : Stmt := top 21
abbrev n_time_of : List Str := ["point"]
abbrev p_time_of : List Str := ["point"]
theorem sc_time_of : FnScope n_time_of p_time_of (defScope s_time_of) := ⟨rfl, rfl, rfl, by decide +kernel, rfl, by decide +kernel, by decide +kernel⟩
abbrev s_place_of : Stmt := top 22
abbrev n_place_of : List Str := ["point"]
abbrev p_place_of : List Str := ["point"]
theorem sc_place_of : FnScope n_place_of p_place_of (defScope s_place_of) := ⟨rfl, rfl, rfl, by decide +kernel, rfl, by decide +kernel, by decide +kernel⟩
abbrev s_clock_by_less : Stmt := top 23
abbrev n_clock_by_less : List Str := ["station", "point"]
abbrev p_clock_by_less : List Str := ["station", "point"]
theorem sc_clock_by_less : FnScope n_clock_by_less p_clock_by_less (defScope s_clock_by_less) := ⟨rfl, rfl, rfl, by decide +kernel, rfl, by decide +kernel, by decide +kernel⟩
abbrev s_clock_by_together : Stmt := top 24
abbrev n_clock_by_together : List Str := ["station", "point"]
abbrev p_clock_by_together : List Str := ["station", "point"]
theorem sc_clock_by_together : FnScope n_clock_by_together p_clock_by_together (defScope s_clock_by_together) := ⟨rfl, rfl, rfl, by decide +kernel, rfl, by decide +kernel, by decide +kernel⟩
abbrev s_heard : Stmt := top 25
abbrev n_heard : List Str := ["station", "point"]
abbrev p_heard : List Str := ["station", "point"]
theorem sc_heard : FnScope n_heard p_heard (defScope s_heard) := ⟨rfl, rfl, rfl, by decide +kernel, rfl, by decide +kernel, by decide +kernel⟩
abbrev s_heard_of_till : Stmt := top 26
abbrev n_heard_of_till : List Str := ["station", "point"]
abbrev p_heard_of_till : List Str := ["station", "point"]
theorem sc_heard_of_till : FnScope n_heard_of_till p_heard_of_till (defScope s_heard_of_till) := ⟨rfl, rfl, rfl, by decide +kernel, rfl, by decide +kernel, by decide +kernel⟩
abbrev s_own_time : Stmt := top 27
abbrev n_own_time : List Str := ["station", "point"]
abbrev p_own_time : List Str := ["station", "point"]
theorem sc_own_time : FnScope n_own_time p_own_time (defScope s_own_time) := ⟨rfl, rfl, rfl, by decide +kernel, rfl, by decide +kernel, by decide +kernel⟩
abbrev s_own_place : Stmt := top 28
abbrev n_own_place : List Str := ["station", "point"]
abbrev p_own_place : List Str := ["station", "point"]
theorem sc_own_place : FnScope n_own_place p_own_place (defScope s_own_place) := ⟨rfl, rfl, rfl, by decide +kernel, rfl, by decide +kernel, by decide +kernel⟩
abbrev s_side_of : Stmt := top 29
abbrev n_side_of : List Str := ["station", "point", "by_less", "by_together"]
abbrev p_side_of : List Str := ["station", "point"]
theorem sc_side_of : FnScope n_side_of p_side_of (defScope s_side_of) := ⟨rfl, rfl, rfl, by decide +kernel, rfl, by decide +kernel, by decide +kernel⟩
abbrev s_arrival : Stmt := top 30
abbrev n_arrival : List Str := ["sender", "hearer", "clock"]
abbrev p_arrival : List Str := ["sender", "hearer", "clock"]
theorem sc_arrival : FnScope n_arrival p_arrival (defScope s_arrival) := ⟨rfl, rfl, rfl, by decide +kernel, rfl, by decide +kernel, by decide +kernel⟩
abbrev s_arrival_along : Stmt := top 31
abbrev n_arrival_along : List Str := ["row", "clock", "sender", "hearer"]
abbrev p_arrival_along : List Str := ["row", "clock"]
theorem sc_arrival_along : FnScope n_arrival_along p_arrival_along (defScope s_arrival_along) := ⟨rfl, rfl, rfl, by decide +kernel, rfl, by decide +kernel, by decide +kernel⟩
abbrev s_same_factor : Stmt := top 32
abbrev n_same_factor : List Str := ["one", "other"]
abbrev p_same_factor : List Str := ["one", "other"]
theorem sc_same_factor : FnScope n_same_factor p_same_factor (defScope s_same_factor) := ⟨rfl, rfl, rfl, by decide +kernel, rfl, by decide +kernel, by decide +kernel⟩
abbrev s_factor_squares : Stmt := top 33
abbrev n_factor_squares : List Str := ["one", "other", "upper", "lower"]
abbrev p_factor_squares : List Str := ["one", "other"]
theorem sc_factor_squares : FnScope n_factor_squares p_factor_squares (defScope s_factor_squares) := ⟨rfl, rfl, rfl, by decide +kernel, rfl, by decide +kernel, by decide +kernel⟩
abbrev s_speed_of : Stmt := top 34
abbrev n_speed_of : List Str := ["one", "other", "squares"]
abbrev p_speed_of : List Str := ["one", "other"]
theorem sc_speed_of : FnScope n_speed_of p_speed_of (defScope s_speed_of) := ⟨rfl, rfl, rfl, by decide +kernel, rfl, by decide +kernel, by decide +kernel⟩
abbrev s_meeting_clock : Stmt := top 35
abbrev n_meeting_clock : List Str := ["one", "other", "start", "squares", "by_less", "by_together"]
abbrev p_meeting_clock : List Str := ["one", "other"]
theorem sc_meeting_clock : FnScope n_meeting_clock p_meeting_clock (defScope s_meeting_clock) := ⟨rfl, rfl, rfl, by decide +kernel, rfl, by decide +kernel, by decide +kernel⟩
abbrev s_is_station : Stmt := top 46
abbrev n_is_station : List Str := ["board", "i"]
abbrev p_is_station : List Str := ["board", "i"]
theorem sc_is_station : FnScope n_is_station p_is_station (defScope s_is_station) := ⟨rfl, rfl, rfl, by decide +kernel, rfl, by decide +kernel, by decide +kernel⟩
abbrev s_is_spot : Stmt := top 47
abbrev n_is_spot : List Str := ["t", "x"]
abbrev p_is_spot : List Str := ["t", "x"]
theorem sc_is_spot : FnScope n_is_spot p_is_spot (defScope s_is_spot) := ⟨rfl, rfl, rfl, by decide +kernel, rfl, by decide +kernel, by decide +kernel⟩
abbrev s_is_factor : Stmt := top 48
abbrev n_is_factor : List Str := ["p", "q"]
abbrev p_is_factor : List Str := ["p", "q"]
theorem sc_is_factor : FnScope n_is_factor p_is_factor (defScope s_is_factor) := ⟨rfl, rfl, rfl, by decide +kernel, rfl, by decide +kernel, by decide +kernel⟩
abbrev s_is_clock : Stmt := top 49
abbrev n_is_clock : List Str := ["n", "d"]
abbrev p_is_clock : List Str := ["n", "d"]
theorem sc_is_clock : FnScope n_is_clock p_is_clock (defScope s_is_clock) := ⟨rfl, rfl, rfl, by decide +kernel, rfl, by decide +kernel, by decide +kernel⟩
abbrev s_clock_refusal : Stmt := top 50
abbrev n_clock_refusal : List Str := ["board", "i", "n", "d"]
abbrev p_clock_refusal : List Str := ["board", "i", "n", "d"]
theorem sc_clock_refusal : FnScope n_clock_refusal p_clock_refusal (defScope s_clock_refusal) := ⟨rfl, rfl, rfl, by decide +kernel, rfl, by decide +kernel, by decide +kernel⟩
abbrev s_spot_refusal : Stmt := top 51
abbrev n_spot_refusal : List Str := ["board", "i", "t", "x"]
abbrev p_spot_refusal : List Str := ["board", "i", "t", "x"]
theorem sc_spot_refusal : FnScope n_spot_refusal p_spot_refusal (defScope s_spot_refusal) := ⟨rfl, rfl, rfl, by decide +kernel, rfl, by decide +kernel, by decide +kernel⟩
abbrev s_pair_refusal : Stmt := top 52
abbrev n_pair_refusal : List Str := ["board", "i", "j"]
abbrev p_pair_refusal : List Str := ["board", "i", "j"]
theorem sc_pair_refusal : FnScope n_pair_refusal p_pair_refusal (defScope s_pair_refusal) := ⟨rfl, rfl, rfl, by decide +kernel, rfl, by decide +kernel, by decide +kernel⟩
abbrev s_sending_refusal : Stmt := top 53
abbrev n_sending_refusal : List Str := ["board", "i", "j", "n", "d", "refusal"]
abbrev p_sending_refusal : List Str := ["board", "i", "j", "n", "d"]
theorem sc_sending_refusal : FnScope n_sending_refusal p_sending_refusal (defScope s_sending_refusal) := ⟨rfl, rfl, rfl, by decide +kernel, rfl, by decide +kernel, by decide +kernel⟩
abbrev s_row_refusal : Stmt := top 54
abbrev n_row_refusal : List Str := ["board", "row", "n", "d", "i"]
abbrev p_row_refusal : List Str := ["board", "row", "n", "d"]
theorem sc_row_refusal : FnScope n_row_refusal p_row_refusal (defScope s_row_refusal) := ⟨rfl, rfl, rfl, by decide +kernel, rfl, by decide +kernel, by decide +kernel⟩
abbrev s_without : Stmt := top 57
abbrev n_without : List Str := ["stations", "i"]
abbrev p_without : List Str := ["stations", "i"]
theorem sc_without : FnScope n_without p_without (defScope s_without) := ⟨rfl, rfl, rfl, by decide +kernel, rfl, by decide +kernel, by decide +kernel⟩
abbrev s_put_in_place : Stmt := top 58
abbrev n_put_in_place : List Str := ["stations", "i", "station"]
abbrev p_put_in_place : List Str := ["stations", "i", "station"]
theorem sc_put_in_place : FnScope n_put_in_place p_put_in_place (defScope s_put_in_place) := ⟨rfl, rfl, rfl, by decide +kernel, rfl, by decide +kernel, by decide +kernel⟩
abbrev s_add_station : Stmt := top 59
abbrev n_add_station : List Str := ["board", "t", "x", "p", "q", "number"]
abbrev p_add_station : List Str := ["board", "t", "x", "p", "q"]
theorem sc_add_station : FnScope n_add_station p_add_station (defScope s_add_station) := ⟨rfl, rfl, rfl, by decide +kernel, rfl, by decide +kernel, by decide +kernel⟩
abbrev s_drop_station : Stmt := top 60
abbrev n_drop_station : List Str := ["board", "i"]
abbrev p_drop_station : List Str := ["board", "i"]
theorem sc_drop_station : FnScope n_drop_station p_drop_station (defScope s_drop_station) := ⟨rfl, rfl, rfl, by decide +kernel, rfl, by decide +kernel, by decide +kernel⟩
abbrev s_move_station : Stmt := top 61
abbrev n_move_station : List Str := ["board", "i", "p", "q", "old"]
abbrev p_move_station : List Str := ["board", "i", "p", "q"]
theorem sc_move_station : FnScope n_move_station p_move_station (defScope s_move_station) := ⟨rfl, rfl, rfl, by decide +kernel, rfl, by decide +kernel, by decide +kernel⟩
abbrev s_set_station : Stmt := top 62
abbrev n_set_station : List Str := ["board", "i", "t", "x", "old"]
abbrev p_set_station : List Str := ["board", "i", "t", "x"]
theorem sc_set_station : FnScope n_set_station p_set_station (defScope s_set_station) := ⟨rfl, rfl, rfl, by decide +kernel, rfl, by decide +kernel, by decide +kernel⟩
abbrev s_take_last_back : Stmt := top 63
abbrev n_take_last_back : List Str := ["board"]
abbrev p_take_last_back : List Str := ["board"]
theorem sc_take_last_back : FnScope n_take_last_back p_take_last_back (defScope s_take_last_back) := ⟨rfl, rfl, rfl, by decide +kernel, rfl, by decide +kernel, by decide +kernel⟩
abbrev s_tell_one : Stmt := top 65
abbrev n_tell_one : List Str := ["fraction"]
abbrev p_tell_one : List Str := ["fraction"]
theorem sc_tell_one : FnScope n_tell_one p_tell_one (defScope s_tell_one) := ⟨rfl, rfl, rfl, by decide +kernel, rfl, by decide +kernel, by decide +kernel⟩
abbrev s_tell_two : Stmt := top 66
abbrev n_tell_two : List Str := ["number", "first", "second"]
abbrev p_tell_two : List Str := ["number", "first", "second"]
theorem sc_tell_two : FnScope n_tell_two p_tell_two (defScope s_tell_two) := ⟨rfl, rfl, rfl, by decide +kernel, rfl, by decide +kernel, by decide +kernel⟩
abbrev s_tell_state : Stmt := top 67
abbrev n_tell_state : List Str := ["board"]
abbrev p_tell_state : List Str := ["board"]
theorem sc_tell_state : FnScope n_tell_state p_tell_state (defScope s_tell_state) := ⟨rfl, rfl, rfl, by decide +kernel, rfl, by decide +kernel, by decide +kernel⟩
abbrev s_tell_station : Stmt := top 68
abbrev n_tell_station : List Str := ["board", "i", "station"]
abbrev p_tell_station : List Str := ["board", "i"]
theorem sc_tell_station : FnScope n_tell_station p_tell_station (defScope s_tell_station) := ⟨rfl, rfl, rfl, by decide +kernel, rfl, by decide +kernel, by decide +kernel⟩
abbrev s_tell_where : Stmt := top 69
abbrev n_tell_where : List Str := ["board", "i", "n", "d", "refusal", "point"]
abbrev p_tell_where : List Str := ["board", "i", "n", "d"]
theorem sc_tell_where : FnScope n_tell_where p_tell_where (defScope s_tell_where) := ⟨rfl, rfl, rfl, by decide +kernel, rfl, by decide +kernel, by decide +kernel⟩
abbrev s_tell_hears : Stmt := top 70
abbrev n_tell_hears : List Str := ["board", "i", "t", "x", "refusal"]
abbrev p_tell_hears : List Str := ["board", "i", "t", "x"]
theorem sc_tell_hears : FnScope n_tell_hears p_tell_hears (defScope s_tell_hears) := ⟨rfl, rfl, rfl, by decide +kernel, rfl, by decide +kernel, by decide +kernel⟩
abbrev s_tell_till : Stmt := top 71
abbrev n_tell_till : List Str := ["board", "i", "t", "x", "refusal"]
abbrev p_tell_till : List Str := ["board", "i", "t", "x"]
theorem sc_tell_till : FnScope n_tell_till p_tell_till (defScope s_tell_till) := ⟨rfl, rfl, rfl, by decide +kernel, rfl, by decide +kernel, by decide +kernel⟩
abbrev s_tell_own_of_point : Stmt := top 72
abbrev n_tell_own_of_point : List Str := ["station", "point"]
abbrev p_tell_own_of_point : List Str := ["station", "point"]
theorem sc_tell_own_of_point : FnScope n_tell_own_of_point p_tell_own_of_point (defScope s_tell_own_of_point) := ⟨rfl, rfl, rfl, by decide +kernel, rfl, by decide +kernel, by decide +kernel⟩
abbrev s_tell_own : Stmt := top 73
abbrev n_tell_own : List Str := ["board", "i", "t", "x", "refusal"]
abbrev p_tell_own : List Str := ["board", "i", "t", "x"]
theorem sc_tell_own : FnScope n_tell_own p_tell_own (defScope s_tell_own) := ⟨rfl, rfl, rfl, by decide +kernel, rfl, by decide +kernel, by decide +kernel⟩
abbrev s_tell_send : Stmt := top 74
abbrev n_tell_send : List Str := ["board", "i", "j", "n", "d", "refusal"]
abbrev p_tell_send : List Str := ["board", "i", "j", "n", "d"]
theorem sc_tell_send : FnScope n_tell_send p_tell_send (defScope s_tell_send) := ⟨rfl, rfl, rfl, by decide +kernel, rfl, by decide +kernel, by decide +kernel⟩
abbrev s_tell_echo : Stmt := top 75
abbrev n_tell_echo : List Str := ["board", "i", "j", "n", "d", "refusal", "sender", "hearer", "came"]
abbrev p_tell_echo : List Str := ["board", "i", "j", "n", "d"]
theorem sc_tell_echo : FnScope n_tell_echo p_tell_echo (defScope s_tell_echo) := ⟨rfl, rfl, rfl, by decide +kernel, rfl, by decide +kernel, by decide +kernel⟩
abbrev s_tell_ticks : Stmt := top 76
abbrev n_tell_ticks : List Str := ["board", "i", "j", "n", "d", "refusal", "sender", "hearer", "clock", "first", "second"]
abbrev p_tell_ticks : List Str := ["board", "i", "j", "n", "d"]
theorem sc_tell_ticks : FnScope n_tell_ticks p_tell_ticks (defScope s_tell_ticks) := ⟨rfl, rfl, rfl, by decide +kernel, rfl, by decide +kernel, by decide +kernel⟩
abbrev s_tell_ownof : Stmt := top 77
abbrev n_tell_ownof : List Str := ["board", "i", "j", "n", "d", "refusal"]
abbrev p_tell_ownof : List Str := ["board", "i", "j", "n", "d"]
theorem sc_tell_ownof : FnScope n_tell_ownof p_tell_ownof (defScope s_tell_ownof) := ⟨rfl, rfl, rfl, by decide +kernel, rfl, by decide +kernel, by decide +kernel⟩
abbrev s_tell_closing : Stmt := top 78
abbrev n_tell_closing : List Str := ["board", "i", "j", "refusal"]
abbrev p_tell_closing : List Str := ["board", "i", "j"]
theorem sc_tell_closing : FnScope n_tell_closing p_tell_closing (defScope s_tell_closing) := ⟨rfl, rfl, rfl, by decide +kernel, rfl, by decide +kernel, by decide +kernel⟩
abbrev s_tell_meet : Stmt := top 79
abbrev n_tell_meet : List Str := ["board", "i", "j", "refusal", "one", "other", "clock"]
abbrev p_tell_meet : List Str := ["board", "i", "j"]
theorem sc_tell_meet : FnScope n_tell_meet p_tell_meet (defScope s_tell_meet) := ⟨rfl, rfl, rfl, by decide +kernel, rfl, by decide +kernel, by decide +kernel⟩
abbrev s_tell_relay : Stmt := top 80
abbrev n_tell_relay : List Str := ["board", "row", "n", "d", "refusal", "i"]
abbrev p_tell_relay : List Str := ["board", "row", "n", "d"]
theorem sc_tell_relay : FnScope n_tell_relay p_tell_relay (defScope s_tell_relay) := ⟨rfl, rfl, rfl, by decide +kernel, rfl, by decide +kernel, by decide +kernel⟩
abbrev s_tell_round : Stmt := top 81
abbrev n_tell_round : List Str := ["board", "row", "n", "d", "refusal", "there_and_back", "i"]
abbrev p_tell_round : List Str := ["board", "row", "n", "d"]
theorem sc_tell_round : FnScope n_tell_round p_tell_round (defScope s_tell_round) := ⟨rfl, rfl, rfl, by decide +kernel, rfl, by decide +kernel, by decide +kernel⟩
abbrev s_call_length : Stmt := top 103
abbrev n_call_length : List Str := ["calls", "start", "number", "length"]
abbrev p_call_length : List Str := ["calls", "start"]
theorem sc_call_length : FnScope n_call_length p_call_length (defScope s_call_length) := ⟨rfl, rfl, rfl, by decide +kernel, rfl, by decide +kernel, by decide +kernel⟩
abbrev s_change : Stmt := top 104
abbrev n_change : List Str := ["board", "number", "given"]
abbrev p_change : List Str := ["board", "number", "given"]
theorem sc_change : FnScope n_change p_change (defScope s_change) := ⟨rfl, rfl, rfl, by decide +kernel, rfl, by decide +kernel, by decide +kernel⟩
abbrev s_look_at_one : Stmt := top 105
abbrev n_look_at_one : List Str := ["board", "number", "given"]
abbrev p_look_at_one : List Str := ["board", "number", "given"]
theorem sc_look_at_one : FnScope n_look_at_one p_look_at_one (defScope s_look_at_one) := ⟨rfl, rfl, rfl, by decide +kernel, rfl, by decide +kernel, by decide +kernel⟩
abbrev s_look_at_two : Stmt := top 106
abbrev n_look_at_two : List Str := ["board", "number", "given"]
abbrev p_look_at_two : List Str := ["board", "number", "given"]
theorem sc_look_at_two : FnScope n_look_at_two p_look_at_two (defScope s_look_at_two) := ⟨rfl, rfl, rfl, by decide +kernel, rfl, by decide +kernel, by decide +kernel⟩
abbrev s_look_along_row : Stmt := top 107
abbrev n_look_along_row : List Str := ["board", "number", "given", "row"]
abbrev p_look_along_row : List Str := ["board", "number", "given"]
theorem sc_look_along_row : FnScope n_look_along_row p_look_along_row (defScope s_look_along_row) := ⟨rfl, rfl, rfl, by decide +kernel, rfl, by decide +kernel, by decide +kernel⟩
abbrev s_answer : Stmt := top 108
abbrev n_answer : List Str := ["board", "number", "given"]
abbrev p_answer : List Str := ["board", "number", "given"]
theorem sc_answer : FnScope n_answer p_answer (defScope s_answer) := ⟨rfl, rfl, rfl, by decide +kernel, rfl, by decide +kernel, by decide +kernel⟩
abbrev s_answers : Stmt := top 109
abbrev n_answers : List Str := ["calls", "board", "told", "start", "behind", "one"]
abbrev p_answers : List Str := ["calls"]
theorem sc_answers : FnScope n_answers p_answers (defScope s_answers) := ⟨rfl, rfl, rfl, by decide +kernel, rfl, by decide +kernel, by decide +kernel⟩
structure Txt (K : PySem.W.Frag) (mg : Str → Option Value) (C_Board C_Station : Addr) : Prop where
  c_MOST_CHANGES : CI mg "MOST_CHANGES" (10)
  c_THERE : CI mg "THERE" (0)
  c_ON_THE_RIGHT : CI mg "ON_THE_RIGHT" (1)
  c_ON_THE_LEFT : CI mg "ON_THE_LEFT" (2)
  c_NO_STATION : CI mg "NO_STATION" (-2)
  c_NO_CHANGE : CI mg "NO_CHANGE" (-6)
  c_NOT_BEGUN : CI mg "NOT_BEGUN" (-11)
  c_OUT_OF_RANGE : CI mg "OUT_OF_RANGE" (-22)
  c_TOO_MANY : CI mg "TOO_MANY" (-28)
  c_THERE_IS_NONE : CI mg "THERE_IS_NONE" (-33)
  c_LEAST_ROW : CI mg "LEAST_ROW" (2)
  c_MOST_ROW : CI mg "MOST_ROW" (6)
  c_NONE_DUE : CI mg "NONE_DUE" (0)
  c_MOST_STATIONS : CI mg "MOST_STATIONS" (6)
  c_BEGIN : CI mg "BEGIN" (0)
  c_STATION : CI mg "STATION" (1)
  c_DROP : CI mg "DROP" (2)
  c_MOVE : CI mg "MOVE" (3)
  c_SET : CI mg "SET" (4)
  c_IS : CI mg "IS" (5)
  c_AT : CI mg "AT" (6)
  c_SEND : CI mg "SEND" (7)
  c_ECHO : CI mg "ECHO" (8)
  c_TICKS : CI mg "TICKS" (9)
  c_HEARS : CI mg "HEARS" (10)
  c_TILL : CI mg "TILL" (11)
  c_OWN : CI mg "OWN" (12)
  c_OWNOF : CI mg "OWNOF" (13)
  c_MEET : CI mg "MEET" (14)
  c_RELAY : CI mg "RELAY" (15)
  c_ROUND : CI mg "ROUND" (16)
  c_BACK : CI mg "BACK" (18)
  c_STATE : CI mg "STATE" (19)
  g_GIVEN : ∃ a, mg "GIVEN" = some (.ref a) ∧ ∀ H, SqT K H a [.int (0), .int (4), .int (1), .int (3), .int (3), .int (1), .int (3), .int (4), .int (4), .int (4), .int (3), .int (3), .int (3), .int (4), .int (2), .int (3), .int (3), .int (2), .int (0), .int (0)]
  z_len : mg "len" = none
  z_abs : mg "abs" = none
  k_Board : Cls K C_Board
  a_Board_begun : NoAttr K C_Board "begun"
  a_Board_stations : NoAttr K C_Board "stations"
  a_Board_past : NoAttr K C_Board "past"
  k_Station : Cls K C_Station
  a_Station_time : NoAttr K C_Station "time"
  a_Station_place : NoAttr K C_Station "place"
  a_Station_p : NoAttr K C_Station "p"
  a_Station_q : NoAttr K C_Station "q"
end Sig
set_option Elab.async false
set_option linter.all false
set_option maxRecDepth 100000
set_option maxHeartbeats 4000000
/-! Fractions: ratios.py -/
namespace Sig
open PySem PySem.Spec PyProof.Rows L2
local macro_rules | `(tactic| walk_at "sig") => `(tactic| repeat (first
  | refine ⟨_, rfl, ?_⟩
  | refine ⟨_, _, rfl, rfl, ?_⟩
  | refine And.intro (show CMulW _ _ by assumption) ?_
  | refine ⟨_, _, _, _, rfl, rfl, (by assumption), rfl, ?_⟩))
/-! ### promises -/
def spGcd : Sp := fun vs H Q _ => ∃ a b : Nat, vs = [.int (a : Int), .int (b : Int)] ∧ 0 < b ∧ Q (.int (Nat.gcd a b : Nat)) H
def spRatio (K : PySem.W.Frag) : Sp := fun vs H Q _ => ∃ (n : Int) (d : Nat), vs = [.int n, .int (d : Int)] ∧ 0 < d ∧ d < 2 ^ 9000 ∧ GivesFr K H Q (Kv414.Q.red ⟨n, d⟩)
def spTwo (g : Fr → Fr → Fr) (K : PySem.W.Frag) : Sp := fun vs H Q _ => ∃ (a b : Addr) (x y : Fr), vs = [.ref a, .ref b] ∧ FrAt K H a x ∧ FrAt K H b y ∧ Sz 4000 x ∧ Sz 4000 y ∧ GivesFr K H Q (g x y)
def spScaled (K : PySem.W.Frag) : Sp := fun vs H Q _ => ∃ (a : Addr) (x : Fr) (p q : Nat), vs = [.ref a, .int (p : Int), .int (q : Int)] ∧ FrAt K H a x ∧ Sz 4000 x ∧ p < 2 ^ 100 ∧ 0 < q ∧ q < 2 ^ 100 ∧ GivesFr K H Q (x.mul ⟨(p : Int), q⟩)
def spGreater (K : PySem.W.Frag) : Sp := fun vs H Q _ => ∃ (a b : Addr) (x y : Fr), vs = [.ref a, .ref b] ∧ FrAt K H a x ∧ FrAt K H b y ∧ Sz 4000 x ∧ Sz 4000 y ∧ Red x ∧ Red y ∧ GivesFr K H Q (if x.le y = true then y else x)
-- ovr: SigP
def spOver (K : PySem.W.Frag) : Sp := fun vs H Q _ => ∃ (a : Addr) (x : Fr) (z : Int), vs = [.ref a, .int z] ∧ FrAt K H a x ∧ Sz 4000 x ∧ z ≠ 0 ∧ z.natAbs < 2 ^ 100 ∧ GivesFr K H Q (ovr x z)
def spIsLess (K : PySem.W.Frag) : Sp := fun vs H Q _ => ∃ (a b : Addr) (x y : Fr), vs = [.ref a, .ref b] ∧ FrAt K H a x ∧ FrAt K H b y ∧ Sz 4000 x ∧ Sz 4000 y ∧ Q (.bl (decide (x.n * (y.d : Int) < y.n * (x.d : Int)))) H
def spLesser (K : PySem.W.Frag) : Sp := fun vs H Q _ => ∃ (a b : Addr) (x y : Fr), vs = [.ref a, .ref b] ∧ FrAt K H a x ∧ FrAt K H b y ∧ Sz 4000 x ∧ Sz 4000 y ∧ GivesFr K H Q (if x.le y = true then x else y)
theorem lesser_is {x y : Fr} : (if y.n * (x.d : Int) < x.n * (y.d : Int) then y else x) = (if x.le y = true then x else y) := by
  show _ = if decide (x.n * (y.d : Int) ≤ y.n * (x.d : Int)) = true then x else y
  by_cases h : y.n * (x.d : Int) < x.n * (y.d : Int)
  · rw [if_pos h, if_neg (by rw [decide_eq_false (by omega)]; exact Bool.false_ne_true)]
  · rw [if_neg h, if_pos (decide_eq_true (by omega))]
section
variable {P : Program} {w : World} {K : PySem.W.Frag} {mg : Str → Option Value} {base : Heap} {C_Board C_Station f : Addr} {fd : FuncData}
theorem ok_greatest_common (D : Df K mg "greatest_common" s_greatest_common p_greatest_common f fd) : Kept P w K mg base 1 "greatest_common" p_greatest_common spGcd := D.kept (by
  refine D.F.ok sc_greatest_common (fun vs H Q E h => ?_) (fun cdv A outer s H vs Q E hr h => ?_)
  · obtain ⟨a, b, rfl, _⟩ := h
    rfl
  · obtain ⟨a, b, rfl, hb, k⟩ := h
    refine ⟨_, (pss_cons (ps_while PassesOwn.never (pt_cmpR op_gt (pv 0) pe_int (nomark _))
      (pss_cons (ps_set (i := 2) sc_greatest_common.nd rfl (Or.inl rfl) (pe_op op_mod (pv 1) (pv 0)))
      (pss_cons (ps_set (i := 1) sc_greatest_common.nd rfl (Or.inl rfl) (pv 0))
      (pss_one (ps_set (i := 0) sc_greatest_common.nd rfl (Or.inl rfl) (pv 2))))))
      (pss_one (ps_ret (pv 1)))), ?_⟩
    refine while_by (fun σ H' => ∃ (a' b' : Nat) (r : Option V), σ = [some (.int (a' : Int)), some (.int (b' : Int)), r] ∧ Nat.gcd a' b' = Nat.gcd a b ∧ H' = H)
      (fun σ _ => match σ with | some (.int i) :: _ => i.toNat | _ => 0) ⟨a, b, none, rfl, rfl, rfl⟩ ?_ ?_
    · rintro σ H' ⟨a', b', r, rfl, hg, rfl⟩
      walk_at "sig"
      refine if_cases (fun c => ?_) (fun c => ?_)
      · have c := of_decide_eq_true c
        refine ⟨_, rfl, _, rfl, _, _, rfl, rfl, c, ?_⟩
        walk_at "sig"
        refine ⟨⟨b' % a', a', _, rfl, gcd_step.trans hg, rfl⟩, ?_⟩
        show ((b' : Int) % (a' : Int)).toNat < (a' : Int).toNat
        have h1 := Int.emod_lt_of_pos (b' : Int) c
        have h2 := Int.emod_nonneg (b' : Int) (Int.ne_of_gt c)
        omega
      · have c := of_decide_eq_false c
        have e : a' = 0 := by omega
        subst e
        rw [Nat.gcd_zero_left] at hg
        subst hg
        exact ⟨_, rfl, k⟩
    · intro σ H' Q1 Q2 hq h
      obtain ⟨v, hv, i, j, e1, e2, z, e3, q⟩ := h
      exact ⟨v, hv, i, j, e1, e2, z, e3, hq _ _ q⟩)
theorem ok_ratio (D : Df K mg "ratio" s_ratio p_ratio f fd) (T : Txt K mg C_Board C_Station) (C_greatest_common : Kept P w K mg base 1 "greatest_common" p_greatest_common spGcd) : Kept P w K mg base 2 "ratio" p_ratio (spRatio K) := D.kept (by
  refine D.F.ok sc_ratio (fun vs H Q E h => ?_) (fun cdv A outer s H vs Q E hr h => ?_)
  · obtain ⟨a, b, rfl, _⟩ := h
    rfl
  · obtain ⟨n, d, rfl, hd, hs, k⟩ := h
    refine ⟨_, (pss_cons (ps_set (i := 2) sc_ratio.nd rfl (Or.inl rfl) (pe_callQ C_greatest_common (hr.mono (by decide)) rfl (pa_cons (pe_callB call_abs (by rfl) T.z_abs boot_absQ (pa_cons (pv 0) pa_nil)) (pa_cons (pv 1) pa_nil))))
      (pss_one (ps_ret (pe_tup (pa_cons (pe_op op_fdivW (pv 0) (pv 2)) (pa_cons (pe_op op_fdivW (pv 1) (pv 2)) pa_nil)))))), ?_⟩
    have g0 := gcd_pos (n := n) hd
    have gd : Nat.gcd n.natAbs d ≤ d := Nat.le_of_dvd hd (Nat.gcd_dvd_right _ _)
    have gw : ∀ i : Int, CDivW i (Nat.gcd n.natAbs d : Int) := fun i => wide_div (by omega) (by rw [Int.natAbs_natCast]; exact Nat.lt_of_le_of_lt gd hs) (by decide) (by decide)
    refine ⟨_, rfl, n, rfl, _, rfl, n.natAbs, d, ?_, hd, ?_⟩
    · show [V.int (if n < 0 then -n else n), V.int (d : Int)] = _
      rw [abs_is]
    · refine ⟨_, rfl, _, rfl, _, _, rfl, rfl, gw _, _, rfl, _, rfl, _, _, rfl, rfl, gw _, (by show 2 ≤ sizeLine; decide), ?_⟩
      rw [red_eq hd] at k
      exact k.new (Same.refl _) rfl (by show (d : Int) / (Nat.gcd n.natAbs d : Int) = _; exact (Int.natCast_ediv d _).symm))
theorem ok_plus (D : Df K mg "plus" s_plus p_plus f fd) (C_ratio : Kept P w K mg base 2 "ratio" p_ratio (spRatio K)) : Kept P w K mg base 3 "plus" p_plus (spTwo Kv414.Q.add K) := D.kept (by
  refine D.F.ok sc_plus (fun vs H Q E h => ?_) (fun cdv A outer s H vs Q E hr h => ?_)
  · obtain ⟨a, b, x, y, rfl, _⟩ := h
    rfl
  · obtain ⟨a, b, x, y, rfl, ha, hb, sx, sy, k⟩ := h
    refine ⟨_, (pss_one (ps_ret (pe_callQ C_ratio (hr.mono (by decide)) rfl (pa_cons (pe_op op_add (pe_op op_mulW (pe_ix ix_tup (pv 0) pe_int (fun _ _ => rfl)) (pe_ix ix_tup (pv 1) pe_int (fun _ _ => rfl))) (pe_op op_mulW (pe_ix ix_tup (pv 1) pe_int (fun _ _ => rfl)) (pe_ix ix_tup (pv 0) pe_int (fun _ _ => rfl)))) (pa_cons (pe_op op_mulW (pe_ix ix_tup (pv 0) pe_int (fun _ _ => rfl)) (pe_ix ix_tup (pv 1) pe_int (fun _ _ => rfl))) pa_nil))))), ?_⟩
    have m1 := sx.mulW sy (by decide) (by decide) (by decide)
    have m2 := sy.mulW sx (by decide) (by decide) (by decide)
    have m3 := sx.mulD sy (by decide) (by decide) (by decide)
    walk_at "sig"
    refine ⟨_, x.d * y.d, ?_, Nat.mul_pos sx.pos sy.pos, lt_pow (mul_lt sx.lo sy.lo) (by decide), k⟩
    show [V.int (x.n * (y.d : Int) + y.n * (x.d : Int)), V.int ((x.d : Int) * (y.d : Int))] = [V.int (x.n * (y.d : Int) + y.n * (x.d : Int)), V.int ((x.d * y.d : Nat) : Int)]
    rw [Int.natCast_mul])
theorem ok_minus (D : Df K mg "minus" s_minus p_minus f fd) (C_ratio : Kept P w K mg base 2 "ratio" p_ratio (spRatio K)) : Kept P w K mg base 3 "minus" p_minus (spTwo Kv414.Q.sub K) := D.kept (by
  refine D.F.ok sc_minus (fun vs H Q E h => ?_) (fun cdv A outer s H vs Q E hr h => ?_)
  · obtain ⟨a, b, x, y, rfl, _⟩ := h
    rfl
  · obtain ⟨a, b, x, y, rfl, ha, hb, sx, sy, k⟩ := h
    refine ⟨_, (pss_one (ps_ret (pe_callQ C_ratio (hr.mono (by decide)) rfl (pa_cons (pe_op op_sub (pe_op op_mulW (pe_ix ix_tup (pv 0) pe_int (fun _ _ => rfl)) (pe_ix ix_tup (pv 1) pe_int (fun _ _ => rfl))) (pe_op op_mulW (pe_ix ix_tup (pv 1) pe_int (fun _ _ => rfl)) (pe_ix ix_tup (pv 0) pe_int (fun _ _ => rfl)))) (pa_cons (pe_op op_mulW (pe_ix ix_tup (pv 0) pe_int (fun _ _ => rfl)) (pe_ix ix_tup (pv 1) pe_int (fun _ _ => rfl))) pa_nil))))), ?_⟩
    have m1 := sx.mulW sy (by decide) (by decide) (by decide)
    have m2 := sy.mulW sx (by decide) (by decide) (by decide)
    have m3 := sx.mulD sy (by decide) (by decide) (by decide)
    walk_at "sig"
    refine ⟨_, x.d * y.d, ?_, Nat.mul_pos sx.pos sy.pos, lt_pow (mul_lt sx.lo sy.lo) (by decide), k⟩
    show [V.int (x.n * (y.d : Int) - y.n * (x.d : Int)), V.int ((x.d : Int) * (y.d : Int))] = [V.int (x.n * (y.d : Int) - y.n * (x.d : Int)), V.int ((x.d * y.d : Nat) : Int)]
    rw [Int.natCast_mul])
theorem ok_scaled (D : Df K mg "scaled" s_scaled p_scaled f fd) (C_ratio : Kept P w K mg base 2 "ratio" p_ratio (spRatio K)) : Kept P w K mg base 3 "scaled" p_scaled (spScaled K) := D.kept (by
  refine D.F.ok sc_scaled (fun vs H Q E h => ?_) (fun cdv A outer s H vs Q E hr h => ?_)
  · obtain ⟨a, x, p, q, rfl, _⟩ := h
    rfl
  · obtain ⟨a, x, p, q, rfl, ha, sx, sp, q0, sq, k⟩ := h
    refine ⟨_, (pss_one (ps_ret (pe_callQ C_ratio (hr.mono (by decide)) rfl (pa_cons (pe_op op_mulW (pe_ix ix_tup (pv 0) pe_int (fun _ _ => rfl)) (pv 1)) (pa_cons (pe_op op_mulW (pe_ix ix_tup (pv 0) pe_int (fun _ _ => rfl)) (pv 2)) pa_nil))))), ?_⟩
    have m1 : CMulW x.n (p : Int) := wide_mul sx.up (by rw [Int.natAbs_natCast]; exact sp) (by decide) (by decide) (by decide)
    have m2 : CMulW (x.d : Int) (q : Int) := wide_mul (by rw [Int.natAbs_natCast]; exact sx.lo) (by rw [Int.natAbs_natCast]; exact sq) (by decide) (by decide) (by decide)
    walk_at "sig"
    refine ⟨_, x.d * q, ?_, Nat.mul_pos sx.pos q0, lt_pow (mul_lt sx.lo sq) (by decide), k⟩
    show [V.int (x.n * (p : Int)), V.int ((x.d : Int) * (q : Int))] = [V.int (x.n * (p : Int)), V.int ((x.d * q : Nat) : Int)]
    rw [Int.natCast_mul])
theorem ok_over (D : Df K mg "over" s_over p_over f fd) (C_ratio : Kept P w K mg base 2 "ratio" p_ratio (spRatio K)) : Kept P w K mg base 3 "over" p_over (spOver K) := D.kept (by
  refine D.F.ok sc_over (fun vs H Q E h => ?_) (fun cdv A outer s H vs Q E hr h => ?_)
  · obtain ⟨a, x, z, rfl, _⟩ := h
    rfl
  · obtain ⟨a, x, z, rfl, ha, sx, z0, sz, k⟩ := h
    refine ⟨_, (pss_cons (ps_if (pt_cmpR op_lt (pv 1) pe_int (nomark _))
      (pss_one (ps_ret (pe_callQ C_ratio (hr.mono (by decide)) rfl (pa_cons (pe_un un_neg (pe_ix ix_tup (pv 0) pe_int (fun _ _ => rfl))) (pa_cons (pe_op op_mulW (pe_ix ix_tup (pv 0) pe_int (fun _ _ => rfl)) (pe_un un_neg (pv 1))) pa_nil)))))
      pss_nil)
      (pss_one (ps_ret (pe_callQ C_ratio (hr.mono (by decide)) rfl (pa_cons (pe_ix ix_tup (pv 0) pe_int (fun _ _ => rfl)) (pa_cons (pe_op op_mulW (pe_ix ix_tup (pv 0) pe_int (fun _ _ => rfl)) (pv 1)) pa_nil)))))), ?_⟩
    have zp : 0 < z.natAbs := by omega
    have m1 : CMulW (x.d : Int) z := wide_mul (by rw [Int.natAbs_natCast]; exact sx.lo) sz (by decide) (by decide) (by decide)
    have m2 : CMulW (x.d : Int) (-z) := wide_mul (by rw [Int.natAbs_natCast]; exact sx.lo) (by rw [Int.natAbs_neg]; exact sz) (by decide) (by decide) (by decide)
    have lt : x.d * z.natAbs < 2 ^ 9000 := lt_pow (mul_lt sx.lo sz) (by decide)
    unfold ovr at k
    walk_at "sig"
    refine if_cases (fun c => ?_) (fun c => ?_)
    · have c : z < 0 := of_decide_eq_true c
      rw [if_pos c] at k
      walk_at "sig"
      refine ⟨_, x.d * z.natAbs, ?_, Nat.mul_pos sx.pos zp, lt, k⟩
      show [V.int (-x.n), V.int ((x.d : Int) * (-z))] = [V.int (-x.n), V.int ((x.d * z.natAbs : Nat) : Int)]
      rw [Int.natCast_mul, show ((z.natAbs : Nat) : Int) = -z by omega]
    · have c : ¬ z < 0 := of_decide_eq_false c
      rw [if_neg c] at k
      walk_at "sig"
      refine ⟨_, x.d * z.natAbs, ?_, Nat.mul_pos sx.pos zp, lt, k⟩
      show [V.int x.n, V.int ((x.d : Int) * z)] = [V.int x.n, V.int ((x.d * z.natAbs : Nat) : Int)]
      rw [Int.natCast_mul, show ((z.natAbs : Nat) : Int) = z by omega])
theorem ok_is_less (D : Df K mg "is_less" s_is_less p_is_less f fd) : Kept P w K mg base 1 "is_less" p_is_less (spIsLess K) := D.kept (by
  refine D.F.ok sc_is_less (fun vs H Q E h => ?_) (fun cdv A outer s H vs Q E hr h => ?_)
  · obtain ⟨a, b, x, y, rfl, _⟩ := h
    rfl
  · obtain ⟨a, b, x, y, rfl, ha, hb, sx, sy, k⟩ := h
    refine ⟨_, (pss_one (ps_ret (pe_cmpR op_lt (pe_op op_mulW (pe_ix ix_tup (pv 0) pe_int (fun _ _ => rfl)) (pe_ix ix_tup (pv 1) pe_int (fun _ _ => rfl))) (pe_op op_mulW (pe_ix ix_tup (pv 1) pe_int (fun _ _ => rfl)) (pe_ix ix_tup (pv 0) pe_int (fun _ _ => rfl))) (nomark _)))), ?_⟩
    have m1 := sx.mulW sy (by decide) (by decide) (by decide)
    have m2 := sy.mulW sx (by decide) (by decide) (by decide)
    walk_at "sig"
    exact k)
theorem ok_greater (D : Df K mg "greater" s_greater p_greater f fd) (C_is_less : Kept P w K mg base 1 "is_less" p_is_less (spIsLess K)) : Kept P w K mg base 2 "greater" p_greater (spGreater K) := D.kept (by
  refine D.F.ok sc_greater (fun vs H Q E h => ?_) (fun cdv A outer s H vs Q E hr h => ?_)
  · obtain ⟨a, b, x, y, rfl, _⟩ := h
    rfl
  · obtain ⟨a, b, x, y, rfl, ha, hb, sx, sy, rx, ry, k⟩ := h
    refine ⟨_, (pss_cons (ps_if (pt_val (pe_callQ C_is_less (hr.mono (by decide)) rfl (pa_cons (pv 0) (pa_cons (pv 1) pa_nil))))
      (pss_one (ps_ret (pv 1)))
      pss_nil)
      (pss_one (ps_ret (pv 0)))), ?_⟩
    rw [← greater_is rx ry] at k
    walk_at "sig"
    refine ⟨a, b, x, y, rfl, ha, hb, sx, sy, _, rfl, ?_⟩
    refine if_cases (fun c => ?_) (fun c => ?_)
    · rw [if_pos (of_decide_eq_true c)] at k
      exact ⟨_, rfl, k H b (Same.refl _) hb⟩
    · rw [if_neg (of_decide_eq_false c)] at k
      exact ⟨_, rfl, k H a (Same.refl _) ha⟩)
theorem ok_lesser (D : Df K mg "lesser" s_lesser p_lesser f fd) (C_is_less : Kept P w K mg base 1 "is_less" p_is_less (spIsLess K)) : Kept P w K mg base 2 "lesser" p_lesser (spLesser K) := D.kept (by
  refine D.F.ok sc_lesser (fun vs H Q E h => ?_) (fun cdv A outer s H vs Q E hr h => ?_)
  · obtain ⟨a, b, x, y, rfl, _⟩ := h
    rfl
  · obtain ⟨a, b, x, y, rfl, ha, hb, sx, sy, k⟩ := h
    refine ⟨_, (pss_cons (ps_if (pt_val (pe_callQ C_is_less (hr.mono (by decide)) rfl (pa_cons (pv 1) (pa_cons (pv 0) pa_nil))))
      (pss_one (ps_ret (pv 1)))
      pss_nil)
      (pss_one (ps_ret (pv 0)))), ?_⟩
    rw [← lesser_is] at k
    walk_at "sig"
    refine ⟨b, a, y, x, rfl, hb, ha, sy, sx, _, rfl, ?_⟩
    refine if_cases (fun c => ?_) (fun c => ?_)
    · rw [if_pos (of_decide_eq_true c)] at k
      exact ⟨_, rfl, k H b (Same.refl _) hb⟩
    · rw [if_neg (of_decide_eq_false c)] at k
      exact ⟨_, rfl, k H a (Same.refl _) ha⟩)
end
end Sig
set_option Elab.async false
set_option linter.all false
set_option maxRecDepth 100000
set_option maxHeartbeats 4000000
/-! Stations and light: light.py -/
namespace Sig
open PySem PySem.Spec PyProof.Rows L2
local macro_rules | `(tactic| walk_at "sig") => `(tactic| repeat (first
  | refine ⟨_, rfl, ?_⟩
  | refine ⟨_, _, rfl, rfl, ?_⟩
  | refine And.intro (show CMulW _ _ by assumption) ?_
  | refine ⟨_, _, _, _, rfl, rfl, (by assumption), rfl, ?_⟩
  | refine ⟨_, _, _, _, _, rfl, (by assumption), (by assumption), (by assumption), (by first | exact sF_time _ | exact sF_place _ | exact sF_p _ | exact sF_q _), ?_⟩))
/-- what the text says of the class Station -/
structure TxS (K : PySem.W.Frag) (C : Addr) : Prop where
  k : Cls K C
  t : NoAttr K C "time"
  x : NoAttr K C "place"
  p : NoAttr K C "p"
  q : NoAttr K C "q"
theorem Txt.stn {K : PySem.W.Frag} {mg : Str → Option Value} {C_Board C_Station : Addr} (T : Txt K mg C_Board C_Station) : TxS K C_Station := ⟨T.k_Station, T.a_Station_time, T.a_Station_place, T.a_Station_p, T.a_Station_q⟩
/-- a tuple stays where an instance is changed -/
theorem tup_ins {K : PySem.W.Frag} {H : Hp} {a x C dx : Addr} {fs : List (Str × V)} {o : HO} {xs : List V} (h : SqT K H a xs) (hx : H x = some (.ins C dx fs)) : SqT K (upd H x o) a xs := by
  rcases h with (h | ⟨u, h⟩) | h
  · exact .inl (.inl (by rw [upd_ne (ne_of h hx (by intro z; cases z))]; exact h))
  · exact .inl (.inr ⟨u, by rw [upd_ne (ne_of h hx (by intro z; cases z))]; exact h⟩)
  · exact .inr h
theorem sF_new (t x : Int) (p q : Int) (s : Stn) (ht : s.e.t = t) (hx : s.e.x = x) (hp : (s.k.p : Int) = p) (hq : (s.k.q : Int) = q) : putF "q" (.int q) (putF "p" (.int p) (putF "place" (.int x) (putF "time" (.int t) []))) = sF s := by
  subst ht hx hp hq
  have e1 : ∀ v w : V, putF "place" w [(("time" : Str), v)] = ([("time", v), ("place", w)] : List (Str × V)) := fun v w => put_past (by decide +kernel)
  have e2 : ∀ v w z : V, putF "p" z [(("time" : Str), v), ("place", w)] = ([("time", v), ("place", w), ("p", z)] : List (Str × V)) := fun v w z => (put_past (by decide +kernel)).trans (congrArg _ (put_past (by decide +kernel)))
  have e3 : ∀ v w z y : V, putF "q" y [(("time" : Str), v), ("place", w), ("p", z)] = ([("time", v), ("place", w), ("p", z), ("q", y)] : List (Str × V)) := fun v w z y => (put_past (by decide +kernel)).trans (congrArg _ ((put_past (by decide +kernel)).trans (congrArg _ (put_past (by decide +kernel)))))
  show putF "q" (.int (s.k.q : Int)) (putF "p" (.int (s.k.p : Int)) (putF "place" (.int s.e.x) [(("time" : Str), V.int s.e.t)])) = sF s
  rw [e1, e2, e3]
  rfl
/-! ### promises -/
def spStation (C : Addr) : Sp := fun vs H Q _ => ∃ (x dx : Addr) (t y : Int) (p q : Nat), vs = [.ref x, .int t, .int y, .int (p : Int), .int (q : Int)] ∧ H x = some (.ins C dx []) ∧ 1 ≤ p ∧ 1 ≤ q ∧ q ≤ 9 ∧
  ∀ H' : Hp, StAt C H' x ⟨⟨t, y⟩, Kv414.Factor.red ⟨p, q⟩⟩ → (∀ b o, H b = some o → b ≠ x → H' b = some o) → Q .non H'
/-- a point of whole numbers -/
def spot (t x : Int) : Pnt := ⟨Kv414.Q.of (t - x), Kv414.Q.of (t + x)⟩
def GivesPt (K : PySem.W.Frag) (H : Hp) (Q : VK) (q : Pnt) : Prop := ∀ H' p, Same H H' → PtAt K H' p q → Q (.ref p) H'
def spSpot (K : PySem.W.Frag) : Sp := fun vs H Q _ => ∃ (t x : Int), vs = [.int t, .int x] ∧ GivesPt K H Q (spot t x)
def spStart (K : PySem.W.Frag) (C : Addr) : Sp := fun vs H Q _ => ∃ (a : Addr) (s : Stn), vs = [.ref a] ∧ StAt C H a s ∧ GivesPt K H Q (spot s.e.t s.e.x)
def spPointAt (K : PySem.W.Frag) (C : Addr) : Sp := fun vs H Q _ => ∃ (a c : Addr) (s : Stn) (q : Fr), vs = [.ref a, .ref c] ∧ StAt C H a s ∧ Wf s ∧ FrAt K H c q ∧ Sz 3000 q ∧ ∀ H' p, Same H H' → PtAt K H' p (s.at_ q) → Q (.ref p) H'
def spOfPt (g : Pnt → Fr) (K : PySem.W.Frag) : Sp := fun vs H Q _ => ∃ (a : Addr) (p : Pnt), vs = [.ref a] ∧ PtAt K H a p ∧ SzP 1900 p ∧ GivesFr K H Q (g p)
def spStnPt (g : Stn → Pnt → Fr) (K : PySem.W.Frag) (C : Addr) : Sp := fun vs H Q _ => ∃ (a b : Addr) (s : Stn) (p : Pnt), vs = [.ref a, .ref b] ∧ StAt C H a s ∧ Wf s ∧ PtAt K H b p ∧ SzP 3500 p ∧ GivesFr K H Q (g s p)
def spOwnPt (g : Stn → Pnt → Fr) (K : PySem.W.Frag) (C : Addr) : Sp := fun vs H Q _ => ∃ (a b : Addr) (s : Stn) (p : Pnt), vs = [.ref a, .ref b] ∧ StAt C H a s ∧ Wf s ∧ PtAt K H b p ∧ SzP 1900 p ∧ GivesFr K H Q (g s p)
def spSide (K : PySem.W.Frag) (C : Addr) : Sp := fun vs H Q _ => ∃ (a b : Addr) (s : Stn) (p : Pnt), vs = [.ref a, .ref b] ∧ StAt C H a s ∧ Wf s ∧ PtAt K H b p ∧ SzP 1900 p ∧ ∀ H', Same H H' → Q (.int ((s.side p : Nat) : Int)) H'
theorem side_is (x y : Fr) : ((if x.eq y = true then 0 else if x.le y = true then 1 else 2 : Nat) : Int) = if x.n * (y.d : Int) < y.n * (x.d : Int) then 1 else if y.n * (x.d : Int) < x.n * (y.d : Int) then 2 else 0 := by
  show ((if decide (x.n * (y.d : Int) = y.n * (x.d : Int)) = true then 0 else if decide (x.n * (y.d : Int) ≤ y.n * (x.d : Int)) = true then 1 else 2 : Nat) : Int) = _
  simp only [decide_eq_true_eq]
  generalize x.n * (y.d : Int) = u
  generalize y.n * (x.d : Int) = v
  by_cases h1 : u < v
  · rw [if_neg (by omega), if_pos (by omega), if_pos h1]
    rfl
  · rw [if_neg h1]
    by_cases h2 : v < u
    · rw [if_neg (by omega), if_neg (by omega), if_pos h2]
      rfl
    · rw [if_pos (by omega), if_neg h2]
      rfl
def spArrival (K : PySem.W.Frag) (C : Addr) : Sp := fun vs H Q _ => ∃ (a b c : Addr) (s r : Stn) (q : Fr), vs = [.ref a, .ref b, .ref c] ∧ StAt C H a s ∧ Wf s ∧ StAt C H b r ∧ Wf r ∧ FrAt K H c q ∧ Sz 3000 q ∧ GivesFr K H Q (hop s r q)
/-- Station(t, x, p, q) is made -/
theorem make_station {C x dx : Addr} {H : Hp} {t y : Int} {p q : Nat} {Q : VK} {E : XK} (nx : H x = none) (nd : H dx = none) (hp : 1 ≤ p) (hq : 1 ≤ q) (hq9 : q ≤ 9) (k : ∀ H', Same H H' → StAt C H' x ⟨⟨t, y⟩, Kv414.Factor.red ⟨p, q⟩⟩ → Q .non H') :
    spStation C [.ref x, .int t, .int y, .int (p : Int), .int (q : Int)] (upd (upd H dx (.own x)) x (.ins C dx [])) Q E :=
  ⟨x, dx, t, y, p, q, rfl, upd_same, hp, hq, hq9, fun H' h1 h2 => k H' (Same.made nx nd h2) h1⟩
section
variable {P : Program} {w : World} {K : PySem.W.Frag} {mg : Str → Option Value} {base : Heap} {C_Board C_Station f : Addr} {fd : FuncData}
theorem ok_Station_init (F : Fun K "__init__" "Station.__init__" s_Station__init_ f fd) (b : Binds K fd p_Station__init_ []) (m : mg "Station" = some (.ref C_Station)) (M : Mk K C_Station f) (T : TxS K C_Station)
    (C_ratio : Kept P w K mg base 2 "ratio" p_ratio (spRatio K)) : KeptC P w K mg base 3 "Station" C_Station p_Station__init_ (spStation C_Station) := ⟨f, fd, m, M, b, (by
  refine F.ok sc_Station__init_ (fun vs H Q E h => ?_) (fun cdv A outer s H vs Q E hr h => ?_)
  · obtain ⟨x, dx, t, y, p, q, rfl, _⟩ := h
    rfl
  · obtain ⟨x, dx, t, y, p, q, rfl, hx, hp, hq, hq9, k⟩ := h
    refine ⟨_, (pss_cons (ps_set (i := 5) sc_Station__init_.nd rfl (Or.inl rfl) (pe_callQ C_ratio (hr.mono (by decide)) rfl (pa_cons (pv 3) (pa_cons (pv 4) pa_nil))))
      (pss_cons (ps_fld (pv 0) (pv 1) rfl)
      (pss_cons (ps_fld (pv 0) (pv 2) rfl)
      (pss_cons (ps_fld (pv 0) (pe_ix ix_tup (pv 5) pe_int (fun _ _ => rfl)) rfl)
      (pss_one (ps_fld (pv 0) (pe_ix ix_tup (pv 5) pe_int (fun _ _ => rfl)) rfl)))))), ?_⟩
    walk_at "sig"
    refine ⟨_, q, rfl, hq, lt_pow (i := 4) (by show q < 16; omega) (by decide), fun H1 a s1 h1 => ?_⟩
    have hx1 := s1 _ _ hx
    refine ⟨_, rfl, _, rfl, x, C_Station, dx, [], rfl, hx1, T.k, T.t, (by show 0 < 1000; decide), ?_⟩
    refine ⟨_, rfl, _, rfl, x, C_Station, dx, _, rfl, upd_same, T.k, T.x, (by show 1 < 1000; decide), ?_⟩
    have g1 := tup_ins (o := .ins C_Station dx (putF "time" (.int t) [])) h1 hx1
    have g2 := tup_ins (o := .ins C_Station dx (putF "place" (.int y) (putF "time" (.int t) []))) g1 upd_same
    have g3 := tup_ins (o := .ins C_Station dx (putF "p" (.int (Kv414.Q.red ⟨(p : Int), q⟩).n) (putF "place" (.int y) (putF "time" (.int t) [])))) g2 upd_same
    refine ⟨_, rfl, _, _, _, _, rfl, rfl, g2, rfl, _, rfl, x, C_Station, dx, _, rfl, upd_same, T.k, T.p, (by show 2 < 1000; decide), ?_⟩
    refine ⟨_, rfl, _, _, _, _, rfl, rfl, g3, rfl, _, rfl, x, C_Station, dx, _, rfl, upd_same, T.k, T.q, (by show 3 < 1000; decide), ?_⟩
    have fr := factor_red hp hq
    refine k _ ⟨dx, Eq.trans upd_same (congrArg (fun z => some (HO.ins C_Station dx z)) (sF_new t y _ _ ⟨⟨t, y⟩, Kv414.Factor.red ⟨p, q⟩⟩ rfl rfl fr.1 (congrArg Int.ofNat fr.2)))⟩ (fun b o e hb => ?_)
    rw [upd_ne hb, upd_ne hb, upd_ne hb, upd_ne hb]
    exact s1 _ _ e)⟩
theorem ok_spot_point (D : Df K mg "spot_point" s_spot_point p_spot_point f fd) : Kept P w K mg base 1 "spot_point" p_spot_point (spSpot K) := D.kept (by
  refine D.F.ok sc_spot_point (fun vs H Q E h => ?_) (fun cdv A outer s H vs Q E hr h => ?_)
  · obtain ⟨t, x, rfl, _⟩ := h
    rfl
  · obtain ⟨t, x, rfl, k⟩ := h
    refine ⟨_, (pss_one (ps_ret (pe_tup (pa_cons (pe_tup (pa_cons (pe_op op_sub (pv 0) (pv 1)) (pa_cons pe_int pa_nil))) (pa_cons (pe_tup (pa_cons (pe_op op_add (pv 0) (pv 1)) (pa_cons pe_int pa_nil))) pa_nil))))), ?_⟩
    walk_at "sig"
    refine ⟨(by show 2 ≤ sizeLine; decide), fun p1 n1 => ?_⟩
    have e1 := same_upd (o := HO.tup [.int (t - x), .int 1]) n1
    walk_at "sig"
    refine ⟨(by show 2 ≤ sizeLine; decide), fun p2 n2 => ?_⟩
    have e2 := same_upd (o := HO.tup [.int (t + x), .int 1]) n2
    refine ⟨(by show 2 ≤ sizeLine; decide), fun p3 n3 => ?_⟩
    have e3 := same_upd (o := HO.tup [.ref p1, .ref p2]) n3
    exact k _ p3 (e1.trans (e2.trans e3)) ⟨p1, p2, SqT.of upd_same, same_tup (e2.trans e3) (SqT.of upd_same), same_tup e3 (SqT.of upd_same)⟩)
theorem ok_start_of (D : Df K mg "start_of" s_start_of p_start_of f fd) (T : TxS K C_Station) (C_spot_point : Kept P w K mg base 1 "spot_point" p_spot_point (spSpot K)) : Kept P w K mg base 2 "start_of" p_start_of (spStart K C_Station) := D.kept (by
  refine D.F.ok sc_start_of (fun vs H Q E h => ?_) (fun cdv A outer s H vs Q E hr h => ?_)
  · obtain ⟨a, s, rfl, _⟩ := h
    rfl
  · obtain ⟨a, st, rfl, ⟨dx, hs⟩, k⟩ := h
    obtain ⟨kS, aT, aX, aP, aQ⟩ := T
    refine ⟨_, (pss_one (ps_ret (pe_callQ C_spot_point (hr.mono (by decide)) rfl (pa_cons (pe_fld (pv 0) rfl) (pa_cons (pe_fld (pv 0) rfl) pa_nil))))), ?_⟩
    walk_at "sig"
    exact ⟨_, _, rfl, k⟩)
theorem ok_point_at (D : Df K mg "point_at" s_point_at p_point_at f fd) (T : TxS K C_Station) (C_start_of : Kept P w K mg base 2 "start_of" p_start_of (spStart K C_Station)) (C_plus : Kept P w K mg base 3 "plus" p_plus (spTwo Kv414.Q.add K)) (C_scaled : Kept P w K mg base 3 "scaled" p_scaled (spScaled K)) :
    Kept P w K mg base 4 "point_at" p_point_at (spPointAt K C_Station) := D.kept (by
  refine D.F.ok sc_point_at (fun vs H Q E h => ?_) (fun cdv A outer s H vs Q E hr h => ?_)
  · obtain ⟨a, c, s, q, rfl, _⟩ := h
    rfl
  · obtain ⟨a, c, st, q, rfl, hst, wf, hq, sq, k⟩ := h
    obtain ⟨kS, aT, aX, aP, aQ⟩ := T
    have b9 : ∀ z : Nat, z ≤ 9 → z < 2 ^ 100 := fun z h => lt_pow (i := 4) (by show z < 16; omega) (by decide)
    refine ⟨_, (pss_cons (ps_set (i := 2) sc_point_at.nd rfl (Or.inl rfl) (pe_callQ C_start_of (hr.mono (by decide)) rfl (pa_cons (pv 0) pa_nil)))
      (pss_cons (ps_set (i := 3) sc_point_at.nd rfl (Or.inl rfl) (pe_callQ C_plus (hr.mono (by decide)) rfl (pa_cons (pe_ix ix_tup (pv 2) pe_int (fun _ _ => rfl)) (pa_cons (pe_callQ C_scaled (hr.mono (by decide)) rfl (pa_cons (pv 1) (pa_cons (pe_fld (pv 0) rfl) (pa_cons (pe_fld (pv 0) rfl) pa_nil)))) pa_nil))))
      (pss_cons (ps_set (i := 4) sc_point_at.nd rfl (Or.inl rfl) (pe_callQ C_plus (hr.mono (by decide)) rfl (pa_cons (pe_ix ix_tup (pv 2) pe_int (fun _ _ => rfl)) (pa_cons (pe_callQ C_scaled (hr.mono (by decide)) rfl (pa_cons (pv 1) (pa_cons (pe_fld (pv 0) rfl) (pa_cons (pe_fld (pv 0) rfl) pa_nil)))) pa_nil))))
      (pss_one (ps_ret (pe_tup (pa_cons (pv 3) (pa_cons (pv 4) pa_nil)))))))), ?_⟩
    walk_at "sig"
    refine ⟨a, st, rfl, hst, fun H1 p1 s1 h1 => ?_⟩
    obtain ⟨u1, v1, h0, hu1, hv1⟩ := h1.ex
    obtain ⟨dx1, d1⟩ := hst.to s1
    walk_at "sig"
    refine ⟨c, q, st.k.q, st.k.p, rfl, hq.to s1, sq.mono (by decide), b9 _ wf.q.2, wf.p.1, b9 _ wf.p.2, fun H2 p2 s2 h2 => ?_⟩
    rw [mul_comm] at h2
    refine ⟨u1, p2, Kv414.Q.of st.e.u, st.k.down.mul q, rfl, hu1.to s2, h2, wf.u.mono (by decide), (mul_sz wf.sdown sq).mono (by decide), fun H3 p3 s3 h3 => ?_⟩
    have e3 := s1.trans (s2.trans s3)
    have h03 := same_tup (s2.trans s3) h0
    obtain ⟨dx3, d3⟩ := hst.to e3
    walk_at "sig"
    refine ⟨c, q, st.k.p, st.k.q, rfl, hq.to e3, sq.mono (by decide), b9 _ wf.p.2, wf.q.1, b9 _ wf.q.2, fun H5 p5 s5 h5 => ?_⟩
    rw [mul_comm] at h5
    refine ⟨v1, p5, Kv414.Q.of st.e.v, st.k.up.mul q, rfl, hv1.to (s2.trans (s3.trans s5)), h5, wf.v.mono (by decide), (mul_sz wf.sup sq).mono (by decide), fun H6 p6 s6 h6 => ?_⟩
    walk_at "sig"
    refine ⟨(by show 2 ≤ sizeLine; decide), fun p hp => ?_⟩
    have e7 := same_upd (o := HO.tup [.ref p3, .ref p6]) hp
    exact k _ p (e3.trans (s5.trans (s6.trans e7))) ⟨p3, p6, SqT.of upd_same, h3.to (s5.trans (s6.trans e7)), h6.to e7⟩)
theorem ok_time_of (D : Df K mg "time_of" s_time_of p_time_of f fd) (C_plus : Kept P w K mg base 3 "plus" p_plus (spTwo Kv414.Q.add K)) (C_scaled : Kept P w K mg base 3 "scaled" p_scaled (spScaled K)) :
    Kept P w K mg base 4 "time_of" p_time_of (spOfPt Kv415.Point.time K) := D.kept (by
  refine D.F.ok sc_time_of (fun vs H Q E h => ?_) (fun cdv A outer s H vs Q E hr h => ?_)
  · obtain ⟨a, p, rfl, _⟩ := h
    rfl
  · obtain ⟨a, p, rfl, ⟨u, v, h0, hu, hv⟩, sz, k⟩ := h
    refine ⟨_, (pss_one (ps_ret (pe_callQ C_scaled (hr.mono (by decide)) rfl (pa_cons (pe_callQ C_plus (hr.mono (by decide)) rfl (pa_cons (pe_ix ix_tup (pv 0) pe_int (fun _ _ => rfl)) (pa_cons (pe_ix ix_tup (pv 0) pe_int (fun _ _ => rfl)) pa_nil))) (pa_cons pe_int (pa_cons pe_int pa_nil)))))), ?_⟩
    walk_at "sig"
    refine ⟨v, u, p.v, p.u, rfl, hv, hu, sz.v.mono (by decide), sz.u.mono (by decide), fun H1 p1 s1 h1 => ?_⟩
    rw [add_comm] at h1
    exact ⟨p1, p.u.add p.v, 1, 2, rfl, h1, (add_sz sz.u sz.v).mono (by decide), by decide, by decide, by decide, fun H2 p2 s2 h2 => k H2 p2 (s1.trans s2) h2⟩)
theorem ok_place_of (D : Df K mg "place_of" s_place_of p_place_of f fd) (C_minus : Kept P w K mg base 3 "minus" p_minus (spTwo Kv414.Q.sub K)) (C_scaled : Kept P w K mg base 3 "scaled" p_scaled (spScaled K)) :
    Kept P w K mg base 4 "place_of" p_place_of (spOfPt Kv415.Point.place K) := D.kept (by
  refine D.F.ok sc_place_of (fun vs H Q E h => ?_) (fun cdv A outer s H vs Q E hr h => ?_)
  · obtain ⟨a, p, rfl, _⟩ := h
    rfl
  · obtain ⟨a, p, rfl, ⟨u, v, h0, hu, hv⟩, sz, k⟩ := h
    refine ⟨_, (pss_one (ps_ret (pe_callQ C_scaled (hr.mono (by decide)) rfl (pa_cons (pe_callQ C_minus (hr.mono (by decide)) rfl (pa_cons (pe_ix ix_tup (pv 0) pe_int (fun _ _ => rfl)) (pa_cons (pe_ix ix_tup (pv 0) pe_int (fun _ _ => rfl)) pa_nil))) (pa_cons pe_int (pa_cons pe_int pa_nil)))))), ?_⟩
    walk_at "sig"
    refine ⟨v, u, p.v, p.u, rfl, hv, hu, sz.v.mono (by decide), sz.u.mono (by decide), fun H1 p1 s1 h1 => ?_⟩
    exact ⟨p1, p.v.sub p.u, 1, 2, rfl, h1, (sub_sz sz.v sz.u).mono (by decide), by decide, by decide, by decide, fun H2 p2 s2 h2 => k H2 p2 (s1.trans s2) h2⟩)
theorem ok_clock_by_less (D : Df K mg "clock_by_less" s_clock_by_less p_clock_by_less f fd) (T : TxS K C_Station) (C_start_of : Kept P w K mg base 2 "start_of" p_start_of (spStart K C_Station))
    (C_minus : Kept P w K mg base 3 "minus" p_minus (spTwo Kv414.Q.sub K)) (C_scaled : Kept P w K mg base 3 "scaled" p_scaled (spScaled K)) : Kept P w K mg base 4 "clock_by_less" p_clock_by_less (spStnPt (fun s p => s.atU p.u) K C_Station) := D.kept (by
  refine D.F.ok sc_clock_by_less (fun vs H Q E h => ?_) (fun cdv A outer s H vs Q E hr h => ?_)
  · obtain ⟨a, b, s, p, rfl, _⟩ := h
    rfl
  · obtain ⟨a, b, st, p, rfl, hst, wf, ⟨u, v, h0, hu, hv⟩, sz, k⟩ := h
    obtain ⟨kS, aT, aX, aP, aQ⟩ := T
    have b9 : ∀ z : Nat, z ≤ 9 → z < 2 ^ 100 := fun z h => lt_pow (i := 4) (by show z < 16; omega) (by decide)
    refine ⟨_, (pss_one (ps_ret (pe_callQ C_scaled (hr.mono (by decide)) rfl (pa_cons (pe_callQ C_minus (hr.mono (by decide)) rfl (pa_cons (pe_ix ix_tup (pv 1) pe_int (fun _ _ => rfl)) (pa_cons (pe_ix ix_tup (pe_callQ C_start_of (hr.mono (by decide)) rfl (pa_cons (pv 0) pa_nil)) pe_int (fun _ _ => rfl)) pa_nil))) (pa_cons (pe_fld (pv 0) rfl) (pa_cons (pe_fld (pv 0) rfl) pa_nil)))))), ?_⟩
    walk_at "sig"
    refine ⟨a, st, rfl, hst, fun H1 p1 s1 h1 => ?_⟩
    obtain ⟨u1, v1, h10, hu1, hv1⟩ := h1.ex
    refine ⟨_, _, _, _, rfl, rfl, h10, rfl, ?_⟩
    refine ⟨u, u1, p.u, Kv414.Q.of st.e.u, rfl, hu.to s1, hu1, sz.u.mono (by decide), wf.u.mono (by decide), fun H2 p2 s2 h2 => ?_⟩
    obtain ⟨dx2, d2⟩ := hst.to (s1.trans s2)
    walk_at "sig"
    exact ⟨p2, _, st.k.p, st.k.q, rfl, h2, (sub_sz sz.u wf.u).mono (by decide), b9 _ wf.p.2, wf.q.1, b9 _ wf.q.2, fun H3 p3 s3 h3 => k H3 p3 (s1.trans (s2.trans s3)) h3⟩)
theorem ok_clock_by_together (D : Df K mg "clock_by_together" s_clock_by_together p_clock_by_together f fd) (T : TxS K C_Station) (C_start_of : Kept P w K mg base 2 "start_of" p_start_of (spStart K C_Station))
    (C_minus : Kept P w K mg base 3 "minus" p_minus (spTwo Kv414.Q.sub K)) (C_scaled : Kept P w K mg base 3 "scaled" p_scaled (spScaled K)) : Kept P w K mg base 4 "clock_by_together" p_clock_by_together (spStnPt (fun s p => s.atV p.v) K C_Station) := D.kept (by
  refine D.F.ok sc_clock_by_together (fun vs H Q E h => ?_) (fun cdv A outer s H vs Q E hr h => ?_)
  · obtain ⟨a, b, s, p, rfl, _⟩ := h
    rfl
  · obtain ⟨a, b, st, p, rfl, hst, wf, ⟨u, v, h0, hu, hv⟩, sz, k⟩ := h
    obtain ⟨kS, aT, aX, aP, aQ⟩ := T
    have b9 : ∀ z : Nat, z ≤ 9 → z < 2 ^ 100 := fun z h => lt_pow (i := 4) (by show z < 16; omega) (by decide)
    refine ⟨_, (pss_one (ps_ret (pe_callQ C_scaled (hr.mono (by decide)) rfl (pa_cons (pe_callQ C_minus (hr.mono (by decide)) rfl (pa_cons (pe_ix ix_tup (pv 1) pe_int (fun _ _ => rfl)) (pa_cons (pe_ix ix_tup (pe_callQ C_start_of (hr.mono (by decide)) rfl (pa_cons (pv 0) pa_nil)) pe_int (fun _ _ => rfl)) pa_nil))) (pa_cons (pe_fld (pv 0) rfl) (pa_cons (pe_fld (pv 0) rfl) pa_nil)))))), ?_⟩
    walk_at "sig"
    refine ⟨a, st, rfl, hst, fun H1 p1 s1 h1 => ?_⟩
    obtain ⟨u1, v1, h10, hu1, hv1⟩ := h1.ex
    refine ⟨_, _, _, _, rfl, rfl, h10, rfl, ?_⟩
    refine ⟨v, v1, p.v, Kv414.Q.of st.e.v, rfl, hv.to s1, hv1, sz.v.mono (by decide), wf.v.mono (by decide), fun H2 p2 s2 h2 => ?_⟩
    obtain ⟨dx2, d2⟩ := hst.to (s1.trans s2)
    walk_at "sig"
    exact ⟨p2, _, st.k.q, st.k.p, rfl, h2, (sub_sz sz.v wf.v).mono (by decide), b9 _ wf.q.2, wf.p.1, b9 _ wf.p.2, fun H3 p3 s3 h3 => k H3 p3 (s1.trans (s2.trans s3)) h3⟩)
theorem ok_heard (D : Df K mg "heard" s_heard p_heard f fd) (C_clock_by_less : Kept P w K mg base 4 "clock_by_less" p_clock_by_less (spStnPt (fun s p => s.atU p.u) K C_Station))
    (C_clock_by_together : Kept P w K mg base 4 "clock_by_together" p_clock_by_together (spStnPt (fun s p => s.atV p.v) K C_Station)) (C_greater : Kept P w K mg base 2 "greater" p_greater (spGreater K)) :
    Kept P w K mg base 5 "heard" p_heard (spStnPt Kv415.Station.hears K C_Station) := D.kept (by
  refine D.F.ok sc_heard (fun vs H Q E h => ?_) (fun cdv A outer s H vs Q E hr h => ?_)
  · obtain ⟨a, b, s, p, rfl, _⟩ := h
    rfl
  · obtain ⟨a, b, st, p, rfl, hst, wf, hp, sz, k⟩ := h
    refine ⟨_, (pss_one (ps_ret (pe_callQ C_greater (hr.mono (by decide)) rfl (pa_cons (pe_callQ C_clock_by_less (hr.mono (by decide)) rfl (pa_cons (pv 0) (pa_cons (pv 1) pa_nil))) (pa_cons (pe_callQ C_clock_by_together (hr.mono (by decide)) rfl (pa_cons (pv 0) (pa_cons (pv 1) pa_nil))) pa_nil))))), ?_⟩
    walk_at "sig"
    refine ⟨a, b, st, p, rfl, hst, wf, hp, sz, fun H1 p1 s1 h1 => ?_⟩
    walk_at "sig"
    refine ⟨a, b, st, p, rfl, hst.to s1, wf, hp.to s1, sz, fun H2 p2 s2 h2 => ?_⟩
    exact ⟨p1, p2, _, _, rfl, h1.to s2, h2, (atU_sz wf sz.u).mono (by decide), (atV_sz wf sz.v).mono (by decide), atU_red wf sz.u.pos, atV_red wf sz.v.pos, fun H3 p3 s3 h3 => k H3 p3 (s1.trans (s2.trans s3)) h3⟩)
theorem ok_heard_of_till (D : Df K mg "heard_of_till" s_heard_of_till p_heard_of_till f fd) (C_clock_by_less : Kept P w K mg base 4 "clock_by_less" p_clock_by_less (spStnPt (fun s p => s.atU p.u) K C_Station))
    (C_clock_by_together : Kept P w K mg base 4 "clock_by_together" p_clock_by_together (spStnPt (fun s p => s.atV p.v) K C_Station)) (C_lesser : Kept P w K mg base 2 "lesser" p_lesser (spLesser K)) :
    Kept P w K mg base 5 "heard_of_till" p_heard_of_till (spStnPt Kv415.Station.till K C_Station) := D.kept (by
  refine D.F.ok sc_heard_of_till (fun vs H Q E h => ?_) (fun cdv A outer s H vs Q E hr h => ?_)
  · obtain ⟨a, b, s, p, rfl, _⟩ := h
    rfl
  · obtain ⟨a, b, st, p, rfl, hst, wf, hp, sz, k⟩ := h
    refine ⟨_, (pss_one (ps_ret (pe_callQ C_lesser (hr.mono (by decide)) rfl (pa_cons (pe_callQ C_clock_by_less (hr.mono (by decide)) rfl (pa_cons (pv 0) (pa_cons (pv 1) pa_nil))) (pa_cons (pe_callQ C_clock_by_together (hr.mono (by decide)) rfl (pa_cons (pv 0) (pa_cons (pv 1) pa_nil))) pa_nil))))), ?_⟩
    walk_at "sig"
    refine ⟨a, b, st, p, rfl, hst, wf, hp, sz, fun H1 p1 s1 h1 => ?_⟩
    walk_at "sig"
    refine ⟨a, b, st, p, rfl, hst.to s1, wf, hp.to s1, sz, fun H2 p2 s2 h2 => ?_⟩
    exact ⟨p1, p2, _, _, rfl, h1.to s2, h2, (atU_sz wf sz.u).mono (by decide), (atV_sz wf sz.v).mono (by decide), fun H3 p3 s3 h3 => k H3 p3 (s1.trans (s2.trans s3)) h3⟩)
theorem ok_own_time (D : Df K mg "own_time" s_own_time p_own_time f fd) (C_heard : Kept P w K mg base 5 "heard" p_heard (spStnPt Kv415.Station.hears K C_Station)) (C_heard_of_till : Kept P w K mg base 5 "heard_of_till" p_heard_of_till (spStnPt Kv415.Station.till K C_Station)) (C_plus : Kept P w K mg base 3 "plus" p_plus (spTwo Kv414.Q.add K)) (C_scaled : Kept P w K mg base 3 "scaled" p_scaled (spScaled K)) :
    Kept P w K mg base 6 "own_time" p_own_time (spOwnPt (fun s p => (s.own p).1) K C_Station) := D.kept (by
  refine D.F.ok sc_own_time (fun vs H Q E h => ?_) (fun cdv A outer s H vs Q E hr h => ?_)
  · obtain ⟨a, b, s, p, rfl, _⟩ := h
    rfl
  · obtain ⟨a, b, st, p, rfl, hst, wf, hp, sz, k⟩ := h
    refine ⟨_, (pss_one (ps_ret (pe_callQ C_scaled (hr.mono (by decide)) rfl (pa_cons (pe_callQ C_plus (hr.mono (by decide)) rfl (pa_cons (pe_callQ C_heard (hr.mono (by decide)) rfl (pa_cons (pv 0) (pa_cons (pv 1) pa_nil))) (pa_cons (pe_callQ C_heard_of_till (hr.mono (by decide)) rfl (pa_cons (pv 0) (pa_cons (pv 1) pa_nil))) pa_nil))) (pa_cons pe_int (pa_cons pe_int pa_nil)))))), ?_⟩
    walk_at "sig"
    refine ⟨a, b, st, p, rfl, hst, wf, hp, sz.mono (by decide), fun H1 p1 s1 h1 => ?_⟩
    walk_at "sig"
    refine ⟨a, b, st, p, rfl, hst.to s1, wf, hp.to s1, sz.mono (by decide), fun H2 p2 s2 h2 => ?_⟩
    refine ⟨p1, p2, _, _, rfl, h1.to s2, h2, (hears_sz wf sz).mono (by decide), (till_sz wf sz).mono (by decide), fun H3 p3 s3 h3 => ?_⟩
    exact ⟨p3, _, 1, 2, rfl, h3, (add_sz (hears_sz wf sz) (till_sz wf sz)).mono (by decide), by decide, by decide, by decide, fun H4 p4 s4 h4 => k H4 p4 (s1.trans (s2.trans (s3.trans s4))) h4⟩)
theorem ok_own_place (D : Df K mg "own_place" s_own_place p_own_place f fd) (C_heard : Kept P w K mg base 5 "heard" p_heard (spStnPt Kv415.Station.hears K C_Station)) (C_heard_of_till : Kept P w K mg base 5 "heard_of_till" p_heard_of_till (spStnPt Kv415.Station.till K C_Station)) (C_minus : Kept P w K mg base 3 "minus" p_minus (spTwo Kv414.Q.sub K)) (C_scaled : Kept P w K mg base 3 "scaled" p_scaled (spScaled K)) :
    Kept P w K mg base 6 "own_place" p_own_place (spOwnPt (fun s p => (s.own p).2) K C_Station) := D.kept (by
  refine D.F.ok sc_own_place (fun vs H Q E h => ?_) (fun cdv A outer s H vs Q E hr h => ?_)
  · obtain ⟨a, b, s, p, rfl, _⟩ := h
    rfl
  · obtain ⟨a, b, st, p, rfl, hst, wf, hp, sz, k⟩ := h
    refine ⟨_, (pss_one (ps_ret (pe_callQ C_scaled (hr.mono (by decide)) rfl (pa_cons (pe_callQ C_minus (hr.mono (by decide)) rfl (pa_cons (pe_callQ C_heard (hr.mono (by decide)) rfl (pa_cons (pv 0) (pa_cons (pv 1) pa_nil))) (pa_cons (pe_callQ C_heard_of_till (hr.mono (by decide)) rfl (pa_cons (pv 0) (pa_cons (pv 1) pa_nil))) pa_nil))) (pa_cons pe_int (pa_cons pe_int pa_nil)))))), ?_⟩
    walk_at "sig"
    refine ⟨a, b, st, p, rfl, hst, wf, hp, sz.mono (by decide), fun H1 p1 s1 h1 => ?_⟩
    walk_at "sig"
    refine ⟨a, b, st, p, rfl, hst.to s1, wf, hp.to s1, sz.mono (by decide), fun H2 p2 s2 h2 => ?_⟩
    refine ⟨p1, p2, _, _, rfl, h1.to s2, h2, (hears_sz wf sz).mono (by decide), (till_sz wf sz).mono (by decide), fun H3 p3 s3 h3 => ?_⟩
    exact ⟨p3, _, 1, 2, rfl, h3, (sub_sz (hears_sz wf sz) (till_sz wf sz)).mono (by decide), by decide, by decide, by decide, fun H4 p4 s4 h4 => k H4 p4 (s1.trans (s2.trans (s3.trans s4))) h4⟩)
theorem ok_side_of (D : Df K mg "side_of" s_side_of p_side_of f fd) (T : Txt K mg C_Board C_Station) (C_clock_by_less : Kept P w K mg base 4 "clock_by_less" p_clock_by_less (spStnPt (fun s p => s.atU p.u) K C_Station))
    (C_clock_by_together : Kept P w K mg base 4 "clock_by_together" p_clock_by_together (spStnPt (fun s p => s.atV p.v) K C_Station)) (C_is_less : Kept P w K mg base 1 "is_less" p_is_less (spIsLess K)) :
    Kept P w K mg base 5 "side_of" p_side_of (spSide K C_Station) := D.kept (by
  refine D.F.ok sc_side_of (fun vs H Q E h => ?_) (fun cdv A outer s H vs Q E hr h => ?_)
  · obtain ⟨a, b, s, p, rfl, _⟩ := h
    rfl
  · obtain ⟨a, b, st, p, rfl, hst, wf, hp, sz, k⟩ := h
    refine ⟨_, (pss_cons (ps_set (i := 2) sc_side_of.nd rfl (Or.inl rfl) (pe_callQ C_clock_by_less (hr.mono (by decide)) rfl (pa_cons (pv 0) (pa_cons (pv 1) pa_nil))))
      (pss_cons (ps_set (i := 3) sc_side_of.nd rfl (Or.inl rfl) (pe_callQ C_clock_by_together (hr.mono (by decide)) rfl (pa_cons (pv 0) (pa_cons (pv 1) pa_nil))))
      (pss_cons (ps_if (pt_val (pe_callQ C_is_less (hr.mono (by decide)) rfl (pa_cons (pv 2) (pa_cons (pv 3) pa_nil))))
      (pss_one (ps_ret (pe_const T.c_ON_THE_RIGHT)))
      pss_nil)
      (pss_cons (ps_if (pt_val (pe_callQ C_is_less (hr.mono (by decide)) rfl (pa_cons (pv 3) (pa_cons (pv 2) pa_nil))))
      (pss_one (ps_ret (pe_const T.c_ON_THE_LEFT)))
      pss_nil)
      (pss_one (ps_ret (pe_const T.c_THERE))))))), ?_⟩
    walk_at "sig"
    refine ⟨a, b, st, p, rfl, hst, wf, hp, sz.mono (by decide), fun H1 p1 s1 h1 => ?_⟩
    walk_at "sig"
    refine ⟨a, b, st, p, rfl, hst.to s1, wf, hp.to s1, sz.mono (by decide), fun H2 p2 s2 h2 => ?_⟩
    have h1 := h1.to s2
    have zu := (atU_sz wf sz.u).mono (show 1900 + 13 ≤ 4000 by decide)
    have zv := (atV_sz wf sz.v).mono (show 1900 + 13 ≤ 4000 by decide)
    have kk := k H2 (s1.trans s2)
    rw [show ((st.side p : Nat) : Int) = _ from side_is (st.atU p.u) (st.atV p.v)] at kk
    walk_at "sig"
    refine ⟨p1, p2, _, _, rfl, h1, h2, zu, zv, _, rfl, ?_⟩
    refine if_cases (fun c => ?_) (fun c => ?_)
    · rw [if_pos (of_decide_eq_true c)] at kk
      exact kk
    · rw [if_neg (of_decide_eq_false c)] at kk
      walk_at "sig"
      refine ⟨p2, p1, _, _, rfl, h2, h1, zv, zu, _, rfl, ?_⟩
      refine if_cases (fun c => ?_) (fun c => ?_)
      · rw [if_pos (of_decide_eq_true c)] at kk
        exact kk
      · rw [if_neg (of_decide_eq_false c)] at kk
        exact kk)
theorem ok_arrival (D : Df K mg "arrival" s_arrival p_arrival f fd) (C_heard : Kept P w K mg base 5 "heard" p_heard (spStnPt Kv415.Station.hears K C_Station)) (C_point_at : Kept P w K mg base 4 "point_at" p_point_at (spPointAt K C_Station)) :
    Kept P w K mg base 6 "arrival" p_arrival (spArrival K C_Station) := D.kept (by
  refine D.F.ok sc_arrival (fun vs H Q E h => ?_) (fun cdv A outer s H vs Q E hr h => ?_)
  · obtain ⟨a, b, c, s, r, q, rfl, _⟩ := h
    rfl
  · obtain ⟨a, b, c, st, rt, q, rfl, hst, wf, hrt, wr, hq, sq, k⟩ := h
    refine ⟨_, (pss_one (ps_ret (pe_callQ C_heard (hr.mono (by decide)) rfl (pa_cons (pv 1) (pa_cons (pe_callQ C_point_at (hr.mono (by decide)) rfl (pa_cons (pv 0) (pa_cons (pv 2) pa_nil))) pa_nil))))), ?_⟩
    walk_at "sig"
    refine ⟨a, c, st, q, rfl, hst, wf, hq, sq, fun H1 p1 s1 h1 => ?_⟩
    exact ⟨b, p1, rt, _, rfl, hrt.to s1, wr, h1, (at_sz wf sq).mono (by decide), fun H2 p2 s2 h2 => k H2 p2 (s1.trans s2) h2⟩)
end
end Sig
set_option Elab.async false
set_option linter.all false
set_option maxRecDepth 100000
set_option maxHeartbeats 4000000
/-! The board: what it is, how it lies in the heap, what is asked of arguments: board.py, refusals.py -/
namespace Sig
open PySem PySem.Spec PyProof.Rows L2
theorem drop_but {α : Type} {l : List α} (h : l ≠ []) : l.drop (l.length - 1) = [l.getLast h] := by
  have e := List.dropLast_concat_getLast h
  have q : (l.dropLast ++ [l.getLast h]).drop l.dropLast.length = [l.getLast h] := List.drop_left
  rw [e, List.length_dropLast] at q
  exact q
/-! ### two lists, item by item -/
inductive Two {α β : Type} (R : α → β → Prop) : List α → List β → Prop
  | nil : Two R [] []
  | cons {a : α} {b : β} {l : List α} {m : List β} : R a b → Two R l m → Two R (a :: l) (b :: m)
namespace Two
variable {α β : Type} {R S : α → β → Prop}
theorem len : ∀ {l : List α} {m : List β}, Two R l m → l.length = m.length
  | _, _, .nil => rfl
  | _, _, .cons _ t => congrArg (· + 1) t.len
theorem mono (h : ∀ a b, R a b → S a b) : ∀ {l : List α} {m : List β}, Two R l m → Two S l m
  | _, _, .nil => .nil
  | _, _, .cons r t => .cons (h _ _ r) (mono h t)
theorem app : ∀ {l : List α} {m : List β} {l' : List α} {m' : List β}, Two R l m → Two R l' m' → Two R (l ++ l') (m ++ m')
  | _, _, _, _, .nil, t => t
  | _, _, _, _, .cons r u, t => .cons r (u.app t)
theorem one {a : α} {b : β} (r : R a b) : Two R [a] [b] := .cons r .nil
theorem take : ∀ {l : List α} {m : List β} (n : Nat), Two R l m → Two R (l.take n) (m.take n)
  | _, _, 0, _ => by
    rw [List.take_zero, List.take_zero]
    exact .nil
  | _, _, _ + 1, .nil => .nil
  | _, _, n + 1, .cons r t => .cons r (t.take n)
theorem drop : ∀ {l : List α} {m : List β} (n : Nat), Two R l m → Two R (l.drop n) (m.drop n)
  | _, _, 0, t => t
  | _, _, _ + 1, .nil => .nil
  | _, _, n + 1, .cons _ t => t.drop n
theorem get : ∀ {l : List α} {m : List β} {i : Nat}, Two R l m → i < m.length → ∃ a b, l[i]? = some a ∧ m[i]? = some b ∧ R a b
  | _, _, _, .nil, h => absurd h (Nat.not_lt_zero _)
  | _, _, 0, .cons r _, _ => ⟨_, _, rfl, rfl, r⟩
  | _, _, i + 1, .cons _ t, h => by
    obtain ⟨a, b, e1, e2, r⟩ := t.get (i := i) (Nat.lt_of_succ_lt_succ h)
    exact ⟨a, b, e1, e2, r⟩
end Two
/-! ### the board -/
structure Bd where
  begun : Bool
  now : List Stn
  past : List (List Stn)
structure WfB (B : Bd) : Prop where
  now : ∀ s ∈ B.now, Wf s
  few : B.now.length ≤ 6
  past : ∀ l ∈ B.past, (∀ s ∈ l, Wf s) ∧ l.length ≤ 6
  ten : B.past.length ≤ 10
def bF (g : Bool) (sa pa : Addr) : List (Str × V) := [("begun", .bl g), ("stations", .ref sa), ("past", .ref pa)]
theorem bF_begun (g : Bool) (sa pa : Addr) : (bF g sa pa).lookup ("begun" : Str) = some (.bl g) := lk_here
theorem bF_stations (g : Bool) (sa pa : Addr) : (bF g sa pa).lookup ("stations" : Str) = some (.ref sa) := (lk_past (by decide +kernel)).trans lk_here
theorem bF_past (g : Bool) (sa pa : Addr) : (bF g sa pa).lookup ("past" : Str) = some (.ref pa) := (lk_past (by decide +kernel)).trans ((lk_past (by decide +kernel)).trans lk_here)
theorem bF_no (g : Bool) (sa pa : Addr) {m : Str} (h1 : (m == "begun") = false) (h2 : (m == "stations") = false) (h3 : (m == "past") = false) : (bF g sa pa).lookup m = none := (lk_past h1).trans ((lk_past h2).trans ((lk_past h3).trans rfl))
theorem bF_put_begun (g h : Bool) (sa pa : Addr) : putF "begun" (.bl h) (bF g sa pa) = bF h sa pa := put_here
theorem bF_put_stations (g : Bool) (sa pa sb : Addr) : putF "stations" (.ref sb) (bF g sa pa) = bF g sb pa := (put_past (by decide +kernel)).trans (congrArg _ put_here)
theorem bF_put_past (g : Bool) (sa pa pb : Addr) : putF "past" (.ref pb) (bF g sa pa) = bF g sa pb := (put_past (by decide +kernel)).trans (congrArg _ ((put_past (by decide +kernel)).trans (congrArg _ put_here)))
theorem bF_new (g : Bool) (sa pa : Addr) : putF "past" (.ref pa) (putF "stations" (.ref sa) (putF "begun" (.bl g) [])) = bF g sa pa := by
  have e1 : ∀ v w : V, putF "stations" w [(("begun" : Str), v)] = ([("begun", v), ("stations", w)] : List (Str × V)) := fun v w => put_past (by decide +kernel)
  have e2 : ∀ v w z : V, putF "past" z [(("begun" : Str), v), ("stations", w)] = ([("begun", v), ("stations", w), ("past", z)] : List (Str × V)) := fun v w z => (put_past (by decide +kernel)).trans (congrArg _ (put_past (by decide +kernel)))
  show putF "past" (.ref pa) (putF "stations" (.ref sa) [(("begun" : Str), V.bl g)]) = bF g sa pa
  rw [e1, e2]
  rfl
section
variable (K : PySem.W.Frag) (CB CS : Addr)
/-- a tuple of stations -/
structure StsAt (H : Hp) (a : Addr) (l : List Stn) : Prop where
  ex : ∃ as : List Addr, SqT K H a (as.map V.ref) ∧ Two (StAt CS H) as l
/-- what can be taken back, the oldest first -/
structure PastAt (H : Hp) (a : Addr) (past : List (List Stn)) : Prop where
  ex : ∃ as : List Addr, SqT K H a (as.map V.ref) ∧ Two (StsAt K CS H) as past.reverse
structure BdAt (H : Hp) (a : Addr) (B : Bd) : Prop where
  ex : ∃ dx sa pa, H a = some (.ins CB dx (bF B.begun sa pa)) ∧ StsAt K CS H sa B.now ∧ PastAt K CS H pa B.past
  wf : WfB B
end
/-- all but the board stays -/
def Keeps (ba : Addr) (H H' : Hp) : Prop := ∀ x o, H x = some o → x ≠ ba → H' x = some o
theorem Same.keeps {H H' : Hp} {ba : Addr} (e : Same H H') : Keeps ba H H' := fun x o h _ => e x o h
theorem Keeps.trans {ba : Addr} {H H1 H2 : Hp} (a : Keeps ba H H1) (b : Keeps ba H1 H2) : Keeps ba H H2 := fun x o h n => b x o (a x o h n) n
theorem keeps_upd {ba : Addr} {H : Hp} {o : HO} : Keeps ba H (upd H ba o) := fun x u h n => by
  rw [upd_ne n]
  exact h
section
variable {K : PySem.W.Frag} {CB CS : Addr}
theorem StsAt.to {H H' : Hp} {a : Addr} {l : List Stn} (h : StsAt K CS H a l) (e : Same H H') : StsAt K CS H' a l := by
  obtain ⟨as, h1, h2⟩ := h.ex
  exact ⟨as, same_tup e h1, h2.mono fun _ _ r => r.to e⟩
theorem PastAt.to {H H' : Hp} {a : Addr} {l : List (List Stn)} (h : PastAt K CS H a l) (e : Same H H') : PastAt K CS H' a l := by
  obtain ⟨as, h1, h2⟩ := h.ex
  exact ⟨as, same_tup e h1, h2.mono fun _ _ r => r.to e⟩
theorem BdAt.to {H H' : Hp} {a : Addr} {B : Bd} (h : BdAt K CB CS H a B) (e : Same H H') : BdAt K CB CS H' a B := by
  obtain ⟨dx, sa, pa, h1, h2, h3⟩ := h.ex
  exact ⟨⟨dx, sa, pa, e _ _ h1, h2.to e, h3.to e⟩, h.wf⟩
/-- where the board alone changes, what is no board stays -/
theorem keep_tup {ba : Addr} {H H' : Hp} {a C dx : Addr} {fs : List (Str × V)} {xs : List V} (h : SqT K H a xs) (e : Keeps ba H H') (hb : H ba = some (.ins C dx fs)) : SqT K H' a xs := by
  rcases h with (h | ⟨u, h⟩) | h
  · exact .inl (.inl (e _ _ h (ne_of h hb (by intro z; cases z))))
  · exact .inl (.inr ⟨u, e _ _ h (ne_of h hb (by intro z; cases z))⟩)
  · exact .inr h
theorem sF_bF {s : Stn} {g : Bool} {sa pa : Addr} : sF s ≠ bF g sa pa := fun z => by
  have h : (4 : Nat) = 3 := congrArg List.length z
  exact absurd h (by decide)
theorem StAt.keep {ba : Addr} {H H' : Hp} {a C dx : Addr} {g : Bool} {sa pa : Addr} {s : Stn} (h : StAt CS H a s) (e : Keeps ba H H') (hb : H ba = some (.ins C dx (bF g sa pa))) : StAt CS H' a s := by
  obtain ⟨d, h⟩ := h
  exact ⟨d, e _ _ h (ne_of h hb (by intro z; injection z with _ _ z; exact sF_bF z))⟩
theorem StsAt.keep {ba : Addr} {H H' : Hp} {a C dx : Addr} {g : Bool} {sa pa : Addr} {l : List Stn} (h : StsAt K CS H a l) (e : Keeps ba H H') (hb : H ba = some (.ins C dx (bF g sa pa))) : StsAt K CS H' a l := by
  obtain ⟨as, h1, h2⟩ := h.ex
  exact ⟨as, keep_tup h1 e hb, h2.mono fun _ _ r => r.keep e hb⟩
theorem PastAt.keep {ba : Addr} {H H' : Hp} {a C dx : Addr} {g : Bool} {sa pa : Addr} {l : List (List Stn)} (h : PastAt K CS H a l) (e : Keeps ba H H') (hb : H ba = some (.ins C dx (bF g sa pa))) : PastAt K CS H' a l := by
  obtain ⟨as, h1, h2⟩ := h.ex
  exact ⟨as, keep_tup h1 e hb, h2.mono fun _ _ r => r.keep e hb⟩
theorem StsAt.len {H : Hp} {a : Addr} {l : List Stn} (h : StsAt K CS H a l) : ∃ xs : List V, SqT K H a xs ∧ xs.length = l.length := by
  obtain ⟨as, h1, h2⟩ := h.ex
  exact ⟨_, h1, by rw [List.length_map]; exact h2.len⟩
/-- the i-th station -/
theorem StsAt.get {H : Hp} {a : Addr} {l : List Stn} {i : Nat} (h : StsAt K CS H a l) (hi : i < l.length) : ∃ (xs : List V) (p : Addr), SqT K H a xs ∧ atI xs (i : Int) = some (.ref p) ∧ StAt CS H p (l.getD i ⟨⟨0, 0⟩, ⟨1, 1⟩⟩) := by
  obtain ⟨as, h1, h2⟩ := h.ex
  obtain ⟨p, s, e1, e2, r⟩ := h2.get hi
  refine ⟨_, p, h1, atI_nat (by rw [List.getElem?_map, e1]; rfl), ?_⟩
  rw [List.getD_eq_getElem?_getD, e2]
  exact r
theorem WfB.get {B : Bd} {i : Nat} (h : WfB B) (hi : i < B.now.length) : Wf (B.now.getD i ⟨⟨0, 0⟩, ⟨1, 1⟩⟩) := by
  rw [List.getD_eq_getElem?_getD, List.getElem?_eq_getElem hi]
  exact h.now _ (List.getElem_mem hi)
end
/-- back to the specification's state -/
def Bd.abs (B : Bd) : Kv415.State := if B.begun = true then some ⟨⟨B.now⟩, B.past.map Kv415.Now.mk⟩ else none
/-- a change is laid down -/
def Bd.to_ (B : Bd) (l : List Stn) : Bd := ⟨B.begun, l, (B.now :: B.past).take 10⟩
theorem WfB.to_ {B : Bd} {l : List Stn} (h : WfB B) (h1 : ∀ s ∈ l, Wf s) (h2 : l.length ≤ 6) : WfB (B.to_ l) := by
  refine ⟨h1, h2, fun m hm => ?_, ?_⟩
  · have hm := List.mem_of_mem_take hm
    cases hm with
    | head => exact ⟨h.now, h.few⟩
    | tail _ hm => exact h.past m hm
  · show ((B.now :: B.past).take 10).length ≤ 10
    rw [List.length_take]
    omega
theorem WfB.empty (g : Bool) : WfB ⟨g, [], []⟩ := ⟨fun _ h => (List.not_mem_nil h).elim, Nat.zero_le _, fun _ h => (List.not_mem_nil h).elim, Nat.zero_le _⟩
/-! ### promises of board.py and refusals.py -/
section
variable (K : PySem.W.Frag) (CB CS : Addr)
def spBoard : Sp := fun vs H Q _ => ∃ (a dx : Addr), vs = [.ref a] ∧ H a = some (.ins CB dx []) ∧ ∀ H' : Hp, BdAt K CB CS H' a ⟨false, [], []⟩ → Keeps a H H' → Q .non H'
def spBegin : Sp := fun vs H Q _ => ∃ (a : Addr) (B : Bd), vs = [.ref a] ∧ BdAt K CB CS H a B ∧ ∀ H' : Hp, BdAt K CB CS H' a ⟨true, [], []⟩ → Keeps a H H' → Q .non H'
def spChangeTo : Sp := fun vs H Q _ => ∃ (a sb : Addr) (B : Bd) (l : List Stn), vs = [.ref a, .ref sb] ∧ BdAt K CB CS H a B ∧ StsAt K CS H sb l ∧ (∀ s ∈ l, Wf s) ∧ l.length ≤ 6 ∧ ∀ H' : Hp, BdAt K CB CS H' a (B.to_ l) → Keeps a H H' → Q .non H'
def spTakeBack : Sp := fun vs H Q _ => ∃ (a : Addr) (B : Bd) (l : List Stn) (r : List (List Stn)), vs = [.ref a] ∧ BdAt K CB CS H a B ∧ B.past = l :: r ∧ ∀ H' : Hp, BdAt K CB CS H' a ⟨B.begun, l, r⟩ → Keeps a H H' → Q .non H'
def spIsStation : Sp := fun vs H Q _ => ∃ (a : Addr) (B : Bd) (i : Nat), vs = [.ref a, .int (i : Int)] ∧ BdAt K CB CS H a B ∧ Q (.bl (decide (i < B.now.length))) H
end
def spIsSpot : Sp := fun vs H Q _ => ∃ (t x : Int), vs = [.int t, .int x] ∧ Q (.bl (Kv414.ok t && Kv414.ok x)) H
def spIsFactor : Sp := fun vs H Q _ => ∃ (p q : Nat), vs = [.int (p : Int), .int (q : Int)] ∧ Q (.bl (Kv414.okF p q)) H
def spIsClock : Sp := fun vs H Q _ => ∃ (n : Int) (d : Nat), vs = [.int n, .int (d : Int)] ∧ Q (.bl (Kv415.okT n d)) H
def clockRef (B : Bd) (i : Nat) (n : Int) (d : Nat) : Int := if i < B.now.length then (if Kv415.okT n d = true then 0 else -22) else -2
def spotRef (B : Bd) (i : Nat) (t x : Int) : Int := if i < B.now.length then (if (Kv414.ok t && Kv414.ok x) = true then 0 else -22) else -2
def rowRef (B : Bd) (l : List Nat) (n : Int) (d : Nat) : Int := if l.any (fun i => decide (B.now.length ≤ i)) = true then -2 else if l.length < 2 ∨ 6 < l.length ∨ Kv415.okT n d = false then -22 else 0
def ofNats (l : List Nat) : List Int := l.map Int.ofNat
def pairRef (B : Bd) (i j : Nat) : Int := if i < B.now.length ∧ j < B.now.length then (if i = j then -22 else 0) else -2
def sendRef (B : Bd) (i j : Nat) (n : Int) (d : Nat) : Int := if i < B.now.length ∧ j < B.now.length then (if i = j then -22 else if Kv415.okT n d = true then 0 else -22) else -2
section
variable (K : PySem.W.Frag) (CB CS : Addr)
def spClockRef : Sp := fun vs H Q _ => ∃ (a : Addr) (B : Bd) (i : Nat) (n : Int) (d : Nat), vs = [.ref a, .int (i : Int), .int n, .int (d : Int)] ∧ BdAt K CB CS H a B ∧ Q (.int (clockRef B i n d)) H
def spSpotRef : Sp := fun vs H Q _ => ∃ (a : Addr) (B : Bd) (i : Nat) (t x : Int), vs = [.ref a, .int (i : Int), .int t, .int x] ∧ BdAt K CB CS H a B ∧ Q (.int (spotRef B i t x)) H
def spRowRef : Sp := fun vs H Q _ => ∃ (a b : Addr) (B : Bd) (l : List Nat) (n : Int) (d : Nat), vs = [.ref a, .ref b, .int n, .int (d : Int)] ∧ BdAt K CB CS H a B ∧ SqL K H b ((ofNats l).map V.int) ∧ Q (.int (rowRef B l n d)) H
def spPairRef : Sp := fun vs H Q _ => ∃ (a : Addr) (B : Bd) (i j : Nat), vs = [.ref a, .int (i : Int), .int (j : Int)] ∧ BdAt K CB CS H a B ∧ Q (.int (pairRef B i j)) H
def spSendRef : Sp := fun vs H Q _ => ∃ (a : Addr) (B : Bd) (i j : Nat) (n : Int) (d : Nat), vs = [.ref a, .int (i : Int), .int (j : Int), .int n, .int (d : Int)] ∧ BdAt K CB CS H a B ∧ Q (.int (sendRef B i j n d)) H
end
end Sig
set_option Elab.async false
set_option linter.all false
set_option maxRecDepth 100000
set_option maxHeartbeats 4000000
/-! light.py: along a row, where two meet, the speed -/
namespace Sig
open PySem PySem.Spec PyProof.Rows L2
local macro_rules | `(tactic| walk_at "sig") => `(tactic| repeat (first
  | refine ⟨_, rfl, ?_⟩
  | refine ⟨_, _, rfl, rfl, ?_⟩
  | refine And.intro (show CMulW _ _ by assumption) ?_
  | refine ⟨_, _, _, _, rfl, rfl, (by assumption), rfl, ?_⟩
  | refine ⟨_, _, _, _, _, rfl, (by assumption), (by assumption), (by assumption), (by first | exact sF_time _ | exact sF_place _ | exact sF_p _ | exact sF_q _), ?_⟩))
/-! ### promises -/
def spAlong (K : PySem.W.Frag) (C : Addr) : Sp := fun vs H Q _ => ∃ (a c : Addr) (as : List Addr) (l : List Stn) (q : Fr), vs = [.ref a, .ref c] ∧ SqL K H a (as.map V.ref) ∧ Two (StAt C H) as l ∧ (∀ s ∈ l, Wf s) ∧ 0 < l.length ∧ l.length ≤ 7 ∧ FrAt K H c q ∧ Sz 10 q ∧ GivesFr K H Q (along l q)
def spSame (C : Addr) : Sp := fun vs H Q _ => ∃ (a b : Addr) (s r : Stn), vs = [.ref a, .ref b] ∧ StAt C H a s ∧ StAt C H b r ∧ Q (.bl (decide (s.k = r.k))) H
def spSquares (K : PySem.W.Frag) (C : Addr) : Sp := fun vs H Q _ => ∃ (a b : Addr) (s r : Stn), vs = [.ref a, .ref b] ∧ StAt C H a s ∧ StAt C H b r ∧ Wf s ∧ Wf r ∧ ∀ H' p, Same H H' → SqT K H' p [.int (sqU s r : Int), .int (sqV s r : Int)] → Q (.ref p) H'
def spSpeed (K : PySem.W.Frag) (C : Addr) : Sp := fun vs H Q _ => ∃ (a b : Addr) (s r : Stn), vs = [.ref a, .ref b] ∧ StAt C H a s ∧ StAt C H b r ∧ Wf s ∧ Wf r ∧ GivesFr K H Q (Kv414.Factor.put r.k s.k.back).speed
def spMeetC (K : PySem.W.Frag) (C : Addr) : Sp := fun vs H Q _ => ∃ (a b : Addr) (s r : Stn), vs = [.ref a, .ref b] ∧ StAt C H a s ∧ StAt C H b r ∧ Wf s ∧ Wf r ∧ ¬ s.k = r.k ∧ GivesFr K H Q (meetC s r)
theorem cut_one {x : V} {xs : List V} : cutV (x :: xs) (some 1) none = xs := by
  unfold cutV
  rw [show (1 : Int) = ((1 : Nat) : Int) from rfl, HT.sIx_nat, HT.sIx_none, List.length_cons, Nat.min_eq_left (by omega)]
  show (xs.take (xs.length + 1 - 1)) = xs
  rw [Nat.add_sub_cancel, List.take_length]
theorem drop_two {l : List Stn} {i : Nat} {s r : Stn} (h1 : l[i]? = some s) (h2 : l[i + 1]? = some r) : l.drop i = s :: r :: l.drop (i + 2) := by
  obtain ⟨a1, e1⟩ := List.getElem?_eq_some_iff.mp h1
  obtain ⟨a2, e2⟩ := List.getElem?_eq_some_iff.mp h2
  rw [List.drop_eq_getElem_cons a1, e1, List.drop_eq_getElem_cons a2, e2]
theorem factor_eq {s r : Kv414.Factor} : s = r ↔ s.p = r.p ∧ s.q = r.q := by
  obtain ⟨a, b⟩ := s
  obtain ⟨c, d⟩ := r
  constructor
  · intro h
    injection h with h1 h2
    exact ⟨h1, h2⟩
  · rintro ⟨h1, h2⟩
    dsimp only at h1 h2
    rw [h1, h2]
section
variable {P : Program} {w : World} {K : PySem.W.Frag} {mg : Str → Option Value} {base : Heap} {C_Board C_Station f : Addr} {fd : FuncData}
theorem ok_arrival_along (D : Df K mg "arrival_along" s_arrival_along p_arrival_along f fd) (C_arrival : Kept P w K mg base 6 "arrival" p_arrival (spArrival K C_Station)) : Kept P w K mg base 7 "arrival_along" p_arrival_along (spAlong K C_Station) := D.kept (by
  refine D.F.ok sc_arrival_along (fun vs H Q E h => ?_) (fun cdv A outer s H vs Q E hr h => ?_)
  · obtain ⟨a, c, as, l, q, rfl, _⟩ := h
    rfl
  · obtain ⟨a, c, as, l, q, rfl, ha, htw, wf, l0, l7, hq, sq, k⟩ := h
    refine ⟨_, (pss_cons (ps_set (i := 2) sc_arrival_along.nd rfl (Or.inl rfl) (pe_ix ix_list (pv 0) pe_int (fun _ _ => rfl)))
      (pss_cons (ps_for PassesOwn.never rfl (pi_list (pe_slice sl_list (pv 0) (po_some pe_int) po_none)) (pg_name (i := 3) sc_arrival_along.nd rfl (Or.inl rfl))
      (pss_cons (ps_set (i := 1) sc_arrival_along.nd rfl (Or.inl rfl) (pe_callQ C_arrival (hr.mono (by decide)) rfl (pa_cons (pv 2) (pa_cons (pv 3) (pa_cons (pv 1) pa_nil)))))
      (pss_one (ps_set (i := 2) sc_arrival_along.nd rfl (Or.inl rfl) (pv 3)))))
      (pss_one (ps_ret (pv 1))))), ?_⟩
    cases htw with
    | nil => exact absurd l0 (Nat.lt_irrefl _)
    | @cons a0 s0 as' l' r0 t0 =>
    have htw : Two (StAt C_Station H) (a0 :: as') (s0 :: l') := .cons r0 t0
    refine ⟨_, rfl, _, _, _, _, rfl, rfl, ha, atI_nat (j := 0) rfl, ?_⟩
    refine ⟨_, rfl, _, rfl, ?_⟩
    dsimp only [tNoPart]
    refine ⟨a, _, rfl, ha, fun p1 n1 => ?_⟩
    rw [show cutV ((a0 :: as').map V.ref) (some 1) none = as'.map V.ref from cut_one]
    have e1 := same_upd (o := HO.lst (as'.map V.ref)) n1
    refine ⟨p1, rfl, ⟨_, SqL.of upd_same⟩, ?_⟩
    refine for_list (D := ⟨_, _, fun _ _ => True, fun _ _ => True⟩) (K := K) (a := p1) (xs := as'.map V.ref) (fun i σ H' => ∃ (cl sd : Addr) (h : Option V) (q' : Fr), σ = [some (.ref a), some (.ref cl), some (.ref sd), h] ∧ Same (upd H p1 (HO.lst (as'.map V.ref))) H' ∧ (a0 :: as')[i]? = some sd ∧
        FrAt K H' cl q' ∧ Sz (10 + 26 * i) q' ∧ along (s0 :: l') q = along ((s0 :: l').drop i) q') ?_ ?_ ?_ ?_
    · exact ⟨c, a0, none, q, rfl, Same.refl _, rfl, hq.to e1, sq, rfl⟩
    · rintro i σ H' hi ⟨cl, sd, h, q', rfl, sm, hsd, hcl, sq', hal⟩
      exact sm.seq (SqL.of upd_same)
    · rintro i x σ H' hx ⟨cl, sd, h, q', rfl, sm, hsd, hcl, sq', hal⟩
      have hil : i < as'.length := by
        have q := (List.getElem?_eq_some_iff.mp hx).1
        rw [List.length_map] at q
        exact q
      have hl' : as'.length = l'.length := t0.len
      have sH := e1.trans sm
      have l7' : l'.length + 1 ≤ 7 := l7
      obtain ⟨b1, s1, g1, g2, g3⟩ := htw.get (i := i) (by rw [List.length_cons]; omega)
      obtain ⟨b2, s2, f1, f2, f3⟩ := htw.get (i := i + 1) (by rw [List.length_cons]; omega)
      have eb : b1 = sd := Option.some.inj (g1.symm.trans hsd)
      subst eb
      have ex : x = .ref b2 := by
        have q : (as'.map V.ref)[i]? = some (V.ref b2) := by
          rw [List.getElem?_map, show as'[i]? = some b2 from f1]
          rfl
        exact Option.some.inj (hx.symm.trans q)
      subst ex
      have w1 : Wf s1 := wf _ (List.mem_of_getElem? g2)
      have w2 : Wf s2 := wf _ (List.mem_of_getElem? f2)
      refine ⟨_, rfl, _, rfl, _, rfl, ?_⟩
      refine ⟨b1, b2, cl, s1, s2, q', rfl, g3.to sH, w1, f3.to sH, w2, hcl, sq'.mono (by omega), fun H2 p2 e2 g => ?_⟩
      refine ⟨_, rfl, ?_⟩
      refine ⟨p2, b2, _, hop s1 s2 q', rfl, sm.trans e2, f1, g, (hop_sz w1 w2 sq').mono (by omega), ?_⟩
      rw [hal, drop_two g2 f2, along_step]
      have e3 : (s0 :: l').drop (i + 1) = s2 :: (s0 :: l').drop (i + 2) := by
        obtain ⟨a2, e2⟩ := List.getElem?_eq_some_iff.mp f2
        rw [List.drop_eq_getElem_cons a2, e2]
      rw [e3]
    · rintro σ H' ⟨cl, sd, h, q', rfl, sm, hsd, hcl, sq', hal⟩
      have hl' : as'.length = l'.length := t0.len
      have e : (s0 :: l').drop ((as'.map V.ref).length) = [(s0 :: l').getLast (by simp)] := by
        rw [List.length_map, hl', show l'.length = (s0 :: l').length - 1 from rfl]
        exact drop_but (by simp)
      rw [e, along_one] at hal
      rw [hal] at k
      exact ⟨_, rfl, k H' cl (e1.trans sm) hcl⟩)
theorem ok_same_factor (D : Df K mg "same_factor" s_same_factor p_same_factor f fd) (T : TxS K C_Station) : Kept P w K mg base 1 "same_factor" p_same_factor (spSame C_Station) := D.kept (by
  refine D.F.ok sc_same_factor (fun vs H Q E h => ?_) (fun cdv A outer s H vs Q E hr h => ?_)
  · obtain ⟨a, b, s, r, rfl, _⟩ := h
    rfl
  · obtain ⟨a, b, st, rt, rfl, ⟨dx, hs⟩, ⟨dy, hr'⟩, k⟩ := h
    obtain ⟨kS, aT, aX, aP, aQ⟩ := T
    refine ⟨_, (pss_one (ps_ret (pe_and (pe_cmpR op_eq (pe_fld (pv 0) rfl) (pe_fld (pv 1) rfl) (nomark _)) (pe_one (pe_cmpR op_eq (pe_fld (pv 0) rfl) (pe_fld (pv 1) rfl) (nomark _)))))), ?_⟩
    walk_at "sig"
    refine ⟨rfl, _, rfl, ?_⟩
    refine if_cases (fun c => ?_) (fun c => ?_)
    · have c : V.int (st.k.p : Int) = V.int (rt.k.p : Int) := of_decide_eq_true c
      have c : st.k.p = rt.k.p := by injection c with c; omega
      walk_at "sig"
      refine ⟨rfl, ?_⟩
      have e : decide (V.int (st.k.q : Int) = V.int (rt.k.q : Int)) = decide (st.k = rt.k) := decide_eq_decide.mpr ⟨fun z => factor_eq.mpr ⟨c, by injection z with z; omega⟩, fun z => by rw [(factor_eq.mp z).2]⟩
      rw [← e] at k
      exact k
    · have c : ¬ V.int (st.k.p : Int) = V.int (rt.k.p : Int) := of_decide_eq_false c
      rw [decide_eq_false (fun z => c (by rw [(factor_eq.mp z).1]))] at k
      exact k)
theorem ok_factor_squares (D : Df K mg "factor_squares" s_factor_squares p_factor_squares f fd) (T : TxS K C_Station) : Kept P w K mg base 1 "factor_squares" p_factor_squares (spSquares K C_Station) := D.kept (by
  refine D.F.ok sc_factor_squares (fun vs H Q E h => ?_) (fun cdv A outer s H vs Q E hr h => ?_)
  · obtain ⟨a, b, s, r, rfl, _⟩ := h
    rfl
  · obtain ⟨a, b, st, rt, rfl, ⟨dx, hs⟩, ⟨dy, hr'⟩, ws, wr, k⟩ := h
    obtain ⟨kS, aT, aX, aP, aQ⟩ := T
    refine ⟨_, (pss_cons (ps_set (i := 2) sc_factor_squares.nd rfl (Or.inl rfl) (pe_op op_mulW (pe_fld (pv 1) rfl) (pe_fld (pv 0) rfl)))
      (pss_cons (ps_set (i := 3) sc_factor_squares.nd rfl (Or.inl rfl) (pe_op op_mulW (pe_fld (pv 1) rfl) (pe_fld (pv 0) rfl)))
      (pss_one (ps_ret (pe_tup (pa_cons (pe_op op_mulW (pv 2) (pv 2)) (pa_cons (pe_op op_mulW (pv 3) (pv 3)) pa_nil))))))), ?_⟩
    have b9 : ∀ z : Nat, z ≤ 9 → ((z : Nat) : Int).natAbs < 2 ^ 4 := fun z h => by show ((z : Nat) : Int).natAbs < 16; omega
    have b81 : ∀ x y : Nat, x ≤ 9 → y ≤ 9 → ((x : Int) * (y : Int)).natAbs < 2 ^ 8 := fun x y hx hy => by
      rw [← Int.natCast_mul]
      show ((x * y : Nat) : Int).natAbs < 256
      have := le81 hx hy
      omega
    have m1 : CMulW (rt.k.p : Int) (st.k.q : Int) := wide_mul (b9 _ wr.p.2) (b9 _ ws.q.2) (by decide) (by decide) (by decide)
    have m2 : CMulW (rt.k.q : Int) (st.k.p : Int) := wide_mul (b9 _ wr.q.2) (b9 _ ws.p.2) (by decide) (by decide) (by decide)
    have m3 : CMulW ((rt.k.p : Int) * (st.k.q : Int)) ((rt.k.p : Int) * (st.k.q : Int)) := wide_mul (b81 _ _ wr.p.2 ws.q.2) (b81 _ _ wr.p.2 ws.q.2) (by decide) (by decide) (by decide)
    have m4 : CMulW ((rt.k.q : Int) * (st.k.p : Int)) ((rt.k.q : Int) * (st.k.p : Int)) := wide_mul (b81 _ _ wr.q.2 ws.p.2) (b81 _ _ wr.q.2 ws.p.2) (by decide) (by decide) (by decide)
    walk_at "sig"
    refine ⟨(by show 2 ≤ sizeLine; decide), fun p hp => ?_⟩
    have eU : (sqU st rt : Int) = (rt.k.p : Int) * (st.k.q : Int) * ((rt.k.p : Int) * (st.k.q : Int)) := by
      unfold sqU
      rw [Int.natCast_mul, Int.natCast_mul]
    have eV : (sqV st rt : Int) = (rt.k.q : Int) * (st.k.p : Int) * ((rt.k.q : Int) * (st.k.p : Int)) := by
      unfold sqV
      rw [Int.natCast_mul, Int.natCast_mul]
    rw [eU, eV] at k
    exact k _ p (same_upd hp) (SqT.of upd_same))
theorem ok_speed_of (D : Df K mg "speed_of" s_speed_of p_speed_of f fd) (C_factor_squares : Kept P w K mg base 1 "factor_squares" p_factor_squares (spSquares K C_Station)) (C_ratio : Kept P w K mg base 2 "ratio" p_ratio (spRatio K)) :
    Kept P w K mg base 3 "speed_of" p_speed_of (spSpeed K C_Station) := D.kept (by
  refine D.F.ok sc_speed_of (fun vs H Q E h => ?_) (fun cdv A outer s H vs Q E hr h => ?_)
  · obtain ⟨a, b, s, r, rfl, _⟩ := h
    rfl
  · obtain ⟨a, b, st, rt, rfl, hs, hr', ws, wr, k⟩ := h
    refine ⟨_, (pss_cons (ps_set (i := 2) sc_speed_of.nd rfl (Or.inl rfl) (pe_callQ C_factor_squares (hr.mono (by decide)) rfl (pa_cons (pv 0) (pa_cons (pv 1) pa_nil))))
      (pss_one (ps_ret (pe_callQ C_ratio (hr.mono (by decide)) rfl (pa_cons (pe_op op_sub (pe_ix ix_tup (pv 2) pe_int (fun _ _ => rfl)) (pe_ix ix_tup (pv 2) pe_int (fun _ _ => rfl))) (pa_cons (pe_op op_add (pe_ix ix_tup (pv 2) pe_int (fun _ _ => rfl)) (pe_ix ix_tup (pv 2) pe_int (fun _ _ => rfl))) pa_nil)))))), ?_⟩
    walk_at "sig"
    refine ⟨a, b, st, rt, rfl, hs, hr', ws, wr, fun H1 p1 e1 g1 => ?_⟩
    walk_at "sig"
    have hp := sqU_pos ws wr
    have hu := sqU_le ws wr
    have hv := sqV_le ws wr
    refine ⟨_, sqU st rt + sqV st rt, rfl, by omega, lt_pow (i := 14) (by show sqU st rt + sqV st rt < 16384; omega) (by decide), ?_⟩
    rw [speed_same ws wr]
    exact fun H2 p2 e2 g2 => k H2 p2 (e1.trans e2) g2)
theorem ok_meeting_clock (D : Df K mg "meeting_clock" s_meeting_clock p_meeting_clock f fd) (C_start_of : Kept P w K mg base 2 "start_of" p_start_of (spStart K C_Station)) (C_factor_squares : Kept P w K mg base 1 "factor_squares" p_factor_squares (spSquares K C_Station))
    (C_clock_by_less : Kept P w K mg base 4 "clock_by_less" p_clock_by_less (spStnPt (fun s p => s.atU p.u) K C_Station)) (C_clock_by_together : Kept P w K mg base 4 "clock_by_together" p_clock_by_together (spStnPt (fun s p => s.atV p.v) K C_Station))
    (C_scaled : Kept P w K mg base 3 "scaled" p_scaled (spScaled K)) (C_minus : Kept P w K mg base 3 "minus" p_minus (spTwo Kv414.Q.sub K)) (C_over : Kept P w K mg base 3 "over" p_over (spOver K)) :
    Kept P w K mg base 5 "meeting_clock" p_meeting_clock (spMeetC K C_Station) := D.kept (by
  refine D.F.ok sc_meeting_clock (fun vs H Q E h => ?_) (fun cdv A outer s H vs Q E hr h => ?_)
  · obtain ⟨a, b, s, r, rfl, _⟩ := h
    rfl
  · obtain ⟨a, b, st, rt, rfl, hs, hr', ws, wr, ne, k⟩ := h
    refine ⟨_, (pss_cons (ps_set (i := 2) sc_meeting_clock.nd rfl (Or.inl rfl) (pe_callQ C_start_of (hr.mono (by decide)) rfl (pa_cons (pv 1) pa_nil)))
      (pss_cons (ps_set (i := 3) sc_meeting_clock.nd rfl (Or.inl rfl) (pe_callQ C_factor_squares (hr.mono (by decide)) rfl (pa_cons (pv 0) (pa_cons (pv 1) pa_nil))))
      (pss_cons (ps_set (i := 4) sc_meeting_clock.nd rfl (Or.inl rfl) (pe_callQ C_scaled (hr.mono (by decide)) rfl (pa_cons (pe_callQ C_clock_by_less (hr.mono (by decide)) rfl (pa_cons (pv 0) (pa_cons (pv 2) pa_nil))) (pa_cons (pe_ix ix_tup (pv 3) pe_int (fun _ _ => rfl)) (pa_cons pe_int pa_nil)))))
      (pss_cons (ps_set (i := 5) sc_meeting_clock.nd rfl (Or.inl rfl) (pe_callQ C_scaled (hr.mono (by decide)) rfl (pa_cons (pe_callQ C_clock_by_together (hr.mono (by decide)) rfl (pa_cons (pv 0) (pa_cons (pv 2) pa_nil))) (pa_cons (pe_ix ix_tup (pv 3) pe_int (fun _ _ => rfl)) (pa_cons pe_int pa_nil)))))
      (pss_one (ps_ret (pe_callQ C_over (hr.mono (by decide)) rfl (pa_cons (pe_callQ C_minus (hr.mono (by decide)) rfl (pa_cons (pv 4) (pa_cons (pv 5) pa_nil))) (pa_cons (pe_op op_sub (pe_ix ix_tup (pv 3) pe_int (fun _ _ => rfl)) (pe_ix ix_tup (pv 3) pe_int (fun _ _ => rfl))) pa_nil))))))))), ?_⟩
    walk_at "sig"
    refine ⟨b, rt, rfl, hr', fun H1 p1 e1 g1 => ?_⟩
    walk_at "sig"
    refine ⟨a, b, st, rt, rfl, hs.to e1, hr'.to e1, ws, wr, fun H2 p2 e2 g2 => ?_⟩
    walk_at "sig"
    have zp : SzP 8 (spot rt.e.t rt.e.x) := ⟨wr.u, wr.v⟩
    have e12 := e1.trans e2
    have bU : sqU st rt < 2 ^ 100 := lt_pow (i := 13) (by show sqU st rt < 8192; have := sqU_le ws wr; omega) (by decide)
    have bV : sqV st rt < 2 ^ 100 := lt_pow (i := 13) (by show sqV st rt < 8192; have := sqV_le ws wr; omega) (by decide)
    refine ⟨a, p1, st, _, rfl, hs.to e12, ws, g1.to e2, zp.mono (by decide), fun H3 p3 e3 g3 => ?_⟩
    have g23 := same_tup e3 g2
    walk_at "sig"
    refine ⟨p3, _, sqU st rt, 1, rfl, g3, (atU_sz ws wr.u).mono (by decide), bU, by decide, by decide, fun H4 p4 e4 g4 => ?_⟩
    walk_at "sig"
    have e14 := e12.trans (e3.trans e4)
    refine ⟨a, p1, st, _, rfl, hs.to e14, ws, g1.to (e2.trans (e3.trans e4)), zp.mono (by decide), fun H5 p5 e5 g5 => ?_⟩
    have g25 := same_tup (e4.trans e5) g23
    walk_at "sig"
    refine ⟨p5, _, sqV st rt, 1, rfl, g5, (atV_sz ws wr.v).mono (by decide), bV, by decide, by decide, fun H6 p6 e6 g6 => ?_⟩
    walk_at "sig"
    refine ⟨p4, p6, _, _, rfl, g4.to (e5.trans e6), g6, (meetL_sz ws wr).mono (by decide), (meetT_sz ws wr).mono (by decide), fun H7 p7 e7 g7 => ?_⟩
    have g27 := same_tup (e6.trans e7) g25
    walk_at "sig"
    refine ⟨p7, _, _, rfl, g7, (sub_sz (meetL_sz ws wr) (meetT_sz ws wr)).mono (by decide), sq_int ws wr ne, lt_pow (sq_abs ws wr) (by decide), fun H8 p8 e8 g8 => ?_⟩
    exact k H8 p8 (e14.trans (e5.trans (e6.trans (e7.trans e8)))) g8)
end
end Sig
set_option Elab.async false
set_option linter.all false
set_option maxRecDepth 100000
set_option maxHeartbeats 4000000
/-! board.py, refusals.py: the bodies -/
namespace Sig
open PySem PySem.Spec PyProof.Rows L2
local macro_rules | `(tactic| walk_at "sig") => `(tactic| repeat (first
  | refine ⟨_, rfl, ?_⟩
  | refine ⟨_, _, rfl, rfl, ?_⟩
  | refine And.intro (show CMulW _ _ by assumption) ?_
  | refine ⟨_, _, _, _, rfl, rfl, (by assumption), rfl, ?_⟩
  | refine ⟨_, _, _, _, _, rfl, (by assumption), (by assumption), (by assumption), (by first | exact sF_time _ | exact sF_place _ | exact sF_p _ | exact sF_q _ | exact bF_begun _ _ _ | exact bF_stations _ _ _ | exact bF_past _ _ _), ?_⟩))
/-- what the text says of the class Board -/
structure TxB (K : PySem.W.Frag) (C : Addr) : Prop where
  k : Cls K C
  b : NoAttr K C "begun"
  s : NoAttr K C "stations"
  p : NoAttr K C "past"
theorem Txt.brd {K : PySem.W.Frag} {mg : Str → Option Value} {C_Board C_Station : Addr} (T : Txt K mg C_Board C_Station) : TxB K C_Board := ⟨T.k_Board, T.a_Board_begun, T.a_Board_stations, T.a_Board_past⟩
theorem empty_sts {K : PySem.W.Frag} {CS : Addr} {H : Hp} {a : Addr} (h : SqT K H a []) : StsAt K CS H a [] := ⟨[], h, .nil⟩
theorem empty_past {K : PySem.W.Frag} {CS : Addr} {H : Hp} {a : Addr} (h : SqT K H a []) : PastAt K CS H a [] := ⟨[], h, .nil⟩
section
variable {P : Program} {w : World} {K : PySem.W.Frag} {mg : Str → Option Value} {base : Heap} {C_Board C_Station f : Addr} {fd : FuncData}
/-- three fields are set anew: begun, two empty tuples -/
theorem ok_Board_init (F : Fun K "__init__" "Board.__init__" s_Board__init_ f fd) (b : Binds K fd p_Board__init_ []) (m : mg "Board" = some (.ref C_Board)) (M : Mk K C_Board f) (T : TxB K C_Board) :
    KeptC P w K mg base 1 "Board" C_Board p_Board__init_ (spBoard K C_Board C_Station) := ⟨f, fd, m, M, b, (by
  refine F.ok sc_Board__init_ (fun vs H Q E h => ?_) (fun cdv A outer s H vs Q E hr h => ?_)
  · obtain ⟨a, dx, rfl, _⟩ := h
    rfl
  · obtain ⟨a, dx, rfl, ha, k⟩ := h
    refine ⟨_, (pss_cons (ps_fld (pv 0) pe_bl rfl)
      (pss_cons (ps_fld (pv 0) (pe_tup pa_nil) rfl)
      (pss_one (ps_fld (pv 0) (pe_tup pa_nil) rfl)))), ?_⟩
    refine ⟨_, rfl, a, C_Board, dx, [], rfl, ha, T.k, T.b, (by show 0 < 1000; decide), ?_⟩
    refine ⟨Nat.zero_le _, fun sa hsa => ?_⟩
    have na : a ≠ sa := ne_of_none upd_same hsa
    refine ⟨_, rfl, a, C_Board, dx, _, rfl, Eq.trans (upd_ne na) upd_same, T.k, T.s, (by show 1 < 1000; decide), ?_⟩
    refine ⟨Nat.zero_le _, fun pa hpa => ?_⟩
    have nb : a ≠ pa := ne_of_none upd_same hpa
    refine ⟨_, rfl, a, C_Board, dx, _, rfl, Eq.trans (upd_ne nb) upd_same, T.k, T.p, (by show 2 < 1000; decide), ?_⟩
    refine k _ ⟨⟨dx, sa, pa, Eq.trans upd_same (congrArg (fun z => some (HO.ins C_Board dx z)) (bF_new false sa pa)), empty_sts (SqT.of ?_), empty_past (SqT.of ?_)⟩, WfB.empty _⟩ (fun x o e hx => ?_)
    · have n2 : sa ≠ pa := ne_of_none (by rw [upd_ne na.symm]; exact upd_same) hpa
      rw [upd_ne na.symm, upd_ne n2, upd_ne na.symm, upd_same]
    · rw [upd_ne nb.symm, upd_same]
    · have e0 : (upd H a (HO.ins C_Board dx (putF "begun" (.bl false) []))) x = some o := by rw [upd_ne hx]; exact e
      have n1 : x ≠ sa := ne_of_none e0 hsa
      have e1 : (upd (upd (upd H a (HO.ins C_Board dx (putF "begun" (.bl false) []))) sa (.tup [])) a (HO.ins C_Board dx (putF "stations" (.ref sa) (putF "begun" (.bl false) [])))) x = some o := by rw [upd_ne hx, upd_ne n1]; exact e0
      have n2 : x ≠ pa := ne_of_none e1 hpa
      rw [upd_ne hx, upd_ne n2]
      exact e1)⟩
theorem ok_Board_begin (F : Fun K "begin" "Board.begin" s_Board_begin f fd) (b : Binds K fd p_Board_begin []) (m : Meth K C_Board "begin" f) (T : TxB K C_Board) :
    KeptM P w K mg base 1 C_Board "begin" p_Board_begin (spBegin K C_Board C_Station) := ⟨f, fd, m, b, (by
  refine F.ok sc_Board_begin (fun vs H Q E h => ?_) (fun cdv A outer s H vs Q E hr h => ?_)
  · obtain ⟨a, B, rfl, _⟩ := h
    rfl
  · obtain ⟨a, B, rfl, ⟨⟨dx, s0, p0, ha, _, _⟩, wf⟩, k⟩ := h
    refine ⟨_, (pss_cons (ps_fld (pv 0) pe_bl rfl)
      (pss_cons (ps_fld (pv 0) (pe_tup pa_nil) rfl)
      (pss_one (ps_fld (pv 0) (pe_tup pa_nil) rfl)))), ?_⟩
    refine ⟨_, rfl, a, C_Board, dx, _, rfl, ha, T.k, T.b, (by show 3 < 1000; decide), ?_⟩
    rw [bF_put_begun]
    refine ⟨Nat.zero_le _, fun sa hsa => ?_⟩
    have na : a ≠ sa := ne_of_none upd_same hsa
    refine ⟨_, rfl, a, C_Board, dx, _, rfl, Eq.trans (upd_ne na) upd_same, T.k, T.s, (by show 3 < 1000; decide), ?_⟩
    rw [bF_put_stations]
    refine ⟨Nat.zero_le _, fun pa hpa => ?_⟩
    have nb : a ≠ pa := ne_of_none upd_same hpa
    refine ⟨_, rfl, a, C_Board, dx, _, rfl, Eq.trans (upd_ne nb) upd_same, T.k, T.p, (by show 3 < 1000; decide), ?_⟩
    rw [bF_put_past]
    refine k _ ⟨⟨dx, sa, pa, upd_same, empty_sts (SqT.of ?_), empty_past (SqT.of ?_)⟩, WfB.empty _⟩ (fun x o e hx => ?_)
    · have n2 : sa ≠ pa := ne_of_none (by rw [upd_ne na.symm]; exact upd_same) hpa
      rw [upd_ne na.symm, upd_ne n2, upd_ne na.symm, upd_same]
    · rw [upd_ne nb.symm, upd_same]
    · have e0 : (upd H a (HO.ins C_Board dx (bF true s0 p0))) x = some o := by rw [upd_ne hx]; exact e
      have n1 : x ≠ sa := ne_of_none e0 hsa
      have e1 : (upd (upd (upd H a (HO.ins C_Board dx (bF true s0 p0))) sa (.tup [])) a (HO.ins C_Board dx (bF true sa p0))) x = some o := by rw [upd_ne hx, upd_ne n1]; exact e0
      have n2 : x ≠ pa := ne_of_none e1 hpa
      rw [upd_ne hx, upd_ne n2]
      exact e1)⟩
/-- the last ten -/
theorem last_ten {as : List Addr} {sa : Addr} : cutV (as.map V.ref ++ [V.ref sa]) (some (-10)) none = ((as ++ [sa]).drop ((as ++ [sa]).length - 10)).map V.ref := by
  have e : as.map V.ref ++ [V.ref sa] = (as ++ [sa]).map V.ref := by rw [List.map_append]; rfl
  rw [e]
  unfold cutV
  rw [List.length_map]
  have q : HT.sIx (as ++ [sa]).length 0 (some (-10)) = (as ++ [sa]).length - 10 := by
    show (if (-10 : Int) < 0 then ((-10 : Int) + ((as ++ [sa]).length : Int)).toNat else min (-10 : Int).toNat (as ++ [sa]).length) = _
    rw [if_pos (by decide)]
    omega
  rw [q, HT.sIx_none, List.map_drop]
  refine List.take_of_length_le ?_
  rw [List.length_drop, List.length_map]
  exact Nat.le_refl _
theorem ok_Board_change_to (F : Fun K "change_to" "Board.change_to" s_Board_change_to f fd) (b : Binds K fd p_Board_change_to []) (m : Meth K C_Board "change_to" f) (T : Txt K mg C_Board C_Station) :
    KeptM P w K mg base 1 C_Board "change_to" p_Board_change_to (spChangeTo K C_Board C_Station) := ⟨f, fd, m, b, (by
  refine F.ok sc_Board_change_to (fun vs H Q E h => ?_) (fun cdv A outer s H vs Q E hr h => ?_)
  · obtain ⟨a, sb, B, l, rfl, _⟩ := h
    rfl
  · obtain ⟨a, sb, B, l, rfl, hB, hsb, wl, ll, k⟩ := h
    obtain ⟨⟨dx, sa, pa, ha, hsa, hpa⟩, wf⟩ := id hB
    obtain ⟨kB, aB, aS, aP⟩ := T.brd
    obtain ⟨as, h1, h2⟩ := hpa.ex
    have hl : as.length ≤ 10 := by rw [h2.len, List.length_reverse]; exact wf.ten
    refine ⟨_, (pss_cons (ps_set (i := 2) sc_Board_change_to.nd rfl (Or.inl rfl) (pe_op op_catA (pe_fld (pv 0) rfl) (pe_tup (pa_cons (pe_fld (pv 0) rfl) pa_nil))))
      (pss_cons (ps_fld (pv 0) (pe_slice sl_tupA (pv 2) (po_some (pe_un un_neg (pe_const T.c_MOST_CHANGES))) po_none) rfl)
      (pss_one (ps_fld (pv 0) (pv 1) rfl)))), ?_⟩
    walk_at "sig"
    refine ⟨(by show 1 ≤ sizeLine; decide), fun q hq => ?_⟩
    have e1 := same_upd (o := HO.tup [.ref sa]) hq
    refine cat_ok (same_tup e1 h1) (SqT.of upd_same) ?_ (fun H2 p2 e2 g2 => ?_)
    · show (as.map V.ref).length + 1 ≤ sizeLine
      rw [List.length_map]
      exact Nat.le_trans (Nat.add_le_add_right hl 1) (by decide)
    · have e12 := e1.trans e2
      walk_at "sig"
      dsimp only [tNoPart]
      refine sl_ok g2 (fun H3 p3 e3 g3 => ?_)
      have e13 := e12.trans e3
      have g3 : SqT K H3 p3 (cutV (as.map V.ref ++ [V.ref sa]) (some (-10)) none) := g3
      rw [last_ten] at g3
      have ha3 := e13 _ _ ha
      refine ⟨_, rfl, a, C_Board, dx, _, rfl, ha3, kB, aP, (by show 3 < 1000; decide), ?_⟩
      rw [bF_put_past]
      refine ⟨_, rfl, _, rfl, a, C_Board, dx, _, rfl, upd_same, kB, aS, (by show 3 < 1000; decide), ?_⟩
      rw [bF_put_stations]
      have kp : Keeps a H3 (upd (upd H3 a (.ins C_Board dx (bF B.begun sa p3))) a (.ins C_Board dx (bF B.begun sb p3))) := keeps_upd.trans keeps_upd
      refine k _ ⟨⟨dx, sb, p3, upd_same, (hsb.to e13).keep kp ha3, ⟨_, keep_tup g3 kp ha3, ?_⟩⟩, wf.to_ wl ll⟩ ((Same.keeps e13).trans kp)
      have t1 : Two (StsAt K C_Station H3) (as ++ [sa]) (B.past.reverse ++ [B.now]) := (h2.mono fun _ _ r => r.to e13).app (.one (hsa.to e13))
      have t2 := (t1.drop ((as ++ [sa]).length - 10)).mono fun _ _ r => r.keep kp ha3
      have e4 : ((B.now :: B.past).take 10).reverse = (B.past.reverse ++ [B.now]).drop ((as ++ [sa]).length - 10) := by
        rw [t1.len, List.reverse_take, List.reverse_cons, List.length_append, List.length_reverse, List.length_cons]
        rfl
      show Two _ _ ((B.now :: B.past).take 10).reverse
      rw [e4]
      exact t2)⟩
/-- the last one of what can be taken back, and the others -/
theorem rev_last {as : List Addr} {l : List Stn} {r : List (List Stn)} {R : Addr → List Stn → Prop} (h : Two R as (l :: r).reverse) : ∃ (bs : List Addr) (b : Addr), as = bs ++ [b] ∧ R b l ∧ Two R bs r.reverse := by
  rw [List.reverse_cons] at h
  have hl : as.length = r.reverse.length + 1 := by
    rw [h.len, List.length_append]
    rfl
  have hne : as ≠ [] := fun z => by
    rw [z] at hl
    cases hl
  have e := List.dropLast_concat_getLast hne
  have h1 := h.take r.reverse.length
  have h2 := h.drop r.reverse.length
  rw [List.take_left] at h1
  rw [List.drop_left] at h2
  have ed : as.dropLast = as.take r.reverse.length := by
    rw [List.dropLast_eq_take, hl]
    rfl
  rw [← ed] at h1
  have eL : as.drop r.reverse.length = [as.getLast hne] := by
    have q : r.reverse.length = as.length - 1 := by omega
    rw [q]
    exact drop_but hne
  rw [eL] at h2
  cases h2 with
  | cons r1 _ => exact ⟨_, _, e.symm, r1, h1⟩
theorem cut_but_last {bs : List Addr} {b : Addr} : cutV ((bs ++ [b]).map V.ref) none (some (-1)) = bs.map V.ref := by
  unfold cutV
  rw [List.length_map]
  have q : HT.sIx (bs ++ [b]).length (bs ++ [b]).length (some (-1)) = bs.length := by
    show (if (-1 : Int) < 0 then ((-1 : Int) + ((bs ++ [b]).length : Int)).toNat else min (-1 : Int).toNat (bs ++ [b]).length) = _
    rw [if_pos (by decide), List.length_append, List.length_singleton]
    omega
  rw [q, HT.sIx_none, List.drop_zero, Nat.sub_zero, ← List.map_take, List.take_left]
theorem at_last {bs : List Addr} {b : Addr} : atI ((bs ++ [b]).map V.ref) (-1) = some (.ref b) := by
  rw [List.map_append]
  exact atI_last _ _
theorem ok_Board_take_back (F : Fun K "take_back" "Board.take_back" s_Board_take_back f fd) (b : Binds K fd p_Board_take_back []) (m : Meth K C_Board "take_back" f) (T : Txt K mg C_Board C_Station) :
    KeptM P w K mg base 1 C_Board "take_back" p_Board_take_back (spTakeBack K C_Board C_Station) := ⟨f, fd, m, b, (by
  refine F.ok sc_Board_take_back (fun vs H Q E h => ?_) (fun cdv A outer s H vs Q E hr h => ?_)
  · obtain ⟨a, B, l, r, rfl, _⟩ := h
    rfl
  · obtain ⟨a, B, l, r, rfl, hB, hp, k⟩ := h
    obtain ⟨⟨dx, sa, pa, ha, hsa, hpa⟩, wf⟩ := id hB
    obtain ⟨kB, aB, aS, aP⟩ := T.brd
    obtain ⟨as, h1, h2⟩ := hpa.ex
    rw [hp] at h2
    obtain ⟨bs, bl, rfl, hl, hbs⟩ := rev_last h2
    refine ⟨_, (pss_cons (ps_fld (pv 0) (pe_ix ix_tup (pe_fld (pv 0) rfl) (pe_un un_neg pe_int) (fun _ _ => rfl)) rfl)
      (pss_one (ps_fld (pv 0) (pe_slice sl_tupA (pe_fld (pv 0) rfl) po_none (po_some (pe_un un_neg pe_int))) rfl))), ?_⟩
    walk_at "sig"
    refine ⟨_, _, _, _, rfl, rfl, h1, at_last, ?_⟩
    refine ⟨_, rfl, a, C_Board, dx, _, rfl, ha, kB, aS, (by show 3 < 1000; decide), ?_⟩
    rw [bF_put_stations]
    have k1 : Keeps a H (upd H a (.ins C_Board dx (bF B.begun bl pa))) := keeps_upd
    have ha1 : (upd H a (.ins C_Board dx (bF B.begun bl pa))) a = some (.ins C_Board dx (bF B.begun bl pa)) := upd_same
    have h11 := keep_tup h1 k1 ha
    walk_at "sig"
    dsimp only [tNoPart]
    walk_at "sig"
    refine sl_ok h11 (fun H3 p3 e3 g3 => ?_)
    have g3 : SqT K H3 p3 (cutV ((bs ++ [bl]).map V.ref) none (some (-1))) := g3
    rw [cut_but_last] at g3
    have ha3 := e3 _ _ ha1
    refine ⟨_, rfl, a, C_Board, dx, _, rfl, ha3, kB, aP, (by show 3 < 1000; decide), ?_⟩
    rw [bF_put_past]
    have k3 : Keeps a H3 (upd H3 a (.ins C_Board dx (bF B.begun bl p3))) := keeps_upd
    have kA := (k1.trans (Same.keeps e3)).trans k3
    have wl := wf.past l (by rw [hp]; exact .head _)
    refine k _ ⟨⟨dx, bl, p3, upd_same, hl.keep kA ha, ⟨bs, keep_tup g3 k3 ha3, hbs.mono fun _ _ r => r.keep kA ha⟩⟩, ⟨wl.1, wl.2, fun m hm => wf.past m (by rw [hp]; exact .tail _ hm), ?_⟩⟩ kA
    have := wf.ten
    rw [hp, List.length_cons] at this
    show r.length ≤ 10
    omega)⟩
theorem ok_is_station (D : Df K mg "is_station" s_is_station p_is_station f fd) (T : Txt K mg C_Board C_Station) : Kept P w K mg base 1 "is_station" p_is_station (spIsStation K C_Board C_Station) := D.kept (by
  refine D.F.ok sc_is_station (fun vs H Q E h => ?_) (fun cdv A outer s H vs Q E hr h => ?_)
  · obtain ⟨a, B, i, rfl, _⟩ := h
    rfl
  · obtain ⟨a, B, i, rfl, hB, k⟩ := h
    obtain ⟨⟨dx, sa, pa, ha, hsa, hpa⟩, wf⟩ := id hB
    obtain ⟨kB, aB, aS, aP⟩ := T.brd
    obtain ⟨xs, hx, hl⟩ := hsa.len
    refine ⟨_, (pss_one (ps_ret (pe_cmpR op_lt (pv 1) (pe_callB call_len_seq (by rfl) T.z_len PySem.boot_len (pa_cons (pe_fld (pv 0) rfl) pa_nil)) (nomark _)))), ?_⟩
    walk_at "sig"
    refine ⟨_, _, rfl, .inr hx, _, _, rfl, rfl, ?_⟩
    rw [hl]
    have e : decide ((i : Int) < (B.now.length : Int)) = decide (i < B.now.length) := decide_eq_decide.mpr (by omega)
    show Q (.bl (decide ((i : Int) < (B.now.length : Int)))) H
    rw [e]
    exact k)
theorem ok_is_spot (D : Df K mg "is_spot" s_is_spot p_is_spot f fd) : Kept P w K mg base 1 "is_spot" p_is_spot spIsSpot := D.kept (by
  refine D.F.ok sc_is_spot (fun vs H Q E h => ?_) (fun cdv A outer s H vs Q E hr h => ?_)
  · obtain ⟨t, x, rfl, _⟩ := h
    rfl
  · obtain ⟨t, x, rfl, k⟩ := h
    refine ⟨_, (pss_one (ps_ret (pe_and (pe_chain op_le op_le (pe_un un_neg pe_int) (pv 0) pe_int) (pe_one (pe_chain op_le op_le (pe_un un_neg pe_int) (pv 1) pe_int))))), ?_⟩
    unfold Kv414.ok at k
    walk_at "sig"
    refine if_cases (fun c1 => ?_) (fun c1 => ?_)
    · rw [c1, Bool.true_and] at k
      walk_at "sig"
      refine if_cases (fun c2 => ?_) (fun c2 => ?_)
      · rw [c2, Bool.true_and] at k
        walk_at "sig"
        refine if_cases (fun c3 => ?_) (fun c3 => ?_)
        · rw [c3, Bool.true_and] at k
          walk_at "sig"
          exact k
        · rw [c3, Bool.false_and] at k
          exact k
      · rw [c2, Bool.false_and] at k
        exact k
    · rw [c1, Bool.false_and, Bool.false_and] at k
      exact ⟨_, rfl, iteF k⟩)
theorem okF_is (p q : Nat) : Kv414.okF p q = ((decide ((1 : Int) ≤ (p : Int)) && decide ((p : Int) ≤ 9)) && (decide ((1 : Int) ≤ (q : Int)) && decide ((q : Int) ≤ 9))) := by
  have e1 : decide ((1 : Int) ≤ (p : Int)) = decide (1 ≤ p) := decide_eq_decide.mpr (by omega)
  have e2 : decide ((p : Int) ≤ 9) = decide (p ≤ 9) := decide_eq_decide.mpr (by omega)
  have e3 : decide ((1 : Int) ≤ (q : Int)) = decide (1 ≤ q) := decide_eq_decide.mpr (by omega)
  have e4 : decide ((q : Int) ≤ 9) = decide (q ≤ 9) := decide_eq_decide.mpr (by omega)
  rw [e1, e2, e3, e4]
  unfold Kv414.okF
  rw [Bool.and_assoc (decide (1 ≤ p) && decide (p ≤ 9))]
theorem okT_is (n : Int) (d : Nat) : Kv415.okT n d = ((decide (-999 ≤ n) && decide (n ≤ 999)) && (decide ((1 : Int) ≤ (d : Int)) && decide ((d : Int) ≤ 99))) := by
  have e3 : decide ((1 : Int) ≤ (d : Int)) = decide (1 ≤ d) := decide_eq_decide.mpr (by omega)
  have e4 : decide ((d : Int) ≤ 99) = decide (d ≤ 99) := decide_eq_decide.mpr (by omega)
  rw [e3, e4]
  unfold Kv415.okT
  rw [Bool.and_assoc (decide (-999 ≤ n) && decide (n ≤ 999))]
theorem ok_is_factor (D : Df K mg "is_factor" s_is_factor p_is_factor f fd) : Kept P w K mg base 1 "is_factor" p_is_factor spIsFactor := D.kept (by
  refine D.F.ok sc_is_factor (fun vs H Q E h => ?_) (fun cdv A outer s H vs Q E hr h => ?_)
  · obtain ⟨t, x, rfl, _⟩ := h
    rfl
  · obtain ⟨t, x, rfl, k⟩ := h
    refine ⟨_, (pss_one (ps_ret (pe_and (pe_chain op_le op_le pe_int (pv 0) pe_int) (pe_one (pe_chain op_le op_le pe_int (pv 1) pe_int))))), ?_⟩
    rw [okF_is] at k
    walk_at "sig"
    refine if_cases (fun c1 => ?_) (fun c1 => ?_)
    · rw [c1, Bool.true_and] at k
      walk_at "sig"
      refine if_cases (fun c2 => ?_) (fun c2 => ?_)
      · rw [c2, Bool.true_and] at k
        walk_at "sig"
        refine if_cases (fun c3 => ?_) (fun c3 => ?_)
        · rw [c3, Bool.true_and] at k
          walk_at "sig"
          exact k
        · rw [c3, Bool.false_and] at k
          exact k
      · rw [c2, Bool.false_and] at k
        exact k
    · rw [c1, Bool.false_and, Bool.false_and] at k
      exact ⟨_, rfl, iteF k⟩)
theorem ok_is_clock (D : Df K mg "is_clock" s_is_clock p_is_clock f fd) : Kept P w K mg base 1 "is_clock" p_is_clock spIsClock := D.kept (by
  refine D.F.ok sc_is_clock (fun vs H Q E h => ?_) (fun cdv A outer s H vs Q E hr h => ?_)
  · obtain ⟨t, x, rfl, _⟩ := h
    rfl
  · obtain ⟨t, x, rfl, k⟩ := h
    refine ⟨_, (pss_one (ps_ret (pe_and (pe_chain op_le op_le (pe_un un_neg pe_int) (pv 0) pe_int) (pe_one (pe_chain op_le op_le pe_int (pv 1) pe_int))))), ?_⟩
    rw [okT_is] at k
    walk_at "sig"
    refine if_cases (fun c1 => ?_) (fun c1 => ?_)
    · rw [c1, Bool.true_and] at k
      walk_at "sig"
      refine if_cases (fun c2 => ?_) (fun c2 => ?_)
      · rw [c2, Bool.true_and] at k
        walk_at "sig"
        refine if_cases (fun c3 => ?_) (fun c3 => ?_)
        · rw [c3, Bool.true_and] at k
          walk_at "sig"
          exact k
        · rw [c3, Bool.false_and] at k
          exact k
      · rw [c2, Bool.false_and] at k
        exact k
    · rw [c1, Bool.false_and, Bool.false_and] at k
      exact ⟨_, rfl, iteF k⟩)
theorem ok_clock_refusal (D : Df K mg "clock_refusal" s_clock_refusal p_clock_refusal f fd) (T : Txt K mg C_Board C_Station) (C_is_station : Kept P w K mg base 1 "is_station" p_is_station (spIsStation K C_Board C_Station))
    (C_is_clock : Kept P w K mg base 1 "is_clock" p_is_clock spIsClock) : Kept P w K mg base 2 "clock_refusal" p_clock_refusal (spClockRef K C_Board C_Station) := D.kept (by
  refine D.F.ok sc_clock_refusal (fun vs H Q E h => ?_) (fun cdv A outer s H vs Q E hr h => ?_)
  · obtain ⟨a, B, i, n, d, rfl, _⟩ := h
    rfl
  · obtain ⟨a, B, i, n, d, rfl, hB, k⟩ := h
    refine ⟨_, (pss_cons (ps_if (pt_not (pt_val (pe_callQ C_is_station (hr.mono (by decide)) rfl (pa_cons (pv 0) (pa_cons (pv 1) pa_nil)))))
      (pss_one (ps_ret (pe_const T.c_NO_STATION)))
      pss_nil)
      (pss_cons (ps_if (pt_not (pt_val (pe_callQ C_is_clock (hr.mono (by decide)) rfl (pa_cons (pv 2) (pa_cons (pv 3) pa_nil)))))
      (pss_one (ps_ret (pe_const T.c_OUT_OF_RANGE)))
      pss_nil)
      (pss_one (ps_ret (pe_const T.c_NONE_DUE))))), ?_⟩
    unfold clockRef at k
    walk_at "sig"
    refine ⟨a, B, i, rfl, hB, _, rfl, ?_⟩
    refine if_cases (fun c => ?_) (fun c => ?_)
    · rw [if_neg (of_decide_eq_false (by simpa using c))] at k
      exact k
    · rw [if_pos (of_decide_eq_true (by simpa using c))] at k
      walk_at "sig"
      refine ⟨n, d, rfl, _, rfl, ?_⟩
      refine if_cases (fun c => ?_) (fun c => ?_)
      · rw [if_neg (by simpa using c)] at k
        exact k
      · rw [if_pos (by simpa using c)] at k
        exact k)
theorem ok_spot_refusal (D : Df K mg "spot_refusal" s_spot_refusal p_spot_refusal f fd) (T : Txt K mg C_Board C_Station) (C_is_station : Kept P w K mg base 1 "is_station" p_is_station (spIsStation K C_Board C_Station))
    (C_is_spot : Kept P w K mg base 1 "is_spot" p_is_spot spIsSpot) : Kept P w K mg base 2 "spot_refusal" p_spot_refusal (spSpotRef K C_Board C_Station) := D.kept (by
  refine D.F.ok sc_spot_refusal (fun vs H Q E h => ?_) (fun cdv A outer s H vs Q E hr h => ?_)
  · obtain ⟨a, B, i, n, d, rfl, _⟩ := h
    rfl
  · obtain ⟨a, B, i, t, x, rfl, hB, k⟩ := h
    refine ⟨_, (pss_cons (ps_if (pt_not (pt_val (pe_callQ C_is_station (hr.mono (by decide)) rfl (pa_cons (pv 0) (pa_cons (pv 1) pa_nil)))))
      (pss_one (ps_ret (pe_const T.c_NO_STATION)))
      pss_nil)
      (pss_cons (ps_if (pt_not (pt_val (pe_callQ C_is_spot (hr.mono (by decide)) rfl (pa_cons (pv 2) (pa_cons (pv 3) pa_nil)))))
      (pss_one (ps_ret (pe_const T.c_OUT_OF_RANGE)))
      pss_nil)
      (pss_one (ps_ret (pe_const T.c_NONE_DUE))))), ?_⟩
    unfold spotRef at k
    walk_at "sig"
    refine ⟨a, B, i, rfl, hB, _, rfl, ?_⟩
    refine if_cases (fun c => ?_) (fun c => ?_)
    · rw [if_neg (of_decide_eq_false (by simpa using c))] at k
      exact k
    · rw [if_pos (of_decide_eq_true (by simpa using c))] at k
      walk_at "sig"
      refine ⟨t, x, rfl, _, rfl, ?_⟩
      refine if_cases (fun c => ?_) (fun c => ?_)
      · rw [not_t c, if_neg Bool.false_ne_true] at k
        exact k
      · rw [not_f c, if_pos rfl] at k
        exact k)
theorem nats_len (l : List Nat) : ((ofNats l).map V.int).length = l.length := by
  unfold ofNats
  rw [List.length_map, List.length_map]
theorem nats_at {l : List Nat} {i : Nat} {x : V} (h : ((ofNats l).map V.int)[i]? = some x) : ∃ j : Nat, l[i]? = some j ∧ x = .int (j : Int) := by
  unfold ofNats at h
  rw [List.map_map, List.getElem?_map] at h
  cases e : l[i]? with
  | none =>
    rw [e] at h
    cases h
  | some j =>
    rw [e] at h
    exact ⟨j, rfl, (Option.some.inj h).symm⟩
theorem any_more {l : List Nat} {g : Nat → Bool} {i j : Nat} (h : l[i]? = some j) (h1 : (l.take i).any g = false) (h2 : g j = false) : (l.take (i + 1)).any g = false := by
  rw [List.take_add_one, h, List.any_append, h1]
  show (false || (g j || false)) = false
  rw [h2]
  rfl
theorem any_here {l : List Nat} {g : Nat → Bool} {i j : Nat} (h : l[i]? = some j) (h2 : g j = true) : l.any g = true := List.any_eq_true.mpr ⟨j, List.mem_of_getElem? h, h2⟩
theorem ok_row_refusal (D : Df K mg "row_refusal" s_row_refusal p_row_refusal f fd) (T : Txt K mg C_Board C_Station) (C_is_station : Kept P w K mg base 1 "is_station" p_is_station (spIsStation K C_Board C_Station))
    (C_is_clock : Kept P w K mg base 1 "is_clock" p_is_clock spIsClock) : Kept P w K mg base 2 "row_refusal" p_row_refusal (spRowRef K C_Board C_Station) := D.kept (by
  refine D.F.ok sc_row_refusal (fun vs H Q E h => ?_) (fun cdv A outer s H vs Q E hr h => ?_)
  · obtain ⟨a, b, B, l, n, d, rfl, _⟩ := h
    rfl
  · obtain ⟨a, b, B, l, n, d, rfl, hB, hb, k⟩ := h
    refine ⟨_, (pss_cons (ps_for PassesOwn.never rfl (pi_list (pv 1)) (pg_name (i := 4) sc_row_refusal.nd rfl (Or.inl rfl))
      (pss_one (ps_if (pt_not (pt_val (pe_callQ C_is_station (hr.mono (by decide)) rfl (pa_cons (pv 0) (pa_cons (pv 4) pa_nil)))))
      (pss_one (ps_ret (pe_const T.c_NO_STATION)))
      pss_nil)))
      (pss_cons (ps_if (PW.pt (pw_or (pt_cmpR op_lt (pe_callB call_len_seq (by rfl) T.z_len PySem.boot_len (pa_cons (pv 1) pa_nil)) (pe_const T.c_LEAST_ROW) (nomark _)) (pw_or (pt_cmpR op_gt (pe_callB call_len_seq (by rfl) T.z_len PySem.boot_len (pa_cons (pv 1) pa_nil)) (pe_const T.c_MOST_ROW) (nomark _)) (pw_or1 (pt_not (pt_val (pe_callQ C_is_clock (hr.mono (by decide)) rfl (pa_cons (pv 2) (pa_cons (pv 3) pa_nil)))))))))
      (pss_one (ps_ret (pe_const T.c_OUT_OF_RANGE)))
      pss_nil)
      (pss_one (ps_ret (pe_const T.c_NONE_DUE))))), ?_⟩
    unfold rowRef at k
    refine ⟨_, rfl, b, rfl, ⟨_, hb⟩, ?_⟩
    refine for_list (D := ⟨_, _, fun _ _ => True, fun _ _ => True⟩) (K := K) (a := b) (xs := (ofNats l).map V.int) (fun i σ H' => ∃ h : Option V, σ = [some (.ref a), some (.ref b), some (.int n), some (.int (d : Int)), h] ∧ H' = H ∧ (l.take i).any (fun i => decide (B.now.length ≤ i)) = false) ?_ ?_ ?_ ?_
    · exact ⟨none, rfl, rfl, rfl⟩
    · rintro i σ H' hi ⟨h, rfl, rfl, ht⟩
      exact hb
    · rintro i x σ H' hx ⟨h, rfl, rfl, ht⟩
      obtain ⟨j, hj, rfl⟩ := nats_at hx
      refine ⟨_, rfl, _, rfl, ?_⟩
      refine ⟨a, B, j, rfl, hB, _, rfl, ?_⟩
      refine if_cases (fun c => ?_) (fun c => ?_)
      · have c : ¬ j < B.now.length := of_decide_eq_false (not_t c)
        rw [if_pos (any_here hj (decide_eq_true (by omega)))] at k
        exact k
      · have c : j < B.now.length := of_decide_eq_true (not_f c)
        exact ⟨_, rfl, rfl, any_more hj ht (decide_eq_false (by omega))⟩
    · rintro σ H' ⟨h, rfl, rfl, ht⟩
      rw [nats_len, List.take_length] at ht
      rw [ht, if_neg Bool.false_ne_true] at k
      refine ⟨_, rfl, _, _, rfl, .inl hb, _, _, rfl, rfl, _, rfl, ?_⟩
      rw [nats_len]
      refine if_cases (fun c => ?_) (fun c => ?_)
      · have c : (l.length : Int) < 2 := of_decide_eq_true c
        rw [if_pos (.inl (by omega))] at k
        exact iteT k
      have c1 : ¬ (l.length : Int) < 2 := of_decide_eq_false c
      refine ⟨_, rfl, _, _, rfl, .inl hb, _, _, rfl, rfl, _, rfl, ?_⟩
      rw [nats_len]
      refine if_cases (fun c => ?_) (fun c => ?_)
      · have c : (l.length : Int) > 6 := of_decide_eq_true c
        rw [if_pos (.inr (.inl (by omega)))] at k
        exact iteT k
      have c2 : ¬ (l.length : Int) > 6 := of_decide_eq_false c
      walk_at "sig"
      refine ⟨n, d, rfl, _, rfl, ?_⟩
      refine if_cases (fun c => ?_) (fun c => ?_)
      · rw [if_pos (.inr (.inr (not_t c)))] at k
        exact k
      · rw [if_neg] at k
        · exact k
        · rintro (z | z | z)
          · omega
          · omega
          · rw [not_f c] at z
            cases z)
theorem ok_pair_refusal (D : Df K mg "pair_refusal" s_pair_refusal p_pair_refusal f fd) (T : Txt K mg C_Board C_Station) (C_is_station : Kept P w K mg base 1 "is_station" p_is_station (spIsStation K C_Board C_Station)) :
    Kept P w K mg base 2 "pair_refusal" p_pair_refusal (spPairRef K C_Board C_Station) := D.kept (by
  refine D.F.ok sc_pair_refusal (fun vs H Q E h => ?_) (fun cdv A outer s H vs Q E hr h => ?_)
  · obtain ⟨a, B, i, j, rfl, _⟩ := h
    rfl
  · obtain ⟨a, B, i, j, rfl, hB, k⟩ := h
    refine ⟨_, (pss_cons (ps_if (PW.pt (pw_or (pt_not (pt_val (pe_callQ C_is_station (hr.mono (by decide)) rfl (pa_cons (pv 0) (pa_cons (pv 1) pa_nil))))) (pw_or1 (pt_not (pt_val (pe_callQ C_is_station (hr.mono (by decide)) rfl (pa_cons (pv 0) (pa_cons (pv 2) pa_nil))))))))
      (pss_one (ps_ret (pe_const T.c_NO_STATION)))
      pss_nil)
      (pss_cons (ps_if (pt_cmpR op_eq (pv 1) (pv 2) (nomark _))
      (pss_one (ps_ret (pe_const T.c_OUT_OF_RANGE)))
      pss_nil)
      (pss_one (ps_ret (pe_const T.c_NONE_DUE))))), ?_⟩
    unfold pairRef at k
    walk_at "sig"
    refine ⟨a, B, i, rfl, hB, _, rfl, ?_⟩
    refine if_cases (fun c => ?_) (fun c => ?_)
    · have c := of_decide_eq_false (p := i < B.now.length) (by simpa using c)
      rw [if_neg (fun z => c z.1)] at k
      exact iteT k
    · have ci := of_decide_eq_true (p := i < B.now.length) (by simpa using c)
      walk_at "sig"
      refine ⟨a, B, j, rfl, hB, _, rfl, ?_⟩
      refine if_cases (fun c => ?_) (fun c => ?_)
      · have c := of_decide_eq_false (p := j < B.now.length) (by simpa using c)
        rw [if_neg (fun z => c z.2)] at k
        exact k
      · have cj := of_decide_eq_true (p := j < B.now.length) (by simpa using c)
        rw [if_pos ⟨ci, cj⟩] at k
        refine ⟨_, rfl, _, rfl, rfl, _, rfl, ?_⟩
        refine if_cases (fun c => ?_) (fun c => ?_)
        · have c : V.int (i : Int) = V.int (j : Int) := of_decide_eq_true c
          rw [if_pos (by injection c with c; omega)] at k
          exact k
        · have c : ¬ V.int (i : Int) = V.int (j : Int) := of_decide_eq_false c
          rw [if_neg (fun z => c (by rw [z]))] at k
          exact k)
theorem ok_sending_refusal (D : Df K mg "sending_refusal" s_sending_refusal p_sending_refusal f fd) (T : Txt K mg C_Board C_Station) (C_pair_refusal : Kept P w K mg base 2 "pair_refusal" p_pair_refusal (spPairRef K C_Board C_Station))
    (C_is_clock : Kept P w K mg base 1 "is_clock" p_is_clock spIsClock) : Kept P w K mg base 3 "sending_refusal" p_sending_refusal (spSendRef K C_Board C_Station) := D.kept (by
  refine D.F.ok sc_sending_refusal (fun vs H Q E h => ?_) (fun cdv A outer s H vs Q E hr h => ?_)
  · obtain ⟨a, B, i, j, n, d, rfl, _⟩ := h
    rfl
  · obtain ⟨a, B, i, j, n, d, rfl, hB, k⟩ := h
    refine ⟨_, (pss_cons (ps_set (i := 5) sc_sending_refusal.nd rfl (Or.inl rfl) (pe_callQ C_pair_refusal (hr.mono (by decide)) rfl (pa_cons (pv 0) (pa_cons (pv 1) (pa_cons (pv 2) pa_nil)))))
      (pss_cons (ps_if (PW.pt (pw_and (pt_cmpR op_eq (pv 5) (pe_const T.c_NONE_DUE) (nomark _)) (pw_and1 (pt_not (pt_val (pe_callQ C_is_clock (hr.mono (by decide)) rfl (pa_cons (pv 3) (pa_cons (pv 4) pa_nil))))))))
      (pss_one (ps_ret (pe_const T.c_OUT_OF_RANGE)))
      pss_nil)
      (pss_one (ps_ret (pv 5))))), ?_⟩
    unfold sendRef at k
    walk_at "sig"
    refine ⟨a, B, i, j, rfl, hB, ?_⟩
    unfold pairRef
    by_cases c : i < B.now.length ∧ j < B.now.length
    · rw [if_pos c] at k ⊢
      by_cases c2 : i = j
      · rw [if_pos c2] at k ⊢
        refine ⟨_, rfl, rfl, _, rfl, ?_⟩
        refine iteF (iteF ?_)
        exact ⟨_, rfl, k⟩
      · rw [if_neg c2] at k ⊢
        refine ⟨_, rfl, rfl, _, rfl, ?_⟩
        refine iteT ?_
        walk_at "sig"
        refine ⟨n, d, rfl, _, rfl, ?_⟩
        refine if_cases (fun c => ?_) (fun c => ?_)
        · rw [if_neg (by simpa using c)] at k
          exact k
        · rw [if_pos (by simpa using c)] at k
          exact ⟨_, rfl, k⟩
    · rw [if_neg c] at k ⊢
      refine ⟨_, rfl, rfl, _, rfl, ?_⟩
      refine iteF (iteF ?_)
      exact ⟨_, rfl, k⟩)
end
end Sig
set_option Elab.async false
set_option linter.all false
set_option maxRecDepth 100000
set_option maxHeartbeats 4000000
/-! changes.py -/
namespace Sig
open PySem PySem.Spec PyProof.Rows L2
local macro_rules | `(tactic| walk_at "sig") => `(tactic| repeat (first
  | refine ⟨_, rfl, ?_⟩
  | refine ⟨_, _, rfl, rfl, ?_⟩
  | refine And.intro (show CMulW _ _ by assumption) ?_
  | refine ⟨_, _, _, _, rfl, rfl, (by assumption), rfl, ?_⟩
  | refine ⟨_, _, _, _, _, rfl, (by assumption), (by assumption), (by assumption), (by first | exact sF_time _ | exact sF_place _ | exact sF_p _ | exact sF_q _ | exact bF_begun _ _ _ | exact bF_stations _ _ _ | exact bF_past _ _ _), ?_⟩))
/-! ### the specification's state as a board -/
def Bd.of (A : Kv415.Abs) : Bd := ⟨true, A.now.l, A.past.map fun n => n.l⟩
theorem of_to (A : Kv415.Abs) (l : List Stn) (x : Kv415.Ans) : Bd.of (A.to_ ⟨l⟩ x).1 = (Bd.of A).to_ l := by
  show Bd.mk true l (((A.now :: A.past).take 10).map fun n => n.l) = Bd.mk true l (((Bd.of A).now :: (Bd.of A).past).take 10)
  rw [List.map_take]
  rfl
section
variable (K : PySem.W.Frag) (CB CS : Addr)
/-- a call's end: the board as it is then, a new list of the answer -/
def Does (H : Hp) (Q : VK) (a : Addr) (B : Bd) (r : List Int) : Prop := ∀ H' p, Keeps a H H' → BdAt K CB CS H' a B → H p = none → H' p = some (.lst (r.map V.int)) → Q (.ref p) H'
/-- .. as the specification has it -/
def DoesC (H : Hp) (Q : VK) (a : Addr) (A : Kv415.Abs) (c : Kv415.Call) : Prop := Does K CB CS H Q a (Bd.of (A.does c).1) (Kv415Neutral.row (A.does c).2)
end
section
variable {K : PySem.W.Frag} {CB CS : Addr}
theorem Does.list {H H1 : Hp} {Q : VK} {a : Addr} {B : Bd} {r : List Int} (k : Does K CB CS H Q a B r) (e : Keeps a H H1) (hB : BdAt K CB CS H1 a B) {vs : List V} (hv : vs = r.map V.int) : ∀ p, H1 p = none → Q (.ref p) (upd H1 p (.lst vs)) := fun p hp => by
  subst hv
  have s := same_upd (o := HO.lst (r.map V.int)) hp
  refine k _ p (e.trans (Same.keeps s)) (hB.to s) ?_ upd_same
  cases q : H p with
  | none => rfl
  | some o =>
    obtain ⟨dx, sa, pa, ha, _, _⟩ := hB.ex
    have n : p ≠ a := fun z => by
      rw [z, ha] at hp
      cases hp
    rw [e p o q n] at hp
    cases hp
theorem DoesC.of {H : Hp} {Q : VK} {a : Addr} {A A' : Kv415.Abs} {c : Kv415.Call} {x : Kv415.Ans} (k : DoesC K CB CS H Q a A c) (e : A.does c = (A', x)) : Does K CB CS H Q a (Bd.of A') (Kv415Neutral.row x) := by
  unfold DoesC at k
  rw [e] at k
  exact k
/-- a refusal, or another answer that leaves the board: one new list -/
theorem DoesC.says {H H1 : Hp} {Q : VK} {a : Addr} {A : Kv415.Abs} {c : Kv415.Call} {x : Kv415.Ans} (k : DoesC K CB CS H Q a A c) (e : A.does c = (A, x)) (hB : BdAt K CB CS H a (Bd.of A)) (s : Same H H1) {vs : List V} (hv : vs = (Kv415Neutral.row x).map V.int) (hz : vs.length ≤ sizeLine) :
    vs.length ≤ sizeLine ∧ ∀ p, H1 p = none → Q (.ref p) (upd H1 p (.lst vs)) := ⟨hz, (k.of e).list (Same.keeps s) (hB.to s) hv⟩
end
/-! ### slices -/
theorem cut_lo {as : List Addr} {i : Nat} : cutV (as.map V.ref) none (some (i : Int)) = (as.take i).map V.ref := by
  unfold cutV
  rw [HT.sIx_nat, HT.sIx_none, List.drop_zero, Nat.sub_zero, List.length_map, List.map_take, Nat.min_def]
  split
  · rfl
  · rw [List.take_of_length_le (by rw [List.length_map]; exact Nat.le_refl _), List.take_of_length_le (by rw [List.length_map]; omega)]
theorem cut_hi {as : List Addr} {i : Nat} : cutV (as.map V.ref) (some ((i : Int) + 1)) none = (as.drop (i + 1)).map V.ref := by
  unfold cutV
  rw [show ((i : Int) + 1) = ((i + 1 : Nat) : Int) by omega, HT.sIx_nat, HT.sIx_none, List.length_map]
  rw [List.take_of_length_le (by rw [List.length_drop, List.length_map]; exact Nat.le_refl _), List.map_drop, Nat.min_def]
  split
  · rfl
  · rw [List.drop_of_length_le (by rw [List.length_map]; exact Nat.le_refl _), List.drop_of_length_le (by rw [List.length_map]; omega)]
theorem PastAt.len {K : PySem.W.Frag} {CS : Addr} {H : Hp} {a : Addr} {l : List (List Stn)} (h : PastAt K CS H a l) : ∃ xs : List V, SqT K H a xs ∧ xs.length = l.length := by
  obtain ⟨as, h1, h2⟩ := h.ex
  exact ⟨_, h1, by rw [List.length_map, h2.len, List.length_reverse]⟩
theorem few_as {R : Addr → Stn → Prop} {as : List Addr} {l : List Stn} (h : Two R as l) (hl : l.length ≤ 6) {n : Nat} (hn : n ≤ 20) : as.length + n ≤ sizeLine := by
  rw [h.len]
  exact Nat.le_trans (Nat.add_le_add hl hn) (by decide)
/-! ### promises -/
section
variable (K : PySem.W.Frag) (CB CS : Addr)
def spWithout : Sp := fun vs H Q _ => ∃ (a : Addr) (l : List Stn) (i : Nat), vs = [.ref a, .int (i : Int)] ∧ StsAt K CS H a l ∧ l.length ≤ 6 ∧ ∀ H' p, Same H H' → StsAt K CS H' p (l.eraseIdx i) → Q (.ref p) H'
def spPutIn : Sp := fun vs H Q _ => ∃ (a b : Addr) (l : List Stn) (i : Nat) (s : Stn), vs = [.ref a, .int (i : Int), .ref b] ∧ StsAt K CS H a l ∧ StAt CS H b s ∧ i < l.length ∧ l.length ≤ 6 ∧ ∀ H' p, Same H H' → StsAt K CS H' p (l.set i s) → Q (.ref p) H'
def spB (c : Kv415.Call) : Sp := fun vs H Q _ => ∃ (a : Addr) (A : Kv415.Abs), vs = [.ref a] ∧ BdAt K CB CS H a (Bd.of A) ∧ DoesC K CB CS H Q a A c
def spAdd : Sp := fun vs H Q _ => ∃ (a : Addr) (A : Kv415.Abs) (t x : Int) (p q : Nat), vs = [.ref a, .int t, .int x, .int (p : Int), .int (q : Int)] ∧ BdAt K CB CS H a (Bd.of A) ∧ DoesC K CB CS H Q a A (.station t x p q)
def spDrop : Sp := fun vs H Q _ => ∃ (a : Addr) (A : Kv415.Abs) (i : Nat), vs = [.ref a, .int (i : Int)] ∧ BdAt K CB CS H a (Bd.of A) ∧ DoesC K CB CS H Q a A (.drop i)
def spMove : Sp := fun vs H Q _ => ∃ (a : Addr) (A : Kv415.Abs) (i p q : Nat), vs = [.ref a, .int (i : Int), .int (p : Int), .int (q : Int)] ∧ BdAt K CB CS H a (Bd.of A) ∧ DoesC K CB CS H Q a A (.move i p q)
def spSet : Sp := fun vs H Q _ => ∃ (a : Addr) (A : Kv415.Abs) (i : Nat) (t x : Int), vs = [.ref a, .int (i : Int), .int t, .int x] ∧ BdAt K CB CS H a (Bd.of A) ∧ DoesC K CB CS H Q a A (.set i t x)
end
/-! ### the specification's ways, one by one -/
section
open Kv415
variable {A : Abs} {i j p q d : Nat} {t x n : Int}
theorem no_of (h : ¬ i < A.now.l.length) : A.now.no i = true := decide_eq_true (by omega)
theorem yes_of (h : i < A.now.l.length) : A.now.no i = false := decide_eq_false (by omega)
theorem d_station1 (h : (Kv414.ok t && Kv414.ok x) = false ∨ Kv414.okF p q = false) : A.does (.station t x p q) = (A, say (-22)) := by
  show (if Kv414.ok t = false ∨ Kv414.ok x = false ∨ Kv414.okF p q = false then (A, say (-22)) else _) = _
  rw [if_pos]
  cases e1 : Kv414.ok t <;> cases e2 : Kv414.ok x <;> simp_all
theorem d_station2 (h : (Kv414.ok t && Kv414.ok x) = true) (h2 : Kv414.okF p q = true) (h3 : 6 ≤ A.now.l.length) : A.does (.station t x p q) = (A, say (-28)) := by
  show (if Kv414.ok t = false ∨ Kv414.ok x = false ∨ Kv414.okF p q = false then (A, say (-22)) else if 6 ≤ A.now.l.length then (A, say (-28)) else _) = _
  rw [if_neg, if_pos h3]
  rw [Bool.and_eq_true] at h
  simp [h.1, h.2, h2]
theorem d_station3 (h : (Kv414.ok t && Kv414.ok x) = true) (h2 : Kv414.okF p q = true) (h3 : ¬ 6 ≤ A.now.l.length) : A.does (.station t x p q) = A.to_ ⟨A.now.l ++ [⟨⟨t, x⟩, Kv414.Factor.red ⟨p, q⟩⟩]⟩ (num A.now.l.length) := by
  show (if Kv414.ok t = false ∨ Kv414.ok x = false ∨ Kv414.okF p q = false then (A, say (-22)) else if 6 ≤ A.now.l.length then (A, say (-28)) else _) = _
  rw [if_neg, if_neg h3]
  rw [Bool.and_eq_true] at h
  simp [h.1, h.2, h2]
theorem d_drop1 (h : ¬ i < A.now.l.length) : A.does (.drop i) = (A, say (-2)) := if_pos (no_of h)
theorem d_drop2 (h : i < A.now.l.length) : A.does (.drop i) = A.to_ ⟨A.now.l.eraseIdx i⟩ (num (A.now.l.length - 1)) := if_neg (by rw [yes_of h]; exact Bool.false_ne_true)
theorem d_move1 (h : ¬ i < A.now.l.length) : A.does (.move i p q) = (A, say (-2)) := if_pos (no_of h)
theorem d_move2 (h : i < A.now.l.length) (h2 : Kv414.okF p q = false) : A.does (.move i p q) = (A, say (-22)) := (if_neg (by rw [yes_of h]; exact Bool.false_ne_true)).trans (if_pos h2)
theorem d_move3 (h : i < A.now.l.length) (h2 : Kv414.okF p q = true) : A.does (.move i p q) = A.to_ ⟨A.now.l.set i ⟨(A.now.st i).e, Kv414.Factor.red ⟨p, q⟩⟩⟩ (say 0) := (if_neg (by rw [yes_of h]; exact Bool.false_ne_true)).trans (if_neg (by rw [h2]; exact fun z => Bool.noConfusion z))
theorem d_set1 (h : ¬ i < A.now.l.length) : A.does (.set i t x) = (A, say (-2)) := if_pos (no_of h)
theorem d_set2 (h : i < A.now.l.length) (h2 : (Kv414.ok t && Kv414.ok x) = false) : A.does (.set i t x) = (A, say (-22)) := (if_neg (by rw [yes_of h]; exact Bool.false_ne_true)).trans (if_pos (by
  cases e1 : Kv414.ok t <;> cases e2 : Kv414.ok x <;> simp_all))
theorem d_set3 (h : i < A.now.l.length) (h2 : (Kv414.ok t && Kv414.ok x) = true) : A.does (.set i t x) = A.to_ ⟨A.now.l.set i ⟨⟨t, x⟩, (A.now.st i).k⟩⟩ (say 0) := (if_neg (by rw [yes_of h]; exact Bool.false_ne_true)).trans (if_neg (by
  rw [Bool.and_eq_true] at h2
  simp [h2.1, h2.2]))
theorem d_back0 (h : A.past = []) : A.does .back = (A, say (-6)) := by
  show (match A.past with | [] => (A, say (-6)) | w :: l => (⟨w, l⟩, num l.length)) = _
  rw [h]
theorem d_back1 {w : Now} {r : List Now} (h : A.past = w :: r) : A.does .back = (⟨w, r⟩, num r.length) := by
  show (match A.past with | [] => (A, say (-6)) | w :: l => (⟨w, l⟩, num l.length)) = _
  rw [h]
theorem ok_iff {z : Int} : Kv414.ok z = true ↔ -99 ≤ z ∧ z ≤ 99 := by
  unfold Kv414.ok
  rw [Bool.and_eq_true, decide_eq_true_iff, decide_eq_true_iff]
theorem okF_iff : Kv414.okF p q = true ↔ (1 ≤ p ∧ p ≤ 9) ∧ (1 ≤ q ∧ q ≤ 9) := by
  unfold Kv414.okF
  rw [Bool.and_eq_true, Bool.and_eq_true, Bool.and_eq_true, decide_eq_true_iff, decide_eq_true_iff, decide_eq_true_iff, decide_eq_true_iff, and_assoc]
theorem okT_iff : okT n d = true ↔ (-999 ≤ n ∧ n ≤ 999) ∧ (1 ≤ d ∧ d ≤ 99) := by
  unfold okT
  rw [Bool.and_eq_true, Bool.and_eq_true, Bool.and_eq_true, decide_eq_true_iff, decide_eq_true_iff, decide_eq_true_iff, decide_eq_true_iff, and_assoc]
/-- a factor with nothing in common is as it is -/
theorem red_factor {k : Kv414.Factor} (h : Nat.gcd k.p k.q = 1) : Kv414.Factor.red ⟨k.p, k.q⟩ = k := by
  show (⟨k.p / Nat.gcd k.p k.q, k.q / Nat.gcd k.p k.q⟩ : Kv414.Factor) = k
  rw [h, Nat.div_one, Nat.div_one]
end
section
variable {P : Program} {w : World} {K : PySem.W.Frag} {mg : Str → Option Value} {base : Heap} {C_Board C_Station f : Addr} {fd : FuncData}
theorem ok_without (D : Df K mg "without" s_without p_without f fd) : Kept P w K mg base 1 "without" p_without (spWithout K C_Station) := D.kept (by
  refine D.F.ok sc_without (fun vs H Q E h => ?_) (fun cdv A outer s H vs Q E hr h => ?_)
  · obtain ⟨a, l, i, rfl, _⟩ := h
    rfl
  · obtain ⟨a, l, i, rfl, hs, hl, k⟩ := h
    obtain ⟨as, h1, h2⟩ := hs.ex
    refine ⟨_, (pss_one (ps_ret (pe_op op_catA (pe_slice sl_tupA (pv 0) po_none (po_some (pv 1))) (pe_slice sl_tupA (pv 0) (po_some (pe_op op_add (pv 1) pe_int)) po_none)))), ?_⟩
    walk_at "sig"
    refine sl_ok h1 (fun H1 p1 e1 g1 => ?_)
    rw [cut_lo] at g1
    walk_at "sig"
    dsimp only [tNoPart]
    refine sl_ok (same_tup e1 h1) (fun H2 p2 e2 g2 => ?_)
    rw [cut_hi] at g2
    refine cat_ok (same_tup e2 g1) g2 ?_ (fun H3 p3 e3 g3 => ?_)
    · rw [List.length_map, List.length_map, List.length_take, List.length_drop]
      exact Nat.le_trans (show min i as.length + (as.length - (i + 1)) ≤ as.length + 20 by omega) (few_as h2 hl (Nat.le_refl _))
    · rw [← List.map_append] at g3
      have e := e1.trans (e2.trans e3)
      refine k H3 p3 e ⟨_, g3, ?_⟩
      rw [List.eraseIdx_eq_take_drop_succ]
      exact ((h2.take i).app (h2.drop (i + 1))).mono fun _ _ r => r.to e)
theorem ok_put_in_place (D : Df K mg "put_in_place" s_put_in_place p_put_in_place f fd) : Kept P w K mg base 1 "put_in_place" p_put_in_place (spPutIn K C_Station) := D.kept (by
  refine D.F.ok sc_put_in_place (fun vs H Q E h => ?_) (fun cdv A outer s H vs Q E hr h => ?_)
  · obtain ⟨a, b, l, i, s, rfl, _⟩ := h
    rfl
  · obtain ⟨a, b, l, i, st, rfl, hs, hst, hi, hl, k⟩ := h
    obtain ⟨as, h1, h2⟩ := hs.ex
    refine ⟨_, (pss_one (ps_ret (pe_op op_catA (pe_op op_catA (pe_slice sl_tupA (pv 0) po_none (po_some (pv 1))) (pe_tup (pa_cons (pv 2) pa_nil))) (pe_slice sl_tupA (pv 0) (po_some (pe_op op_add (pv 1) pe_int)) po_none)))), ?_⟩
    walk_at "sig"
    refine sl_ok h1 (fun H1 p1 e1 g1 => ?_)
    rw [cut_lo] at g1
    walk_at "sig"
    refine ⟨(by show 1 ≤ sizeLine; decide), fun q hq => ?_⟩
    have e2 := same_upd (o := HO.tup [.ref b]) hq
    refine cat_ok (same_tup e2 g1) (SqT.of upd_same) ?_ (fun H3 p3 e3 g3 => ?_)
    · show ((as.take i).map V.ref).length + 1 ≤ sizeLine
      rw [List.length_map, List.length_take]
      exact Nat.le_trans (show min i as.length + 1 ≤ as.length + 20 by omega) (few_as h2 hl (Nat.le_refl _))
    · walk_at "sig"
      dsimp only [tNoPart]
      refine sl_ok (same_tup (e1.trans (e2.trans e3)) h1) (fun H4 p4 e4 g4 => ?_)
      rw [cut_hi] at g4
      refine cat_ok (same_tup e4 g3) g4 ?_ (fun H5 p5 e5 g5 => ?_)
      · rw [List.length_append, List.length_map, List.length_map, List.length_take, List.length_drop]
        exact Nat.le_trans (show min i as.length + 1 + (as.length - (i + 1)) ≤ as.length + 20 by omega) (few_as h2 hl (Nat.le_refl _))
      · have g5 : SqT K H5 p5 ((as.take i ++ [b] ++ as.drop (i + 1)).map V.ref) := by
          rw [List.map_append, List.map_append]
          exact g5
        have e := e1.trans (e2.trans (e3.trans (e4.trans e5)))
        refine k H5 p5 e ⟨_, g5, ?_⟩
        rw [List.set_eq_take_append_cons_drop, if_pos hi]
        have t := (((h2.take i).app (Two.one hst)).app (h2.drop (i + 1))).mono (S := StAt C_Station H5) fun _ _ r => r.to e
        rw [List.append_assoc, List.append_assoc] at t
        rw [List.append_assoc]
        exact t)
end
end Sig
set_option Elab.async false
set_option linter.all false
set_option maxRecDepth 100000
set_option maxHeartbeats 4000000
/-! changes.py: the calls -/
namespace Sig
open PySem PySem.Spec PyProof.Rows L2
local macro_rules | `(tactic| walk_at "sig") => `(tactic| repeat (first
  | refine ⟨_, rfl, ?_⟩
  | refine ⟨_, _, rfl, rfl, ?_⟩
  | refine And.intro (show CMulW _ _ by assumption) ?_
  | refine ⟨_, _, _, _, rfl, rfl, (by assumption), rfl, ?_⟩
  | refine ⟨_, _, _, _, _, rfl, (by assumption), (by assumption), (by assumption), (by first | exact sF_time _ | exact sF_place _ | exact sF_p _ | exact sF_q _ | exact bF_begun _ _ _ | exact bF_stations _ _ _ | exact bF_past _ _ _), ?_⟩))
theorem one_fits {v : V} : ([v] : List V).length ≤ sizeLine := by
  show 1 ≤ sizeLine
  decide
theorem eq_int {i j : Int} : decide (V.int i = V.int j) = decide (i = j) := decide_eq_decide.mpr ⟨fun z => by injection z, fun z => by rw [z]⟩
section
variable {P : Program} {w : World} {K : PySem.W.Frag} {mg : Str → Option Value} {base : Heap} {C_Board C_Station f : Addr} {fd : FuncData}
theorem ok_add_station (D : Df K mg "add_station" s_add_station p_add_station f fd) (T : Txt K mg C_Board C_Station) (C_is_spot : Kept P w K mg base 1 "is_spot" p_is_spot spIsSpot) (C_is_factor : Kept P w K mg base 1 "is_factor" p_is_factor spIsFactor)
    (Z_Station : KeptC P w K mg base 3 "Station" C_Station p_Station__init_ (spStation C_Station)) (M_Board_change_to : KeptM P w K mg base 1 C_Board "change_to" p_Board_change_to (spChangeTo K C_Board C_Station)) :
    Kept P w K mg base 5 "add_station" p_add_station (spAdd K C_Board C_Station) := D.kept (by
  refine D.F.ok sc_add_station (fun vs H Q E h => ?_) (fun cdv A0 outer s H vs Q E hr h => ?_)
  · obtain ⟨a, A, t, x, p, q, rfl, _⟩ := h
    rfl
  · obtain ⟨a, A, t, x, p, q, rfl, hB, k⟩ := h
    obtain ⟨⟨dx, sa, pa, ha, hsa, hpa⟩, wf⟩ := id hB
    obtain ⟨kB, aB, aS, aP⟩ := T.brd
    obtain ⟨as, h1, h2⟩ := hsa.ex
    refine ⟨_, (pss_cons (ps_if (PW.pt (pw_or (pt_not (pt_val (pe_callQ C_is_spot (hr.mono (by decide)) rfl (pa_cons (pv 1) (pa_cons (pv 2) pa_nil))))) (pw_or1 (pt_not (pt_val (pe_callQ C_is_factor (hr.mono (by decide)) rfl (pa_cons (pv 3) (pa_cons (pv 4) pa_nil))))))))
      (pss_one (ps_ret (pe_lst (pa_cons (pe_const T.c_OUT_OF_RANGE) pa_nil))))
      pss_nil)
      (pss_cons (ps_set (i := 5) sc_add_station.nd rfl (Or.inl rfl) (pe_callB call_len_seq (by rfl) T.z_len PySem.boot_len (pa_cons (pe_fld (pv 0) rfl) pa_nil)))
      (pss_cons (ps_if (pt_cmpR op_eq (pv 5) (pe_const T.c_MOST_STATIONS) (nomark _))
      (pss_one (ps_ret (pe_lst (pa_cons (pe_const T.c_TOO_MANY) pa_nil))))
      pss_nil)
      (pss_cons (ps_expr (pe_methQ (pv 0) T.k_Board M_Board_change_to (hr.mono (by decide)) (pa_cons (pe_op op_catA (pe_fld (pv 0) rfl) (pe_tup (pa_cons (pe_makeQ Z_Station (hr.mono (by decide)) rfl (pa_cons (pv 1) (pa_cons (pv 2) (pa_cons (pv 3) (pa_cons (pv 4) pa_nil))))) pa_nil))) pa_nil)))
      (pss_one (ps_ret (pe_lst (pa_cons (pv 5) pa_nil)))))))), ?_⟩
    walk_at "sig"
    refine ⟨t, x, rfl, _, rfl, ?_⟩
    refine if_cases (fun c => ?_) (fun c => ?_)
    · exact iteT (k.says (d_station1 (.inl (not_t c))) hB (Same.refl _) rfl one_fits)
    have c1 : (Kv414.ok t && Kv414.ok x) = true := not_f c
    walk_at "sig"
    refine ⟨p, q, rfl, _, rfl, ?_⟩
    refine if_cases (fun c => ?_) (fun c => ?_)
    · exact k.says (d_station1 (.inr (not_t c))) hB (Same.refl _) rfl one_fits
    have c2 : Kv414.okF p q = true := not_f c
    obtain ⟨hp, hq⟩ := okF_iff.mp c2
    have ht := ok_iff.mp ((Bool.and_eq_true _ _).mp c1).1
    have hx := ok_iff.mp ((Bool.and_eq_true _ _).mp c1).2
    walk_at "sig"
    refine ⟨_, _, rfl, .inr h1, ?_⟩
    rw [List.length_map, h2.len]
    refine ⟨_, rfl, rfl, _, rfl, ?_⟩
    rw [eq_int]
    have l6 : A.now.l.length ≤ 6 := wf.few
    refine if_cases (fun c => ?_) (fun c => ?_)
    · have c := of_decide_eq_true c
      exact k.says (d_station2 c1 c2 (by have c : (A.now.l.length : Int) = 6 := c; omega)) hB (Same.refl _) rfl one_fits
    have c3 : ¬ 6 ≤ A.now.l.length := by
      have c : ¬ (A.now.l.length : Int) = 6 := of_decide_eq_false c
      omega
    refine ⟨_, rfl, a, dx, _, rfl, ha, bF_no _ _ _ (by decide +kernel) (by decide +kernel) (by decide +kernel), ?_⟩
    walk_at "sig"
    intro a1 d1 nx nd ne
    refine make_station nx nd hp.1 hq.1 hq.2 (fun H1 e1 g1 => ⟨rfl, ?_⟩)
    refine ⟨one_fits, fun r hr' => ?_⟩
    have e2 := same_upd (o := HO.tup [.ref a1]) hr'
    refine cat_ok (same_tup (e1.trans e2) h1) (SqT.of upd_same) ?_ (fun H3 p3 e3 g3 => ?_)
    · rw [List.length_map]
      exact few_as h2 l6 (by show 1 ≤ 20; decide)
    have e := e1.trans (e2.trans e3)
    have kk := k.of (d_station3 c1 c2 c3)
    have g3 : SqT K H3 p3 ((as ++ [a1]).map V.ref) := by
      rw [List.map_append]
      exact g3
    refine ⟨a, p3, Bd.of A, A.now.l ++ [⟨⟨t, x⟩, Kv414.Factor.red ⟨p, q⟩⟩], rfl, hB.to e, ⟨_, g3, (h2.mono fun _ _ r => r.to e).app (.one (g1.to (e2.trans e3)))⟩, fun s hs => ?_, ?_, fun H4 hB4 kp4 => ?_⟩
    · rcases List.mem_append.mp hs with hs | hs
      · exact wf.now s hs
      · rw [List.mem_singleton.mp hs]
        exact wf_mk ht hx hp hq
    · rw [List.length_append, List.length_singleton]
      omega
    · refine ⟨_, rfl, one_fits, ?_⟩
      rw [← of_to A _ (Kv415.num A.now.l.length)] at hB4
      exact kk.list ((Same.keeps e).trans kp4) hB4 rfl)
theorem ok_drop_station (D : Df K mg "drop_station" s_drop_station p_drop_station f fd) (T : Txt K mg C_Board C_Station) (C_is_station : Kept P w K mg base 1 "is_station" p_is_station (spIsStation K C_Board C_Station))
    (C_without : Kept P w K mg base 1 "without" p_without (spWithout K C_Station)) (M_Board_change_to : KeptM P w K mg base 1 C_Board "change_to" p_Board_change_to (spChangeTo K C_Board C_Station)) :
    Kept P w K mg base 2 "drop_station" p_drop_station (spDrop K C_Board C_Station) := D.kept (by
  refine D.F.ok sc_drop_station (fun vs H Q E h => ?_) (fun cdv A0 outer s H vs Q E hr h => ?_)
  · obtain ⟨a, A, i, rfl, _⟩ := h
    rfl
  · obtain ⟨a, A, i, rfl, hB, k⟩ := h
    obtain ⟨⟨dx, sa, pa, ha, hsa, hpa⟩, wf⟩ := id hB
    obtain ⟨kB, aB, aS, aP⟩ := T.brd
    refine ⟨_, (pss_cons (ps_if (pt_not (pt_val (pe_callQ C_is_station (hr.mono (by decide)) rfl (pa_cons (pv 0) (pa_cons (pv 1) pa_nil)))))
      (pss_one (ps_ret (pe_lst (pa_cons (pe_const T.c_NO_STATION) pa_nil))))
      pss_nil)
      (pss_cons (ps_expr (pe_methQ (pv 0) T.k_Board M_Board_change_to (hr.mono (by decide)) (pa_cons (pe_callQ C_without (hr.mono (by decide)) rfl (pa_cons (pe_fld (pv 0) rfl) (pa_cons (pv 1) pa_nil))) pa_nil)))
      (pss_one (ps_ret (pe_lst (pa_cons (pe_callB call_len_seq (by rfl) T.z_len PySem.boot_len (pa_cons (pe_fld (pv 0) rfl) pa_nil)) pa_nil)))))), ?_⟩
    walk_at "sig"
    refine ⟨a, Bd.of A, i, rfl, hB, _, rfl, ?_⟩
    refine if_cases (fun c => ?_) (fun c => ?_)
    · exact k.says (d_drop1 (of_decide_eq_false (not_t c))) hB (Same.refl _) rfl one_fits
    have ci : i < A.now.l.length := of_decide_eq_true (p := i < (Bd.of A).now.length) (not_f c)
    refine ⟨_, rfl, a, dx, _, rfl, ha, bF_no _ _ _ (by decide +kernel) (by decide +kernel) (by decide +kernel), ?_⟩
    walk_at "sig"
    refine ⟨sa, A.now.l, i, rfl, hsa, wf.few, fun H1 p1 e1 g1 => ?_⟩
    have le : (A.now.l.eraseIdx i).length = A.now.l.length - 1 := by rw [List.length_eraseIdx, if_pos ci]
    refine ⟨a, p1, Bd.of A, _, rfl, hB.to e1, g1, fun s hs => wf.now s (List.mem_of_mem_eraseIdx hs), ?_, fun H4 hB4 kp4 => ?_⟩
    · rw [le]
      exact Nat.le_trans (Nat.sub_le _ _) wf.few
    · obtain ⟨dx4, sa4, pa4, ha4, hsa4, hpa4⟩ := hB4.ex
      obtain ⟨xs, hx, hl⟩ := hsa4.len
      walk_at "sig"
      refine ⟨_, _, rfl, .inr hx, one_fits, ?_⟩
      rw [← of_to A _ (Kv415.num (A.now.l.length - 1))] at hB4
      refine (k.of (d_drop2 ci)).list ((Same.keeps e1).trans kp4) hB4 ?_
      rw [hl]
      show [V.int ((A.now.l.eraseIdx i).length : Int)] = [V.int ((A.now.l.length - 1 : Nat) : Int)]
      rw [le])
theorem ok_move_station (D : Df K mg "move_station" s_move_station p_move_station f fd) (T : Txt K mg C_Board C_Station) (C_is_station : Kept P w K mg base 1 "is_station" p_is_station (spIsStation K C_Board C_Station)) (C_is_factor : Kept P w K mg base 1 "is_factor" p_is_factor spIsFactor)
    (C_put_in_place : Kept P w K mg base 1 "put_in_place" p_put_in_place (spPutIn K C_Station)) (Z_Station : KeptC P w K mg base 3 "Station" C_Station p_Station__init_ (spStation C_Station)) (M_Board_change_to : KeptM P w K mg base 1 C_Board "change_to" p_Board_change_to (spChangeTo K C_Board C_Station)) :
    Kept P w K mg base 5 "move_station" p_move_station (spMove K C_Board C_Station) := D.kept (by
  refine D.F.ok sc_move_station (fun vs H Q E h => ?_) (fun cdv A0 outer s H vs Q E hr h => ?_)
  · obtain ⟨a, A, i, p, q, rfl, _⟩ := h
    rfl
  · obtain ⟨a, A, i, p, q, rfl, hB, k⟩ := h
    obtain ⟨⟨dx, sa, pa, ha, hsa, hpa⟩, wf⟩ := id hB
    obtain ⟨kB, aB, aS, aP⟩ := T.brd
    obtain ⟨kS, sT, sX, sP, sQ⟩ := T.stn
    refine ⟨_, (pss_cons (ps_if (pt_not (pt_val (pe_callQ C_is_station (hr.mono (by decide)) rfl (pa_cons (pv 0) (pa_cons (pv 1) pa_nil)))))
      (pss_one (ps_ret (pe_lst (pa_cons (pe_const T.c_NO_STATION) pa_nil))))
      pss_nil)
      (pss_cons (ps_if (pt_not (pt_val (pe_callQ C_is_factor (hr.mono (by decide)) rfl (pa_cons (pv 2) (pa_cons (pv 3) pa_nil)))))
      (pss_one (ps_ret (pe_lst (pa_cons (pe_const T.c_OUT_OF_RANGE) pa_nil))))
      pss_nil)
      (pss_cons (ps_set (i := 4) sc_move_station.nd rfl (Or.inl rfl) (pe_ix ix_tup (pe_fld (pv 0) rfl) (pv 1) (fun _ _ => rfl)))
      (pss_cons (ps_expr (pe_methQ (pv 0) T.k_Board M_Board_change_to (hr.mono (by decide)) (pa_cons (pe_callQ C_put_in_place (hr.mono (by decide)) rfl (pa_cons (pe_fld (pv 0) rfl) (pa_cons (pv 1) (pa_cons (pe_makeQ Z_Station (hr.mono (by decide)) rfl (pa_cons (pe_fld (pv 4) rfl) (pa_cons (pe_fld (pv 4) rfl) (pa_cons (pv 2) (pa_cons (pv 3) pa_nil))))) pa_nil)))) pa_nil)))
      (pss_one (ps_ret (pe_lst (pa_cons pe_int pa_nil)))))))), ?_⟩
    walk_at "sig"
    refine ⟨a, Bd.of A, i, rfl, hB, _, rfl, ?_⟩
    refine if_cases (fun c => ?_) (fun c => ?_)
    · exact k.says (d_move1 (of_decide_eq_false (not_t c))) hB (Same.refl _) rfl one_fits
    have ci : i < A.now.l.length := of_decide_eq_true (p := i < (Bd.of A).now.length) (not_f c)
    walk_at "sig"
    refine ⟨p, q, rfl, _, rfl, ?_⟩
    refine if_cases (fun c => ?_) (fun c => ?_)
    · exact k.says (d_move2 ci (not_t c)) hB (Same.refl _) rfl one_fits
    have c2 : Kv414.okF p q = true := not_f c
    obtain ⟨hp, hq⟩ := okF_iff.mp c2
    obtain ⟨xs, old, hx, hat, hst⟩ := hsa.get ci
    have wo : Wf (A.now.st i) := wf.get ci
    walk_at "sig"
    refine ⟨_, _, _, _, rfl, rfl, hx, hat, ?_⟩
    refine ⟨_, rfl, a, dx, _, rfl, ha, bF_no _ _ _ (by decide +kernel) (by decide +kernel) (by decide +kernel), ?_⟩
    obtain ⟨dxo, ho⟩ := id hst
    walk_at "sig"
    intro a1 d1 nx nd ne
    refine make_station nx nd hp.1 hq.1 hq.2 (fun H1 e1 g1 => ⟨rfl, ?_⟩)
    refine ⟨sa, a1, A.now.l, i, _, rfl, hsa.to e1, g1, ci, wf.few, fun H2 p2 e2 g2 => ?_⟩
    have e := e1.trans e2
    refine ⟨a, p2, Bd.of A, _, rfl, hB.to e, g2, fun s hs => ?_, ?_, fun H4 hB4 kp4 => ?_⟩
    · rcases List.mem_or_eq_of_mem_set hs with hs | hs
      · exact wf.now s hs
      · rw [hs]
        exact wf_mk wo.t wo.x hp hq
    · rw [List.length_set]
      exact wf.few
    · refine ⟨one_fits, ?_⟩
      rw [← of_to A _ (Kv415.say 0)] at hB4
      exact (k.of (d_move3 ci c2)).list ((Same.keeps e).trans kp4) hB4 rfl)
theorem ok_set_station (D : Df K mg "set_station" s_set_station p_set_station f fd) (T : Txt K mg C_Board C_Station) (C_is_station : Kept P w K mg base 1 "is_station" p_is_station (spIsStation K C_Board C_Station)) (C_is_spot : Kept P w K mg base 1 "is_spot" p_is_spot spIsSpot)
    (C_put_in_place : Kept P w K mg base 1 "put_in_place" p_put_in_place (spPutIn K C_Station)) (Z_Station : KeptC P w K mg base 3 "Station" C_Station p_Station__init_ (spStation C_Station)) (M_Board_change_to : KeptM P w K mg base 1 C_Board "change_to" p_Board_change_to (spChangeTo K C_Board C_Station)) :
    Kept P w K mg base 5 "set_station" p_set_station (spSet K C_Board C_Station) := D.kept (by
  refine D.F.ok sc_set_station (fun vs H Q E h => ?_) (fun cdv A0 outer s H vs Q E hr h => ?_)
  · obtain ⟨a, A, i, t, x, rfl, _⟩ := h
    rfl
  · obtain ⟨a, A, i, t, x, rfl, hB, k⟩ := h
    obtain ⟨⟨dx, sa, pa, ha, hsa, hpa⟩, wf⟩ := id hB
    obtain ⟨kB, aB, aS, aP⟩ := T.brd
    obtain ⟨kS, sT, sX, sP, sQ⟩ := T.stn
    refine ⟨_, (pss_cons (ps_if (pt_not (pt_val (pe_callQ C_is_station (hr.mono (by decide)) rfl (pa_cons (pv 0) (pa_cons (pv 1) pa_nil)))))
      (pss_one (ps_ret (pe_lst (pa_cons (pe_const T.c_NO_STATION) pa_nil))))
      pss_nil)
      (pss_cons (ps_if (pt_not (pt_val (pe_callQ C_is_spot (hr.mono (by decide)) rfl (pa_cons (pv 2) (pa_cons (pv 3) pa_nil)))))
      (pss_one (ps_ret (pe_lst (pa_cons (pe_const T.c_OUT_OF_RANGE) pa_nil))))
      pss_nil)
      (pss_cons (ps_set (i := 4) sc_set_station.nd rfl (Or.inl rfl) (pe_ix ix_tup (pe_fld (pv 0) rfl) (pv 1) (fun _ _ => rfl)))
      (pss_cons (ps_expr (pe_methQ (pv 0) T.k_Board M_Board_change_to (hr.mono (by decide)) (pa_cons (pe_callQ C_put_in_place (hr.mono (by decide)) rfl (pa_cons (pe_fld (pv 0) rfl) (pa_cons (pv 1) (pa_cons (pe_makeQ Z_Station (hr.mono (by decide)) rfl (pa_cons (pv 2) (pa_cons (pv 3) (pa_cons (pe_fld (pv 4) rfl) (pa_cons (pe_fld (pv 4) rfl) pa_nil))))) pa_nil)))) pa_nil)))
      (pss_one (ps_ret (pe_lst (pa_cons pe_int pa_nil)))))))), ?_⟩
    walk_at "sig"
    refine ⟨a, Bd.of A, i, rfl, hB, _, rfl, ?_⟩
    refine if_cases (fun c => ?_) (fun c => ?_)
    · exact k.says (d_set1 (of_decide_eq_false (not_t c))) hB (Same.refl _) rfl one_fits
    have ci : i < A.now.l.length := of_decide_eq_true (p := i < (Bd.of A).now.length) (not_f c)
    walk_at "sig"
    refine ⟨t, x, rfl, _, rfl, ?_⟩
    refine if_cases (fun c => ?_) (fun c => ?_)
    · exact k.says (d_set2 ci (not_t c)) hB (Same.refl _) rfl one_fits
    have c2 : (Kv414.ok t && Kv414.ok x) = true := not_f c
    have ht := ok_iff.mp ((Bool.and_eq_true _ _).mp c2).1
    have hx' := ok_iff.mp ((Bool.and_eq_true _ _).mp c2).2
    obtain ⟨xs, old, hx, hat, hst⟩ := hsa.get ci
    have wo : Wf (A.now.st i) := wf.get ci
    walk_at "sig"
    refine ⟨_, _, _, _, rfl, rfl, hx, hat, ?_⟩
    refine ⟨_, rfl, a, dx, _, rfl, ha, bF_no _ _ _ (by decide +kernel) (by decide +kernel) (by decide +kernel), ?_⟩
    obtain ⟨dxo, ho⟩ := id hst
    walk_at "sig"
    intro a1 d1 nx nd ne
    refine make_station (p := (A.now.st i).k.p) (q := (A.now.st i).k.q) nx nd wo.p.1 wo.q.1 wo.q.2 (fun H1 e1 g1 => ⟨rfl, ?_⟩)
    rw [red_factor wo.one] at g1
    refine ⟨sa, a1, A.now.l, i, _, rfl, hsa.to e1, g1, ci, wf.few, fun H2 p2 e2 g2 => ?_⟩
    have e := e1.trans e2
    refine ⟨a, p2, Bd.of A, _, rfl, hB.to e, g2, fun s hs => ?_, ?_, fun H4 hB4 kp4 => ?_⟩
    · rcases List.mem_or_eq_of_mem_set hs with hs | hs
      · exact wf.now s hs
      · rw [hs]
        exact ⟨ht, hx', wo.p, wo.q, wo.one⟩
    · rw [List.length_set]
      exact wf.few
    · refine ⟨one_fits, ?_⟩
      rw [← of_to A _ (Kv415.say 0)] at hB4
      exact (k.of (d_set3 ci c2)).list ((Same.keeps e).trans kp4) hB4 rfl)
theorem ok_take_last_back (D : Df K mg "take_last_back" s_take_last_back p_take_last_back f fd) (T : Txt K mg C_Board C_Station) (M_Board_take_back : KeptM P w K mg base 1 C_Board "take_back" p_Board_take_back (spTakeBack K C_Board C_Station)) :
    Kept P w K mg base 2 "take_last_back" p_take_last_back (spB K C_Board C_Station .back) := D.kept (by
  refine D.F.ok sc_take_last_back (fun vs H Q E h => ?_) (fun cdv A0 outer s H vs Q E hr h => ?_)
  · obtain ⟨a, A, rfl, _⟩ := h
    rfl
  · obtain ⟨a, A, rfl, hB, k⟩ := h
    obtain ⟨⟨dx, sa, pa, ha, hsa, hpa⟩, wf⟩ := id hB
    obtain ⟨kB, aB, aS, aP⟩ := T.brd
    obtain ⟨as, h1, hl⟩ := hpa.len
    refine ⟨_, (pss_cons (ps_if (pt_cmpR op_eq (pe_callB call_len_seq (by rfl) T.z_len PySem.boot_len (pa_cons (pe_fld (pv 0) rfl) pa_nil)) pe_int (nomark _))
      (pss_one (ps_ret (pe_lst (pa_cons (pe_const T.c_NO_CHANGE) pa_nil))))
      pss_nil)
      (pss_cons (ps_expr (pe_methQ0 (pv 0) T.k_Board M_Board_take_back (hr.mono (by decide))))
      (pss_one (ps_ret (pe_lst (pa_cons (pe_callB call_len_seq (by rfl) T.z_len PySem.boot_len (pa_cons (pe_fld (pv 0) rfl) pa_nil)) pa_nil)))))), ?_⟩
    walk_at "sig"
    refine ⟨_, _, rfl, .inr h1, ?_⟩
    rw [hl]
    refine ⟨rfl, _, rfl, ?_⟩
    rw [eq_int]
    have lp : (Bd.of A).past.length = A.past.length := List.length_map _
    rw [lp]
    cases hA : A.past with
    | nil =>
      refine iteT ?_
      exact k.says (d_back0 hA) hB (Same.refl _) rfl one_fits
    | cons w r =>
      rw [decide_eq_false (by rw [List.length_cons]; omega)]
      refine iteF ?_
      refine ⟨_, rfl, a, dx, _, rfl, ha, bF_no _ _ _ (by decide +kernel) (by decide +kernel) (by decide +kernel), ?_⟩
      refine ⟨a, Bd.of A, w.l, r.map fun n => n.l, rfl, hB, by show A.past.map _ = _; rw [hA]; rfl, fun H4 hB4 kp4 => ?_⟩
      obtain ⟨dx4, sa4, pa4, ha4, hsa4, hpa4⟩ := hB4.ex
      obtain ⟨xs, hx, hl4⟩ := hpa4.len
      walk_at "sig"
      refine ⟨_, _, rfl, .inr hx, one_fits, ?_⟩
      refine (k.of (d_back1 hA)).list kp4 hB4 ?_
      rw [hl4]
      show [V.int ((r.map fun n => n.l).length : Int)] = [V.int ((r.length : Nat) : Int)]
      rw [List.length_map])
end
end Sig
set_option Elab.async false
set_option linter.all false
set_option maxRecDepth 100000
set_option maxHeartbeats 4000000
/-! looks.py -/
namespace Sig
open PySem PySem.Spec PyProof.Rows L2
local macro_rules | `(tactic| walk_at "sig") => `(tactic| repeat (first
  | refine ⟨_, rfl, ?_⟩
  | refine ⟨_, _, rfl, rfl, ?_⟩
  | refine And.intro (show CMulW _ _ by assumption) ?_
  | refine ⟨_, _, _, _, rfl, rfl, (by assumption), rfl, ?_⟩
  | refine ⟨_, _, _, _, _, rfl, (by assumption), (by assumption), (by assumption), (by first | exact sF_time _ | exact sF_place _ | exact sF_p _ | exact sF_q _ | exact bF_begun _ _ _ | exact bF_stations _ _ _ | exact bF_past _ _ _), ?_⟩))
/-! ### promises -/
def spTellOne (K : PySem.W.Frag) : Sp := fun vs H Q _ => ∃ (a : Addr) (x : Fr), vs = [.ref a] ∧ FrAt K H a x ∧ ∀ p, H p = none → Q (.ref p) (upd H p (.lst [.int 0, .int x.n, .int (x.d : Int)]))
def spTellTwo (K : PySem.W.Frag) : Sp := fun vs H Q _ => ∃ (m : Int) (a b : Addr) (x y : Fr), vs = [.int m, .ref a, .ref b] ∧ FrAt K H a x ∧ FrAt K H b y ∧ ∀ p, H p = none → Q (.ref p) (upd H p (.lst [.int m, .int x.n, .int (x.d : Int), .int y.n, .int (y.d : Int)]))
section
variable (K : PySem.W.Frag) (CB CS : Addr)
def spI (g : Nat → Kv415.Call) : Sp := fun vs H Q _ => ∃ (a : Addr) (A : Kv415.Abs) (i : Nat), vs = [.ref a, .int (i : Int)] ∧ BdAt K CB CS H a (Bd.of A) ∧ DoesC K CB CS H Q a A (g i)
def spIT (g : Nat → Int → Nat → Kv415.Call) : Sp := fun vs H Q _ => ∃ (a : Addr) (A : Kv415.Abs) (i : Nat) (n : Int) (d : Nat), vs = [.ref a, .int (i : Int), .int n, .int (d : Int)] ∧ BdAt K CB CS H a (Bd.of A) ∧ DoesC K CB CS H Q a A (g i n d)
def spIJT (g : Nat → Nat → Int → Nat → Kv415.Call) : Sp := fun vs H Q _ => ∃ (a : Addr) (A : Kv415.Abs) (i j : Nat) (n : Int) (d : Nat), vs = [.ref a, .int (i : Int), .int (j : Int), .int n, .int (d : Int)] ∧ BdAt K CB CS H a (Bd.of A) ∧ DoesC K CB CS H Q a A (g i j n d)
end
/-! ### the specification's ways -/
section
open Kv415
variable {A : Abs} {i j p q d : Nat} {t x n : Int}
theorem clockRef0 {B : Bd} (h : clockRef B i n d = 0) : i < B.now.length ∧ okT n d = true := by
  unfold clockRef at h
  split at h
  · split at h
    · exact ⟨by assumption, by assumption⟩
    · cases h
  · cases h
theorem sendRef0 {B : Bd} (h : sendRef B i j n d = 0) : (i < B.now.length ∧ j < B.now.length) ∧ ¬ i = j ∧ okT n d = true := by
  unfold sendRef at h
  split at h
  · split at h
    · cases h
    · split at h
      · exact ⟨by assumption, by assumption, by assumption⟩
      · cases h
  · cases h
theorem d_is1 (h : ¬ i < A.now.l.length) : A.does (.is i) = (A, say (-2)) := if_pos (no_of h)
theorem d_is2 (h : i < A.now.l.length) : A.does (.is i) = (A, ⟨0, [(A.now.st i).e.t, (A.now.st i).e.x, ((A.now.st i).k.p : Nat), ((A.now.st i).k.q : Nat)]⟩) := if_neg (by rw [yes_of h]; exact Bool.false_ne_true)
theorem d_at1 (h : ¬ clockRef (Bd.of A) i n d = 0) : A.does (.at_ i n d) = (A, say (clockRef (Bd.of A) i n d)) := by
  show (if A.now.no i = true then (A, say (-2)) else if okT n d = false then (A, say (-22)) else _) = _
  unfold clockRef at h ⊢
  by_cases c : i < A.now.l.length
  · rw [if_pos (show i < (Bd.of A).now.length from c)] at h ⊢
    rw [yes_of c, if_neg Bool.false_ne_true]
    cases e : okT n d with
    | true => rw [e] at h; exact absurd rfl h
    | false => rfl
  · rw [if_neg (show ¬ i < (Bd.of A).now.length from c), no_of c, if_pos rfl]
theorem d_at2 (h : i < A.now.l.length) (h2 : okT n d = true) : A.does (.at_ i n d) = (A, ⟨0, ((A.now.st i).at_ (t_ n d)).time.told ++ ((A.now.st i).at_ (t_ n d)).place.told⟩) :=
  (if_neg (by rw [yes_of h]; exact Bool.false_ne_true)).trans (if_neg (by rw [h2]; exact fun z => Bool.noConfusion z))
/-- send, echo and ticks refuse alike -/
theorem refuses {X : Abs × Ans} (h : ¬ sendRef (Bd.of A) i j n d = 0) : (if (A.now.no i : Prop) ∨ (A.now.no j : Prop) then (A, say (-2)) else if i = j ∨ okT n d = false then (A, say (-22)) else X) = (A, say (sendRef (Bd.of A) i j n d)) := by
  unfold sendRef at h ⊢
  by_cases c : i < A.now.l.length ∧ j < A.now.l.length
  · rw [if_pos (show i < (Bd.of A).now.length ∧ j < (Bd.of A).now.length from c)] at h ⊢
    rw [yes_of c.1, yes_of c.2, if_neg (by simp)]
    by_cases e : i = j
    · rw [if_pos (Or.inl e), if_pos e]
    · rw [if_neg e] at h ⊢
      cases e2 : okT n d with
      | true => rw [e2] at h; exact absurd rfl h
      | false => rw [if_pos (Or.inr rfl)]; rfl
  · rw [if_neg (show ¬ (i < (Bd.of A).now.length ∧ j < (Bd.of A).now.length) from c)]
    rw [if_pos]
    by_cases ci : i < A.now.l.length
    · exact Or.inr (no_of fun cj => c ⟨ci, cj⟩)
    · exact Or.inl (no_of ci)
theorem goes {X Y Z : Abs × Ans} (h : i < A.now.l.length ∧ j < A.now.l.length) (e : ¬ i = j) (h2 : okT n d = true) : (if (A.now.no i : Prop) ∨ (A.now.no j : Prop) then Y else if i = j ∨ okT n d = false then Z else X) = X := by
  rw [yes_of h.1, yes_of h.2, if_neg (by simp), if_neg]
  rw [h2]
  simp [e]
theorem d_send2 (h : i < A.now.l.length ∧ j < A.now.l.length) (e : ¬ i = j) (h2 : okT n d = true) : A.does (.send i j n d) = (A, ⟨0, (hop (A.now.st i) (A.now.st j) (t_ n d)).told⟩) := goes h e h2
theorem d_echo2 (h : i < A.now.l.length ∧ j < A.now.l.length) (e : ¬ i = j) (h2 : okT n d = true) : A.does (.echo i j n d) = (A, ⟨0, (hop (A.now.st j) (A.now.st i) (hop (A.now.st i) (A.now.st j) (t_ n d))).told ++ (hop (A.now.st i) (A.now.st j) (t_ n d)).told⟩) := goes h e h2
theorem d_ticks2 (h : i < A.now.l.length ∧ j < A.now.l.length) (e : ¬ i = j) (h2 : okT n d = true) : A.does (.ticks i j n d) = (A, ⟨0, ((hop (A.now.st i) (A.now.st j) ((t_ n d).add (Kv414.Q.of 1))).sub (hop (A.now.st i) (A.now.st j) (t_ n d))).told⟩) := goes h e h2
end
theorem ne_int {r : Int} (h : (!decide (V.int r = V.int 0)) = true) : ¬ r = 0 := fun z => by
  subst z
  rw [decide_eq_true rfl] at h
  cases h
theorem is_int {r : Int} (h : (!decide (V.int r = V.int 0)) = false) : r = 0 := by
  have q := of_decide_eq_true (not_f h)
  injection q
/-- what a look answers: one fraction, two -/
theorem row1 {x : Fr} (h : Red x) : [V.int 0, V.int x.n, V.int (x.d : Int)] = (Kv415Neutral.row ⟨0, x.told⟩).map V.int := by
  rw [told_of h]
  rfl
theorem row2 {x y : Fr} (h : Red x) (h' : Red y) : [V.int 0, V.int x.n, V.int (x.d : Int), V.int y.n, V.int (y.d : Int)] = (Kv415Neutral.row ⟨0, x.told ++ y.told⟩).map V.int := by
  rw [told_of h, told_of h']
  rfl
section
variable {P : Program} {w : World} {K : PySem.W.Frag} {mg : Str → Option Value} {base : Heap} {C_Board C_Station f : Addr} {fd : FuncData}
theorem ok_tell_one (D : Df K mg "tell_one" s_tell_one p_tell_one f fd) : Kept P w K mg base 1 "tell_one" p_tell_one (spTellOne K) := D.kept (by
  refine D.F.ok sc_tell_one (fun vs H Q E h => ?_) (fun cdv A outer s H vs Q E hr h => ?_)
  · obtain ⟨a, x, rfl, _⟩ := h
    rfl
  · obtain ⟨a, x, rfl, ha, k⟩ := h
    refine ⟨_, (pss_one (ps_ret (pe_lst (pa_cons pe_int (pa_cons (pe_ix ix_tup (pv 0) pe_int (fun _ _ => rfl)) (pa_cons (pe_ix ix_tup (pv 0) pe_int (fun _ _ => rfl)) pa_nil)))))), ?_⟩
    walk_at "sig"
    exact ⟨(by show 3 ≤ sizeLine; decide), k⟩)
theorem ok_tell_two (D : Df K mg "tell_two" s_tell_two p_tell_two f fd) : Kept P w K mg base 1 "tell_two" p_tell_two (spTellTwo K) := D.kept (by
  refine D.F.ok sc_tell_two (fun vs H Q E h => ?_) (fun cdv A outer s H vs Q E hr h => ?_)
  · obtain ⟨m, a, b, x, y, rfl, _⟩ := h
    rfl
  · obtain ⟨m, a, b, x, y, rfl, ha, hb, k⟩ := h
    refine ⟨_, (pss_one (ps_ret (pe_lst (pa_cons (pv 0) (pa_cons (pe_ix ix_tup (pv 1) pe_int (fun _ _ => rfl)) (pa_cons (pe_ix ix_tup (pv 1) pe_int (fun _ _ => rfl)) (pa_cons (pe_ix ix_tup (pv 2) pe_int (fun _ _ => rfl)) (pa_cons (pe_ix ix_tup (pv 2) pe_int (fun _ _ => rfl)) pa_nil)))))))), ?_⟩
    walk_at "sig"
    exact ⟨(by show 5 ≤ sizeLine; decide), k⟩)
theorem ok_tell_station (D : Df K mg "tell_station" s_tell_station p_tell_station f fd) (T : Txt K mg C_Board C_Station) (C_is_station : Kept P w K mg base 1 "is_station" p_is_station (spIsStation K C_Board C_Station)) :
    Kept P w K mg base 2 "tell_station" p_tell_station (spI K C_Board C_Station .is) := D.kept (by
  refine D.F.ok sc_tell_station (fun vs H Q E h => ?_) (fun cdv A0 outer s H vs Q E hr h => ?_)
  · obtain ⟨a, A, i, rfl, _⟩ := h
    rfl
  · obtain ⟨a, A, i, rfl, hB, k⟩ := h
    obtain ⟨⟨dx, sa, pa, ha, hsa, hpa⟩, wf⟩ := id hB
    obtain ⟨kB, aB, aS, aP⟩ := T.brd
    obtain ⟨kS, sT, sX, sP, sQ⟩ := T.stn
    refine ⟨_, (pss_cons (ps_if (pt_not (pt_val (pe_callQ C_is_station (hr.mono (by decide)) rfl (pa_cons (pv 0) (pa_cons (pv 1) pa_nil)))))
      (pss_one (ps_ret (pe_lst (pa_cons (pe_const T.c_NO_STATION) pa_nil))))
      pss_nil)
      (pss_cons (ps_set (i := 2) sc_tell_station.nd rfl (Or.inl rfl) (pe_ix ix_tup (pe_fld (pv 0) rfl) (pv 1) (fun _ _ => rfl)))
      (pss_one (ps_ret (pe_lst (pa_cons pe_int (pa_cons (pe_fld (pv 2) rfl) (pa_cons (pe_fld (pv 2) rfl) (pa_cons (pe_fld (pv 2) rfl) (pa_cons (pe_fld (pv 2) rfl) pa_nil)))))))))), ?_⟩
    walk_at "sig"
    refine ⟨a, Bd.of A, i, rfl, hB, _, rfl, ?_⟩
    refine if_cases (fun c => ?_) (fun c => ?_)
    · exact k.says (d_is1 (of_decide_eq_false (not_t c))) hB (Same.refl _) rfl one_fits
    have ci : i < A.now.l.length := of_decide_eq_true (p := i < (Bd.of A).now.length) (not_f c)
    obtain ⟨xs, st, hx, hat, ⟨dxo, ho⟩⟩ := hsa.get ci
    walk_at "sig"
    refine ⟨_, _, _, _, rfl, rfl, hx, hat, ?_⟩
    walk_at "sig"
    exact k.says (d_is2 ci) hB (Same.refl _) rfl (by show 5 ≤ sizeLine; decide))
theorem ok_tell_where (D : Df K mg "tell_where" s_tell_where p_tell_where f fd) (T : Txt K mg C_Board C_Station) (C_clock_refusal : Kept P w K mg base 2 "clock_refusal" p_clock_refusal (spClockRef K C_Board C_Station))
    (C_point_at : Kept P w K mg base 4 "point_at" p_point_at (spPointAt K C_Station)) (C_ratio : Kept P w K mg base 2 "ratio" p_ratio (spRatio K)) (C_tell_two : Kept P w K mg base 1 "tell_two" p_tell_two (spTellTwo K))
    (C_time_of : Kept P w K mg base 4 "time_of" p_time_of (spOfPt Kv415.Point.time K)) (C_place_of : Kept P w K mg base 4 "place_of" p_place_of (spOfPt Kv415.Point.place K)) :
    Kept P w K mg base 5 "tell_where" p_tell_where (spIT K C_Board C_Station .at_) := D.kept (by
  refine D.F.ok sc_tell_where (fun vs H Q E h => ?_) (fun cdv A0 outer s H vs Q E hr h => ?_)
  · obtain ⟨a, A, i, n, d, rfl, _⟩ := h
    rfl
  · obtain ⟨a, A, i, n, d, rfl, hB, k⟩ := h
    obtain ⟨⟨dx, sa, pa, ha, hsa, hpa⟩, wf⟩ := id hB
    obtain ⟨kB, aB, aS, aP⟩ := T.brd
    refine ⟨_, (pss_cons (ps_set (i := 4) sc_tell_where.nd rfl (Or.inl rfl) (pe_callQ C_clock_refusal (hr.mono (by decide)) rfl (pa_cons (pv 0) (pa_cons (pv 1) (pa_cons (pv 2) (pa_cons (pv 3) pa_nil))))))
      (pss_cons (ps_if (pt_cmpR op_ne (pv 4) (pe_const T.c_NONE_DUE) (nomark _))
      (pss_one (ps_ret (pe_lst (pa_cons (pv 4) pa_nil))))
      pss_nil)
      (pss_cons (ps_set (i := 5) sc_tell_where.nd rfl (Or.inl rfl) (pe_callQ C_point_at (hr.mono (by decide)) rfl (pa_cons (pe_ix ix_tup (pe_fld (pv 0) rfl) (pv 1) (fun _ _ => rfl)) (pa_cons (pe_callQ C_ratio (hr.mono (by decide)) rfl (pa_cons (pv 2) (pa_cons (pv 3) pa_nil))) pa_nil))))
      (pss_one (ps_ret (pe_callQ C_tell_two (hr.mono (by decide)) rfl (pa_cons pe_int (pa_cons (pe_callQ C_time_of (hr.mono (by decide)) rfl (pa_cons (pv 5) pa_nil)) (pa_cons (pe_callQ C_place_of (hr.mono (by decide)) rfl (pa_cons (pv 5) pa_nil)) pa_nil))))))))), ?_⟩
    walk_at "sig"
    refine ⟨a, Bd.of A, i, n, d, rfl, hB, _, rfl, rfl, _, rfl, ?_⟩
    refine if_cases (fun c => ?_) (fun c => ?_)
    · exact ⟨_, rfl, k.says (d_at1 (ne_int c)) hB (Same.refl _) rfl one_fits⟩
    obtain ⟨ci, ct⟩ := clockRef0 (is_int c)
    obtain ⟨hn, hd⟩ := okT_iff.mp ct
    obtain ⟨xs, st, hx, hat, hst⟩ := hsa.get ci
    have ws : Wf (A.now.st i) := wf.get ci
    walk_at "sig"
    refine ⟨_, _, _, _, rfl, rfl, hx, hat, ?_⟩
    walk_at "sig"
    refine ⟨n, d, rfl, hd.1, lt_pow (i := 7) (by show d < 128; omega) (by decide), fun H1 p1 e1 g1 => ?_⟩
    have sq : Sz 10 (Kv415.t_ n d) := clock_sz hn hd
    refine ⟨st, p1, A.now.st i, Kv415.t_ n d, rfl, hst.to e1, ws, g1, sq.mono (by decide), fun H2 p2 e2 g2 => ?_⟩
    have zp := (at_sz ws sq).mono (show 10 + 13 ≤ 1900 by decide)
    walk_at "sig"
    refine ⟨p2, _, rfl, g2, zp, fun H3 p3 e3 g3 => ?_⟩
    walk_at "sig"
    refine ⟨p2, _, rfl, g2.to e3, zp, fun H4 p4 e4 g4 => ?_⟩
    have e := e1.trans (e2.trans (e3.trans e4))
    refine ⟨0, p3, p4, _, _, rfl, g3.to e4, g4, ?_⟩
    exact (k.says (d_at2 ci ct) hB e (row2 (mul_red (add_red zp.u.pos zp.v.pos).pos (by decide)) (mul_red (sub_red zp.v.pos zp.u.pos).pos (by decide))) (by show 5 ≤ sizeLine; decide)).2)
theorem ok_tell_send (D : Df K mg "tell_send" s_tell_send p_tell_send f fd) (T : Txt K mg C_Board C_Station) (C_sending_refusal : Kept P w K mg base 3 "sending_refusal" p_sending_refusal (spSendRef K C_Board C_Station))
    (C_arrival : Kept P w K mg base 6 "arrival" p_arrival (spArrival K C_Station)) (C_ratio : Kept P w K mg base 2 "ratio" p_ratio (spRatio K)) (C_tell_one : Kept P w K mg base 1 "tell_one" p_tell_one (spTellOne K)) :
    Kept P w K mg base 7 "tell_send" p_tell_send (spIJT K C_Board C_Station .send) := D.kept (by
  refine D.F.ok sc_tell_send (fun vs H Q E h => ?_) (fun cdv A0 outer s H vs Q E hr h => ?_)
  · obtain ⟨a, A, i, j, n, d, rfl, _⟩ := h
    rfl
  · obtain ⟨a, A, i, j, n, d, rfl, hB, k⟩ := h
    obtain ⟨⟨dx, sa, pa, ha, hsa, hpa⟩, wf⟩ := id hB
    obtain ⟨kB, aB, aS, aP⟩ := T.brd
    refine ⟨_, (pss_cons (ps_set (i := 5) sc_tell_send.nd rfl (Or.inl rfl) (pe_callQ C_sending_refusal (hr.mono (by decide)) rfl (pa_cons (pv 0) (pa_cons (pv 1) (pa_cons (pv 2) (pa_cons (pv 3) (pa_cons (pv 4) pa_nil)))))))
      (pss_cons (ps_if (pt_cmpR op_ne (pv 5) (pe_const T.c_NONE_DUE) (nomark _))
      (pss_one (ps_ret (pe_lst (pa_cons (pv 5) pa_nil))))
      pss_nil)
      (pss_one (ps_ret (pe_callQ C_tell_one (hr.mono (by decide)) rfl (pa_cons (pe_callQ C_arrival (hr.mono (by decide)) rfl (pa_cons (pe_ix ix_tup (pe_fld (pv 0) rfl) (pv 1) (fun _ _ => rfl)) (pa_cons (pe_ix ix_tup (pe_fld (pv 0) rfl) (pv 2) (fun _ _ => rfl)) (pa_cons (pe_callQ C_ratio (hr.mono (by decide)) rfl (pa_cons (pv 3) (pa_cons (pv 4) pa_nil))) pa_nil)))) pa_nil)))))), ?_⟩
    walk_at "sig"
    refine ⟨a, Bd.of A, i, j, n, d, rfl, hB, _, rfl, rfl, _, rfl, ?_⟩
    refine if_cases (fun c => ?_) (fun c => ?_)
    · exact ⟨_, rfl, k.says (refuses (ne_int c)) hB (Same.refl _) rfl one_fits⟩
    obtain ⟨cij, ne, ct⟩ := sendRef0 (is_int c)
    obtain ⟨hn, hd⟩ := okT_iff.mp ct
    obtain ⟨xs, si, hx, hat, hsi⟩ := hsa.get cij.1
    obtain ⟨ys, sj, hy, hbt, hsj⟩ := hsa.get cij.2
    have wi : Wf (A.now.st i) := wf.get cij.1
    have wj : Wf (A.now.st j) := wf.get cij.2
    have sq : Sz 10 (Kv415.t_ n d) := clock_sz hn hd
    walk_at "sig"
    refine ⟨_, _, _, _, rfl, rfl, hx, hat, ?_⟩
    walk_at "sig"
    refine ⟨_, _, _, _, rfl, rfl, hy, hbt, ?_⟩
    walk_at "sig"
    refine ⟨n, d, rfl, hd.1, lt_pow (i := 7) (by show d < 128; omega) (by decide), fun H1 p1 e1 g1 => ?_⟩
    refine ⟨si, sj, p1, A.now.st i, A.now.st j, Kv415.t_ n d, rfl, hsi.to e1, wi, hsj.to e1, wj, g1, sq.mono (by decide), fun H2 p2 e2 g2 => ?_⟩
    refine ⟨p2, _, rfl, g2, ?_⟩
    exact (k.says (d_send2 cij ne ct) hB (e1.trans e2) (row1 (hop_red wi wj sq.pos)) (by show 3 ≤ sizeLine; decide)).2)
theorem ok_tell_echo (D : Df K mg "tell_echo" s_tell_echo p_tell_echo f fd) (T : Txt K mg C_Board C_Station) (C_sending_refusal : Kept P w K mg base 3 "sending_refusal" p_sending_refusal (spSendRef K C_Board C_Station))
    (C_arrival : Kept P w K mg base 6 "arrival" p_arrival (spArrival K C_Station)) (C_ratio : Kept P w K mg base 2 "ratio" p_ratio (spRatio K)) (C_tell_two : Kept P w K mg base 1 "tell_two" p_tell_two (spTellTwo K)) :
    Kept P w K mg base 7 "tell_echo" p_tell_echo (spIJT K C_Board C_Station .echo) := D.kept (by
  refine D.F.ok sc_tell_echo (fun vs H Q E h => ?_) (fun cdv A0 outer s H vs Q E hr h => ?_)
  · obtain ⟨a, A, i, j, n, d, rfl, _⟩ := h
    rfl
  · obtain ⟨a, A, i, j, n, d, rfl, hB, k⟩ := h
    obtain ⟨⟨dx, sa, pa, ha, hsa, hpa⟩, wf⟩ := id hB
    obtain ⟨kB, aB, aS, aP⟩ := T.brd
    refine ⟨_, (pss_cons (ps_set (i := 5) sc_tell_echo.nd rfl (Or.inl rfl) (pe_callQ C_sending_refusal (hr.mono (by decide)) rfl (pa_cons (pv 0) (pa_cons (pv 1) (pa_cons (pv 2) (pa_cons (pv 3) (pa_cons (pv 4) pa_nil)))))))
      (pss_cons (ps_if (pt_cmpR op_ne (pv 5) (pe_const T.c_NONE_DUE) (nomark _))
      (pss_one (ps_ret (pe_lst (pa_cons (pv 5) pa_nil))))
      pss_nil)
      (pss_cons (ps_set (i := 6) sc_tell_echo.nd rfl (Or.inl rfl) (pe_ix ix_tup (pe_fld (pv 0) rfl) (pv 1) (fun _ _ => rfl)))
      (pss_cons (ps_set (i := 7) sc_tell_echo.nd rfl (Or.inl rfl) (pe_ix ix_tup (pe_fld (pv 0) rfl) (pv 2) (fun _ _ => rfl)))
      (pss_cons (ps_set (i := 8) sc_tell_echo.nd rfl (Or.inl rfl) (pe_callQ C_arrival (hr.mono (by decide)) rfl (pa_cons (pv 6) (pa_cons (pv 7) (pa_cons (pe_callQ C_ratio (hr.mono (by decide)) rfl (pa_cons (pv 3) (pa_cons (pv 4) pa_nil))) pa_nil)))))
      (pss_one (ps_ret (pe_callQ C_tell_two (hr.mono (by decide)) rfl (pa_cons pe_int (pa_cons (pe_callQ C_arrival (hr.mono (by decide)) rfl (pa_cons (pv 7) (pa_cons (pv 6) (pa_cons (pv 8) pa_nil)))) (pa_cons (pv 8) pa_nil))))))))))), ?_⟩
    walk_at "sig"
    refine ⟨a, Bd.of A, i, j, n, d, rfl, hB, _, rfl, rfl, _, rfl, ?_⟩
    refine if_cases (fun c => ?_) (fun c => ?_)
    · exact ⟨_, rfl, k.says (refuses (ne_int c)) hB (Same.refl _) rfl one_fits⟩
    obtain ⟨cij, ne, ct⟩ := sendRef0 (is_int c)
    obtain ⟨hn, hd⟩ := okT_iff.mp ct
    obtain ⟨xs, si, hx, hat, hsi⟩ := hsa.get cij.1
    obtain ⟨ys, sj, hy, hbt, hsj⟩ := hsa.get cij.2
    have wi : Wf (A.now.st i) := wf.get cij.1
    have wj : Wf (A.now.st j) := wf.get cij.2
    have sq : Sz 10 (Kv415.t_ n d) := clock_sz hn hd
    walk_at "sig"
    refine ⟨_, _, _, _, rfl, rfl, hx, hat, ?_⟩
    walk_at "sig"
    refine ⟨_, _, _, _, rfl, rfl, hy, hbt, ?_⟩
    walk_at "sig"
    refine ⟨n, d, rfl, hd.1, lt_pow (i := 7) (by show d < 128; omega) (by decide), fun H1 p1 e1 g1 => ?_⟩
    refine ⟨si, sj, p1, A.now.st i, A.now.st j, Kv415.t_ n d, rfl, hsi.to e1, wi, hsj.to e1, wj, g1, sq.mono (by decide), fun H2 p2 e2 g2 => ?_⟩
    have e12 := e1.trans e2
    have s2 := hop_sz wi wj sq
    walk_at "sig"
    refine ⟨sj, si, p2, A.now.st j, A.now.st i, _, rfl, hsj.to e12, wj, hsi.to e12, wi, g2, s2.mono (by decide), fun H3 p3 e3 g3 => ?_⟩
    walk_at "sig"
    refine ⟨0, p3, p2, _, _, rfl, g3, g2.to e3, ?_⟩
    exact (k.says (d_echo2 cij ne ct) hB (e12.trans e3) (row2 (hop_red wj wi s2.pos) (hop_red wi wj sq.pos)) (by show 5 ≤ sizeLine; decide)).2)
theorem ok_tell_ticks (D : Df K mg "tell_ticks" s_tell_ticks p_tell_ticks f fd) (T : Txt K mg C_Board C_Station) (C_sending_refusal : Kept P w K mg base 3 "sending_refusal" p_sending_refusal (spSendRef K C_Board C_Station))
    (C_arrival : Kept P w K mg base 6 "arrival" p_arrival (spArrival K C_Station)) (C_ratio : Kept P w K mg base 2 "ratio" p_ratio (spRatio K)) (C_tell_one : Kept P w K mg base 1 "tell_one" p_tell_one (spTellOne K))
    (C_plus : Kept P w K mg base 3 "plus" p_plus (spTwo Kv414.Q.add K)) (C_minus : Kept P w K mg base 3 "minus" p_minus (spTwo Kv414.Q.sub K)) :
    Kept P w K mg base 7 "tell_ticks" p_tell_ticks (spIJT K C_Board C_Station .ticks) := D.kept (by
  refine D.F.ok sc_tell_ticks (fun vs H Q E h => ?_) (fun cdv A0 outer s H vs Q E hr h => ?_)
  · obtain ⟨a, A, i, j, n, d, rfl, _⟩ := h
    rfl
  · obtain ⟨a, A, i, j, n, d, rfl, hB, k⟩ := h
    obtain ⟨⟨dx, sa, pa, ha, hsa, hpa⟩, wf⟩ := id hB
    obtain ⟨kB, aB, aS, aP⟩ := T.brd
    refine ⟨_, (pss_cons (ps_set (i := 5) sc_tell_ticks.nd rfl (Or.inl rfl) (pe_callQ C_sending_refusal (hr.mono (by decide)) rfl (pa_cons (pv 0) (pa_cons (pv 1) (pa_cons (pv 2) (pa_cons (pv 3) (pa_cons (pv 4) pa_nil)))))))
      (pss_cons (ps_if (pt_cmpR op_ne (pv 5) (pe_const T.c_NONE_DUE) (nomark _))
      (pss_one (ps_ret (pe_lst (pa_cons (pv 5) pa_nil))))
      pss_nil)
      (pss_cons (ps_set (i := 6) sc_tell_ticks.nd rfl (Or.inl rfl) (pe_ix ix_tup (pe_fld (pv 0) rfl) (pv 1) (fun _ _ => rfl)))
      (pss_cons (ps_set (i := 7) sc_tell_ticks.nd rfl (Or.inl rfl) (pe_ix ix_tup (pe_fld (pv 0) rfl) (pv 2) (fun _ _ => rfl)))
      (pss_cons (ps_set (i := 8) sc_tell_ticks.nd rfl (Or.inl rfl) (pe_callQ C_ratio (hr.mono (by decide)) rfl (pa_cons (pv 3) (pa_cons (pv 4) pa_nil))))
      (pss_cons (ps_set (i := 9) sc_tell_ticks.nd rfl (Or.inl rfl) (pe_callQ C_arrival (hr.mono (by decide)) rfl (pa_cons (pv 6) (pa_cons (pv 7) (pa_cons (pv 8) pa_nil)))))
      (pss_cons (ps_set (i := 10) sc_tell_ticks.nd rfl (Or.inl rfl) (pe_callQ C_arrival (hr.mono (by decide)) rfl (pa_cons (pv 6) (pa_cons (pv 7) (pa_cons (pe_callQ C_plus (hr.mono (by decide)) rfl (pa_cons (pv 8) (pa_cons (pe_tup (pa_cons pe_int (pa_cons pe_int pa_nil))) pa_nil))) pa_nil)))))
      (pss_one (ps_ret (pe_callQ C_tell_one (hr.mono (by decide)) rfl (pa_cons (pe_callQ C_minus (hr.mono (by decide)) rfl (pa_cons (pv 10) (pa_cons (pv 9) pa_nil))) pa_nil))))))))))), ?_⟩
    walk_at "sig"
    refine ⟨a, Bd.of A, i, j, n, d, rfl, hB, _, rfl, rfl, _, rfl, ?_⟩
    refine if_cases (fun c => ?_) (fun c => ?_)
    · exact ⟨_, rfl, k.says (refuses (ne_int c)) hB (Same.refl _) rfl one_fits⟩
    obtain ⟨cij, ne, ct⟩ := sendRef0 (is_int c)
    obtain ⟨hn, hd⟩ := okT_iff.mp ct
    obtain ⟨xs, si, hx, hat, hsi⟩ := hsa.get cij.1
    obtain ⟨ys, sj, hy, hbt, hsj⟩ := hsa.get cij.2
    have wi : Wf (A.now.st i) := wf.get cij.1
    have wj : Wf (A.now.st j) := wf.get cij.2
    have sq : Sz 10 (Kv415.t_ n d) := clock_sz hn hd
    walk_at "sig"
    refine ⟨_, _, _, _, rfl, rfl, hx, hat, ?_⟩
    walk_at "sig"
    refine ⟨_, _, _, _, rfl, rfl, hy, hbt, ?_⟩
    walk_at "sig"
    refine ⟨n, d, rfl, hd.1, lt_pow (i := 7) (by show d < 128; omega) (by decide), fun H1 p1 e1 g1 => ?_⟩
    walk_at "sig"
    refine ⟨si, sj, p1, A.now.st i, A.now.st j, Kv415.t_ n d, rfl, hsi.to e1, wi, hsj.to e1, wj, g1, sq.mono (by decide), fun H2 p2 e2 g2 => ?_⟩
    walk_at "sig"
    refine ⟨(by show 2 ≤ sizeLine; decide), fun r hr' => ?_⟩
    have e3 := same_upd (o := HO.tup [.int 1, .int 1]) hr'
    have e13 := e1.trans (e2.trans e3)
    have s1 : Sz 2 (Kv414.Q.of 1) := of_sz (by decide) (by decide)
    refine ⟨p1, r, _, Kv414.Q.of 1, rfl, g1.to (e2.trans e3), SqT.of upd_same, sq.mono (by decide), s1.mono (by decide), fun H4 p4 e4 g4 => ?_⟩
    have e14 := e13.trans e4
    have s4 := add_sz sq s1
    refine ⟨si, sj, p4, A.now.st i, A.now.st j, _, rfl, hsi.to e14, wi, hsj.to e14, wj, g4, s4.mono (by decide), fun H5 p5 e5 g5 => ?_⟩
    walk_at "sig"
    have sa := hop_sz wi wj sq
    have sb := hop_sz wi wj s4
    refine ⟨p5, p2, _, _, rfl, g5, g2.to (e3.trans (e4.trans e5)), sb.mono (by decide), sa.mono (by decide), fun H6 p6 e6 g6 => ?_⟩
    refine ⟨p6, _, rfl, g6, ?_⟩
    exact (k.says (d_ticks2 cij ne ct) hB (e14.trans (e5.trans e6)) (row1 (sub_red sb.pos sa.pos)) (by show 3 ≤ sizeLine; decide)).2)
end
end Sig
set_option Elab.async false
set_option linter.all false
set_option maxRecDepth 100000
set_option maxHeartbeats 4000000
/-! The specification's ways for the calls of the second stage. -/
namespace Sig
section
open Kv415
variable {A : Abs} {i j p q d : Nat} {t x n : Int} {l : List Nat}
theorem not_no (h : i < A.now.l.length) : ¬ (A.now.no i = true) := by
  rw [yes_of h]
  exact Bool.false_ne_true
theorem bad_spot (h : (Kv414.ok t && Kv414.ok x) = false) : Kv414.ok t = false ∨ Kv414.ok x = false := by
  cases e1 : Kv414.ok t <;> cases e2 : Kv414.ok x <;> simp_all
theorem good_spot (h : (Kv414.ok t && Kv414.ok x) = true) : ¬ (Kv414.ok t = false ∨ Kv414.ok x = false) := by
  rw [Bool.and_eq_true] at h
  simp [h.1, h.2]
theorem bad_two (h : ¬ (i < A.now.l.length ∧ j < A.now.l.length)) : A.now.no i = true ∨ A.now.no j = true := by
  by_cases ci : i < A.now.l.length
  · exact Or.inr (no_of fun cj => h ⟨ci, cj⟩)
  · exact Or.inl (no_of ci)
theorem good_two (h : i < A.now.l.length ∧ j < A.now.l.length) : ¬ (A.now.no i = true ∨ A.now.no j = true) := by
  rw [yes_of h.1, yes_of h.2]
  simp
theorem not_false {b : Bool} (h : b = true) : ¬ b = false := by
  rw [h]
  exact fun z => Bool.noConfusion z
theorem d_hears0 (h : ¬ i < A.now.l.length) : A.does (.hears i t x) = (A, say (-2)) := if_pos (no_of h)
theorem d_hears1 (h : i < A.now.l.length) (h2 : (Kv414.ok t && Kv414.ok x) = false) : A.does (.hears i t x) = (A, say (-22)) := (if_neg (not_no h)).trans (if_pos (bad_spot h2))
theorem d_hears2 (h : i < A.now.l.length) (h2 : (Kv414.ok t && Kv414.ok x) = true) : A.does (.hears i t x) = (A, ⟨0, ((A.now.st i).hears ⟨Kv414.Q.of (t - x), Kv414.Q.of (t + x)⟩).told⟩) := (if_neg (not_no h)).trans (if_neg (good_spot h2))
theorem d_till0 (h : ¬ i < A.now.l.length) : A.does (.till i t x) = (A, say (-2)) := if_pos (no_of h)
theorem d_till1 (h : i < A.now.l.length) (h2 : (Kv414.ok t && Kv414.ok x) = false) : A.does (.till i t x) = (A, say (-22)) := (if_neg (not_no h)).trans (if_pos (bad_spot h2))
theorem d_till2 (h : i < A.now.l.length) (h2 : (Kv414.ok t && Kv414.ok x) = true) : A.does (.till i t x) = (A, ⟨0, ((A.now.st i).till ⟨Kv414.Q.of (t - x), Kv414.Q.of (t + x)⟩).told⟩) := (if_neg (not_no h)).trans (if_neg (good_spot h2))
theorem d_own0 (h : ¬ i < A.now.l.length) : A.does (.own i t x) = (A, say (-2)) := if_pos (no_of h)
theorem d_own1 (h : i < A.now.l.length) (h2 : (Kv414.ok t && Kv414.ok x) = false) : A.does (.own i t x) = (A, say (-22)) := (if_neg (not_no h)).trans (if_pos (bad_spot h2))
/-- own and ownof answer so -/
def ownAns (s : Station) (p : Point) : Ans := ⟨(s.side p : Nat), (s.own p).1.told ++ (s.own p).2.told⟩
theorem d_own2 (h : i < A.now.l.length) (h2 : (Kv414.ok t && Kv414.ok x) = true) : A.does (.own i t x) = (A, ownAns (A.now.st i) ⟨Kv414.Q.of (t - x), Kv414.Q.of (t + x)⟩) := (if_neg (not_no h)).trans (if_neg (good_spot h2))
theorem d_ownof0 (h : ¬ (i < A.now.l.length ∧ j < A.now.l.length)) : A.does (.ownof i j n d) = (A, say (-2)) := if_pos (bad_two h)
theorem d_ownof1 (h : i < A.now.l.length ∧ j < A.now.l.length) (h2 : okT n d = false) : A.does (.ownof i j n d) = (A, say (-22)) := (if_neg (good_two h)).trans (if_pos h2)
theorem d_ownof2 (h : i < A.now.l.length ∧ j < A.now.l.length) (h2 : okT n d = true) : A.does (.ownof i j n d) = (A, ownAns (A.now.st i) ((A.now.st j).at_ (t_ n d))) := (if_neg (good_two h)).trans (if_neg (not_false h2))
theorem d_meet0 (h : ¬ (i < A.now.l.length ∧ j < A.now.l.length)) : A.does (.meet i j) = (A, say (-2)) := if_pos (bad_two h)
theorem d_meet1 (h : i < A.now.l.length ∧ j < A.now.l.length) (e : i = j) : A.does (.meet i j) = (A, say (-22)) := (if_neg (good_two h)).trans (if_pos e)
theorem d_meet2 (h : i < A.now.l.length ∧ j < A.now.l.length) (e : ¬ i = j) (m : A.now.meets i j = none) : A.does (.meet i j) = (A, say (-33)) := by
  refine (if_neg (good_two h)).trans ((if_neg e).trans ?_)
  rw [m]
theorem d_meet3 {z : Kv414.Q × Kv414.Q} (h : i < A.now.l.length ∧ j < A.now.l.length) (e : ¬ i = j) (m : A.now.meets i j = some z) : A.does (.meet i j) = (A, ⟨0, z.1.told ++ z.2.told⟩) := by
  refine (if_neg (good_two h)).trans ((if_neg e).trans ?_)
  rw [m]
theorem d_closing0 (h : ¬ (i < A.now.l.length ∧ j < A.now.l.length)) : A.does (.closing i j) = (A, say (-2)) := if_pos (bad_two h)
theorem d_closing1 (h : i < A.now.l.length ∧ j < A.now.l.length) (e : i = j) : A.does (.closing i j) = (A, say (-22)) := (if_neg (good_two h)).trans (if_pos e)
theorem d_closing2 (h : i < A.now.l.length ∧ j < A.now.l.length) (e : ¬ i = j) : A.does (.closing i j) = (A, ⟨0, (Kv414.Factor.put (A.now.st j).k (A.now.st i).k.back).speed.told⟩) := (if_neg (good_two h)).trans (if_neg e)
theorem d_relay0 (h : l.any A.now.no = true) : A.does (.relay l n d) = (A, say (-2)) := if_pos h
theorem d_relay1 (h : l.any A.now.no = false) (h2 : l.length < 2 ∨ 6 < l.length ∨ okT n d = false) : A.does (.relay l n d) = (A, say (-22)) := (if_neg (by rw [h]; exact Bool.false_ne_true)).trans (if_pos h2)
theorem d_relay2 (h : l.any A.now.no = false) (h2 : ¬ (l.length < 2 ∨ 6 < l.length ∨ okT n d = false)) : A.does (.relay l n d) = (A, ⟨0, (A.now.chain l (t_ n d)).told⟩) := (if_neg (by rw [h]; exact Bool.false_ne_true)).trans (if_neg h2)
theorem d_round0 (h : l.any A.now.no = true) : A.does (.round l n d) = (A, say (-2)) := if_pos h
theorem d_round1 (h : l.any A.now.no = false) (h2 : l.length < 2 ∨ 6 < l.length ∨ okT n d = false) : A.does (.round l n d) = (A, say (-22)) := (if_neg (by rw [h]; exact Bool.false_ne_true)).trans (if_pos h2)
theorem d_round2 (h : l.any A.now.no = false) (h2 : ¬ (l.length < 2 ∨ 6 < l.length ∨ okT n d = false)) : A.does (.round l n d) = (A, ⟨0, (A.now.chain (l ++ [l.headD 0]) (t_ n d)).told⟩) := (if_neg (by rw [h]; exact Bool.false_ne_true)).trans (if_neg h2)
theorem d_state : A.does .state = (A, ⟨(A.now.l.length : Nat), [(A.past.length : Nat)]⟩) := rfl
end
end Sig
set_option Elab.async false
set_option linter.all false
set_option maxRecDepth 100000
set_option maxHeartbeats 4000000
/-! looks.py: the looks of the second stage -/
namespace Sig
open PySem PySem.Spec PyProof.Rows L2
local macro_rules | `(tactic| walk_at "sig") => `(tactic| repeat (first
  | refine ⟨_, rfl, ?_⟩
  | refine ⟨_, _, rfl, rfl, ?_⟩
  | refine And.intro (show CMulW _ _ by assumption) ?_
  | refine ⟨_, _, _, _, rfl, rfl, (by assumption), rfl, ?_⟩
  | refine ⟨_, _, _, _, _, rfl, (by assumption), (by assumption), (by assumption), (by first | exact sF_time _ | exact sF_place _ | exact sF_p _ | exact sF_q _ | exact bF_begun _ _ _ | exact bF_stations _ _ _ | exact bF_past _ _ _), ?_⟩))
/-! ### promises -/
section
variable (K : PySem.W.Frag) (CB CS : Addr)
def spITX (g : Nat → Int → Int → Kv415.Call) : Sp := fun vs H Q _ => ∃ (a : Addr) (A : Kv415.Abs) (i : Nat) (t x : Int), vs = [.ref a, .int (i : Int), .int t, .int x] ∧ BdAt K CB CS H a (Bd.of A) ∧ DoesC K CB CS H Q a A (g i t x)
def spIJ (g : Nat → Nat → Kv415.Call) : Sp := fun vs H Q _ => ∃ (a : Addr) (A : Kv415.Abs) (i j : Nat), vs = [.ref a, .int (i : Int), .int (j : Int)] ∧ BdAt K CB CS H a (Bd.of A) ∧ DoesC K CB CS H Q a A (g i j)
def spRow (g : List Nat → Int → Nat → Kv415.Call) : Sp := fun vs H Q _ => ∃ (a b : Addr) (A : Kv415.Abs) (l : List Nat) (n : Int) (d : Nat), vs = [.ref a, .ref b, .int n, .int (d : Int)] ∧ BdAt K CB CS H a (Bd.of A) ∧ H b = some (.lst ((ofNats l).map V.int)) ∧ l.length ≤ 12 ∧ DoesC K CB CS H Q a A (g l n d)
def spOwnOf : Sp := fun vs H Q _ => ∃ (a b : Addr) (s : Stn) (p : Pnt), vs = [.ref a, .ref b] ∧ StAt CS H a s ∧ Wf s ∧ PtAt K H b p ∧ SzP 1900 p ∧ ∀ H' r, Same H H' → H r = none → H' r = some (.lst ((Kv415Neutral.row (ownAns s p)).map V.int)) → Q (.ref r) H'
end
/-! ### the specification's ways -/
section
open Kv415
variable {A : Abs} {i j p q d : Nat} {t x n : Int} {l : List Nat}
theorem spotRef0 {B : Bd} (h : spotRef B i t x = 0) : i < B.now.length ∧ (Kv414.ok t && Kv414.ok x) = true := by
  unfold spotRef at h
  split at h
  · split at h
    · exact ⟨by assumption, by assumption⟩
    · cases h
  · cases h
theorem pairRef0 {B : Bd} (h : pairRef B i j = 0) : (i < B.now.length ∧ j < B.now.length) ∧ ¬ i = j := by
  unfold pairRef at h
  split at h
  · split at h
    · cases h
    · exact ⟨by assumption, by assumption⟩
  · cases h
theorem rowRef0 {B : Bd} (h : rowRef B l n d = 0) : l.any (fun i => decide (B.now.length ≤ i)) = false ∧ ¬ (l.length < 2 ∨ 6 < l.length ∨ okT n d = false) := by
  unfold rowRef at h
  by_cases c : l.any (fun i => decide (B.now.length ≤ i)) = true
  · rw [if_pos c] at h
    cases h
  · rw [if_neg c] at h
    refine ⟨by simpa using c, fun z => ?_⟩
    rw [if_pos z] at h
    cases h
theorem spot_refuses {c : Call} {X : Abs × Ans} (e : A.does c = (if A.now.no i = true then (A, say (-2)) else if Kv414.ok t = false ∨ Kv414.ok x = false then (A, say (-22)) else X)) (h : ¬ spotRef (Bd.of A) i t x = 0) : A.does c = (A, say (spotRef (Bd.of A) i t x)) := by
  rw [e]
  unfold spotRef at h ⊢
  by_cases ci : i < A.now.l.length
  · rw [if_pos (show i < (Bd.of A).now.length from ci)] at h ⊢
    rw [if_neg (not_no ci)]
    cases e2 : (Kv414.ok t && Kv414.ok x) with
    | true => rw [e2] at h; exact absurd rfl h
    | false => rw [if_pos (bad_spot e2)]; rfl
  · rw [if_neg (show ¬ i < (Bd.of A).now.length from ci), if_pos (no_of ci)]
theorem pair_refuses {c : Call} {X : Abs × Ans} (e : A.does c = (if A.now.no i = true ∨ A.now.no j = true then (A, say (-2)) else if i = j then (A, say (-22)) else X)) (h : ¬ pairRef (Bd.of A) i j = 0) : A.does c = (A, say (pairRef (Bd.of A) i j)) := by
  rw [e]
  unfold pairRef at h ⊢
  by_cases ci : i < A.now.l.length ∧ j < A.now.l.length
  · rw [if_pos (show i < (Bd.of A).now.length ∧ j < (Bd.of A).now.length from ci)] at h ⊢
    rw [if_neg (good_two ci)]
    by_cases c2 : i = j
    · rw [if_pos c2, if_pos c2]
    · rw [if_neg c2] at h
      exact absurd rfl h
  · rw [if_neg (show ¬ (i < (Bd.of A).now.length ∧ j < (Bd.of A).now.length) from ci), if_pos (bad_two ci)]
theorem row_refuses {c : Call} {X : Abs × Ans} (e : A.does c = (if l.any A.now.no = true then (A, say (-2)) else if l.length < 2 ∨ 6 < l.length ∨ okT n d = false then (A, say (-22)) else X)) (h : ¬ rowRef (Bd.of A) l n d = 0) : A.does c = (A, say (rowRef (Bd.of A) l n d)) := by
  rw [e]
  unfold rowRef at h ⊢
  show (if l.any (fun i => decide (A.now.l.length ≤ i)) = true then _ else _) = (A, Kv415.say (if l.any (fun i => decide (A.now.l.length ≤ i)) = true then _ else _))
  have h : ¬ (if l.any (fun i => decide (A.now.l.length ≤ i)) = true then (-2 : Int) else if l.length < 2 ∨ 6 < l.length ∨ okT n d = false then -22 else 0) = 0 := h
  by_cases c : l.any (fun i => decide (A.now.l.length ≤ i)) = true
  · rw [if_pos c, if_pos c]
  · rw [if_neg c] at h
    rw [if_neg c, if_neg c]
    by_cases c2 : l.length < 2 ∨ 6 < l.length ∨ okT n d = false
    · rw [if_pos c2, if_pos c2]
    · rw [if_neg c2] at h
      exact absurd rfl h
theorem ownof_refuses (hi : i < A.now.l.length) (h : ¬ clockRef (Bd.of A) j n d = 0) : A.does (.ownof i j n d) = (A, say (clockRef (Bd.of A) j n d)) := by
  unfold clockRef at h ⊢
  by_cases cj : j < A.now.l.length
  · rw [if_pos (show j < (Bd.of A).now.length from cj)] at h ⊢
    cases e : okT n d with
    | true => rw [e] at h; exact absurd rfl h
    | false => exact d_ownof1 ⟨hi, cj⟩ e
  · rw [if_neg (show ¬ j < (Bd.of A).now.length from cj)]
    exact d_ownof0 fun z => cj z.2
end
/-- two fractions behind any number -/
theorem row2m {m : Int} {x y : Fr} (h : Red x) (h' : Red y) : [V.int m, V.int x.n, V.int (x.d : Int), V.int y.n, V.int (y.d : Int)] = (Kv415Neutral.row ⟨m, x.told ++ y.told⟩).map V.int := by
  rw [told_of h, told_of h']
  rfl
theorem spot_sz {t x : Int} (h : (Kv414.ok t && Kv414.ok x) = true) : SzP 8 (spot t x) := by
  rw [Bool.and_eq_true] at h
  have ht := ok_iff.mp h.1
  have hx := ok_iff.mp h.2
  exact ⟨of_sz (lt8 (by omega)) (by decide), of_sz (lt8 (by omega)) (by decide)⟩
theorem own_red1 {s : Stn} {p : Pnt} {k : Nat} (w : Wf s) (z : SzP k p) : Red (s.own p).1 := mul_red (add_red (hears_sz w z).pos (till_sz w z).pos).pos (by decide)
theorem own_red2 {s : Stn} {p : Pnt} {k : Nat} (w : Wf s) (z : SzP k p) : Red (s.own p).2 := mul_red (sub_red (hears_sz w z).pos (till_sz w z).pos).pos (by decide)
section
variable {P : Program} {w : World} {K : PySem.W.Frag} {mg : Str → Option Value} {base : Heap} {C_Board C_Station f : Addr} {fd : FuncData}
theorem ok_tell_state (D : Df K mg "tell_state" s_tell_state p_tell_state f fd) (T : Txt K mg C_Board C_Station) : Kept P w K mg base 1 "tell_state" p_tell_state (spB K C_Board C_Station .state) := D.kept (by
  refine D.F.ok sc_tell_state (fun vs H Q E h => ?_) (fun cdv A0 outer s H vs Q E hr h => ?_)
  · obtain ⟨a, A, rfl, _⟩ := h
    rfl
  · obtain ⟨a, A, rfl, hB, k⟩ := h
    obtain ⟨⟨dx, sa, pa, ha, hsa, hpa⟩, wf⟩ := id hB
    obtain ⟨kB, aB, aS, aP⟩ := T.brd
    obtain ⟨xs, hx, lx⟩ := hsa.len
    obtain ⟨ys, hy, ly⟩ := hpa.len
    refine ⟨_, (pss_one (ps_ret (pe_lst (pa_cons (pe_callB call_len_seq (by rfl) T.z_len PySem.boot_len (pa_cons (pe_fld (pv 0) rfl) pa_nil)) (pa_cons (pe_callB call_len_seq (by rfl) T.z_len PySem.boot_len (pa_cons (pe_fld (pv 0) rfl) pa_nil)) pa_nil))))), ?_⟩
    walk_at "sig"
    refine ⟨_, _, rfl, .inr hx, ?_⟩
    walk_at "sig"
    refine ⟨_, _, rfl, .inr hy, ?_⟩
    refine k.says d_state hB (Same.refl _) ?_ (by show 2 ≤ sizeLine; decide)
    rw [lx, ly]
    show [V.int (A.now.l.length : Int), V.int ((A.past.map fun n => n.l).length : Int)] = _
    rw [List.length_map]
    rfl)
theorem ok_tell_own_of_point (D : Df K mg "tell_own_of_point" s_tell_own_of_point p_tell_own_of_point f fd) (C_side_of : Kept P w K mg base 5 "side_of" p_side_of (spSide K C_Station)) (C_own_time : Kept P w K mg base 6 "own_time" p_own_time (spOwnPt (fun s p => (s.own p).1) K C_Station))
    (C_own_place : Kept P w K mg base 6 "own_place" p_own_place (spOwnPt (fun s p => (s.own p).2) K C_Station)) (C_tell_two : Kept P w K mg base 1 "tell_two" p_tell_two (spTellTwo K)) :
    Kept P w K mg base 7 "tell_own_of_point" p_tell_own_of_point (spOwnOf K C_Station) := D.kept (by
  refine D.F.ok sc_tell_own_of_point (fun vs H Q E h => ?_) (fun cdv A0 outer s H vs Q E hr h => ?_)
  · obtain ⟨a, b, s, p, rfl, _⟩ := h
    rfl
  · obtain ⟨a, b, st, p, rfl, hst, ws, hp, sz, k⟩ := h
    refine ⟨_, (pss_one (ps_ret (pe_callQ C_tell_two (hr.mono (by decide)) rfl (pa_cons (pe_callQ C_side_of (hr.mono (by decide)) rfl (pa_cons (pv 0) (pa_cons (pv 1) pa_nil))) (pa_cons (pe_callQ C_own_time (hr.mono (by decide)) rfl (pa_cons (pv 0) (pa_cons (pv 1) pa_nil))) (pa_cons (pe_callQ C_own_place (hr.mono (by decide)) rfl (pa_cons (pv 0) (pa_cons (pv 1) pa_nil))) pa_nil)))))), ?_⟩
    walk_at "sig"
    refine ⟨a, b, st, p, rfl, hst, ws, hp, sz, fun H1 e1 => ?_⟩
    walk_at "sig"
    refine ⟨a, b, st, p, rfl, hst.to e1, ws, hp.to e1, sz, fun H2 p2 e2 g2 => ?_⟩
    walk_at "sig"
    have e12 := e1.trans e2
    refine ⟨a, b, st, p, rfl, hst.to e12, ws, hp.to e12, sz, fun H3 p3 e3 g3 => ?_⟩
    refine ⟨_, p2, p3, _, _, rfl, g2.to e3, g3, fun r hr' => ?_⟩
    have e13 := e12.trans e3
    refine k _ r (e13.trans (same_upd hr')) (e13.free hr') ?_
    rw [upd_same]
    exact congrArg (fun z => some (HO.lst z)) (row2m (own_red1 ws sz) (own_red2 ws sz)))
theorem ok_tell_hears (D : Df K mg "tell_hears" s_tell_hears p_tell_hears f fd) (T : Txt K mg C_Board C_Station) (C_spot_refusal : Kept P w K mg base 2 "spot_refusal" p_spot_refusal (spSpotRef K C_Board C_Station)) (C_spot_point : Kept P w K mg base 1 "spot_point" p_spot_point (spSpot K))
    (C_heard : Kept P w K mg base 5 "heard" p_heard (spStnPt Kv415.Station.hears K C_Station)) (C_tell_one : Kept P w K mg base 1 "tell_one" p_tell_one (spTellOne K)) : Kept P w K mg base 6 "tell_hears" p_tell_hears (spITX K C_Board C_Station .hears) := D.kept (by
  refine D.F.ok sc_tell_hears (fun vs H Q E h => ?_) (fun cdv A0 outer s H vs Q E hr h => ?_)
  · obtain ⟨a, A, i, t, x, rfl, _⟩ := h
    rfl
  · obtain ⟨a, A, i, t, x, rfl, hB, k⟩ := h
    obtain ⟨⟨dx, sa, pa, ha, hsa, hpa⟩, wf⟩ := id hB
    obtain ⟨kB, aB, aS, aP⟩ := T.brd
    refine ⟨_, (pss_cons (ps_set (i := 4) sc_tell_hears.nd rfl (Or.inl rfl) (pe_callQ C_spot_refusal (hr.mono (by decide)) rfl (pa_cons (pv 0) (pa_cons (pv 1) (pa_cons (pv 2) (pa_cons (pv 3) pa_nil))))))
      (pss_cons (ps_if (pt_cmpR op_ne (pv 4) (pe_const T.c_NONE_DUE) (nomark _))
      (pss_one (ps_ret (pe_lst (pa_cons (pv 4) pa_nil))))
      pss_nil)
      (pss_one (ps_ret (pe_callQ C_tell_one (hr.mono (by decide)) rfl (pa_cons (pe_callQ C_heard (hr.mono (by decide)) rfl (pa_cons (pe_ix ix_tup (pe_fld (pv 0) rfl) (pv 1) (fun _ _ => rfl)) (pa_cons (pe_callQ C_spot_point (hr.mono (by decide)) rfl (pa_cons (pv 2) (pa_cons (pv 3) pa_nil))) pa_nil))) pa_nil)))))), ?_⟩
    walk_at "sig"
    refine ⟨a, Bd.of A, i, t, x, rfl, hB, _, rfl, rfl, _, rfl, ?_⟩
    refine if_cases (fun c => ?_) (fun c => ?_)
    · exact ⟨_, rfl, k.says (spot_refuses rfl (ne_int c)) hB (Same.refl _) rfl one_fits⟩
    obtain ⟨ci, ct⟩ := spotRef0 (is_int c)
    obtain ⟨xs, st, hx, hat, hst⟩ := hsa.get ci
    have ws : Wf (A.now.st i) := wf.get ci
    have zp := spot_sz ct
    walk_at "sig"
    refine ⟨_, _, _, _, rfl, rfl, hx, hat, ?_⟩
    walk_at "sig"
    refine ⟨t, x, rfl, fun H1 p1 e1 g1 => ?_⟩
    refine ⟨st, p1, A.now.st i, _, rfl, hst.to e1, ws, g1, zp.mono (by decide), fun H2 p2 e2 g2 => ?_⟩
    refine ⟨p2, _, rfl, g2, ?_⟩
    exact (k.says (d_hears2 ci ct) hB (e1.trans e2) (row1 (hears_red ws zp.u.pos zp.v.pos)) (by show 3 ≤ sizeLine; decide)).2)
theorem ok_tell_till (D : Df K mg "tell_till" s_tell_till p_tell_till f fd) (T : Txt K mg C_Board C_Station) (C_spot_refusal : Kept P w K mg base 2 "spot_refusal" p_spot_refusal (spSpotRef K C_Board C_Station)) (C_spot_point : Kept P w K mg base 1 "spot_point" p_spot_point (spSpot K))
    (C_heard_of_till : Kept P w K mg base 5 "heard_of_till" p_heard_of_till (spStnPt Kv415.Station.till K C_Station)) (C_tell_one : Kept P w K mg base 1 "tell_one" p_tell_one (spTellOne K)) : Kept P w K mg base 6 "tell_till" p_tell_till (spITX K C_Board C_Station .till) := D.kept (by
  refine D.F.ok sc_tell_till (fun vs H Q E h => ?_) (fun cdv A0 outer s H vs Q E hr h => ?_)
  · obtain ⟨a, A, i, t, x, rfl, _⟩ := h
    rfl
  · obtain ⟨a, A, i, t, x, rfl, hB, k⟩ := h
    obtain ⟨⟨dx, sa, pa, ha, hsa, hpa⟩, wf⟩ := id hB
    obtain ⟨kB, aB, aS, aP⟩ := T.brd
    refine ⟨_, (pss_cons (ps_set (i := 4) sc_tell_till.nd rfl (Or.inl rfl) (pe_callQ C_spot_refusal (hr.mono (by decide)) rfl (pa_cons (pv 0) (pa_cons (pv 1) (pa_cons (pv 2) (pa_cons (pv 3) pa_nil))))))
      (pss_cons (ps_if (pt_cmpR op_ne (pv 4) (pe_const T.c_NONE_DUE) (nomark _))
      (pss_one (ps_ret (pe_lst (pa_cons (pv 4) pa_nil))))
      pss_nil)
      (pss_one (ps_ret (pe_callQ C_tell_one (hr.mono (by decide)) rfl (pa_cons (pe_callQ C_heard_of_till (hr.mono (by decide)) rfl (pa_cons (pe_ix ix_tup (pe_fld (pv 0) rfl) (pv 1) (fun _ _ => rfl)) (pa_cons (pe_callQ C_spot_point (hr.mono (by decide)) rfl (pa_cons (pv 2) (pa_cons (pv 3) pa_nil))) pa_nil))) pa_nil)))))), ?_⟩
    walk_at "sig"
    refine ⟨a, Bd.of A, i, t, x, rfl, hB, _, rfl, rfl, _, rfl, ?_⟩
    refine if_cases (fun c => ?_) (fun c => ?_)
    · exact ⟨_, rfl, k.says (spot_refuses rfl (ne_int c)) hB (Same.refl _) rfl one_fits⟩
    obtain ⟨ci, ct⟩ := spotRef0 (is_int c)
    obtain ⟨xs, st, hx, hat, hst⟩ := hsa.get ci
    have ws : Wf (A.now.st i) := wf.get ci
    have zp := spot_sz ct
    walk_at "sig"
    refine ⟨_, _, _, _, rfl, rfl, hx, hat, ?_⟩
    walk_at "sig"
    refine ⟨t, x, rfl, fun H1 p1 e1 g1 => ?_⟩
    refine ⟨st, p1, A.now.st i, _, rfl, hst.to e1, ws, g1, zp.mono (by decide), fun H2 p2 e2 g2 => ?_⟩
    refine ⟨p2, _, rfl, g2, ?_⟩
    exact (k.says (d_till2 ci ct) hB (e1.trans e2) (row1 (till_red ws zp.u.pos zp.v.pos)) (by show 3 ≤ sizeLine; decide)).2)
theorem ok_tell_own (D : Df K mg "tell_own" s_tell_own p_tell_own f fd) (T : Txt K mg C_Board C_Station) (C_spot_refusal : Kept P w K mg base 2 "spot_refusal" p_spot_refusal (spSpotRef K C_Board C_Station)) (C_spot_point : Kept P w K mg base 1 "spot_point" p_spot_point (spSpot K))
    (C_tell_own_of_point : Kept P w K mg base 7 "tell_own_of_point" p_tell_own_of_point (spOwnOf K C_Station)) : Kept P w K mg base 8 "tell_own" p_tell_own (spITX K C_Board C_Station .own) := D.kept (by
  refine D.F.ok sc_tell_own (fun vs H Q E h => ?_) (fun cdv A0 outer s H vs Q E hr h => ?_)
  · obtain ⟨a, A, i, t, x, rfl, _⟩ := h
    rfl
  · obtain ⟨a, A, i, t, x, rfl, hB, k⟩ := h
    obtain ⟨⟨dx, sa, pa, ha, hsa, hpa⟩, wf⟩ := id hB
    obtain ⟨kB, aB, aS, aP⟩ := T.brd
    refine ⟨_, (pss_cons (ps_set (i := 4) sc_tell_own.nd rfl (Or.inl rfl) (pe_callQ C_spot_refusal (hr.mono (by decide)) rfl (pa_cons (pv 0) (pa_cons (pv 1) (pa_cons (pv 2) (pa_cons (pv 3) pa_nil))))))
      (pss_cons (ps_if (pt_cmpR op_ne (pv 4) (pe_const T.c_NONE_DUE) (nomark _))
      (pss_one (ps_ret (pe_lst (pa_cons (pv 4) pa_nil))))
      pss_nil)
      (pss_one (ps_ret (pe_callQ C_tell_own_of_point (hr.mono (by decide)) rfl (pa_cons (pe_ix ix_tup (pe_fld (pv 0) rfl) (pv 1) (fun _ _ => rfl)) (pa_cons (pe_callQ C_spot_point (hr.mono (by decide)) rfl (pa_cons (pv 2) (pa_cons (pv 3) pa_nil))) pa_nil))))))), ?_⟩
    walk_at "sig"
    refine ⟨a, Bd.of A, i, t, x, rfl, hB, _, rfl, rfl, _, rfl, ?_⟩
    refine if_cases (fun c => ?_) (fun c => ?_)
    · exact ⟨_, rfl, k.says (spot_refuses rfl (ne_int c)) hB (Same.refl _) rfl one_fits⟩
    obtain ⟨ci, ct⟩ := spotRef0 (is_int c)
    obtain ⟨xs, st, hx, hat, hst⟩ := hsa.get ci
    have ws : Wf (A.now.st i) := wf.get ci
    have zp := spot_sz ct
    walk_at "sig"
    refine ⟨_, _, _, _, rfl, rfl, hx, hat, ?_⟩
    walk_at "sig"
    refine ⟨t, x, rfl, fun H1 p1 e1 g1 => ?_⟩
    refine ⟨st, p1, A.now.st i, _, rfl, hst.to e1, ws, g1, zp.mono (by decide), fun H2 p2 e2 n2 g2 => ?_⟩
    exact (k.of (d_own2 ci ct)) H2 p2 (Same.keeps (e1.trans e2)) (hB.to (e1.trans e2)) (e1.free n2) g2)
theorem ok_tell_ownof (D : Df K mg "tell_ownof" s_tell_ownof p_tell_ownof f fd) (T : Txt K mg C_Board C_Station) (C_is_station : Kept P w K mg base 1 "is_station" p_is_station (spIsStation K C_Board C_Station)) (C_clock_refusal : Kept P w K mg base 2 "clock_refusal" p_clock_refusal (spClockRef K C_Board C_Station))
    (C_point_at : Kept P w K mg base 4 "point_at" p_point_at (spPointAt K C_Station)) (C_ratio : Kept P w K mg base 2 "ratio" p_ratio (spRatio K)) (C_tell_own_of_point : Kept P w K mg base 7 "tell_own_of_point" p_tell_own_of_point (spOwnOf K C_Station)) :
    Kept P w K mg base 8 "tell_ownof" p_tell_ownof (spIJT K C_Board C_Station .ownof) := D.kept (by
  refine D.F.ok sc_tell_ownof (fun vs H Q E h => ?_) (fun cdv A0 outer s H vs Q E hr h => ?_)
  · obtain ⟨a, A, i, j, n, d, rfl, _⟩ := h
    rfl
  · obtain ⟨a, A, i, j, n, d, rfl, hB, k⟩ := h
    obtain ⟨⟨dx, sa, pa, ha, hsa, hpa⟩, wf⟩ := id hB
    obtain ⟨kB, aB, aS, aP⟩ := T.brd
    refine ⟨_, (pss_cons (ps_if (pt_not (pt_val (pe_callQ C_is_station (hr.mono (by decide)) rfl (pa_cons (pv 0) (pa_cons (pv 1) pa_nil)))))
      (pss_one (ps_ret (pe_lst (pa_cons (pe_const T.c_NO_STATION) pa_nil))))
      pss_nil)
      (pss_cons (ps_set (i := 5) sc_tell_ownof.nd rfl (Or.inl rfl) (pe_callQ C_clock_refusal (hr.mono (by decide)) rfl (pa_cons (pv 0) (pa_cons (pv 2) (pa_cons (pv 3) (pa_cons (pv 4) pa_nil))))))
      (pss_cons (ps_if (pt_cmpR op_ne (pv 5) (pe_const T.c_NONE_DUE) (nomark _))
      (pss_one (ps_ret (pe_lst (pa_cons (pv 5) pa_nil))))
      pss_nil)
      (pss_one (ps_ret (pe_callQ C_tell_own_of_point (hr.mono (by decide)) rfl (pa_cons (pe_ix ix_tup (pe_fld (pv 0) rfl) (pv 1) (fun _ _ => rfl)) (pa_cons (pe_callQ C_point_at (hr.mono (by decide)) rfl (pa_cons (pe_ix ix_tup (pe_fld (pv 0) rfl) (pv 2) (fun _ _ => rfl)) (pa_cons (pe_callQ C_ratio (hr.mono (by decide)) rfl (pa_cons (pv 3) (pa_cons (pv 4) pa_nil))) pa_nil))) pa_nil)))))))), ?_⟩
    walk_at "sig"
    refine ⟨a, Bd.of A, i, rfl, hB, _, rfl, ?_⟩
    refine if_cases (fun c => ?_) (fun c => ?_)
    · exact k.says (d_ownof0 fun z => of_decide_eq_false (p := i < (Bd.of A).now.length) (not_t c) z.1) hB (Same.refl _) rfl one_fits
    have ci : i < A.now.l.length := of_decide_eq_true (p := i < (Bd.of A).now.length) (not_f c)
    walk_at "sig"
    refine ⟨a, Bd.of A, j, n, d, rfl, hB, _, rfl, rfl, _, rfl, ?_⟩
    refine if_cases (fun c => ?_) (fun c => ?_)
    · exact ⟨_, rfl, k.says (ownof_refuses ci (ne_int c)) hB (Same.refl _) rfl one_fits⟩
    obtain ⟨cj, ct⟩ := clockRef0 (is_int c)
    obtain ⟨hn, hd⟩ := okT_iff.mp ct
    obtain ⟨xs, si, hx, hat, hsi⟩ := hsa.get ci
    obtain ⟨ys, sj, hy, hbt, hsj⟩ := hsa.get cj
    have wi : Wf (A.now.st i) := wf.get ci
    have wj : Wf (A.now.st j) := wf.get cj
    have sq : Sz 10 (Kv415.t_ n d) := clock_sz hn hd
    walk_at "sig"
    refine ⟨_, _, _, _, rfl, rfl, hx, hat, ?_⟩
    walk_at "sig"
    refine ⟨_, _, _, _, rfl, rfl, hy, hbt, ?_⟩
    walk_at "sig"
    refine ⟨n, d, rfl, hd.1, lt_pow (i := 7) (by show d < 128; omega) (by decide), fun H1 p1 e1 g1 => ?_⟩
    refine ⟨sj, p1, A.now.st j, Kv415.t_ n d, rfl, hsj.to e1, wj, g1, sq.mono (by decide), fun H2 p2 e2 g2 => ?_⟩
    have e12 := e1.trans e2
    refine ⟨si, p2, A.now.st i, _, rfl, hsi.to e12, wi, g2, (at_sz wj sq).mono (by decide), fun H3 p3 e3 n3 g3 => ?_⟩
    exact (k.of (d_ownof2 ⟨ci, cj⟩ ct)) H3 p3 (Same.keeps (e12.trans e3)) (hB.to (e12.trans e3)) (e12.free n3) g3)
theorem ok_tell_closing (D : Df K mg "tell_closing" s_tell_closing p_tell_closing f fd) (T : Txt K mg C_Board C_Station) (C_pair_refusal : Kept P w K mg base 2 "pair_refusal" p_pair_refusal (spPairRef K C_Board C_Station))
    (C_speed_of : Kept P w K mg base 3 "speed_of" p_speed_of (spSpeed K C_Station)) (C_tell_one : Kept P w K mg base 1 "tell_one" p_tell_one (spTellOne K)) :
    Kept P w K mg base 4 "tell_closing" p_tell_closing (spIJ K C_Board C_Station .closing) := D.kept (by
  refine D.F.ok sc_tell_closing (fun vs H Q E h => ?_) (fun cdv A0 outer s H vs Q E hr h => ?_)
  · obtain ⟨a, A, i, j, rfl, _⟩ := h
    rfl
  · obtain ⟨a, A, i, j, rfl, hB, k⟩ := h
    obtain ⟨⟨dx, sa, pa, ha, hsa, hpa⟩, wf⟩ := id hB
    obtain ⟨kB, aB, aS, aP⟩ := T.brd
    refine ⟨_, (pss_cons (ps_set (i := 3) sc_tell_closing.nd rfl (Or.inl rfl) (pe_callQ C_pair_refusal (hr.mono (by decide)) rfl (pa_cons (pv 0) (pa_cons (pv 1) (pa_cons (pv 2) pa_nil)))))
      (pss_cons (ps_if (pt_cmpR op_ne (pv 3) (pe_const T.c_NONE_DUE) (nomark _))
      (pss_one (ps_ret (pe_lst (pa_cons (pv 3) pa_nil))))
      pss_nil)
      (pss_one (ps_ret (pe_callQ C_tell_one (hr.mono (by decide)) rfl (pa_cons (pe_callQ C_speed_of (hr.mono (by decide)) rfl (pa_cons (pe_ix ix_tup (pe_fld (pv 0) rfl) (pv 1) (fun _ _ => rfl)) (pa_cons (pe_ix ix_tup (pe_fld (pv 0) rfl) (pv 2) (fun _ _ => rfl)) pa_nil))) pa_nil)))))), ?_⟩
    walk_at "sig"
    refine ⟨a, Bd.of A, i, j, rfl, hB, _, rfl, rfl, _, rfl, ?_⟩
    refine if_cases (fun c => ?_) (fun c => ?_)
    · exact ⟨_, rfl, k.says (pair_refuses rfl (ne_int c)) hB (Same.refl _) rfl one_fits⟩
    obtain ⟨cij, ne⟩ := pairRef0 (is_int c)
    obtain ⟨xs, si, hx, hat, hsi⟩ := hsa.get cij.1
    obtain ⟨ys, sj, hy, hbt, hsj⟩ := hsa.get cij.2
    have wi : Wf (A.now.st i) := wf.get cij.1
    have wj : Wf (A.now.st j) := wf.get cij.2
    walk_at "sig"
    refine ⟨_, _, _, _, rfl, rfl, hx, hat, ?_⟩
    walk_at "sig"
    refine ⟨_, _, _, _, rfl, rfl, hy, hbt, ?_⟩
    refine ⟨si, sj, A.now.st i, A.now.st j, rfl, hsi, hsj, wi, wj, fun H1 p1 e1 g1 => ?_⟩
    refine ⟨p1, _, rfl, g1, ?_⟩
    exact (k.says (d_closing2 cij ne) hB e1 (row1 (speed_is wi wj).1) (by show 3 ≤ sizeLine; decide)).2)
theorem ok_tell_meet (D : Df K mg "tell_meet" s_tell_meet p_tell_meet f fd) (T : Txt K mg C_Board C_Station) (C_pair_refusal : Kept P w K mg base 2 "pair_refusal" p_pair_refusal (spPairRef K C_Board C_Station)) (C_same_factor : Kept P w K mg base 1 "same_factor" p_same_factor (spSame C_Station))
    (C_meeting_clock : Kept P w K mg base 5 "meeting_clock" p_meeting_clock (spMeetC K C_Station)) (C_arrival : Kept P w K mg base 6 "arrival" p_arrival (spArrival K C_Station)) (C_tell_two : Kept P w K mg base 1 "tell_two" p_tell_two (spTellTwo K)) :
    Kept P w K mg base 7 "tell_meet" p_tell_meet (spIJ K C_Board C_Station .meet) := D.kept (by
  refine D.F.ok sc_tell_meet (fun vs H Q E h => ?_) (fun cdv A0 outer s H vs Q E hr h => ?_)
  · obtain ⟨a, A, i, j, rfl, _⟩ := h
    rfl
  · obtain ⟨a, A, i, j, rfl, hB, k⟩ := h
    obtain ⟨⟨dx, sa, pa, ha, hsa, hpa⟩, wf⟩ := id hB
    obtain ⟨kB, aB, aS, aP⟩ := T.brd
    refine ⟨_, (pss_cons (ps_set (i := 3) sc_tell_meet.nd rfl (Or.inl rfl) (pe_callQ C_pair_refusal (hr.mono (by decide)) rfl (pa_cons (pv 0) (pa_cons (pv 1) (pa_cons (pv 2) pa_nil)))))
      (pss_cons (ps_if (pt_cmpR op_ne (pv 3) (pe_const T.c_NONE_DUE) (nomark _))
      (pss_one (ps_ret (pe_lst (pa_cons (pv 3) pa_nil))))
      pss_nil)
      (pss_cons (ps_set (i := 4) sc_tell_meet.nd rfl (Or.inl rfl) (pe_ix ix_tup (pe_fld (pv 0) rfl) (pv 1) (fun _ _ => rfl)))
      (pss_cons (ps_set (i := 5) sc_tell_meet.nd rfl (Or.inl rfl) (pe_ix ix_tup (pe_fld (pv 0) rfl) (pv 2) (fun _ _ => rfl)))
      (pss_cons (ps_if (pt_val (pe_callQ C_same_factor (hr.mono (by decide)) rfl (pa_cons (pv 4) (pa_cons (pv 5) pa_nil))))
      (pss_one (ps_ret (pe_lst (pa_cons (pe_const T.c_THERE_IS_NONE) pa_nil))))
      pss_nil)
      (pss_cons (ps_set (i := 6) sc_tell_meet.nd rfl (Or.inl rfl) (pe_callQ C_meeting_clock (hr.mono (by decide)) rfl (pa_cons (pv 4) (pa_cons (pv 5) pa_nil))))
      (pss_one (ps_ret (pe_callQ C_tell_two (hr.mono (by decide)) rfl (pa_cons pe_int (pa_cons (pv 6) (pa_cons (pe_callQ C_arrival (hr.mono (by decide)) rfl (pa_cons (pv 4) (pa_cons (pv 5) (pa_cons (pv 6) pa_nil)))) pa_nil)))))))))))), ?_⟩
    walk_at "sig"
    refine ⟨a, Bd.of A, i, j, rfl, hB, _, rfl, rfl, _, rfl, ?_⟩
    refine if_cases (fun c => ?_) (fun c => ?_)
    · exact ⟨_, rfl, k.says (pair_refuses (X := match A.now.meets i j with | none => (A, Kv415.say (-33)) | some z => (A, ⟨0, z.1.told ++ z.2.told⟩)) rfl (ne_int c)) hB (Same.refl _) rfl one_fits⟩
    obtain ⟨cij, ne⟩ := pairRef0 (is_int c)
    obtain ⟨xs, si, hx, hat, hsi⟩ := hsa.get cij.1
    obtain ⟨ys, sj, hy, hbt, hsj⟩ := hsa.get cij.2
    have wi : Wf (A.now.st i) := wf.get cij.1
    have wj : Wf (A.now.st j) := wf.get cij.2
    walk_at "sig"
    refine ⟨_, _, _, _, rfl, rfl, hx, hat, ?_⟩
    walk_at "sig"
    refine ⟨_, _, _, _, rfl, rfl, hy, hbt, ?_⟩
    walk_at "sig"
    refine ⟨si, sj, A.now.st i, A.now.st j, rfl, hsi, hsj, _, rfl, ?_⟩
    refine if_cases (fun c => ?_) (fun c => ?_)
    · exact k.says (d_meet2 cij ne (meets_none wi wj (of_decide_eq_true c))) hB (Same.refl _) rfl one_fits
    have nk : ¬ (A.now.st i).k = (A.now.st j).k := of_decide_eq_false c
    walk_at "sig"
    refine ⟨si, sj, A.now.st i, A.now.st j, rfl, hsi, hsj, wi, wj, nk, fun H1 p1 e1 g1 => ?_⟩
    have sm := meetC_sz wi wj nk
    walk_at "sig"
    refine ⟨si, sj, p1, A.now.st i, A.now.st j, _, rfl, hsi.to e1, wi, hsj.to e1, wj, g1, sm.mono (by decide), fun H2 p2 e2 g2 => ?_⟩
    refine ⟨0, p1, p2, _, _, rfl, g1.to e2, g2, ?_⟩
    exact (k.says (d_meet3 cij ne (meets_are wi wj nk)) hB (e1.trans e2) (row2 (meetC_red wi wj nk) (hop_red wi wj sm.pos)) (by show 5 ≤ sizeLine; decide)).2)
/-- the stations of a row -/
theorem row_sts {H : Hp} {as : List Addr} {l : List Stn} (h2 : Two (StAt C_Station H) as l) : ∀ (r : List Nat), r.any (fun i => decide (l.length ≤ i)) = false → ∃ bs : List Addr, Two (StAt C_Station H) bs (r.map fun i => l.getD i ⟨⟨0, 0⟩, ⟨1, 1⟩⟩) ∧ bs.length = r.length ∧ ∀ k j : Nat, r[k]? = some j → ∃ b, bs[k]? = some b ∧ as[j]? = some b
  | [], _ => ⟨[], .nil, rfl, fun k j h => by cases h⟩
  | i :: r, h => by
    rw [List.any_cons, Bool.or_eq_false_iff] at h
    have hi : i < l.length := by
      have := of_decide_eq_false h.1
      omega
    obtain ⟨bs, t, e, g⟩ := row_sts h2 r h.2
    obtain ⟨b, s, g1, g2, g3⟩ := h2.get hi
    refine ⟨b :: bs, ?_, congrArg (· + 1) e, fun k j hk => ?_⟩
    · refine .cons ?_ t
      show StAt C_Station H b (l.getD i ⟨⟨0, 0⟩, ⟨1, 1⟩⟩)
      rw [List.getD_eq_getElem?_getD, g2]
      exact g3
    · cases k with
      | zero =>
        have hk : some i = some j := hk
        cases hk
        exact ⟨b, rfl, g1⟩
      | succ k => exact g k j hk
theorem ok_tell_relay (D : Df K mg "tell_relay" s_tell_relay p_tell_relay f fd) (T : Txt K mg C_Board C_Station) (C_row_refusal : Kept P w K mg base 2 "row_refusal" p_row_refusal (spRowRef K C_Board C_Station))
    (C_arrival_along : Kept P w K mg base 7 "arrival_along" p_arrival_along (spAlong K C_Station)) (C_ratio : Kept P w K mg base 2 "ratio" p_ratio (spRatio K)) (C_tell_one : Kept P w K mg base 1 "tell_one" p_tell_one (spTellOne K)) :
    Kept P w K mg base 8 "tell_relay" p_tell_relay (spRow K C_Board C_Station .relay) := D.kept (by
  refine D.F.ok sc_tell_relay (fun vs H Q E h => ?_) (fun cdv A0 outer s H vs Q E hr h => ?_)
  · obtain ⟨a, b, A, l, n, d, rfl, _⟩ := h
    rfl
  · obtain ⟨a, b, A, l, n, d, rfl, hB, hbH, l12, k⟩ := h
    have hb : SqL K H b ((ofNats l).map V.int) := SqL.of hbH
    obtain ⟨⟨dx, sa, pa, ha, hsa, hpa⟩, wf⟩ := id hB
    obtain ⟨kB, aB, aS, aP⟩ := T.brd
    obtain ⟨as, h1, h2⟩ := hsa.ex
    refine ⟨_, (pss_cons (ps_set (i := 4) sc_tell_relay.nd rfl (Or.inl rfl) (pe_callQ C_row_refusal (hr.mono (by decide)) rfl (pa_cons (pv 0) (pa_cons (pv 1) (pa_cons (pv 2) (pa_cons (pv 3) pa_nil))))))
      (pss_cons (ps_if (pt_cmpR op_ne (pv 4) (pe_const T.c_NONE_DUE) (nomark _))
      (pss_one (ps_ret (pe_lst (pa_cons (pv 4) pa_nil))))
      pss_nil)
      (pss_one (ps_ret (pe_callQ C_tell_one (hr.mono (by decide)) rfl (pa_cons (pe_callQ C_arrival_along (hr.mono (by decide)) rfl (pa_cons (pe_lc (own := [("i", 5)]) (g := gName 5) (tt := tYes) (te := (tOp (rIxT K) (tFld K (tVar 0) "stations") (tVar 5))) rfl sc_tell_relay.nd (pi_list (pv 1)) (blkOk_by (N := n_tell_relay) (sc := defScope s_tell_relay) (by decide +kernel)) (fun _ _ _ _ _ => pg_name (i := 5) sc_tell_relay.nd rfl (Or.inl rfl)) (fun _ _ _ _ _ => pts_nil) (fun _ _ _ _ _ => (pe_ix ix_tup (pe_fld (pv 0) rfl) (pv 5) (fun _ _ => rfl)))) (pa_cons (pe_callQ C_ratio (hr.mono (by decide)) rfl (pa_cons (pv 2) (pa_cons (pv 3) pa_nil))) pa_nil))) pa_nil)))))), ?_⟩
    walk_at "sig"
    refine ⟨a, b, Bd.of A, l, n, d, rfl, hB, hb, _, rfl, rfl, _, rfl, ?_⟩
    refine if_cases (fun c => ?_) (fun c => ?_)
    · exact ⟨_, rfl, k.says (row_refuses rfl (ne_int c)) hB (Same.refl _) rfl one_fits⟩
    obtain ⟨ca, cl⟩ := rowRef0 (is_int c)
    have ct : Kv415.okT n d = true := by
      cases e : Kv415.okT n d with
      | true => rfl
      | false => exact absurd (.inr (.inr e)) cl
    obtain ⟨hn, hd⟩ := okT_iff.mp ct
    have l2 : 2 ≤ l.length ∧ l.length ≤ 6 := by
      constructor
      · exact Nat.le_of_not_lt fun z => cl (.inl z)
      · exact Nat.le_of_not_lt fun z => cl (.inr (.inl z))
    have sq : Sz 10 (Kv415.t_ n d) := clock_sz hn hd
    have jn : ∀ j ∈ l, j < A.now.l.length := fun j hj => by
      have q := of_decide_eq_false (by simpa using List.any_eq_false.mp ca j hj : decide ((Bd.of A).now.length ≤ j) = false)
      have q : ¬ A.now.l.length ≤ j := q
      omega
    have s0 : Same H H := Same.refl _
    have hb0 := hb
    let H0 := H
    obtain ⟨bs, tb, lb, gb⟩ := row_sts h2 l ca
    refine ⟨_, rfl, b, rfl, ⟨_, hb⟩, fun L nL => ?_⟩
    refine lc_list (K := K) (xs := (ofNats l).map V.int) (fun i H' => Same H0 H' ∧ H' L = some (.lst ((bs.take i).map V.ref))) ⟨same_upd nL, upd_same⟩ (fun i H' _ z => z.1.seq hb0) (fun i x H' hx z => ?_) (fun H1 z => ?_)
    · obtain ⟨j, hj, rfl⟩ := nats_at hx
      obtain ⟨p, e1, e2⟩ := gb i j hj
      have hil : i < bs.length := (List.getElem?_eq_some_iff.mp e1).1
      have a1 := z.1 _ _ (s0 _ _ ha)
      have a2 := same_tup (s0.trans z.1) h1
      refine ⟨rfl, ?_⟩
      walk_at "sig"
      refine ⟨_, _, _, _, rfl, rfl, a2, atI_nat (j := j) (by rw [List.getElem?_map, e2]; rfl), ?_⟩
      refine ⟨_, z.2, ?_, ?_, ?_⟩
      · rw [List.length_map, List.length_take]
        exact Nat.lt_of_le_of_lt (show min i bs.length ≤ 12 by omega) (by decide)
      · intro y u h
        rw [upd_ne (ne_of_none h nL)]
        exact z.1 _ _ h
      · rw [upd_same, List.take_add_one, e1, List.map_append]
        rfl
    · have q := z.2
      rw [nats_len, ← lb, List.take_length] at q
      have e01 := s0.trans z.1
      walk_at "sig"
      refine ⟨n, d, rfl, hd.1, lt_pow (i := 7) (by show d < 128; omega) (by decide), fun H2 p2 e2 g2 => ?_⟩
      have e02 := e01.trans e2
      refine ⟨L, p2, bs, _, _, rfl, SqL.of (e2 _ _ q), tb.mono fun _ _ r => r.to e02, ?_, ?_, ?_, g2, sq, fun H3 p3 e3 g3 => ?_⟩
      · intro s hs
        obtain ⟨j, hj, rfl⟩ := List.mem_map.mp hs
        exact wf.get (jn j hj)
      · rw [List.length_map]
        omega
      · rw [List.length_map]
        omega
      · refine ⟨p3, _, rfl, g3, ?_⟩
        refine (k.says (d_relay2 ca cl) hB (e02.trans e3) ?_ (by show 3 ≤ sizeLine; decide)).2
        rw [along_chain]
        exact row1 (along_red _ _ (fun s hs => by obtain ⟨j, hj, rfl⟩ := List.mem_map.mp hs; exact wf.get (jn j hj)) (clock_red hd.1)))
theorem ok_tell_round (D : Df K mg "tell_round" s_tell_round p_tell_round f fd) (T : Txt K mg C_Board C_Station) (C_row_refusal : Kept P w K mg base 2 "row_refusal" p_row_refusal (spRowRef K C_Board C_Station))
    (C_arrival_along : Kept P w K mg base 7 "arrival_along" p_arrival_along (spAlong K C_Station)) (C_ratio : Kept P w K mg base 2 "ratio" p_ratio (spRatio K)) (C_tell_one : Kept P w K mg base 1 "tell_one" p_tell_one (spTellOne K)) :
    Kept P w K mg base 8 "tell_round" p_tell_round (spRow K C_Board C_Station .round) := D.kept (by
  refine D.F.ok sc_tell_round (fun vs H Q E h => ?_) (fun cdv A0 outer s H vs Q E hr h => ?_)
  · obtain ⟨a, b, A, l, n, d, rfl, _⟩ := h
    rfl
  · obtain ⟨a, b, A, l, n, d, rfl, hB, hbH, l12, k⟩ := h
    have hb : SqL K H b ((ofNats l).map V.int) := SqL.of hbH
    obtain ⟨⟨dx, sa, pa, ha, hsa, hpa⟩, wf⟩ := id hB
    obtain ⟨kB, aB, aS, aP⟩ := T.brd
    obtain ⟨as, h1, h2⟩ := hsa.ex
    refine ⟨_, (pss_cons (ps_set (i := 4) sc_tell_round.nd rfl (Or.inl rfl) (pe_callQ C_row_refusal (hr.mono (by decide)) rfl (pa_cons (pv 0) (pa_cons (pv 1) (pa_cons (pv 2) (pa_cons (pv 3) pa_nil))))))
      (pss_cons (ps_if (pt_cmpR op_ne (pv 4) (pe_const T.c_NONE_DUE) (nomark _))
      (pss_one (ps_ret (pe_lst (pa_cons (pv 4) pa_nil))))
      pss_nil)
      (pss_cons (ps_set (i := 5) sc_tell_round.nd rfl (Or.inl rfl) (pe_op op_cat (pv 1) (pe_lst (pa_cons (pe_ix ix_list (pv 1) pe_int (fun _ _ => rfl)) pa_nil))))
      (pss_one (ps_ret (pe_callQ C_tell_one (hr.mono (by decide)) rfl (pa_cons (pe_callQ C_arrival_along (hr.mono (by decide)) rfl (pa_cons (pe_lc (own := [("i", 6)]) (g := gName 6) (tt := tYes) (te := (tOp (rIxT K) (tFld K (tVar 0) "stations") (tVar 6))) rfl sc_tell_round.nd (pi_list (pv 5)) (blkOk_by (N := n_tell_round) (sc := defScope s_tell_round) (by decide +kernel)) (fun _ _ _ _ _ => pg_name (i := 6) sc_tell_round.nd rfl (Or.inl rfl)) (fun _ _ _ _ _ => pts_nil) (fun _ _ _ _ _ => (pe_ix ix_tup (pe_fld (pv 0) rfl) (pv 6) (fun _ _ => rfl)))) (pa_cons (pe_callQ C_ratio (hr.mono (by decide)) rfl (pa_cons (pv 2) (pa_cons (pv 3) pa_nil))) pa_nil))) pa_nil))))))), ?_⟩
    walk_at "sig"
    refine ⟨a, b, Bd.of A, l, n, d, rfl, hB, hb, _, rfl, rfl, _, rfl, ?_⟩
    refine if_cases (fun c => ?_) (fun c => ?_)
    · exact ⟨_, rfl, k.says (row_refuses rfl (ne_int c)) hB (Same.refl _) rfl one_fits⟩
    obtain ⟨ca, cl⟩ := rowRef0 (is_int c)
    have ct : Kv415.okT n d = true := by
      cases e : Kv415.okT n d with
      | true => rfl
      | false => exact absurd (.inr (.inr e)) cl
    obtain ⟨hn, hd⟩ := okT_iff.mp ct
    have l2 : 2 ≤ l.length ∧ l.length ≤ 6 := by
      constructor
      · exact Nat.le_of_not_lt fun z => cl (.inl z)
      · exact Nat.le_of_not_lt fun z => cl (.inr (.inl z))
    have sq : Sz 10 (Kv415.t_ n d) := clock_sz hn hd
    obtain ⟨i0, r0, rfl⟩ : ∃ i0 r0, l = i0 :: r0 := by
      cases l with
      | nil => exact absurd l2.1 (by decide)
      | cons i0 r0 => exact ⟨i0, r0, rfl⟩
    refine ⟨_, rfl, _, rfl, _, _, _, _, rfl, rfl, hb, atI_nat (j := 0) rfl, (by show 1 ≤ sizeLine; decide), fun q0 nq0 => ?_⟩
    have s1 := same_upd (o := HO.lst [.int (Int.ofNat i0)]) nq0
    refine ⟨b, q0, _, _, rfl, rfl, s1 _ _ hbH, upd_same, ?_, fun b1 nb1 => ?_⟩
    · rw [nats_len]
      exact Nat.le_trans (show (i0 :: r0).length + 1 ≤ 13 by omega) (by decide)
    have e0 : (ofNats (i0 :: r0)).map V.int ++ [V.int (Int.ofNat i0)] = (ofNats ((i0 :: r0) ++ [i0])).map V.int := by
      unfold ofNats
      rw [List.map_append, List.map_append]
      rfl
    rw [show List.map V.int (ofNats (i0 :: r0)) ++ [V.int (Int.ofNat i0)] = _ from e0]
    have s2 := same_upd (o := HO.lst ((ofNats ((i0 :: r0) ++ [i0])).map V.int)) nb1
    have s0 := s1.trans s2
    generalize hH0 : upd (upd H q0 (HO.lst [.int (Int.ofNat i0)])) b1 (HO.lst ((ofNats ((i0 :: r0) ++ [i0])).map V.int)) = H0 at *
    have hb0 : SqL K H0 b1 ((ofNats ((i0 :: r0) ++ [i0])).map V.int) := by
      rw [← hH0]
      exact SqL.of upd_same
    have jn0 : ∀ j ∈ i0 :: r0, j < A.now.l.length := fun j hj => by
      have q := of_decide_eq_false (by simpa using List.any_eq_false.mp ca j hj : decide ((Bd.of A).now.length ≤ j) = false)
      have q : ¬ A.now.l.length ≤ j := q
      omega
    have jn : ∀ j ∈ (i0 :: r0) ++ [i0], j < A.now.l.length := fun j hj => by
      rcases List.mem_append.mp hj with h | h
      · exact jn0 j h
      · rw [List.mem_singleton.mp h]
        exact jn0 i0 (.head _)
    have ca2 : ((i0 :: r0) ++ [i0]).any (fun i => decide (A.now.l.length ≤ i)) = false := List.any_eq_false.mpr fun j hj => by
      have := jn j hj
      simp
      omega
    have ll : ((i0 :: r0) ++ [i0]).length ≤ 7 := by
      rw [List.length_append, List.length_singleton]
      omega
    have lp : 0 < ((i0 :: r0) ++ [i0]).length := by
      rw [List.length_append, List.length_singleton]
      omega
    obtain ⟨bs, tb, lb, gb⟩ := row_sts h2 ((i0 :: r0) ++ [i0]) ca2
    refine ⟨_, rfl, b1, rfl, ⟨_, hb0⟩, fun L nL => ?_⟩
    refine lc_list (K := K) (xs := (ofNats ((i0 :: r0) ++ [i0])).map V.int) (fun i H' => Same H0 H' ∧ H' L = some (.lst ((bs.take i).map V.ref))) ⟨same_upd nL, upd_same⟩ (fun i H' _ z => z.1.seq hb0) (fun i x H' hx z => ?_) (fun H1 z => ?_)
    · obtain ⟨j, hj, rfl⟩ := nats_at hx
      obtain ⟨p, e1, e2⟩ := gb i j hj
      have hil : i < bs.length := (List.getElem?_eq_some_iff.mp e1).1
      have a1 := z.1 _ _ (s0 _ _ ha)
      have a2 := same_tup (s0.trans z.1) h1
      refine ⟨rfl, ?_⟩
      walk_at "sig"
      refine ⟨_, _, _, _, rfl, rfl, a2, atI_nat (j := j) (by rw [List.getElem?_map, e2]; rfl), ?_⟩
      refine ⟨_, z.2, ?_, ?_, ?_⟩
      · rw [List.length_map, List.length_take]
        exact Nat.lt_of_le_of_lt (show min i bs.length ≤ 12 by omega) (by decide)
      · intro y u h
        rw [upd_ne (ne_of_none h nL)]
        exact z.1 _ _ h
      · rw [upd_same, List.take_add_one, e1, List.map_append]
        rfl
    · have q := z.2
      rw [nats_len, ← lb, List.take_length] at q
      have e01 := s0.trans z.1
      walk_at "sig"
      refine ⟨n, d, rfl, hd.1, lt_pow (i := 7) (by show d < 128; omega) (by decide), fun H2 p2 e2 g2 => ?_⟩
      have e02 := e01.trans e2
      refine ⟨L, p2, bs, _, _, rfl, SqL.of (e2 _ _ q), tb.mono fun _ _ r => r.to e02, ?_, ?_, ?_, g2, sq, fun H3 p3 e3 g3 => ?_⟩
      · intro s hs
        obtain ⟨j, hj, rfl⟩ := List.mem_map.mp hs
        exact wf.get (jn j hj)
      · rw [List.length_map]
        omega
      · rw [List.length_map]
        omega
      · refine ⟨p3, _, rfl, g3, ?_⟩
        refine (k.says (d_round2 ca cl) hB (e02.trans e3) ?_ (by show 3 ≤ sizeLine; decide)).2
        rw [along_chain]
        exact row1 (along_red _ _ (fun s hs => by obtain ⟨j, hj, rfl⟩ := List.mem_map.mp hs; exact wf.get (jn j hj)) (clock_red hd.1)))
end
end Sig
set_option linter.all false
set_option maxRecDepth 100000
set_option maxHeartbeats 4000000
/-! How calls stand in the list: each call by its number and what is given. -/
namespace Sig
open Kv415
/-- the call C is told by the number p and the numbers g behind it -/
inductive Cmd : Int → List Int → Call → Prop
  | begin_ : Cmd 0 [] .begin_
  | station (t x : Int) (p q : Nat) : Cmd 1 [t, x, p, q] (.station t x p q)
  | drop (i : Nat) : Cmd 2 [(i : Int)] (.drop i)
  | move (i p q : Nat) : Cmd 3 [(i : Int), (p : Int), (q : Int)] (.move i p q)
  | set (i : Nat) (t x : Int) : Cmd 4 [(i : Int), t, x] (.set i t x)
  | is (i : Nat) : Cmd 5 [(i : Int)] (.is i)
  | at_ (i : Nat) (n : Int) (d : Nat) : Cmd 6 [(i : Int), n, (d : Int)] (.at_ i n d)
  | send (i j : Nat) (n : Int) (d : Nat) : Cmd 7 [(i : Int), (j : Int), n, (d : Int)] (.send i j n d)
  | echo (i j : Nat) (n : Int) (d : Nat) : Cmd 8 [(i : Int), (j : Int), n, (d : Int)] (.echo i j n d)
  | ticks (i j : Nat) (n : Int) (d : Nat) : Cmd 9 [(i : Int), (j : Int), n, (d : Int)] (.ticks i j n d)
  | hears (i : Nat) (t x : Int) : Cmd 10 [(i : Int), t, x] (.hears i t x)
  | till (i : Nat) (t x : Int) : Cmd 11 [(i : Int), t, x] (.till i t x)
  | own (i : Nat) (t x : Int) : Cmd 12 [(i : Int), t, x] (.own i t x)
  | ownof (i j : Nat) (n : Int) (d : Nat) : Cmd 13 [(i : Int), (j : Int), n, (d : Int)] (.ownof i j n d)
  | meet (i j : Nat) : Cmd 14 [(i : Int), (j : Int)] (.meet i j)
  | relay (l : List Nat) (n : Int) (d : Nat) (h : l.length ≤ 12) : Cmd 15 (n :: (d : Int) :: (l.length : Int) :: ofNats l) (.relay l n d)
  | round (l : List Nat) (n : Int) (d : Nat) (h : l.length ≤ 12) : Cmd 16 (n :: (d : Int) :: (l.length : Int) :: ofNats l) (.round l n d)
  | closing (i j : Nat) : Cmd 17 [(i : Int), (j : Int)] (.closing i j)
  | back : Cmd 18 [] .back
  | state : Cmd 19 [] .state
/-- the specification's answer to a call, as a row -/
def acts (S : State) (C : Call) : State × List Int := ((act S C).1, Kv415Neutral.row (act S C).2)
theorem len1 {a : List Int} (h : a.length = 1) : ∃ x, a = [x] := match a, h with
  | [x], _ => ⟨x, rfl⟩
theorem len2 {a : List Int} (h : a.length = 2) : ∃ x y, a = [x, y] := match a, h with
  | [x, y], _ => ⟨x, y, rfl⟩
theorem len3 {a : List Int} (h : a.length = 3) : ∃ x y z, a = [x, y, z] := match a, h with
  | [x, y, z], _ => ⟨x, y, z, rfl⟩
theorem len4 {a : List Int} (h : a.length = 4) : ∃ x y z u, a = [x, y, z, u] := match a, h with
  | [x, y, z, u], _ => ⟨x, y, z, u, rfl⟩
theorem rows0 {a : List (List Int)} (h : a.length = 0) : a = [] := List.eq_nil_of_length_eq_zero h
theorem rows1 {a : List (List Int)} (h : a.length = 1) : ∃ x, a = [x] := match a, h with
  | [x], _ => ⟨x, rfl⟩
/-- what a place has -/
theorem shape_some {p : Int} {n k : Nat} (h : PyKv415.shape p = some (n, k)) :
    (p = 0 ∧ n = 0 ∧ k = 0) ∨ (p = 1 ∧ n = 4 ∧ k = 0) ∨ (p = 2 ∧ n = 1 ∧ k = 0) ∨ (p = 3 ∧ n = 3 ∧ k = 0) ∨ (p = 4 ∧ n = 3 ∧ k = 0) ∨ (p = 5 ∧ n = 1 ∧ k = 0) ∨ (p = 6 ∧ n = 3 ∧ k = 0) ∨ (p = 7 ∧ n = 4 ∧ k = 0) ∨ (p = 8 ∧ n = 4 ∧ k = 0) ∨ (p = 9 ∧ n = 4 ∧ k = 0) ∨
    (p = 10 ∧ n = 3 ∧ k = 0) ∨ (p = 11 ∧ n = 3 ∧ k = 0) ∨ (p = 12 ∧ n = 3 ∧ k = 0) ∨ (p = 13 ∧ n = 4 ∧ k = 0) ∨ (p = 14 ∧ n = 2 ∧ k = 0) ∨ (p = 15 ∧ n = 2 ∧ k = 1) ∨ (p = 16 ∧ n = 2 ∧ k = 1) ∨ (p = 17 ∧ n = 2 ∧ k = 0) ∨ (p = 18 ∧ n = 0 ∧ k = 0) ∨ (p = 19 ∧ n = 0 ∧ k = 0) := by
  unfold PyKv415.shape at h
  have key : ∀ (c : Int) (v : Nat × Nat) (b : Option (Nat × Nat)), (if p = c then some v else b) = some (n, k) → (p = c ∧ v.1 = n ∧ v.2 = k) ∨ b = some (n, k) := fun c v b q => by
    by_cases e : p = c
    · rw [if_pos e] at q
      cases q
      exact .inl ⟨e, rfl, rfl⟩
    · rw [if_neg e] at q
      exact .inr q
  rcases key _ _ _ h with ⟨e0, e1, e2⟩ | h
  · exact .inl ⟨e0, e1.symm, e2.symm⟩
  rcases key _ _ _ h with ⟨e0, e1, e2⟩ | h
  · exact .inr (.inl ⟨e0, e1.symm, e2.symm⟩)
  rcases key _ _ _ h with ⟨e0, e1, e2⟩ | h
  · exact .inr (.inr (.inl ⟨e0, e1.symm, e2.symm⟩))
  rcases key _ _ _ h with ⟨e0, e1, e2⟩ | h
  · exact .inr (.inr (.inr (.inl ⟨e0, e1.symm, e2.symm⟩)))
  rcases key _ _ _ h with ⟨e0, e1, e2⟩ | h
  · exact .inr (.inr (.inr (.inr (.inl ⟨e0, e1.symm, e2.symm⟩))))
  rcases key _ _ _ h with ⟨e0, e1, e2⟩ | h
  · exact .inr (.inr (.inr (.inr (.inr (.inl ⟨e0, e1.symm, e2.symm⟩)))))
  rcases key _ _ _ h with ⟨e0, e1, e2⟩ | h
  · exact .inr (.inr (.inr (.inr (.inr (.inr (.inl ⟨e0, e1.symm, e2.symm⟩))))))
  rcases key _ _ _ h with ⟨e0, e1, e2⟩ | h
  · exact .inr (.inr (.inr (.inr (.inr (.inr (.inr (.inl ⟨e0, e1.symm, e2.symm⟩)))))))
  rcases key _ _ _ h with ⟨e0, e1, e2⟩ | h
  · exact .inr (.inr (.inr (.inr (.inr (.inr (.inr (.inr (.inl ⟨e0, e1.symm, e2.symm⟩))))))))
  rcases key _ _ _ h with ⟨e0, e1, e2⟩ | h
  · exact .inr (.inr (.inr (.inr (.inr (.inr (.inr (.inr (.inr (.inl ⟨e0, e1.symm, e2.symm⟩)))))))))
  rcases key _ _ _ h with ⟨e0, e1, e2⟩ | h
  · exact .inr (.inr (.inr (.inr (.inr (.inr (.inr (.inr (.inr (.inr (.inl ⟨e0, e1.symm, e2.symm⟩))))))))))
  rcases key _ _ _ h with ⟨e0, e1, e2⟩ | h
  · exact .inr (.inr (.inr (.inr (.inr (.inr (.inr (.inr (.inr (.inr (.inr (.inl ⟨e0, e1.symm, e2.symm⟩)))))))))))
  rcases key _ _ _ h with ⟨e0, e1, e2⟩ | h
  · exact .inr (.inr (.inr (.inr (.inr (.inr (.inr (.inr (.inr (.inr (.inr (.inr (.inl ⟨e0, e1.symm, e2.symm⟩))))))))))))
  rcases key _ _ _ h with ⟨e0, e1, e2⟩ | h
  · exact .inr (.inr (.inr (.inr (.inr (.inr (.inr (.inr (.inr (.inr (.inr (.inr (.inr (.inl ⟨e0, e1.symm, e2.symm⟩)))))))))))))
  rcases key _ _ _ h with ⟨e0, e1, e2⟩ | h
  · exact .inr (.inr (.inr (.inr (.inr (.inr (.inr (.inr (.inr (.inr (.inr (.inr (.inr (.inr (.inl ⟨e0, e1.symm, e2.symm⟩))))))))))))))
  rcases key _ _ _ h with ⟨e0, e1, e2⟩ | h
  · exact .inr (.inr (.inr (.inr (.inr (.inr (.inr (.inr (.inr (.inr (.inr (.inr (.inr (.inr (.inr (.inl ⟨e0, e1.symm, e2.symm⟩)))))))))))))))
  rcases key _ _ _ h with ⟨e0, e1, e2⟩ | h
  · exact .inr (.inr (.inr (.inr (.inr (.inr (.inr (.inr (.inr (.inr (.inr (.inr (.inr (.inr (.inr (.inr (.inl ⟨e0, e1.symm, e2.symm⟩))))))))))))))))
  rcases key _ _ _ h with ⟨e0, e1, e2⟩ | h
  · exact .inr (.inr (.inr (.inr (.inr (.inr (.inr (.inr (.inr (.inr (.inr (.inr (.inr (.inr (.inr (.inr (.inr (.inl ⟨e0, e1.symm, e2.symm⟩)))))))))))))))))
  rcases key _ _ _ h with ⟨e0, e1, e2⟩ | h
  · exact .inr (.inr (.inr (.inr (.inr (.inr (.inr (.inr (.inr (.inr (.inr (.inr (.inr (.inr (.inr (.inr (.inr (.inr (.inl ⟨e0, e1.symm, e2.symm⟩))))))))))))))))))
  rcases key _ _ _ h with ⟨e0, e1, e2⟩ | h
  · exact .inr (.inr (.inr (.inr (.inr (.inr (.inr (.inr (.inr (.inr (.inr (.inr (.inr (.inr (.inr (.inr (.inr (.inr (.inr (⟨e0, e1.symm, e2.symm⟩)))))))))))))))))))
  cases h
/-- a number from 0 on -/
theorem nat_of {z : Int} {hi : Int} (h : PyInside.within 0 hi z = true) : ∃ n : Nat, z = (n : Int) := by
  unfold PyInside.within at h
  rw [Bool.and_eq_true] at h
  have := of_decide_eq_true h.1
  exact ⟨z.toNat, by omega⟩
theorem nats_of {hi : Int} : ∀ {r : List Int}, r.all (PyInside.within 0 hi) = true → ∃ l : List Nat, r = ofNats l
  | [], _ => ⟨[], rfl⟩
  | z :: r, h => by
    rw [List.all_cons, Bool.and_eq_true] at h
    obtain ⟨n, rfl⟩ := nat_of h.1
    obtain ⟨l, rfl⟩ := nats_of h.2
    exact ⟨n :: l, rfl⟩
theorem each_cons {lo hi : Int} {b : List (Int × Int)} {x : Int} {xs : List Int} (h : PyInside.each ((lo, hi) :: b) (x :: xs) = true) : PyInside.within lo hi x = true ∧ PyInside.each b xs = true := by
  have h' : (PyInside.within lo hi x && PyInside.each b xs) = true := h
  rw [Bool.and_eq_true] at h'
  exact h'
theorem nats_ofNats (l : List Nat) : Kv415Neutral.nats (ofNats l) = l := by
  unfold Kv415Neutral.nats ofNats
  rw [List.map_map]
  have e : (Int.toNat ∘ Int.ofNat) = id := by
    funext z
    rfl
  rw [e, List.map_id]
theorem toNat_cast (i : Nat) : Kv415Neutral.nat (i : Int) = i := Int.toNat_natCast i
/-- one call, read: its number, what is given, what the specification does of it -/
theorem call_cmd {l t : List Int} {c : List (List Int)} (h : PyFlat.call PyKv415.shape l = some (c, t)) (hb : PyInside.call PyKv415.bound c = true) :
    ∃ p g C, Cmd p g C ∧ l = p :: (g ++ t) ∧ ∀ S, Kv415Neutral.step S (PyKv415.whole c) = acts S C := by
  obtain ⟨e, p, a, xs, rfl, hs⟩ := PyFlat.call_inv h
  have hb' : (PyInside.each (PyKv415.bound p).1 a && PyInside.lists (PyKv415.bound p).2 xs) = true := hb
  rw [Bool.and_eq_true] at hb'
  obtain ⟨h1, h2⟩ := hb'
  have el : l = p :: ((a ++ PyFlat.putRows xs) ++ t) := e
  have two : ∀ (xs : List (List Int)), xs = [] → l = p :: ((a ++ PyFlat.putRows xs) ++ t) → l = p :: (a ++ t) := fun xs hx q => by
    subst hx
    rw [q]
    show p :: ((a ++ []) ++ t) = _
    rw [List.append_nil]
  rcases shape_some hs with ⟨rfl, hn, hk⟩ | ⟨rfl, hn, hk⟩ | ⟨rfl, hn, hk⟩ | ⟨rfl, hn, hk⟩ | ⟨rfl, hn, hk⟩ | ⟨rfl, hn, hk⟩ | ⟨rfl, hn, hk⟩ | ⟨rfl, hn, hk⟩ | ⟨rfl, hn, hk⟩ | ⟨rfl, hn, hk⟩ | ⟨rfl, hn, hk⟩ | ⟨rfl, hn, hk⟩ | ⟨rfl, hn, hk⟩ | ⟨rfl, hn, hk⟩ | ⟨rfl, hn, hk⟩ | ⟨rfl, hn, hk⟩ | ⟨rfl, hn, hk⟩ | ⟨rfl, hn, hk⟩ | ⟨rfl, hn, hk⟩ | ⟨rfl, hn, hk⟩
  · have ea := List.eq_nil_of_length_eq_zero hn
    have hx := rows0 hk
    have e2 := two xs hx el
    subst ea hx
    exact ⟨_, _, _, .begin_, e2, fun S => rfl⟩
  · obtain ⟨t', x, p', q', rfl⟩ := len4 hn
    have hx := rows0 hk
    have e2 := two xs hx el
    subst hx
    obtain ⟨p, rfl⟩ := nat_of (each_cons (each_cons (each_cons h1).2).2).1
    obtain ⟨q, rfl⟩ := nat_of (each_cons (each_cons (each_cons (each_cons h1).2).2).2).1
    exact ⟨_, _, _, .station t' x p q, e2, fun S => rfl⟩
  · obtain ⟨i', rfl⟩ := len1 hn
    have hx := rows0 hk
    have e2 := two xs hx el
    subst hx
    obtain ⟨i, rfl⟩ := nat_of (each_cons h1).1
    exact ⟨_, _, _, .drop i, e2, fun S => rfl⟩
  · obtain ⟨i', p', q', rfl⟩ := len3 hn
    have hx := rows0 hk
    have e2 := two xs hx el
    subst hx
    obtain ⟨i, rfl⟩ := nat_of (each_cons h1).1
    obtain ⟨p, rfl⟩ := nat_of (each_cons (each_cons h1).2).1
    obtain ⟨q, rfl⟩ := nat_of (each_cons (each_cons (each_cons h1).2).2).1
    exact ⟨_, _, _, .move i p q, e2, fun S => rfl⟩
  · obtain ⟨i', t', x, rfl⟩ := len3 hn
    have hx := rows0 hk
    have e2 := two xs hx el
    subst hx
    obtain ⟨i, rfl⟩ := nat_of (each_cons h1).1
    exact ⟨_, _, _, .set i t' x, e2, fun S => rfl⟩
  · obtain ⟨i', rfl⟩ := len1 hn
    have hx := rows0 hk
    have e2 := two xs hx el
    subst hx
    obtain ⟨i, rfl⟩ := nat_of (each_cons h1).1
    exact ⟨_, _, _, .is i, e2, fun S => rfl⟩
  · obtain ⟨i', n, d', rfl⟩ := len3 hn
    have hx := rows0 hk
    have e2 := two xs hx el
    subst hx
    obtain ⟨i, rfl⟩ := nat_of (each_cons h1).1
    obtain ⟨d, rfl⟩ := nat_of (each_cons (each_cons (each_cons h1).2).2).1
    exact ⟨_, _, _, .at_ i n d, e2, fun S => rfl⟩
  · obtain ⟨i', j', n, d', rfl⟩ := len4 hn
    have hx := rows0 hk
    have e2 := two xs hx el
    subst hx
    obtain ⟨i, rfl⟩ := nat_of (each_cons h1).1
    obtain ⟨j, rfl⟩ := nat_of (each_cons (each_cons h1).2).1
    obtain ⟨d, rfl⟩ := nat_of (each_cons (each_cons (each_cons (each_cons h1).2).2).2).1
    exact ⟨_, _, _, .send i j n d, e2, fun S => rfl⟩
  · obtain ⟨i', j', n, d', rfl⟩ := len4 hn
    have hx := rows0 hk
    have e2 := two xs hx el
    subst hx
    obtain ⟨i, rfl⟩ := nat_of (each_cons h1).1
    obtain ⟨j, rfl⟩ := nat_of (each_cons (each_cons h1).2).1
    obtain ⟨d, rfl⟩ := nat_of (each_cons (each_cons (each_cons (each_cons h1).2).2).2).1
    exact ⟨_, _, _, .echo i j n d, e2, fun S => rfl⟩
  · obtain ⟨i', j', n, d', rfl⟩ := len4 hn
    have hx := rows0 hk
    have e2 := two xs hx el
    subst hx
    obtain ⟨i, rfl⟩ := nat_of (each_cons h1).1
    obtain ⟨j, rfl⟩ := nat_of (each_cons (each_cons h1).2).1
    obtain ⟨d, rfl⟩ := nat_of (each_cons (each_cons (each_cons (each_cons h1).2).2).2).1
    exact ⟨_, _, _, .ticks i j n d, e2, fun S => rfl⟩
  · obtain ⟨i', t', x, rfl⟩ := len3 hn
    have hx := rows0 hk
    have e2 := two xs hx el
    subst hx
    obtain ⟨i, rfl⟩ := nat_of (each_cons h1).1
    exact ⟨_, _, _, .hears i t' x, e2, fun S => rfl⟩
  · obtain ⟨i', t', x, rfl⟩ := len3 hn
    have hx := rows0 hk
    have e2 := two xs hx el
    subst hx
    obtain ⟨i, rfl⟩ := nat_of (each_cons h1).1
    exact ⟨_, _, _, .till i t' x, e2, fun S => rfl⟩
  · obtain ⟨i', t', x, rfl⟩ := len3 hn
    have hx := rows0 hk
    have e2 := two xs hx el
    subst hx
    obtain ⟨i, rfl⟩ := nat_of (each_cons h1).1
    exact ⟨_, _, _, .own i t' x, e2, fun S => rfl⟩
  · obtain ⟨i', j', n, d', rfl⟩ := len4 hn
    have hx := rows0 hk
    have e2 := two xs hx el
    subst hx
    obtain ⟨i, rfl⟩ := nat_of (each_cons h1).1
    obtain ⟨j, rfl⟩ := nat_of (each_cons (each_cons h1).2).1
    obtain ⟨d, rfl⟩ := nat_of (each_cons (each_cons (each_cons (each_cons h1).2).2).2).1
    exact ⟨_, _, _, .ownof i j n d, e2, fun S => rfl⟩
  · obtain ⟨i', j', rfl⟩ := len2 hn
    have hx := rows0 hk
    have e2 := two xs hx el
    subst hx
    obtain ⟨i, rfl⟩ := nat_of (each_cons h1).1
    obtain ⟨j, rfl⟩ := nat_of (each_cons (each_cons h1).2).1
    exact ⟨_, _, _, .meet i j, e2, fun S => rfl⟩
  · obtain ⟨n, d', rfl⟩ := len2 hn
    obtain ⟨r, rfl⟩ := rows1 hk
    obtain ⟨d, rfl⟩ := nat_of (each_cons (each_cons h1).2).1
    have h3 : (decide (0 ≤ r.length) && decide (r.length ≤ 12) && r.all (PyInside.within 0 65535) && PyInside.lists [] []) = true := h2
    rw [Bool.and_eq_true, Bool.and_eq_true, Bool.and_eq_true] at h3
    obtain ⟨lr, rfl⟩ := nats_of h3.1.2
    have hl : lr.length ≤ 12 := by
      have q := of_decide_eq_true h3.1.1.2
      unfold ofNats at q
      rw [List.length_map] at q
      exact q
    refine ⟨_, _, _, .relay lr n d hl, ?_, fun S => ?_⟩
    · rw [el]
      show _ :: (([n, (d : Int)] ++ (((ofNats lr).length : Int) :: (ofNats lr ++ []))) ++ t) = _
      rw [List.append_nil, show (ofNats lr).length = lr.length from List.length_map _]
      rfl
    · show Kv415Neutral.step S [[15, n, (d : Int)], ofNats lr] = _
      show ((act S (.relay (Kv415Neutral.nats (ofNats lr)) n (Kv415Neutral.nat (d : Int)))).1, Kv415Neutral.row (act S (.relay (Kv415Neutral.nats (ofNats lr)) n (Kv415Neutral.nat (d : Int)))).2) = _
      rw [nats_ofNats, toNat_cast]
      rfl
  · obtain ⟨n, d', rfl⟩ := len2 hn
    obtain ⟨r, rfl⟩ := rows1 hk
    obtain ⟨d, rfl⟩ := nat_of (each_cons (each_cons h1).2).1
    have h3 : (decide (0 ≤ r.length) && decide (r.length ≤ 12) && r.all (PyInside.within 0 65535) && PyInside.lists [] []) = true := h2
    rw [Bool.and_eq_true, Bool.and_eq_true, Bool.and_eq_true] at h3
    obtain ⟨lr, rfl⟩ := nats_of h3.1.2
    have hl : lr.length ≤ 12 := by
      have q := of_decide_eq_true h3.1.1.2
      unfold ofNats at q
      rw [List.length_map] at q
      exact q
    refine ⟨_, _, _, .round lr n d hl, ?_, fun S => ?_⟩
    · rw [el]
      show _ :: (([n, (d : Int)] ++ (((ofNats lr).length : Int) :: (ofNats lr ++ []))) ++ t) = _
      rw [List.append_nil, show (ofNats lr).length = lr.length from List.length_map _]
      rfl
    · show Kv415Neutral.step S [[16, n, (d : Int)], ofNats lr] = _
      show ((act S (.round (Kv415Neutral.nats (ofNats lr)) n (Kv415Neutral.nat (d : Int)))).1, Kv415Neutral.row (act S (.round (Kv415Neutral.nats (ofNats lr)) n (Kv415Neutral.nat (d : Int)))).2) = _
      rw [nats_ofNats, toNat_cast]
      rfl
  · obtain ⟨i', j', rfl⟩ := len2 hn
    have hx := rows0 hk
    have e2 := two xs hx el
    subst hx
    obtain ⟨i, rfl⟩ := nat_of (each_cons h1).1
    obtain ⟨j, rfl⟩ := nat_of (each_cons (each_cons h1).2).1
    exact ⟨_, _, _, .closing i j, e2, fun S => rfl⟩
  · have ea := List.eq_nil_of_length_eq_zero hn
    have hx := rows0 hk
    have e2 := two xs hx el
    subst ea hx
    exact ⟨_, _, _, .back, e2, fun S => rfl⟩
  · have ea := List.eq_nil_of_length_eq_zero hn
    have hx := rows0 hk
    have e2 := two xs hx el
    subst ea hx
    exact ⟨_, _, _, .state, e2, fun S => rfl⟩
end Sig
set_option Elab.async false
set_option linter.all false
set_option maxRecDepth 100000
set_option maxHeartbeats 4000000
/-! stations.py: the line of calls -/
namespace Sig
open PySem PySem.Spec PyProof.Rows L2
local macro_rules | `(tactic| walk_at "sig") => `(tactic| repeat (first
  | refine ⟨_, rfl, ?_⟩
  | refine ⟨_, _, rfl, rfl, ?_⟩
  | refine And.intro (show CMulW _ _ by assumption) ?_
  | refine ⟨_, _, _, _, rfl, rfl, (by assumption), rfl, ?_⟩
  | refine ⟨_, _, _, _, _, rfl, (by assumption), (by assumption), (by assumption), (by first | exact sF_time _ | exact sF_place _ | exact sF_p _ | exact sF_q _ | exact bF_begun _ _ _ | exact bF_stations _ _ _ | exact bF_past _ _ _), ?_⟩))
def Bd.at : Kv415.State → Bd
  | none => ⟨false, [], []⟩
  | some A => Bd.of A
/-! ### promises -/
section
variable (K : PySem.W.Frag) (CB CS : Addr)
def spAnswer : Sp := fun vs H Q _ => ∃ (a b : Addr) (S : Kv415.State) (p : Int) (g : List Int) (C : Kv415.Call), vs = [.ref a, .int p, .ref b] ∧ Cmd p g C ∧ BdAt K CB CS H a (Bd.at S) ∧ SqL K H b (g.map V.int) ∧ Does K CB CS H Q a (Bd.at (acts S C).1) (acts S C).2
def spCallLength : Sp := fun vs H Q _ => ∃ (a : Addr) (ns : List Int) (i : Nat) (p : Int) (g : List Int) (C : Kv415.Call) (t : List Int), vs = [.ref a, .int (i : Int)] ∧ SqL K H a (ns.map V.int) ∧ Cmd p g C ∧ ns.drop i = p :: (g ++ t) ∧ Q (.int (1 + (g.length : Int))) H
def spAnswers : Sp := fun vs H Q _ => ∃ (a : Addr) (ns : List Int), vs = [.ref a] ∧ SqL K H a (ns.map V.int) ∧ PyKv415.answers_asked ns = true ∧ ∀ (H' : Hp) (p : Addr), H' p = some (.lst ((PyKv415.answers ns).map V.int)) → Q (.ref p) H'
end
/-! ### lists -/
theorem drop_at {ns r : List Int} {i : Nat} {p : Int} (h : ns.drop i = p :: r) : ns[i]? = some p := by
  have q := congrArg List.head? h
  rw [List.head?_drop] at q
  exact q
theorem drop_next {ns r : List Int} {i : Nat} {p : Int} (h : ns.drop i = p :: r) : ns.drop (i + 1) = r := by
  have q := congrArg List.tail h
  rw [List.tail_drop] at q
  exact q
theorem int_at {ns r : List Int} {i : Nat} {p : Int} (h : ns.drop i = p :: r) : atI (ns.map V.int) (i : Int) = some (.int p) := atI_nat (by rw [List.getElem?_map, drop_at h]; rfl)
theorem cut_mid {ns t g : List Int} {i : Nat} {p : Int} (h : ns.drop i = p :: (g ++ t)) : cutV (ns.map V.int) (some ((i : Int) + 1)) (some ((i : Int) + (1 + (g.length : Int)))) = g.map V.int := by
  have hl : ns.length = i + (1 + g.length + t.length) := by
    have q := congrArg List.length h
    rw [List.length_drop, List.length_cons, List.length_append] at q
    omega
  unfold cutV
  rw [show ((i : Int) + 1) = ((i + 1 : Nat) : Int) by omega, show ((i : Int) + (1 + (g.length : Int))) = ((i + (1 + g.length) : Nat) : Int) by omega, HT.sIx_nat, HT.sIx_nat, List.length_map]
  rw [Nat.min_eq_left (by omega), Nat.min_eq_left (by omega), ← List.map_drop, drop_next h, ← List.map_take]
  rw [show i + (1 + g.length) - (i + 1) = g.length by omega, List.take_left]
theorem calls_step {f : Nat} {p : Int} {r : List Int} {cs : List (List (List Int))} (h : PyFlat.calls PyKv415.shape f (p :: r) = some cs) :
    ∃ f' c t cs', cs = c :: cs' ∧ PyFlat.call PyKv415.shape (p :: r) = some (c, t) ∧ PyFlat.calls PyKv415.shape f' t = some cs' := by
  cases f with
  | zero => cases h
  | succ f =>
    have h' : (match PyFlat.call PyKv415.shape (p :: r) with
      | none => none
      | some (d, t) => match PyFlat.calls PyKv415.shape f t with
        | none => none
        | some ds => some (d :: ds)) = some cs := h
    cases e : PyFlat.call PyKv415.shape (p :: r) with
    | none => rw [e] at h'; cases h'
    | some q =>
      obtain ⟨d, t⟩ := q
      rw [e] at h'
      have h2 : (match PyFlat.calls PyKv415.shape f t with
        | none => none
        | some ds => some (d :: ds)) = some cs := h'
      cases e2 : PyFlat.calls PyKv415.shape f t with
      | none => rw [e2] at h2; cases h2
      | some ds =>
        rw [e2] at h2
        exact ⟨f, d, t, ds, (Option.some.inj h2).symm, rfl, e2⟩
theorem calls_end {f : Nat} {cs : List (List (List Int))} (h : PyFlat.calls PyKv415.shape f [] = some cs) : cs = [] := by
  cases f <;> exact (Option.some.inj h).symm
theorem asked_of {ns : List Int} (h : PyKv415.answers_asked ns = true) : ∃ cs, PyFlat.calls PyKv415.shape ns.length ns = some cs ∧ PyInside.calls PyKv415.bound cs = true ∧ (PyKv415.answers ns).length ≤ 10000000 ∧
    PyKv415.answers ns = PyFlat.told (PyFlat.played Kv415Neutral.step Kv415Neutral.start (cs.map PyKv415.whole)) := by
  unfold PyKv415.answers_asked at h
  cases e : PyFlat.calls PyKv415.shape ns.length ns with
  | none => rw [e] at h; cases h
  | some cs =>
    rw [e] at h
    have h' : (!cs.isEmpty && PyFlat.atMost 256 cs && PyInside.calls PyKv415.bound cs && Kv415Neutral.asked (cs.map PyKv415.whole) && PyFlat.short 10000000 (PyKv415.answers ns)) = true := h
    rw [Bool.and_eq_true, Bool.and_eq_true, Bool.and_eq_true] at h'
    refine ⟨cs, rfl, h'.1.1.2, of_decide_eq_true h'.2, ?_⟩
    unfold PyKv415.answers PyKv415.calls
    rw [e]
/-- where a list is changed the board, its stations and tuples stay -/
theorem tup_lst {K : PySem.W.Frag} {H : Hp} {a x : Addr} {l : List V} {o : HO} {xs : List V} (h : SqT K H a xs) (hx : H x = some (.lst l)) : SqT K (upd H x o) a xs := by
  rcases h with (h | ⟨u, h⟩) | h
  · exact .inl (.inl (by rw [upd_ne (ne_of h hx (by intro z; cases z))]; exact h))
  · exact .inl (.inr ⟨u, by rw [upd_ne (ne_of h hx (by intro z; cases z))]; exact h⟩)
  · exact .inr h
theorem st_lst {CS : Addr} {H : Hp} {a x : Addr} {l : List V} {o : HO} {s : Stn} (h : StAt CS H a s) (hx : H x = some (.lst l)) : StAt CS (upd H x o) a s := by
  obtain ⟨dx, h⟩ := h
  exact ⟨dx, by rw [upd_ne (ne_of h hx (by intro z; cases z))]; exact h⟩
theorem sts_lst {K : PySem.W.Frag} {CS : Addr} {H : Hp} {a x : Addr} {l : List V} {o : HO} {s : List Stn} (h : StsAt K CS H a s) (hx : H x = some (.lst l)) : StsAt K CS (upd H x o) a s := by
  obtain ⟨as, h1, h2⟩ := h.ex
  exact ⟨as, tup_lst h1 hx, h2.mono fun _ _ r => st_lst r hx⟩
theorem board_list {K : PySem.W.Frag} {CB CS : Addr} {H : Hp} {a x : Addr} {l : List V} {o : HO} {B : Bd} (h : BdAt K CB CS H a B) (hx : H x = some (.lst l)) : BdAt K CB CS (upd H x o) a B := by
  obtain ⟨dx, sa, pa, h1, h2, h3⟩ := h.ex
  obtain ⟨as, g1, g2⟩ := h3.ex
  exact ⟨⟨dx, sa, pa, by rw [upd_ne (ne_of h1 hx (by intro z; cases z))]; exact h1, sts_lst h2 hx, ⟨as, tup_lst g1 hx, g2.mono fun _ _ r => sts_lst r hx⟩⟩, h.wf⟩
/-- what a number has behind it -/
def givenL : List V := [.int 0, .int 4, .int 1, .int 3, .int 3, .int 1, .int 3, .int 4, .int 4, .int 4, .int 3, .int 3, .int 3, .int 4, .int 2, .int 3, .int 3, .int 2, .int 0, .int 0]
theorem Cmd.given {p : Int} {g : List Int} {C : Kv415.Call} (h : Cmd p g C) : (p ≠ 15 ∧ p ≠ 16 ∧ atI givenL p = some (.int (g.length : Int))) ∨ ((p = 15 ∨ p = 16) ∧ atI givenL p = some (.int 3) ∧ ∃ n d l, g = n :: d :: ((List.length l : Nat) : Int) :: ofNats l) := by
  cases h
  case relay l n d h => exact .inr ⟨.inl rfl, rfl, n, d, l, rfl⟩
  case round l n d h => exact .inr ⟨.inr rfl, rfl, n, d, l, rfl⟩
  all_goals exact .inl ⟨by decide, by decide, rfl⟩
section
variable {P : Program} {w : World} {K : PySem.W.Frag} {mg : Str → Option Value} {base : Heap} {C_Board C_Station f : Addr} {fd : FuncData}
theorem ok_call_length (D : Df K mg "call_length" s_call_length p_call_length f fd) (T : Txt K mg C_Board C_Station) : Kept P w K mg base 1 "call_length" p_call_length (spCallLength K) := D.kept (by
  refine D.F.ok sc_call_length (fun vs H Q E h => ?_) (fun cdv A0 outer s H vs Q E hr h => ?_)
  · obtain ⟨a, ns, i, p, g, C, t, rfl, _⟩ := h
    rfl
  · obtain ⟨a, ns, i, p, g, C, t, rfl, ha, hc, hd, k⟩ := h
    obtain ⟨aG, g_GIVEN, hG⟩ := T.g_GIVEN
    refine ⟨_, (pss_cons (ps_set (i := 2) sc_call_length.nd rfl (Or.inl rfl) (pe_ix ix_list (pv 0) (pv 1) (fun _ _ => rfl)))
      (pss_cons (ps_set (i := 3) sc_call_length.nd rfl (Or.inl rfl) (pe_op op_add pe_int (pe_ix ix_tup (pe_globR g_GIVEN) (pv 2) (fun _ _ => rfl))))
      (pss_cons (ps_if (PW.pt (pw_or (pt_cmpR op_eq (pv 2) (pe_const T.c_RELAY) (nomark _)) (pw_or1 (pt_cmpR op_eq (pv 2) (pe_const T.c_ROUND) (nomark _)))))
      (pss_one (ps_ret (pe_op op_add (pv 3) (pe_ix ix_list (pv 0) (pe_op op_add (pv 1) pe_int) (fun _ _ => rfl)))))
      pss_nil)
      (pss_one (ps_ret (pv 3)))))), ?_⟩
    refine ⟨_, rfl, _, rfl, _, _, _, _, rfl, rfl, ha, int_at hd, ?_⟩
    rcases hc.given with ⟨n1, n2, hg⟩ | ⟨hp, hg, n, d, l, rfl⟩
    · refine ⟨_, rfl, _, _, _, _, rfl, rfl, hG _, hg, _, _, rfl, rfl, ?_⟩
      refine ⟨_, rfl, rfl, _, rfl, ?_⟩
      rw [eq_int, decide_eq_false n1]
      refine iteF ⟨_, rfl, rfl, _, rfl, ?_⟩
      rw [eq_int, decide_eq_false n2]
      refine iteF ⟨_, rfl, k⟩
    · refine ⟨_, rfl, _, _, _, _, rfl, rfl, hG _, hg, _, _, rfl, rfl, ?_⟩
      have d3 : ns.drop (i + 3) = (l.length : Int) :: (ofNats l ++ t) := drop_next (drop_next (drop_next hd))
      have e : (1 : Int) + 3 + (l.length : Int) = 1 + ((n :: d :: (l.length : Int) :: ofNats l).length : Int) := by
        have q : (ofNats l).length = l.length := List.length_map _
        show (1 : Int) + 3 + (l.length : Int) = 1 + (((ofNats l).length + 1 + 1 + 1 : Nat) : Int)
        rw [q]
        omega
      have last : ∀ z : Int, z = (i : Int) + 3 → atI (ns.map V.int) z = some (.int (l.length : Int)) := fun z hz => by
        subst hz
        exact int_at (i := i + 3) d3
      refine ⟨_, rfl, rfl, _, rfl, ?_⟩
      rw [eq_int]
      refine if_cases (fun c => ?_) (fun c => ?_)
      · refine iteT ⟨_, rfl, _, rfl, _, rfl, _, _, rfl, rfl, _, _, _, _, rfl, rfl, ha, last _ rfl, _, _, rfl, rfl, ?_⟩
        show Q (.int ((1 : Int) + 3 + (l.length : Int))) H
        rw [e]
        exact k
      · refine ⟨_, rfl, rfl, _, rfl, ?_⟩
        have c := of_decide_eq_false c
        rw [eq_int, decide_eq_true (show p = 16 by rcases hp with q | q; exact absurd q c; exact q)]
        refine iteT ⟨_, rfl, _, rfl, _, rfl, _, _, rfl, rfl, _, _, _, _, rfl, rfl, ha, last _ rfl, _, _, rfl, rfl, ?_⟩
        show Q (.int ((1 : Int) + 3 + (l.length : Int))) H
        rw [e]
        exact k)
theorem told_more {out r rest : List Int} {ans : List Int} (h : ans = out ++ ((r.length : Int) :: (r ++ rest))) : ans = (out ++ [(r.length : Int)] ++ r) ++ rest := by
  rw [h, List.append_assoc, List.append_assoc]
  rfl
theorem ok_answers (D : Df K mg "answers" s_answers p_answers f fd) (T : Txt K mg C_Board C_Station) (Z_Board : KeptC P w K mg base 1 "Board" C_Board p_Board__init_ (spBoard K C_Board C_Station))
    (C_call_length : Kept P w K mg base 1 "call_length" p_call_length (spCallLength K)) (C_answer : Kept P w K mg base 19 "answer" p_answer (spAnswer K C_Board C_Station)) : FnOk P w K mg base CX0 20 f fd p_answers (spAnswers K) := (by
  refine D.F.ok sc_answers (fun vs H Q E h => ?_) (fun cdv A0 outer s H vs Q E hr h => ?_)
  · obtain ⟨a, ns, rfl, _⟩ := h
    rfl
  · obtain ⟨a, ns, rfl, ha, hask, k⟩ := h
    obtain ⟨cs0, hc0, hi0, hlen, hans⟩ := asked_of hask
    refine ⟨_, (pss_cons (ps_set (i := 1) sc_answers.nd rfl (Or.inl rfl) (pe_makeQ0 Z_Board (hr.mono (by decide)) rfl))
      (pss_cons (ps_set (i := 2) sc_answers.nd rfl (Or.inl rfl) (pe_lst pa_nil))
      (pss_cons (ps_set (i := 3) sc_answers.nd rfl (Or.inl rfl) pe_int)
      (pss_cons (ps_while PassesOwn.never (pt_cmpR op_lt (pv 3) (pe_callB call_len_seq (by rfl) T.z_len PySem.boot_len (pa_cons (pv 0) pa_nil)) (nomark _))
      (pss_cons (ps_set (i := 4) sc_answers.nd rfl (Or.inl rfl) (pe_op op_add (pv 3) (pe_callQ C_call_length (hr.mono (by decide)) rfl (pa_cons (pv 0) (pa_cons (pv 3) pa_nil)))))
      (pss_cons (ps_set (i := 5) sc_answers.nd rfl (Or.inl rfl) (pe_callQ C_answer (hr.mono (by decide)) rfl (pa_cons (pv 1) (pa_cons (pe_ix ix_list (pv 0) (pv 3) (fun _ _ => rfl)) (pa_cons (pe_slice sl_list (pv 0) (po_some (pe_op op_add (pv 3) pe_int)) (po_some (pv 4))) pa_nil)))))
      (pss_cons (ps_expr (pe_bm PySem.F.plainAttrs_list PySem.F.slot_list_append PySem.F.type_list_append mt_append (pv 2) (pa_cons (pe_callB call_len_seq (by rfl) T.z_len PySem.boot_len (pa_cons (pv 5) pa_nil)) pa_nil)))
      (pss_cons (ps_expr (pe_bm PySem.F.plainAttrs_list PySem.F.slot_list_extend PySem.F.type_list_extend mt_extend (pv 2) (pa_cons (pv 5) pa_nil)))
      (pss_one (ps_set (i := 3) sc_answers.nd rfl (Or.inl rfl) (pv 4))))))))
      (pss_one (ps_ret (pv 2))))))), ?_⟩
    intro ba dx nx nd ne
    refine ⟨ba, dx, rfl, upd_same, fun H1 hB1 kp1 => ⟨rfl, ?_⟩⟩
    have s1 : Same H H1 := Same.made nx nd kp1
    refine ⟨Nat.zero_le _, fun tl htl => ?_⟩
    have s2 := same_upd (o := HO.lst []) htl
    have ntl : H tl = none := s1.free htl
    refine while_by (fun σ H' => ∃ (i : Nat) (b o : Option V) (S : Kv415.State) (cs : List (List (List Int))) (n : Nat) (out : List Int), σ = [some (.ref a), some (.ref ba), some (.ref tl), some (.int (i : Int)), b, o] ∧ i ≤ ns.length ∧
        PyFlat.calls PyKv415.shape n (ns.drop i) = some cs ∧ PyInside.calls PyKv415.bound cs = true ∧ BdAt K C_Board C_Station H' ba (Bd.at S) ∧ H' tl = some (.lst (out.map V.int)) ∧ Same H H' ∧
        PyKv415.answers ns = out ++ PyFlat.told (PyFlat.played Kv415Neutral.step S (cs.map PyKv415.whole)))
      (fun σ _ => match σ with | [_, _, _, some (.int i), _, _] => ns.length - i.toNat | _ => 0)
      ⟨0, none, none, none, cs0, ns.length, [], rfl, Nat.zero_le _, hc0, hi0, hB1.to s2, upd_same, s1.trans s2, hans⟩ ?_ ?_
    · rintro σ H' ⟨i, b, o, S, cs, n, out, rfl, hi, hcs, hin, hB, htl', sm, han⟩
      have haL : SqL K H' a (ns.map V.int) := sm.seq ha
      refine ⟨_, rfl, _, rfl, a, _, rfl, .inl haL, _, _, rfl, rfl, _, rfl, ?_⟩
      rw [List.length_map]
      refine if_cases (fun c => ?_) (fun c => ?_)
      · have c : (i : Int) < (ns.length : Int) := of_decide_eq_true c
        obtain ⟨p0, r0, hd0⟩ : ∃ p0 r0, ns.drop i = p0 :: r0 := by
          cases q : ns.drop i with
          | nil =>
            have := List.drop_eq_nil_iff.mp q
            omega
          | cons p0 r0 => exact ⟨p0, r0, rfl⟩
        rw [hd0] at hcs
        obtain ⟨n', cc, t, cs', rfl, hcall, hrest⟩ := calls_step hcs
        have hin' : (PyInside.call PyKv415.bound cc && cs'.all (PyInside.call PyKv415.bound)) = true := hin
        rw [Bool.and_eq_true] at hin'
        obtain ⟨p, g, C, hcmd, hl, hstep⟩ := call_cmd hcall hin'.1
        have hd : ns.drop i = p :: (g ++ t) := hd0.trans hl
        have hlen2 : ns.length = i + (1 + g.length + t.length) := by
          have q := congrArg List.length hd
          rw [List.length_drop, List.length_cons, List.length_append] at q
          omega
        have hdt : ns.drop (i + (1 + g.length)) = t := by
          rw [← Nat.add_assoc, ← List.drop_drop, drop_next hd, List.drop_left]
        -- behind = start + call_length(calls, start)
        refine ⟨_, rfl, _, rfl, _, rfl, a, ns, i, p, g, C, t, rfl, haL, hcmd, hd, ?_⟩
        refine ⟨_, _, rfl, rfl, ?_⟩
        -- one = answer(board, calls[start], calls[start + 1:behind])
        refine ⟨_, rfl, _, rfl, _, rfl, _, _, _, _, rfl, rfl, haL, int_at hd, _, rfl, _, rfl, _, _, rfl, rfl, _, rfl, _, rfl, _, rfl, a, _, rfl, haL, fun ga hga => ?_⟩
        have hcut : cutV (ns.map V.int) (some ((i : Int) + 1)) (some ((i : Int) + (1 + (g.length : Int)))) = g.map V.int := cut_mid hd
        rw [hcut]
        have s3 := same_upd (o := HO.lst (g.map V.int)) hga
        refine ⟨ba, ga, S, p, g, C, rfl, hcmd, hB.to s3, SqL.of upd_same, fun H4 po kp4 hB4 npo hpo => ?_⟩
        obtain ⟨dxb, sab, pab, hbb, _, _⟩ := (hB.to s3).ex
        have tl3 := s3 _ _ htl'
        have ntb : tl ≠ ba := ne_of tl3 hbb (by intro z; cases z)
        have tl4 := kp4 _ _ tl3 ntb
        have npt : po ≠ tl := fun z => by
          rw [z, tl3] at npo
          cases npo
        -- the answer's row
        have han2 : PyKv415.answers ns = (out ++ [((acts S C).2.length : Int)] ++ (acts S C).2) ++ PyFlat.told (PyFlat.played Kv415Neutral.step (acts S C).1 (cs'.map PyKv415.whole)) := by
          refine told_more (han.trans (congrArg (out ++ ·) ?_))
          show PyFlat.told ((Kv415Neutral.step S (PyKv415.whole cc)).2 :: PyFlat.played Kv415Neutral.step (Kv415Neutral.step S (PyKv415.whole cc)).1 (cs'.map PyKv415.whole)) = _
          rw [hstep S]
          rfl
        have hsz : (out ++ [((acts S C).2.length : Int)] ++ (acts S C).2).length ≤ 10000000 := by
          have q := congrArg List.length han2
          rw [List.length_append] at q
          omega
        have hs24 : sizeLine = 16777216 := by decide
        rw [List.length_append, List.length_append, List.length_singleton] at hsz
        -- told.append(len(one))
        refine ⟨_, rfl, .inl ⟨rfl, _, SqL.of tl4⟩, _, rfl, po, _, rfl, .inl (SqL.of hpo), tl, _, _, rfl, rfl, tl4, (by rw [List.length_map]; omega), ?_⟩
        rw [List.length_map]
        -- told.extend(one)
        refine ⟨_, rfl, .inl ⟨rfl, _, SqL.of upd_same⟩, _, rfl, tl, po, _, _, rfl, rfl, upd_same, Eq.trans (upd_ne npt) hpo, (by rw [List.length_append, List.length_map, List.length_map, List.length_singleton]; omega), ?_⟩
        -- start = behind
        refine ⟨_, rfl, ?_⟩
        have sF : ∀ x u, H x = some u → (upd (upd H4 tl (.lst (out.map V.int ++ [.int ((acts S C).2.length : Int)]))) tl (.lst ((out.map V.int ++ [.int ((acts S C).2.length : Int)]) ++ (acts S C).2.map V.int))) x = some u := fun x u e => by
          have n1 : x ≠ tl := ne_of_none e ntl
          have n2 : x ≠ ba := ne_of_none e nx
          rw [upd_ne n1, upd_ne n1]
          exact kp4 _ _ (s3 _ _ (sm _ _ e)) n2
        refine ⟨⟨i + (1 + g.length), some (.int ((i + (1 + g.length) : Nat) : Int)), some (.ref po), (acts S C).1, cs', n', out ++ [((acts S C).2.length : Int)] ++ (acts S C).2, ?_, by omega, by rw [hdt]; exact hrest, hin'.2, ?_, ?_, sF, han2⟩, ?_⟩
        · show [some (V.ref a), some (V.ref ba), some (V.ref tl), some (V.int ((i : Int) + (1 + (g.length : Int)))), some (V.int ((i : Int) + (1 + (g.length : Int)))), some (V.ref po)] = _
          rw [show ((i : Int) + (1 + (g.length : Int))) = ((i + (1 + g.length) : Nat) : Int) by omega]
        · -- the board beside the list
          exact board_list (board_list hB4 tl4) upd_same
        · rw [upd_same, List.map_append, List.map_append]
          rfl
        · show ns.length - ((i : Int) + (1 + (g.length : Int))).toNat < ns.length - (i : Int).toNat
          omega
      · have c : ¬ (i : Int) < (ns.length : Int) := of_decide_eq_false c
        have e : i = ns.length := by omega
        subst e
        rw [List.drop_length] at hcs
        have z := calls_end hcs
        subst z
        refine ⟨_, rfl, k H' tl ?_⟩
        rw [han]
        show H' tl = some (.lst ((out ++ []).map V.int))
        rw [List.append_nil]
        exact htl'
    · intro σ H' Q1 Q2 hq h
      obtain ⟨v, hv, v2, hv2, p, ys, e1, e2, i, j, e3, e4, z, e5, q⟩ := h
      exact ⟨v, hv, v2, hv2, p, ys, e1, e2, i, j, e3, e4, z, e5, hq _ _ q⟩)
end
end Sig
set_option Elab.async false
set_option linter.all false
set_option maxRecDepth 100000
set_option maxHeartbeats 4000000
/-! stations.py: which function answers which call -/
namespace Sig
open PySem PySem.Spec PyProof.Rows L2
local macro_rules | `(tactic| walk_at "sig") => `(tactic| repeat (first
  | refine ⟨_, rfl, ?_⟩
  | refine ⟨_, _, rfl, rfl, ?_⟩
  | refine And.intro (show CMulW _ _ by assumption) ?_
  | refine ⟨_, _, _, _, rfl, rfl, (by assumption), rfl, ?_⟩
  | refine ⟨_, _, _, _, _, rfl, (by assumption), (by assumption), (by assumption), (by first | exact sF_time _ | exact sF_place _ | exact sF_p _ | exact sF_q _ | exact bF_begun _ _ _ | exact bF_stations _ _ _ | exact bF_past _ _ _), ?_⟩))
theorem eq_yes {p : Int} {A B : Prop} (h : A) : if decide (V.int p = V.int p) = true then A else B := if_true_of (decide_eq_true rfl) h
theorem eq_not {p q : Int} {A B : Prop} (n : p ≠ q) (h : B) : if decide (V.int p = V.int q) = true then A else B := if_false_of (decide_eq_false fun z => n (by injection z)) h
def grpA : List V := [.int 1, .int 2, .int 3, .int 4, .int 18]
def grpB : List V := [.int 5, .int 6, .int 10, .int 11, .int 12]
def grpC : List V := [.int 15, .int 16]
def grpD : List V := [.int 7, .int 8, .int 9, .int 13, .int 14, .int 17]
/-- which calls go where -/
inductive Grp (p : Int) (C : Kv415.Call) : Prop
  | a : inV (.int p) grpA = true → Grp p C
  | b : inV (.int p) grpA = false → inV (.int p) grpB = true → Grp p C
  | c : inV (.int p) grpA = false → inV (.int p) grpB = false → inV (.int p) grpC = true → Grp p C
  | s : p = 19 → C = .state → Grp p C
  | d : inV (.int p) grpA = false → inV (.int p) grpB = false → inV (.int p) grpC = false → p ≠ 19 → inV (.int p) grpD = true → Grp p C
theorem Cmd.grp {p : Int} {g : List Int} {C : Kv415.Call} (h : Cmd p g C) : (p = 0 ∧ C = .begin_) ∨ (p ≠ 0 ∧ Kv415.act none C = (none, Kv415.say (-11)) ∧ Grp p C) := by
  cases h
  case begin_ => exact .inl ⟨rfl, rfl⟩
  case state => exact .inr ⟨by decide, rfl, .s rfl rfl⟩
  all_goals exact .inr ⟨by decide, rfl, by first | exact .a rfl | exact .b rfl rfl | exact .c rfl rfl rfl | exact .d rfl rfl rfl (by decide) rfl⟩
section
variable (K : PySem.W.Frag) (CB CS : Addr)
def spDisp (G : List V) : Sp := fun vs H Q _ => ∃ (a b : Addr) (A : Kv415.Abs) (p : Int) (g : List Int) (C : Kv415.Call), vs = [.ref a, .int p, .ref b] ∧ Cmd p g C ∧ inV (.int p) G = true ∧ BdAt K CB CS H a (Bd.of A) ∧ SqL K H b (g.map V.int) ∧ DoesC K CB CS H Q a A C
end
theorem Does.from {K : PySem.W.Frag} {CB CS : Addr} {H H1 : Hp} {Q : VK} {a : Addr} {B : Bd} {r : List Int} (k : Does K CB CS H Q a B r) (e : Same H H1) : Does K CB CS H1 Q a B r := fun H' p kp hB np hp => k H' p ((Same.keeps e).trans kp) hB (e.free np) hp
theorem DoesC.from {K : PySem.W.Frag} {CB CS : Addr} {H H1 : Hp} {Q : VK} {a : Addr} {A : Kv415.Abs} {c : Kv415.Call} (k : DoesC K CB CS H Q a A c) (e : Same H H1) : DoesC K CB CS H1 Q a A c := Does.from k e
theorem cut_row {n d m : V} {xs : List V} : cutV (n :: d :: m :: xs) (some 3) none = xs := by
  unfold cutV
  rw [show (3 : Int) = ((3 : Nat) : Int) from rfl, HT.sIx_nat, HT.sIx_none, List.length_cons, List.length_cons, List.length_cons, Nat.min_eq_left (by omega)]
  show (xs.take (xs.length + 1 + 1 + 1 - 3)) = xs
  rw [show xs.length + 1 + 1 + 1 - 3 = xs.length by omega, List.take_length]
section
variable {P : Program} {w : World} {K : PySem.W.Frag} {mg : Str → Option Value} {base : Heap} {C_Board C_Station f : Addr} {fd : FuncData}
theorem ok_change (D : Df K mg "change" s_change p_change f fd) (T : Txt K mg C_Board C_Station)
    (C_add_station : Kept P w K mg base 5 "add_station" p_add_station (spAdd K C_Board C_Station))
    (C_drop_station : Kept P w K mg base 2 "drop_station" p_drop_station (spDrop K C_Board C_Station))
    (C_move_station : Kept P w K mg base 5 "move_station" p_move_station (spMove K C_Board C_Station))
    (C_set_station : Kept P w K mg base 5 "set_station" p_set_station (spSet K C_Board C_Station))
    (C_take_last_back : Kept P w K mg base 2 "take_last_back" p_take_last_back (spB K C_Board C_Station .back)) :
    Kept P w K mg base 6 "change" p_change (spDisp K C_Board C_Station grpA) := D.kept (by
  refine D.F.ok sc_change (fun vs H Q E h => ?_) (fun cdv A0 outer s H vs Q E hr h => ?_)
  · obtain ⟨a, b, A, p, g, C, rfl, _⟩ := h
    rfl
  · obtain ⟨a, b, A, p, g, C, rfl, hc, hS, hB, hg, k⟩ := h
    refine ⟨_, (pss_cons (ps_if (pt_cmpR op_eq (pv 1) (pe_const T.c_STATION) (nomark _))
      (pss_one (ps_ret (pe_callQ C_add_station (hr.mono (by decide)) rfl (pa_cons (pv 0) (pa_cons (pe_ix ix_list (pv 2) pe_int (fun _ _ => rfl)) (pa_cons (pe_ix ix_list (pv 2) pe_int (fun _ _ => rfl)) (pa_cons (pe_ix ix_list (pv 2) pe_int (fun _ _ => rfl)) (pa_cons (pe_ix ix_list (pv 2) pe_int (fun _ _ => rfl)) pa_nil))))))))
      pss_nil)
      (pss_cons (ps_if (pt_cmpR op_eq (pv 1) (pe_const T.c_DROP) (nomark _))
      (pss_one (ps_ret (pe_callQ C_drop_station (hr.mono (by decide)) rfl (pa_cons (pv 0) (pa_cons (pe_ix ix_list (pv 2) pe_int (fun _ _ => rfl)) pa_nil)))))
      pss_nil)
      (pss_cons (ps_if (pt_cmpR op_eq (pv 1) (pe_const T.c_MOVE) (nomark _))
      (pss_one (ps_ret (pe_callQ C_move_station (hr.mono (by decide)) rfl (pa_cons (pv 0) (pa_cons (pe_ix ix_list (pv 2) pe_int (fun _ _ => rfl)) (pa_cons (pe_ix ix_list (pv 2) pe_int (fun _ _ => rfl)) (pa_cons (pe_ix ix_list (pv 2) pe_int (fun _ _ => rfl)) pa_nil)))))))
      pss_nil)
      (pss_cons (ps_if (pt_cmpR op_eq (pv 1) (pe_const T.c_SET) (nomark _))
      (pss_one (ps_ret (pe_callQ C_set_station (hr.mono (by decide)) rfl (pa_cons (pv 0) (pa_cons (pe_ix ix_list (pv 2) pe_int (fun _ _ => rfl)) (pa_cons (pe_ix ix_list (pv 2) pe_int (fun _ _ => rfl)) (pa_cons (pe_ix ix_list (pv 2) pe_int (fun _ _ => rfl)) pa_nil)))))))
      pss_nil)
      (pss_one (ps_ret (pe_callQ C_take_last_back (hr.mono (by decide)) rfl (pa_cons (pv 0) pa_nil)))))))), ?_⟩
    cases hc
    case station t x p q =>
      refine ⟨_, rfl, rfl, _, rfl, eq_yes ?_⟩
      walk_at "sig"
      exact ⟨a, A, t, x, p, q, rfl, hB, k⟩
    case drop i =>
      refine ⟨_, rfl, rfl, _, rfl, eq_not (by decide) ?_⟩
      refine ⟨_, rfl, rfl, _, rfl, eq_yes ?_⟩
      walk_at "sig"
      exact ⟨a, A, i, rfl, hB, k⟩
    case move i p q =>
      refine ⟨_, rfl, rfl, _, rfl, eq_not (by decide) ?_⟩
      refine ⟨_, rfl, rfl, _, rfl, eq_not (by decide) ?_⟩
      refine ⟨_, rfl, rfl, _, rfl, eq_yes ?_⟩
      walk_at "sig"
      exact ⟨a, A, i, p, q, rfl, hB, k⟩
    case set i t x =>
      refine ⟨_, rfl, rfl, _, rfl, eq_not (by decide) ?_⟩
      refine ⟨_, rfl, rfl, _, rfl, eq_not (by decide) ?_⟩
      refine ⟨_, rfl, rfl, _, rfl, eq_not (by decide) ?_⟩
      refine ⟨_, rfl, rfl, _, rfl, eq_yes ?_⟩
      walk_at "sig"
      exact ⟨a, A, i, t, x, rfl, hB, k⟩
    case back  =>
      refine ⟨_, rfl, rfl, _, rfl, eq_not (by decide) ?_⟩
      refine ⟨_, rfl, rfl, _, rfl, eq_not (by decide) ?_⟩
      refine ⟨_, rfl, rfl, _, rfl, eq_not (by decide) ?_⟩
      refine ⟨_, rfl, rfl, _, rfl, eq_not (by decide) ?_⟩
      walk_at "sig"
      exact ⟨a, A, rfl, hB, k⟩
    all_goals exact absurd hS (by decide))
theorem ok_look_at_one (D : Df K mg "look_at_one" s_look_at_one p_look_at_one f fd) (T : Txt K mg C_Board C_Station)
    (C_tell_station : Kept P w K mg base 2 "tell_station" p_tell_station (spI K C_Board C_Station .is))
    (C_tell_where : Kept P w K mg base 5 "tell_where" p_tell_where (spIT K C_Board C_Station .at_))
    (C_tell_hears : Kept P w K mg base 6 "tell_hears" p_tell_hears (spITX K C_Board C_Station .hears))
    (C_tell_till : Kept P w K mg base 6 "tell_till" p_tell_till (spITX K C_Board C_Station .till))
    (C_tell_own : Kept P w K mg base 8 "tell_own" p_tell_own (spITX K C_Board C_Station .own)) :
    Kept P w K mg base 9 "look_at_one" p_look_at_one (spDisp K C_Board C_Station grpB) := D.kept (by
  refine D.F.ok sc_look_at_one (fun vs H Q E h => ?_) (fun cdv A0 outer s H vs Q E hr h => ?_)
  · obtain ⟨a, b, A, p, g, C, rfl, _⟩ := h
    rfl
  · obtain ⟨a, b, A, p, g, C, rfl, hc, hS, hB, hg, k⟩ := h
    refine ⟨_, (pss_cons (ps_if (pt_cmpR op_eq (pv 1) (pe_const T.c_IS) (nomark _))
      (pss_one (ps_ret (pe_callQ C_tell_station (hr.mono (by decide)) rfl (pa_cons (pv 0) (pa_cons (pe_ix ix_list (pv 2) pe_int (fun _ _ => rfl)) pa_nil)))))
      pss_nil)
      (pss_cons (ps_if (pt_cmpR op_eq (pv 1) (pe_const T.c_AT) (nomark _))
      (pss_one (ps_ret (pe_callQ C_tell_where (hr.mono (by decide)) rfl (pa_cons (pv 0) (pa_cons (pe_ix ix_list (pv 2) pe_int (fun _ _ => rfl)) (pa_cons (pe_ix ix_list (pv 2) pe_int (fun _ _ => rfl)) (pa_cons (pe_ix ix_list (pv 2) pe_int (fun _ _ => rfl)) pa_nil)))))))
      pss_nil)
      (pss_cons (ps_if (pt_cmpR op_eq (pv 1) (pe_const T.c_HEARS) (nomark _))
      (pss_one (ps_ret (pe_callQ C_tell_hears (hr.mono (by decide)) rfl (pa_cons (pv 0) (pa_cons (pe_ix ix_list (pv 2) pe_int (fun _ _ => rfl)) (pa_cons (pe_ix ix_list (pv 2) pe_int (fun _ _ => rfl)) (pa_cons (pe_ix ix_list (pv 2) pe_int (fun _ _ => rfl)) pa_nil)))))))
      pss_nil)
      (pss_cons (ps_if (pt_cmpR op_eq (pv 1) (pe_const T.c_TILL) (nomark _))
      (pss_one (ps_ret (pe_callQ C_tell_till (hr.mono (by decide)) rfl (pa_cons (pv 0) (pa_cons (pe_ix ix_list (pv 2) pe_int (fun _ _ => rfl)) (pa_cons (pe_ix ix_list (pv 2) pe_int (fun _ _ => rfl)) (pa_cons (pe_ix ix_list (pv 2) pe_int (fun _ _ => rfl)) pa_nil)))))))
      pss_nil)
      (pss_one (ps_ret (pe_callQ C_tell_own (hr.mono (by decide)) rfl (pa_cons (pv 0) (pa_cons (pe_ix ix_list (pv 2) pe_int (fun _ _ => rfl)) (pa_cons (pe_ix ix_list (pv 2) pe_int (fun _ _ => rfl)) (pa_cons (pe_ix ix_list (pv 2) pe_int (fun _ _ => rfl)) pa_nil))))))))))), ?_⟩
    cases hc
    case is i =>
      refine ⟨_, rfl, rfl, _, rfl, eq_yes ?_⟩
      walk_at "sig"
      exact ⟨a, A, i, rfl, hB, k⟩
    case at_ i n d =>
      refine ⟨_, rfl, rfl, _, rfl, eq_not (by decide) ?_⟩
      refine ⟨_, rfl, rfl, _, rfl, eq_yes ?_⟩
      walk_at "sig"
      exact ⟨a, A, i, n, d, rfl, hB, k⟩
    case hears i t x =>
      refine ⟨_, rfl, rfl, _, rfl, eq_not (by decide) ?_⟩
      refine ⟨_, rfl, rfl, _, rfl, eq_not (by decide) ?_⟩
      refine ⟨_, rfl, rfl, _, rfl, eq_yes ?_⟩
      walk_at "sig"
      exact ⟨a, A, i, t, x, rfl, hB, k⟩
    case till i t x =>
      refine ⟨_, rfl, rfl, _, rfl, eq_not (by decide) ?_⟩
      refine ⟨_, rfl, rfl, _, rfl, eq_not (by decide) ?_⟩
      refine ⟨_, rfl, rfl, _, rfl, eq_not (by decide) ?_⟩
      refine ⟨_, rfl, rfl, _, rfl, eq_yes ?_⟩
      walk_at "sig"
      exact ⟨a, A, i, t, x, rfl, hB, k⟩
    case own i t x =>
      refine ⟨_, rfl, rfl, _, rfl, eq_not (by decide) ?_⟩
      refine ⟨_, rfl, rfl, _, rfl, eq_not (by decide) ?_⟩
      refine ⟨_, rfl, rfl, _, rfl, eq_not (by decide) ?_⟩
      refine ⟨_, rfl, rfl, _, rfl, eq_not (by decide) ?_⟩
      walk_at "sig"
      exact ⟨a, A, i, t, x, rfl, hB, k⟩
    all_goals exact absurd hS (by decide))
theorem ok_look_at_two (D : Df K mg "look_at_two" s_look_at_two p_look_at_two f fd) (T : Txt K mg C_Board C_Station)
    (C_tell_send : Kept P w K mg base 7 "tell_send" p_tell_send (spIJT K C_Board C_Station .send))
    (C_tell_echo : Kept P w K mg base 7 "tell_echo" p_tell_echo (spIJT K C_Board C_Station .echo))
    (C_tell_ticks : Kept P w K mg base 7 "tell_ticks" p_tell_ticks (spIJT K C_Board C_Station .ticks))
    (C_tell_ownof : Kept P w K mg base 8 "tell_ownof" p_tell_ownof (spIJT K C_Board C_Station .ownof))
    (C_tell_meet : Kept P w K mg base 7 "tell_meet" p_tell_meet (spIJ K C_Board C_Station .meet))
    (C_tell_closing : Kept P w K mg base 4 "tell_closing" p_tell_closing (spIJ K C_Board C_Station .closing)) :
    Kept P w K mg base 9 "look_at_two" p_look_at_two (spDisp K C_Board C_Station grpD) := D.kept (by
  refine D.F.ok sc_look_at_two (fun vs H Q E h => ?_) (fun cdv A0 outer s H vs Q E hr h => ?_)
  · obtain ⟨a, b, A, p, g, C, rfl, _⟩ := h
    rfl
  · obtain ⟨a, b, A, p, g, C, rfl, hc, hS, hB, hg, k⟩ := h
    refine ⟨_, (pss_cons (ps_if (pt_cmpR op_eq (pv 1) (pe_const T.c_SEND) (nomark _))
      (pss_one (ps_ret (pe_callQ C_tell_send (hr.mono (by decide)) rfl (pa_cons (pv 0) (pa_cons (pe_ix ix_list (pv 2) pe_int (fun _ _ => rfl)) (pa_cons (pe_ix ix_list (pv 2) pe_int (fun _ _ => rfl)) (pa_cons (pe_ix ix_list (pv 2) pe_int (fun _ _ => rfl)) (pa_cons (pe_ix ix_list (pv 2) pe_int (fun _ _ => rfl)) pa_nil))))))))
      pss_nil)
      (pss_cons (ps_if (pt_cmpR op_eq (pv 1) (pe_const T.c_ECHO) (nomark _))
      (pss_one (ps_ret (pe_callQ C_tell_echo (hr.mono (by decide)) rfl (pa_cons (pv 0) (pa_cons (pe_ix ix_list (pv 2) pe_int (fun _ _ => rfl)) (pa_cons (pe_ix ix_list (pv 2) pe_int (fun _ _ => rfl)) (pa_cons (pe_ix ix_list (pv 2) pe_int (fun _ _ => rfl)) (pa_cons (pe_ix ix_list (pv 2) pe_int (fun _ _ => rfl)) pa_nil))))))))
      pss_nil)
      (pss_cons (ps_if (pt_cmpR op_eq (pv 1) (pe_const T.c_TICKS) (nomark _))
      (pss_one (ps_ret (pe_callQ C_tell_ticks (hr.mono (by decide)) rfl (pa_cons (pv 0) (pa_cons (pe_ix ix_list (pv 2) pe_int (fun _ _ => rfl)) (pa_cons (pe_ix ix_list (pv 2) pe_int (fun _ _ => rfl)) (pa_cons (pe_ix ix_list (pv 2) pe_int (fun _ _ => rfl)) (pa_cons (pe_ix ix_list (pv 2) pe_int (fun _ _ => rfl)) pa_nil))))))))
      pss_nil)
      (pss_cons (ps_if (pt_cmpR op_eq (pv 1) (pe_const T.c_OWNOF) (nomark _))
      (pss_one (ps_ret (pe_callQ C_tell_ownof (hr.mono (by decide)) rfl (pa_cons (pv 0) (pa_cons (pe_ix ix_list (pv 2) pe_int (fun _ _ => rfl)) (pa_cons (pe_ix ix_list (pv 2) pe_int (fun _ _ => rfl)) (pa_cons (pe_ix ix_list (pv 2) pe_int (fun _ _ => rfl)) (pa_cons (pe_ix ix_list (pv 2) pe_int (fun _ _ => rfl)) pa_nil))))))))
      pss_nil)
      (pss_cons (ps_if (pt_cmpR op_eq (pv 1) (pe_const T.c_MEET) (nomark _))
      (pss_one (ps_ret (pe_callQ C_tell_meet (hr.mono (by decide)) rfl (pa_cons (pv 0) (pa_cons (pe_ix ix_list (pv 2) pe_int (fun _ _ => rfl)) (pa_cons (pe_ix ix_list (pv 2) pe_int (fun _ _ => rfl)) pa_nil))))))
      pss_nil)
      (pss_one (ps_ret (pe_callQ C_tell_closing (hr.mono (by decide)) rfl (pa_cons (pv 0) (pa_cons (pe_ix ix_list (pv 2) pe_int (fun _ _ => rfl)) (pa_cons (pe_ix ix_list (pv 2) pe_int (fun _ _ => rfl)) pa_nil))))))))))), ?_⟩
    cases hc
    case send i j n d =>
      refine ⟨_, rfl, rfl, _, rfl, eq_yes ?_⟩
      walk_at "sig"
      exact ⟨a, A, i, j, n, d, rfl, hB, k⟩
    case echo i j n d =>
      refine ⟨_, rfl, rfl, _, rfl, eq_not (by decide) ?_⟩
      refine ⟨_, rfl, rfl, _, rfl, eq_yes ?_⟩
      walk_at "sig"
      exact ⟨a, A, i, j, n, d, rfl, hB, k⟩
    case ticks i j n d =>
      refine ⟨_, rfl, rfl, _, rfl, eq_not (by decide) ?_⟩
      refine ⟨_, rfl, rfl, _, rfl, eq_not (by decide) ?_⟩
      refine ⟨_, rfl, rfl, _, rfl, eq_yes ?_⟩
      walk_at "sig"
      exact ⟨a, A, i, j, n, d, rfl, hB, k⟩
    case ownof i j n d =>
      refine ⟨_, rfl, rfl, _, rfl, eq_not (by decide) ?_⟩
      refine ⟨_, rfl, rfl, _, rfl, eq_not (by decide) ?_⟩
      refine ⟨_, rfl, rfl, _, rfl, eq_not (by decide) ?_⟩
      refine ⟨_, rfl, rfl, _, rfl, eq_yes ?_⟩
      walk_at "sig"
      exact ⟨a, A, i, j, n, d, rfl, hB, k⟩
    case meet i j =>
      refine ⟨_, rfl, rfl, _, rfl, eq_not (by decide) ?_⟩
      refine ⟨_, rfl, rfl, _, rfl, eq_not (by decide) ?_⟩
      refine ⟨_, rfl, rfl, _, rfl, eq_not (by decide) ?_⟩
      refine ⟨_, rfl, rfl, _, rfl, eq_not (by decide) ?_⟩
      refine ⟨_, rfl, rfl, _, rfl, eq_yes ?_⟩
      walk_at "sig"
      exact ⟨a, A, i, j, rfl, hB, k⟩
    case closing i j =>
      refine ⟨_, rfl, rfl, _, rfl, eq_not (by decide) ?_⟩
      refine ⟨_, rfl, rfl, _, rfl, eq_not (by decide) ?_⟩
      refine ⟨_, rfl, rfl, _, rfl, eq_not (by decide) ?_⟩
      refine ⟨_, rfl, rfl, _, rfl, eq_not (by decide) ?_⟩
      refine ⟨_, rfl, rfl, _, rfl, eq_not (by decide) ?_⟩
      walk_at "sig"
      exact ⟨a, A, i, j, rfl, hB, k⟩
    all_goals exact absurd hS (by decide))
theorem ok_look_along_row (D : Df K mg "look_along_row" s_look_along_row p_look_along_row f fd) (T : Txt K mg C_Board C_Station) (C_tell_relay : Kept P w K mg base 8 "tell_relay" p_tell_relay (spRow K C_Board C_Station .relay))
    (C_tell_round : Kept P w K mg base 8 "tell_round" p_tell_round (spRow K C_Board C_Station .round)) : Kept P w K mg base 9 "look_along_row" p_look_along_row (spDisp K C_Board C_Station grpC) := D.kept (by
  refine D.F.ok sc_look_along_row (fun vs H Q E h => ?_) (fun cdv A0 outer s H vs Q E hr h => ?_)
  · obtain ⟨a, b, A, p, g, C, rfl, _⟩ := h
    rfl
  · obtain ⟨a, b, A, p, g, C, rfl, hc, hS, hB, hg, k⟩ := h
    refine ⟨_, (pss_cons (ps_set (i := 3) sc_look_along_row.nd rfl (Or.inl rfl) (pe_slice sl_list (pv 2) (po_some pe_int) po_none))
      (pss_cons (ps_if (pt_cmpR op_eq (pv 1) (pe_const T.c_RELAY) (nomark _))
      (pss_one (ps_ret (pe_callQ C_tell_relay (hr.mono (by decide)) rfl (pa_cons (pv 0) (pa_cons (pv 3) (pa_cons (pe_ix ix_list (pv 2) pe_int (fun _ _ => rfl)) (pa_cons (pe_ix ix_list (pv 2) pe_int (fun _ _ => rfl)) pa_nil)))))))
      pss_nil)
      (pss_one (ps_ret (pe_callQ C_tell_round (hr.mono (by decide)) rfl (pa_cons (pv 0) (pa_cons (pv 3) (pa_cons (pe_ix ix_list (pv 2) pe_int (fun _ _ => rfl)) (pa_cons (pe_ix ix_list (pv 2) pe_int (fun _ _ => rfl)) pa_nil))))))))), ?_⟩
    cases hc
    case relay l n d hl =>
      refine ⟨_, rfl, _, rfl, ?_⟩
      dsimp only [tNoPart]
      refine ⟨b, _, rfl, hg, fun r nr => ?_⟩
      rw [show cutV (List.map V.int (n :: (d : Int) :: (l.length : Int) :: ofNats l)) (some 3) none = (ofNats l).map V.int from cut_row]
      have s1 := same_upd (o := HO.lst ((ofNats l).map V.int)) nr
      have hg1 : SqL K _ b (List.map V.int (n :: (d : Int) :: (l.length : Int) :: ofNats l)) := s1.seq hg
      refine ⟨_, rfl, rfl, _, rfl, eq_yes ?_⟩
      refine ⟨_, rfl, _, rfl, _, rfl, _, _, _, _, rfl, rfl, hg1, atI_nat (j := 0) rfl, _, rfl, _, _, _, _, rfl, rfl, hg1, atI_nat (j := 1) rfl, ?_⟩
      exact ⟨a, r, A, l, n, d, rfl, hB.to s1, upd_same, hl, k.from s1⟩
    case round l n d hl =>
      refine ⟨_, rfl, _, rfl, ?_⟩
      dsimp only [tNoPart]
      refine ⟨b, _, rfl, hg, fun r nr => ?_⟩
      rw [show cutV (List.map V.int (n :: (d : Int) :: (l.length : Int) :: ofNats l)) (some 3) none = (ofNats l).map V.int from cut_row]
      have s1 := same_upd (o := HO.lst ((ofNats l).map V.int)) nr
      have hg1 : SqL K _ b (List.map V.int (n :: (d : Int) :: (l.length : Int) :: ofNats l)) := s1.seq hg
      refine ⟨_, rfl, rfl, _, rfl, eq_not (by decide) ?_⟩
      refine ⟨_, rfl, _, rfl, _, rfl, _, _, _, _, rfl, rfl, hg1, atI_nat (j := 0) rfl, _, rfl, _, _, _, _, rfl, rfl, hg1, atI_nat (j := 1) rfl, ?_⟩
      exact ⟨a, r, A, l, n, d, rfl, hB.to s1, upd_same, hl, k.from s1⟩
    all_goals exact absurd hS (by decide))
theorem ok_answer (D : Df K mg "answer" s_answer p_answer f fd) (T : Txt K mg C_Board C_Station) (M_Board_begin : KeptM P w K mg base 1 C_Board "begin" p_Board_begin (spBegin K C_Board C_Station))
    (C_change : Kept P w K mg base 6 "change" p_change (spDisp K C_Board C_Station grpA)) (C_look_at_one : Kept P w K mg base 9 "look_at_one" p_look_at_one (spDisp K C_Board C_Station grpB))
    (C_look_along_row : Kept P w K mg base 9 "look_along_row" p_look_along_row (spDisp K C_Board C_Station grpC)) (C_look_at_two : Kept P w K mg base 9 "look_at_two" p_look_at_two (spDisp K C_Board C_Station grpD))
    (C_tell_state : Kept P w K mg base 1 "tell_state" p_tell_state (spB K C_Board C_Station .state)) : Kept P w K mg base 19 "answer" p_answer (spAnswer K C_Board C_Station) := D.kept (by
  refine D.F.ok sc_answer (fun vs H Q E h => ?_) (fun cdv A0 outer s H vs Q E hr h => ?_)
  · obtain ⟨a, b, S, p, g, C, rfl, _⟩ := h
    rfl
  · obtain ⟨a, b, S, p, g, C, rfl, hc, hB, hg, k⟩ := h
    obtain ⟨⟨dx, sa, pa, ha, hsa, hpa⟩, wf⟩ := id hB
    obtain ⟨kB, aB, aS, aP⟩ := T.brd
    refine ⟨_, (pss_cons (ps_if (pt_cmpR op_eq (pv 1) (pe_const T.c_BEGIN) (nomark _))
      (pss_cons (ps_expr (pe_methQ0 (pv 0) T.k_Board M_Board_begin (hr.mono (by decide))))
      (pss_one (ps_ret (pe_lst (pa_cons pe_int pa_nil)))))
      pss_nil)
      (pss_cons (ps_if (pt_not (pt_val (pe_fld (pv 0) rfl)))
      (pss_one (ps_ret (pe_lst (pa_cons (pe_const T.c_NOT_BEGUN) pa_nil))))
      pss_nil)
      (pss_cons (ps_if (pt_cmpR op_in_seq (pv 1) (pe_tup (pa_cons (pe_const T.c_STATION) (pa_cons (pe_const T.c_DROP) (pa_cons (pe_const T.c_MOVE) (pa_cons (pe_const T.c_SET) (pa_cons (pe_const T.c_BACK) pa_nil)))))) (by rfl))
      (pss_one (ps_ret (pe_callQ C_change (hr.mono (by decide)) rfl (pa_cons (pv 0) (pa_cons (pv 1) (pa_cons (pv 2) pa_nil))))))
      pss_nil)
      (pss_cons (ps_if (pt_cmpR op_in_seq (pv 1) (pe_tup (pa_cons (pe_const T.c_IS) (pa_cons (pe_const T.c_AT) (pa_cons (pe_const T.c_HEARS) (pa_cons (pe_const T.c_TILL) (pa_cons (pe_const T.c_OWN) pa_nil)))))) (by rfl))
      (pss_one (ps_ret (pe_callQ C_look_at_one (hr.mono (by decide)) rfl (pa_cons (pv 0) (pa_cons (pv 1) (pa_cons (pv 2) pa_nil))))))
      pss_nil)
      (pss_cons (ps_if (pt_cmpR op_in_seq (pv 1) (pe_tup (pa_cons (pe_const T.c_RELAY) (pa_cons (pe_const T.c_ROUND) pa_nil))) (by rfl))
      (pss_one (ps_ret (pe_callQ C_look_along_row (hr.mono (by decide)) rfl (pa_cons (pv 0) (pa_cons (pv 1) (pa_cons (pv 2) pa_nil))))))
      pss_nil)
      (pss_cons (ps_if (pt_cmpR op_eq (pv 1) (pe_const T.c_STATE) (nomark _))
      (pss_one (ps_ret (pe_callQ C_tell_state (hr.mono (by decide)) rfl (pa_cons (pv 0) pa_nil))))
      pss_nil)
      (pss_one (ps_ret (pe_callQ C_look_at_two (hr.mono (by decide)) rfl (pa_cons (pv 0) (pa_cons (pv 1) (pa_cons (pv 2) pa_nil)))))))))))), ?_⟩
    rcases hc.grp with ⟨rfl, rfl⟩ | ⟨n0, hn, gr⟩
    · refine ⟨_, rfl, rfl, _, rfl, eq_yes ?_⟩
      refine ⟨_, rfl, a, dx, _, rfl, ha, bF_no _ _ _ (by decide +kernel) (by decide +kernel) (by decide +kernel), ?_⟩
      refine ⟨a, Bd.at S, rfl, hB, fun H1 hB1 kp1 => ?_⟩
      refine ⟨one_fits, ?_⟩
      cases S with
      | none => exact Does.list k kp1 hB1 rfl
      | some A => exact Does.list k kp1 hB1 rfl
    refine ⟨_, rfl, rfl, _, rfl, eq_not n0 ?_⟩
    cases S with
    | none =>
      walk_at "sig"
      refine iteT ?_
      have e : acts none C = (none, [-11]) := by
        unfold acts
        rw [hn]
        rfl
      rw [e] at k
      exact ⟨one_fits, Does.list k (Same.keeps (Same.refl _)) hB rfl⟩
    | some A =>
      have k : DoesC K C_Board C_Station H Q a A C := k
      have hB : BdAt K C_Board C_Station H a (Bd.of A) := hB
      refine ⟨_, rfl, _, _, _, _, _, rfl, ha, kB, aB, bF_begun _ _ _, _, rfl, ?_⟩
      refine if_false_of rfl ?_
      refine ⟨_, rfl, (by show 5 ≤ sizeLine; decide), fun t1 n1 => ?_⟩
      have s1 := same_upd (o := HO.tup grpA) n1
      refine ⟨t1, grpA, rfl, .inr (SqT.of upd_same), rfl, rfl, _, rfl, ?_⟩
      cases gr with
      | a h =>
        refine if_true_of h ?_
        walk_at "sig"
        exact ⟨a, b, A, p, g, C, rfl, hc, h, hB.to s1, s1.seq hg, k.from s1⟩
      | b h1 h2 =>
        refine if_false_of h1 ?_
        refine ⟨_, rfl, (by show 5 ≤ sizeLine; decide), fun t2 n2 => ?_⟩
        have s2 := s1.trans (same_upd (o := HO.tup grpB) n2)
        refine ⟨t2, grpB, rfl, .inr (SqT.of upd_same), rfl, rfl, _, rfl, ?_⟩
        refine if_true_of h2 ?_
        walk_at "sig"
        exact ⟨a, b, A, p, g, C, rfl, hc, h2, hB.to s2, s2.seq hg, k.from s2⟩
      | c h1 h2 h3 =>
        refine if_false_of h1 ?_
        refine ⟨_, rfl, (by show 5 ≤ sizeLine; decide), fun t2 n2 => ?_⟩
        have s2 := s1.trans (same_upd (o := HO.tup grpB) n2)
        refine ⟨t2, grpB, rfl, .inr (SqT.of upd_same), rfl, rfl, _, rfl, ?_⟩
        refine if_false_of h2 ?_
        refine ⟨_, rfl, (by show 2 ≤ sizeLine; decide), fun t3 n3 => ?_⟩
        have s3 := s2.trans (same_upd (o := HO.tup grpC) n3)
        refine ⟨t3, grpC, rfl, .inr (SqT.of upd_same), rfl, rfl, _, rfl, ?_⟩
        refine if_true_of h3 ?_
        walk_at "sig"
        exact ⟨a, b, A, p, g, C, rfl, hc, h3, hB.to s3, s3.seq hg, k.from s3⟩
      | s h1 h2 =>
        subst h1 h2
        refine if_false_of rfl ?_
        refine ⟨_, rfl, (by show 5 ≤ sizeLine; decide), fun t2 n2 => ?_⟩
        have s2 := s1.trans (same_upd (o := HO.tup grpB) n2)
        refine ⟨t2, grpB, rfl, .inr (SqT.of upd_same), rfl, rfl, _, rfl, ?_⟩
        refine if_false_of rfl ?_
        refine ⟨_, rfl, (by show 2 ≤ sizeLine; decide), fun t3 n3 => ?_⟩
        have s3 := s2.trans (same_upd (o := HO.tup grpC) n3)
        refine ⟨t3, grpC, rfl, .inr (SqT.of upd_same), rfl, rfl, _, rfl, ?_⟩
        refine if_false_of rfl ?_
        refine ⟨_, rfl, rfl, _, rfl, eq_yes ?_⟩
        walk_at "sig"
        exact ⟨a, A, rfl, hB.to s3, k.from s3⟩
      | d h1 h2 h3 h4 h5 =>
        refine if_false_of h1 ?_
        refine ⟨_, rfl, (by show 5 ≤ sizeLine; decide), fun t2 n2 => ?_⟩
        have s2 := s1.trans (same_upd (o := HO.tup grpB) n2)
        refine ⟨t2, grpB, rfl, .inr (SqT.of upd_same), rfl, rfl, _, rfl, ?_⟩
        refine if_false_of h2 ?_
        refine ⟨_, rfl, (by show 2 ≤ sizeLine; decide), fun t3 n3 => ?_⟩
        have s3 := s2.trans (same_upd (o := HO.tup grpC) n3)
        refine ⟨t3, grpC, rfl, .inr (SqT.of upd_same), rfl, rfl, _, rfl, ?_⟩
        refine if_false_of h3 ?_
        refine ⟨_, rfl, rfl, _, rfl, eq_not h4 ?_⟩
        walk_at "sig"
        exact ⟨a, b, A, p, g, C, rfl, hc, h5, hB.to s3, s3.seq hg, k.from s3⟩)
end
end Sig
set_option Elab.async false
set_option linter.all false
set_option maxRecDepth 100000
set_option maxHeartbeats 4000000
/-! The end: what the top has written. -/
namespace Sig
open PySem PySem.Spec PyProof.Rows L2
theorem all_mk {P : Program} {w : World} {K : PySem.W.Frag} {h : Heap} {mg : Str → Option Value} {fa : Addr} (X : K.In h) (G : h.Ns mainGlobals mg) (hfa : mg "answers" = some (.ref fa))
    {C_Board C_Station f_Board__init_ f_Board_begin f_Board_change_to f_Board_take_back f_greatest_common f_ratio f_plus f_minus f_scaled f_over f_is_less f_greater f_lesser f_Station__init_ f_spot_point f_start_of f_point_at f_time_of f_place_of f_clock_by_less f_clock_by_together f_heard f_heard_of_till f_own_time f_own_place f_side_of f_arrival f_arrival_along f_same_factor f_factor_squares f_speed_of f_meeting_clock f_is_station f_is_spot f_is_factor f_is_clock f_clock_refusal f_spot_refusal f_pair_refusal f_sending_refusal f_row_refusal f_without f_put_in_place f_add_station f_drop_station f_move_station f_set_station f_take_last_back f_tell_one f_tell_two f_tell_state f_tell_station f_tell_where f_tell_hears f_tell_till f_tell_own_of_point f_tell_own f_tell_send f_tell_echo f_tell_ticks f_tell_ownof f_tell_closing f_tell_meet f_tell_relay f_tell_round f_call_length f_change f_look_at_one f_look_at_two f_look_along_row f_answer f_answers : Addr}
    {t_MOST_CHANGES : Tok}
    {t_THERE : Tok}
    {t_ON_THE_RIGHT : Tok}
    {t_ON_THE_LEFT : Tok}
    {t_NO_STATION : Tok}
    {t_NO_CHANGE : Tok}
    {t_NOT_BEGUN : Tok}
    {t_OUT_OF_RANGE : Tok}
    {t_TOO_MANY : Tok}
    {t_THERE_IS_NONE : Tok}
    {t_LEAST_ROW : Tok}
    {t_MOST_ROW : Tok}
    {t_NONE_DUE : Tok}
    {t_MOST_STATIONS : Tok}
    {t_BEGIN : Tok}
    {t_STATION : Tok}
    {t_DROP : Tok}
    {t_MOVE : Tok}
    {t_SET : Tok}
    {t_IS : Tok}
    {t_AT : Tok}
    {t_SEND : Tok}
    {t_ECHO : Tok}
    {t_TICKS : Tok}
    {t_HEARS : Tok}
    {t_TILL : Tok}
    {t_OWN : Tok}
    {t_OWNOF : Tok}
    {t_MEET : Tok}
    {t_RELAY : Tok}
    {t_ROUND : Tok}
    {t_BACK : Tok}
    {t_STATE : Tok}
    {a_GIVEN : Addr} {od_GIVEN : Option Addr} {sl_GIVEN : Array (Option Value)} {n_GIVEN : Nat} {t_GIVEN_0 t_GIVEN_1 t_GIVEN_2 t_GIVEN_3 t_GIVEN_4 t_GIVEN_5 t_GIVEN_6 t_GIVEN_7 t_GIVEN_8 t_GIVEN_9 t_GIVEN_10 t_GIVEN_11 t_GIVEN_12 t_GIVEN_13 t_GIVEN_14 t_GIVEN_15 t_GIVEN_16 t_GIVEN_17 t_GIVEN_18 t_GIVEN_19 : Tok}
    {od_Board__init_ an_Board__init_ : Option Addr} {sl_Board__init_ : Array (Option Value)} {oc_Board__init_ kV_Board__init_ dc_Board__init_ pm_Board__init_ cd_Board__init_ ct_Board__init_ : Value}
    {od_Board_begin an_Board_begin : Option Addr} {sl_Board_begin : Array (Option Value)} {oc_Board_begin kV_Board_begin dc_Board_begin pm_Board_begin cd_Board_begin ct_Board_begin : Value}
    {od_Board_change_to an_Board_change_to : Option Addr} {sl_Board_change_to : Array (Option Value)} {oc_Board_change_to kV_Board_change_to dc_Board_change_to pm_Board_change_to cd_Board_change_to ct_Board_change_to : Value}
    {od_Board_take_back an_Board_take_back : Option Addr} {sl_Board_take_back : Array (Option Value)} {oc_Board_take_back kV_Board_take_back dc_Board_take_back pm_Board_take_back cd_Board_take_back ct_Board_take_back : Value}
    {od_greatest_common an_greatest_common : Option Addr} {sl_greatest_common : Array (Option Value)} {oc_greatest_common kV_greatest_common dc_greatest_common pm_greatest_common cd_greatest_common ct_greatest_common : Value}
    {od_ratio an_ratio : Option Addr} {sl_ratio : Array (Option Value)} {oc_ratio kV_ratio dc_ratio pm_ratio cd_ratio ct_ratio : Value}
    {od_plus an_plus : Option Addr} {sl_plus : Array (Option Value)} {oc_plus kV_plus dc_plus pm_plus cd_plus ct_plus : Value}
    {od_minus an_minus : Option Addr} {sl_minus : Array (Option Value)} {oc_minus kV_minus dc_minus pm_minus cd_minus ct_minus : Value}
    {od_scaled an_scaled : Option Addr} {sl_scaled : Array (Option Value)} {oc_scaled kV_scaled dc_scaled pm_scaled cd_scaled ct_scaled : Value}
    {od_over an_over : Option Addr} {sl_over : Array (Option Value)} {oc_over kV_over dc_over pm_over cd_over ct_over : Value}
    {od_is_less an_is_less : Option Addr} {sl_is_less : Array (Option Value)} {oc_is_less kV_is_less dc_is_less pm_is_less cd_is_less ct_is_less : Value}
    {od_greater an_greater : Option Addr} {sl_greater : Array (Option Value)} {oc_greater kV_greater dc_greater pm_greater cd_greater ct_greater : Value}
    {od_lesser an_lesser : Option Addr} {sl_lesser : Array (Option Value)} {oc_lesser kV_lesser dc_lesser pm_lesser cd_lesser ct_lesser : Value}
    {od_Station__init_ an_Station__init_ : Option Addr} {sl_Station__init_ : Array (Option Value)} {oc_Station__init_ kV_Station__init_ dc_Station__init_ pm_Station__init_ cd_Station__init_ ct_Station__init_ : Value}
    {od_spot_point an_spot_point : Option Addr} {sl_spot_point : Array (Option Value)} {oc_spot_point kV_spot_point dc_spot_point pm_spot_point cd_spot_point ct_spot_point : Value}
    {od_start_of an_start_of : Option Addr} {sl_start_of : Array (Option Value)} {oc_start_of kV_start_of dc_start_of pm_start_of cd_start_of ct_start_of : Value}
    {od_point_at an_point_at : Option Addr} {sl_point_at : Array (Option Value)} {oc_point_at kV_point_at dc_point_at pm_point_at cd_point_at ct_point_at : Value}
    {od_time_of an_time_of : Option Addr} {sl_time_of : Array (Option Value)} {oc_time_of kV_time_of dc_time_of pm_time_of cd_time_of ct_time_of : Value}
    {od_place_of an_place_of : Option Addr} {sl_place_of : Array (Option Value)} {oc_place_of kV_place_of dc_place_of pm_place_of cd_place_of ct_place_of : Value}
    {od_clock_by_less an_clock_by_less : Option Addr} {sl_clock_by_less : Array (Option Value)} {oc_clock_by_less kV_clock_by_less dc_clock_by_less pm_clock_by_less cd_clock_by_less ct_clock_by_less : Value}
    {od_clock_by_together an_clock_by_together : Option Addr} {sl_clock_by_together : Array (Option Value)} {oc_clock_by_together kV_clock_by_together dc_clock_by_together pm_clock_by_together cd_clock_by_together ct_clock_by_together : Value}
    {od_heard an_heard : Option Addr} {sl_heard : Array (Option Value)} {oc_heard kV_heard dc_heard pm_heard cd_heard ct_heard : Value}
    {od_heard_of_till an_heard_of_till : Option Addr} {sl_heard_of_till : Array (Option Value)} {oc_heard_of_till kV_heard_of_till dc_heard_of_till pm_heard_of_till cd_heard_of_till ct_heard_of_till : Value}
    {od_own_time an_own_time : Option Addr} {sl_own_time : Array (Option Value)} {oc_own_time kV_own_time dc_own_time pm_own_time cd_own_time ct_own_time : Value}
    {od_own_place an_own_place : Option Addr} {sl_own_place : Array (Option Value)} {oc_own_place kV_own_place dc_own_place pm_own_place cd_own_place ct_own_place : Value}
    {od_side_of an_side_of : Option Addr} {sl_side_of : Array (Option Value)} {oc_side_of kV_side_of dc_side_of pm_side_of cd_side_of ct_side_of : Value}
    {od_arrival an_arrival : Option Addr} {sl_arrival : Array (Option Value)} {oc_arrival kV_arrival dc_arrival pm_arrival cd_arrival ct_arrival : Value}
    {od_arrival_along an_arrival_along : Option Addr} {sl_arrival_along : Array (Option Value)} {oc_arrival_along kV_arrival_along dc_arrival_along pm_arrival_along cd_arrival_along ct_arrival_along : Value}
    {od_same_factor an_same_factor : Option Addr} {sl_same_factor : Array (Option Value)} {oc_same_factor kV_same_factor dc_same_factor pm_same_factor cd_same_factor ct_same_factor : Value}
    {od_factor_squares an_factor_squares : Option Addr} {sl_factor_squares : Array (Option Value)} {oc_factor_squares kV_factor_squares dc_factor_squares pm_factor_squares cd_factor_squares ct_factor_squares : Value}
    {od_speed_of an_speed_of : Option Addr} {sl_speed_of : Array (Option Value)} {oc_speed_of kV_speed_of dc_speed_of pm_speed_of cd_speed_of ct_speed_of : Value}
    {od_meeting_clock an_meeting_clock : Option Addr} {sl_meeting_clock : Array (Option Value)} {oc_meeting_clock kV_meeting_clock dc_meeting_clock pm_meeting_clock cd_meeting_clock ct_meeting_clock : Value}
    {od_is_station an_is_station : Option Addr} {sl_is_station : Array (Option Value)} {oc_is_station kV_is_station dc_is_station pm_is_station cd_is_station ct_is_station : Value}
    {od_is_spot an_is_spot : Option Addr} {sl_is_spot : Array (Option Value)} {oc_is_spot kV_is_spot dc_is_spot pm_is_spot cd_is_spot ct_is_spot : Value}
    {od_is_factor an_is_factor : Option Addr} {sl_is_factor : Array (Option Value)} {oc_is_factor kV_is_factor dc_is_factor pm_is_factor cd_is_factor ct_is_factor : Value}
    {od_is_clock an_is_clock : Option Addr} {sl_is_clock : Array (Option Value)} {oc_is_clock kV_is_clock dc_is_clock pm_is_clock cd_is_clock ct_is_clock : Value}
    {od_clock_refusal an_clock_refusal : Option Addr} {sl_clock_refusal : Array (Option Value)} {oc_clock_refusal kV_clock_refusal dc_clock_refusal pm_clock_refusal cd_clock_refusal ct_clock_refusal : Value}
    {od_spot_refusal an_spot_refusal : Option Addr} {sl_spot_refusal : Array (Option Value)} {oc_spot_refusal kV_spot_refusal dc_spot_refusal pm_spot_refusal cd_spot_refusal ct_spot_refusal : Value}
    {od_pair_refusal an_pair_refusal : Option Addr} {sl_pair_refusal : Array (Option Value)} {oc_pair_refusal kV_pair_refusal dc_pair_refusal pm_pair_refusal cd_pair_refusal ct_pair_refusal : Value}
    {od_sending_refusal an_sending_refusal : Option Addr} {sl_sending_refusal : Array (Option Value)} {oc_sending_refusal kV_sending_refusal dc_sending_refusal pm_sending_refusal cd_sending_refusal ct_sending_refusal : Value}
    {od_row_refusal an_row_refusal : Option Addr} {sl_row_refusal : Array (Option Value)} {oc_row_refusal kV_row_refusal dc_row_refusal pm_row_refusal cd_row_refusal ct_row_refusal : Value}
    {od_without an_without : Option Addr} {sl_without : Array (Option Value)} {oc_without kV_without dc_without pm_without cd_without ct_without : Value}
    {od_put_in_place an_put_in_place : Option Addr} {sl_put_in_place : Array (Option Value)} {oc_put_in_place kV_put_in_place dc_put_in_place pm_put_in_place cd_put_in_place ct_put_in_place : Value}
    {od_add_station an_add_station : Option Addr} {sl_add_station : Array (Option Value)} {oc_add_station kV_add_station dc_add_station pm_add_station cd_add_station ct_add_station : Value}
    {od_drop_station an_drop_station : Option Addr} {sl_drop_station : Array (Option Value)} {oc_drop_station kV_drop_station dc_drop_station pm_drop_station cd_drop_station ct_drop_station : Value}
    {od_move_station an_move_station : Option Addr} {sl_move_station : Array (Option Value)} {oc_move_station kV_move_station dc_move_station pm_move_station cd_move_station ct_move_station : Value}
    {od_set_station an_set_station : Option Addr} {sl_set_station : Array (Option Value)} {oc_set_station kV_set_station dc_set_station pm_set_station cd_set_station ct_set_station : Value}
    {od_take_last_back an_take_last_back : Option Addr} {sl_take_last_back : Array (Option Value)} {oc_take_last_back kV_take_last_back dc_take_last_back pm_take_last_back cd_take_last_back ct_take_last_back : Value}
    {od_tell_one an_tell_one : Option Addr} {sl_tell_one : Array (Option Value)} {oc_tell_one kV_tell_one dc_tell_one pm_tell_one cd_tell_one ct_tell_one : Value}
    {od_tell_two an_tell_two : Option Addr} {sl_tell_two : Array (Option Value)} {oc_tell_two kV_tell_two dc_tell_two pm_tell_two cd_tell_two ct_tell_two : Value}
    {od_tell_state an_tell_state : Option Addr} {sl_tell_state : Array (Option Value)} {oc_tell_state kV_tell_state dc_tell_state pm_tell_state cd_tell_state ct_tell_state : Value}
    {od_tell_station an_tell_station : Option Addr} {sl_tell_station : Array (Option Value)} {oc_tell_station kV_tell_station dc_tell_station pm_tell_station cd_tell_station ct_tell_station : Value}
    {od_tell_where an_tell_where : Option Addr} {sl_tell_where : Array (Option Value)} {oc_tell_where kV_tell_where dc_tell_where pm_tell_where cd_tell_where ct_tell_where : Value}
    {od_tell_hears an_tell_hears : Option Addr} {sl_tell_hears : Array (Option Value)} {oc_tell_hears kV_tell_hears dc_tell_hears pm_tell_hears cd_tell_hears ct_tell_hears : Value}
    {od_tell_till an_tell_till : Option Addr} {sl_tell_till : Array (Option Value)} {oc_tell_till kV_tell_till dc_tell_till pm_tell_till cd_tell_till ct_tell_till : Value}
    {od_tell_own_of_point an_tell_own_of_point : Option Addr} {sl_tell_own_of_point : Array (Option Value)} {oc_tell_own_of_point kV_tell_own_of_point dc_tell_own_of_point pm_tell_own_of_point cd_tell_own_of_point ct_tell_own_of_point : Value}
    {od_tell_own an_tell_own : Option Addr} {sl_tell_own : Array (Option Value)} {oc_tell_own kV_tell_own dc_tell_own pm_tell_own cd_tell_own ct_tell_own : Value}
    {od_tell_send an_tell_send : Option Addr} {sl_tell_send : Array (Option Value)} {oc_tell_send kV_tell_send dc_tell_send pm_tell_send cd_tell_send ct_tell_send : Value}
    {od_tell_echo an_tell_echo : Option Addr} {sl_tell_echo : Array (Option Value)} {oc_tell_echo kV_tell_echo dc_tell_echo pm_tell_echo cd_tell_echo ct_tell_echo : Value}
    {od_tell_ticks an_tell_ticks : Option Addr} {sl_tell_ticks : Array (Option Value)} {oc_tell_ticks kV_tell_ticks dc_tell_ticks pm_tell_ticks cd_tell_ticks ct_tell_ticks : Value}
    {od_tell_ownof an_tell_ownof : Option Addr} {sl_tell_ownof : Array (Option Value)} {oc_tell_ownof kV_tell_ownof dc_tell_ownof pm_tell_ownof cd_tell_ownof ct_tell_ownof : Value}
    {od_tell_closing an_tell_closing : Option Addr} {sl_tell_closing : Array (Option Value)} {oc_tell_closing kV_tell_closing dc_tell_closing pm_tell_closing cd_tell_closing ct_tell_closing : Value}
    {od_tell_meet an_tell_meet : Option Addr} {sl_tell_meet : Array (Option Value)} {oc_tell_meet kV_tell_meet dc_tell_meet pm_tell_meet cd_tell_meet ct_tell_meet : Value}
    {od_tell_relay an_tell_relay : Option Addr} {sl_tell_relay : Array (Option Value)} {oc_tell_relay kV_tell_relay dc_tell_relay pm_tell_relay cd_tell_relay ct_tell_relay : Value}
    {od_tell_round an_tell_round : Option Addr} {sl_tell_round : Array (Option Value)} {oc_tell_round kV_tell_round dc_tell_round pm_tell_round cd_tell_round ct_tell_round : Value}
    {od_call_length an_call_length : Option Addr} {sl_call_length : Array (Option Value)} {oc_call_length kV_call_length dc_call_length pm_call_length cd_call_length ct_call_length : Value}
    {od_change an_change : Option Addr} {sl_change : Array (Option Value)} {oc_change kV_change dc_change pm_change cd_change ct_change : Value}
    {od_look_at_one an_look_at_one : Option Addr} {sl_look_at_one : Array (Option Value)} {oc_look_at_one kV_look_at_one dc_look_at_one pm_look_at_one cd_look_at_one ct_look_at_one : Value}
    {od_look_at_two an_look_at_two : Option Addr} {sl_look_at_two : Array (Option Value)} {oc_look_at_two kV_look_at_two dc_look_at_two pm_look_at_two cd_look_at_two ct_look_at_two : Value}
    {od_look_along_row an_look_along_row : Option Addr} {sl_look_along_row : Array (Option Value)} {oc_look_along_row kV_look_along_row dc_look_along_row pm_look_along_row cd_look_along_row ct_look_along_row : Value}
    {od_answer an_answer : Option Addr} {sl_answer : Array (Option Value)} {oc_answer kV_answer dc_answer pm_answer cd_answer ct_answer : Value}
    {od_answers an_answers : Option Addr} {sl_answers : Array (Option Value)} {oc_answers kV_answers dc_answers pm_answers cd_answers ct_answers : Value}
    (e_MOST_CHANGES : PySem.W.nsIn K mainGlobals "MOST_CHANGES" = some (some (.int (10) t_MOST_CHANGES)))
    (e_THERE : PySem.W.nsIn K mainGlobals "THERE" = some (some (.int (0) t_THERE)))
    (e_ON_THE_RIGHT : PySem.W.nsIn K mainGlobals "ON_THE_RIGHT" = some (some (.int (1) t_ON_THE_RIGHT)))
    (e_ON_THE_LEFT : PySem.W.nsIn K mainGlobals "ON_THE_LEFT" = some (some (.int (2) t_ON_THE_LEFT)))
    (e_NO_STATION : PySem.W.nsIn K mainGlobals "NO_STATION" = some (some (.int (-2) t_NO_STATION)))
    (e_NO_CHANGE : PySem.W.nsIn K mainGlobals "NO_CHANGE" = some (some (.int (-6) t_NO_CHANGE)))
    (e_NOT_BEGUN : PySem.W.nsIn K mainGlobals "NOT_BEGUN" = some (some (.int (-11) t_NOT_BEGUN)))
    (e_OUT_OF_RANGE : PySem.W.nsIn K mainGlobals "OUT_OF_RANGE" = some (some (.int (-22) t_OUT_OF_RANGE)))
    (e_TOO_MANY : PySem.W.nsIn K mainGlobals "TOO_MANY" = some (some (.int (-28) t_TOO_MANY)))
    (e_THERE_IS_NONE : PySem.W.nsIn K mainGlobals "THERE_IS_NONE" = some (some (.int (-33) t_THERE_IS_NONE)))
    (e_LEAST_ROW : PySem.W.nsIn K mainGlobals "LEAST_ROW" = some (some (.int (2) t_LEAST_ROW)))
    (e_MOST_ROW : PySem.W.nsIn K mainGlobals "MOST_ROW" = some (some (.int (6) t_MOST_ROW)))
    (e_NONE_DUE : PySem.W.nsIn K mainGlobals "NONE_DUE" = some (some (.int (0) t_NONE_DUE)))
    (e_MOST_STATIONS : PySem.W.nsIn K mainGlobals "MOST_STATIONS" = some (some (.int (6) t_MOST_STATIONS)))
    (e_BEGIN : PySem.W.nsIn K mainGlobals "BEGIN" = some (some (.int (0) t_BEGIN)))
    (e_STATION : PySem.W.nsIn K mainGlobals "STATION" = some (some (.int (1) t_STATION)))
    (e_DROP : PySem.W.nsIn K mainGlobals "DROP" = some (some (.int (2) t_DROP)))
    (e_MOVE : PySem.W.nsIn K mainGlobals "MOVE" = some (some (.int (3) t_MOVE)))
    (e_SET : PySem.W.nsIn K mainGlobals "SET" = some (some (.int (4) t_SET)))
    (e_IS : PySem.W.nsIn K mainGlobals "IS" = some (some (.int (5) t_IS)))
    (e_AT : PySem.W.nsIn K mainGlobals "AT" = some (some (.int (6) t_AT)))
    (e_SEND : PySem.W.nsIn K mainGlobals "SEND" = some (some (.int (7) t_SEND)))
    (e_ECHO : PySem.W.nsIn K mainGlobals "ECHO" = some (some (.int (8) t_ECHO)))
    (e_TICKS : PySem.W.nsIn K mainGlobals "TICKS" = some (some (.int (9) t_TICKS)))
    (e_HEARS : PySem.W.nsIn K mainGlobals "HEARS" = some (some (.int (10) t_HEARS)))
    (e_TILL : PySem.W.nsIn K mainGlobals "TILL" = some (some (.int (11) t_TILL)))
    (e_OWN : PySem.W.nsIn K mainGlobals "OWN" = some (some (.int (12) t_OWN)))
    (e_OWNOF : PySem.W.nsIn K mainGlobals "OWNOF" = some (some (.int (13) t_OWNOF)))
    (e_MEET : PySem.W.nsIn K mainGlobals "MEET" = some (some (.int (14) t_MEET)))
    (e_RELAY : PySem.W.nsIn K mainGlobals "RELAY" = some (some (.int (15) t_RELAY)))
    (e_ROUND : PySem.W.nsIn K mainGlobals "ROUND" = some (some (.int (16) t_ROUND)))
    (e_BACK : PySem.W.nsIn K mainGlobals "BACK" = some (some (.int (18) t_BACK)))
    (e_STATE : PySem.W.nsIn K mainGlobals "STATE" = some (some (.int (19) t_STATE)))
    (e_GIVEN : PySem.W.nsIn K mainGlobals "GIVEN" = some (some (.ref a_GIVEN)))
    (l_GIVEN : K.lookup a_GIVEN = some ⟨.type "tuple", od_GIVEN, .seq #[.int (0) t_GIVEN_0, .int (4) t_GIVEN_1, .int (1) t_GIVEN_2, .int (3) t_GIVEN_3, .int (3) t_GIVEN_4, .int (1) t_GIVEN_5, .int (3) t_GIVEN_6, .int (4) t_GIVEN_7, .int (4) t_GIVEN_8, .int (4) t_GIVEN_9, .int (3) t_GIVEN_10, .int (3) t_GIVEN_11, .int (3) t_GIVEN_12, .int (4) t_GIVEN_13, .int (2) t_GIVEN_14, .int (3) t_GIVEN_15, .int (3) t_GIVEN_16, .int (2) t_GIVEN_17, .int (0) t_GIVEN_18, .int (0) t_GIVEN_19] n_GIVEN, sl_GIVEN⟩)
    (z_len : PySem.W.nsIn K mainGlobals "len" = some none)
    (z_abs : PySem.W.nsIn K mainGlobals "abs" = some none)
    (aC_Board : PySem.W.nsIn K mainGlobals "Board" = some (some (.ref C_Board)))
    (pg_Board : PySem.W.plainGet K C_Board Str.empty = true)
    (hd_Board : PySem.W.hasDictIn K C_Board = true)
    (po_Board : PySem.W.plainOver K C_Board = true)
    (sa_Board : PySem.W.findIn K (.ref C_Board) "__setattr__" = some (some (.builtin "object.__setattr__")))
    (mk_Board : PySem.W.makesIn K C_Board = true)
    (kc_Board : PySem.W.keepIn K (.ref C_Board) = true)
    (na_Board_begun : PySem.W.findIn K (.ref C_Board) "begun" = some none)
    (na_Board_stations : PySem.W.findIn K (.ref C_Board) "stations" = some none)
    (na_Board_past : PySem.W.findIn K (.ref C_Board) "past" = some none)
    (aC_Station : PySem.W.nsIn K mainGlobals "Station" = some (some (.ref C_Station)))
    (pg_Station : PySem.W.plainGet K C_Station Str.empty = true)
    (hd_Station : PySem.W.hasDictIn K C_Station = true)
    (po_Station : PySem.W.plainOver K C_Station = true)
    (sa_Station : PySem.W.findIn K (.ref C_Station) "__setattr__" = some (some (.builtin "object.__setattr__")))
    (mk_Station : PySem.W.makesIn K C_Station = true)
    (kc_Station : PySem.W.keepIn K (.ref C_Station) = true)
    (na_Station_time : PySem.W.findIn K (.ref C_Station) "time" = some none)
    (na_Station_place : PySem.W.findIn K (.ref C_Station) "place" = some none)
    (na_Station_p : PySem.W.findIn K (.ref C_Station) "p" = some none)
    (na_Station_q : PySem.W.findIn K (.ref C_Station) "q" = some none)
    (a_Board__init_ : PySem.W.findIn K (.ref C_Board) "__init__" = some (some (.ref f_Board__init_)))
    (i_Board__init_ : PySem.W.isFn K (.ref f_Board__init_) = true)
    (l_Board__init_ : K.lookup f_Board__init_ = some ⟨oc_Board__init_, od_Board__init_, .func (PySem.W.fnOf "__init__" "Board.__init__" (defArgs s_Board__init_) (defBody s_Board__init_) (defScope s_Board__init_) .none kV_Board__init_ dc_Board__init_ pm_Board__init_ an_Board__init_ cd_Board__init_ ct_Board__init_), sl_Board__init_⟩)
    (c_Board__init_ : PySem.W.codeIn K cd_Board__init_ "Board.__init__" = true)
    (k_Board__init_ : PySem.W.keepIn K (.ref f_Board__init_) = true)
    (a_Board_begin : PySem.W.findIn K (.ref C_Board) "begin" = some (some (.ref f_Board_begin)))
    (i_Board_begin : PySem.W.isFn K (.ref f_Board_begin) = true)
    (l_Board_begin : K.lookup f_Board_begin = some ⟨oc_Board_begin, od_Board_begin, .func (PySem.W.fnOf "begin" "Board.begin" (defArgs s_Board_begin) (defBody s_Board_begin) (defScope s_Board_begin) .none kV_Board_begin dc_Board_begin pm_Board_begin an_Board_begin cd_Board_begin ct_Board_begin), sl_Board_begin⟩)
    (c_Board_begin : PySem.W.codeIn K cd_Board_begin "Board.begin" = true)
    (k_Board_begin : PySem.W.keepIn K (.ref f_Board_begin) = true)
    (a_Board_change_to : PySem.W.findIn K (.ref C_Board) "change_to" = some (some (.ref f_Board_change_to)))
    (i_Board_change_to : PySem.W.isFn K (.ref f_Board_change_to) = true)
    (l_Board_change_to : K.lookup f_Board_change_to = some ⟨oc_Board_change_to, od_Board_change_to, .func (PySem.W.fnOf "change_to" "Board.change_to" (defArgs s_Board_change_to) (defBody s_Board_change_to) (defScope s_Board_change_to) .none kV_Board_change_to dc_Board_change_to pm_Board_change_to an_Board_change_to cd_Board_change_to ct_Board_change_to), sl_Board_change_to⟩)
    (c_Board_change_to : PySem.W.codeIn K cd_Board_change_to "Board.change_to" = true)
    (k_Board_change_to : PySem.W.keepIn K (.ref f_Board_change_to) = true)
    (a_Board_take_back : PySem.W.findIn K (.ref C_Board) "take_back" = some (some (.ref f_Board_take_back)))
    (i_Board_take_back : PySem.W.isFn K (.ref f_Board_take_back) = true)
    (l_Board_take_back : K.lookup f_Board_take_back = some ⟨oc_Board_take_back, od_Board_take_back, .func (PySem.W.fnOf "take_back" "Board.take_back" (defArgs s_Board_take_back) (defBody s_Board_take_back) (defScope s_Board_take_back) .none kV_Board_take_back dc_Board_take_back pm_Board_take_back an_Board_take_back cd_Board_take_back ct_Board_take_back), sl_Board_take_back⟩)
    (c_Board_take_back : PySem.W.codeIn K cd_Board_take_back "Board.take_back" = true)
    (k_Board_take_back : PySem.W.keepIn K (.ref f_Board_take_back) = true)
    (a_greatest_common : PySem.W.nsIn K mainGlobals "greatest_common" = some (some (.ref f_greatest_common)))
    (l_greatest_common : K.lookup f_greatest_common = some ⟨oc_greatest_common, od_greatest_common, .func (PySem.W.fnOf "greatest_common" "greatest_common" (defArgs s_greatest_common) (defBody s_greatest_common) (defScope s_greatest_common) .none kV_greatest_common dc_greatest_common pm_greatest_common an_greatest_common cd_greatest_common ct_greatest_common), sl_greatest_common⟩)
    (c_greatest_common : PySem.W.codeIn K cd_greatest_common "greatest_common" = true)
    (k_greatest_common : PySem.W.keepIn K (.ref f_greatest_common) = true)
    (a_ratio : PySem.W.nsIn K mainGlobals "ratio" = some (some (.ref f_ratio)))
    (l_ratio : K.lookup f_ratio = some ⟨oc_ratio, od_ratio, .func (PySem.W.fnOf "ratio" "ratio" (defArgs s_ratio) (defBody s_ratio) (defScope s_ratio) .none kV_ratio dc_ratio pm_ratio an_ratio cd_ratio ct_ratio), sl_ratio⟩)
    (c_ratio : PySem.W.codeIn K cd_ratio "ratio" = true)
    (k_ratio : PySem.W.keepIn K (.ref f_ratio) = true)
    (a_plus : PySem.W.nsIn K mainGlobals "plus" = some (some (.ref f_plus)))
    (l_plus : K.lookup f_plus = some ⟨oc_plus, od_plus, .func (PySem.W.fnOf "plus" "plus" (defArgs s_plus) (defBody s_plus) (defScope s_plus) .none kV_plus dc_plus pm_plus an_plus cd_plus ct_plus), sl_plus⟩)
    (c_plus : PySem.W.codeIn K cd_plus "plus" = true)
    (k_plus : PySem.W.keepIn K (.ref f_plus) = true)
    (a_minus : PySem.W.nsIn K mainGlobals "minus" = some (some (.ref f_minus)))
    (l_minus : K.lookup f_minus = some ⟨oc_minus, od_minus, .func (PySem.W.fnOf "minus" "minus" (defArgs s_minus) (defBody s_minus) (defScope s_minus) .none kV_minus dc_minus pm_minus an_minus cd_minus ct_minus), sl_minus⟩)
    (c_minus : PySem.W.codeIn K cd_minus "minus" = true)
    (k_minus : PySem.W.keepIn K (.ref f_minus) = true)
    (a_scaled : PySem.W.nsIn K mainGlobals "scaled" = some (some (.ref f_scaled)))
    (l_scaled : K.lookup f_scaled = some ⟨oc_scaled, od_scaled, .func (PySem.W.fnOf "scaled" "scaled" (defArgs s_scaled) (defBody s_scaled) (defScope s_scaled) .none kV_scaled dc_scaled pm_scaled an_scaled cd_scaled ct_scaled), sl_scaled⟩)
    (c_scaled : PySem.W.codeIn K cd_scaled "scaled" = true)
    (k_scaled : PySem.W.keepIn K (.ref f_scaled) = true)
    (a_over : PySem.W.nsIn K mainGlobals "over" = some (some (.ref f_over)))
    (l_over : K.lookup f_over = some ⟨oc_over, od_over, .func (PySem.W.fnOf "over" "over" (defArgs s_over) (defBody s_over) (defScope s_over) .none kV_over dc_over pm_over an_over cd_over ct_over), sl_over⟩)
    (c_over : PySem.W.codeIn K cd_over "over" = true)
    (k_over : PySem.W.keepIn K (.ref f_over) = true)
    (a_is_less : PySem.W.nsIn K mainGlobals "is_less" = some (some (.ref f_is_less)))
    (l_is_less : K.lookup f_is_less = some ⟨oc_is_less, od_is_less, .func (PySem.W.fnOf "is_less" "is_less" (defArgs s_is_less) (defBody s_is_less) (defScope s_is_less) .none kV_is_less dc_is_less pm_is_less an_is_less cd_is_less ct_is_less), sl_is_less⟩)
    (c_is_less : PySem.W.codeIn K cd_is_less "is_less" = true)
    (k_is_less : PySem.W.keepIn K (.ref f_is_less) = true)
    (a_greater : PySem.W.nsIn K mainGlobals "greater" = some (some (.ref f_greater)))
    (l_greater : K.lookup f_greater = some ⟨oc_greater, od_greater, .func (PySem.W.fnOf "greater" "greater" (defArgs s_greater) (defBody s_greater) (defScope s_greater) .none kV_greater dc_greater pm_greater an_greater cd_greater ct_greater), sl_greater⟩)
    (c_greater : PySem.W.codeIn K cd_greater "greater" = true)
    (k_greater : PySem.W.keepIn K (.ref f_greater) = true)
    (a_lesser : PySem.W.nsIn K mainGlobals "lesser" = some (some (.ref f_lesser)))
    (l_lesser : K.lookup f_lesser = some ⟨oc_lesser, od_lesser, .func (PySem.W.fnOf "lesser" "lesser" (defArgs s_lesser) (defBody s_lesser) (defScope s_lesser) .none kV_lesser dc_lesser pm_lesser an_lesser cd_lesser ct_lesser), sl_lesser⟩)
    (c_lesser : PySem.W.codeIn K cd_lesser "lesser" = true)
    (k_lesser : PySem.W.keepIn K (.ref f_lesser) = true)
    (a_Station__init_ : PySem.W.findIn K (.ref C_Station) "__init__" = some (some (.ref f_Station__init_)))
    (i_Station__init_ : PySem.W.isFn K (.ref f_Station__init_) = true)
    (l_Station__init_ : K.lookup f_Station__init_ = some ⟨oc_Station__init_, od_Station__init_, .func (PySem.W.fnOf "__init__" "Station.__init__" (defArgs s_Station__init_) (defBody s_Station__init_) (defScope s_Station__init_) .none kV_Station__init_ dc_Station__init_ pm_Station__init_ an_Station__init_ cd_Station__init_ ct_Station__init_), sl_Station__init_⟩)
    (c_Station__init_ : PySem.W.codeIn K cd_Station__init_ "Station.__init__" = true)
    (k_Station__init_ : PySem.W.keepIn K (.ref f_Station__init_) = true)
    (a_spot_point : PySem.W.nsIn K mainGlobals "spot_point" = some (some (.ref f_spot_point)))
    (l_spot_point : K.lookup f_spot_point = some ⟨oc_spot_point, od_spot_point, .func (PySem.W.fnOf "spot_point" "spot_point" (defArgs s_spot_point) (defBody s_spot_point) (defScope s_spot_point) .none kV_spot_point dc_spot_point pm_spot_point an_spot_point cd_spot_point ct_spot_point), sl_spot_point⟩)
    (c_spot_point : PySem.W.codeIn K cd_spot_point "spot_point" = true)
    (k_spot_point : PySem.W.keepIn K (.ref f_spot_point) = true)
    (a_start_of : PySem.W.nsIn K mainGlobals "start_of" = some (some (.ref f_start_of)))
    (l_start_of : K.lookup f_start_of = some ⟨oc_start_of, od_start_of, .func (PySem.W.fnOf "start_of" "start_of" (defArgs s_start_of) (defBody s_start_of) (defScope s_start_of) .none kV_start_of dc_start_of pm_start_of an_start_of cd_start_of ct_start_of), sl_start_of⟩)
    (c_start_of : PySem.W.codeIn K cd_start_of "start_of" = true)
    (k_start_of : PySem.W.keepIn K (.ref f_start_of) = true)
    (a_point_at : PySem.W.nsIn K mainGlobals "point_at" = some (some (.ref f_point_at)))
    (l_point_at : K.lookup f_point_at = some ⟨oc_point_at, od_point_at, .func (PySem.W.fnOf "point_at" "point_at" (defArgs s_point_at) (defBody s_point_at) (defScope s_point_at) .none kV_point_at dc_point_at pm_point_at an_point_at cd_point_at ct_point_at), sl_point_at⟩)
    (c_point_at : PySem.W.codeIn K cd_point_at "point_at" = true)
    (k_point_at : PySem.W.keepIn K (.ref f_point_at) = true)
    (a_time_of : PySem.W.nsIn K mainGlobals "time_of" = some (some (.ref f_time_of)))
    (l_time_of : K.lookup f_time_of = some ⟨oc_time_of, od_time_of, .func (PySem.W.fnOf "time_of" "time_of" (defArgs s_time_of) (defBody s_time_of) (defScope s_time_of) .none kV_time_of dc_time_of pm_time_of an_time_of cd_time_of ct_time_of), sl_time_of⟩)
    (c_time_of : PySem.W.codeIn K cd_time_of "time_of" = true)
    (k_time_of : PySem.W.keepIn K (.ref f_time_of) = true)
    (a_place_of : PySem.W.nsIn K mainGlobals "place_of" = some (some (.ref f_place_of)))
    (l_place_of : K.lookup f_place_of = some ⟨oc_place_of, od_place_of, .func (PySem.W.fnOf "place_of" "place_of" (defArgs s_place_of) (defBody s_place_of) (defScope s_place_of) .none kV_place_of dc_place_of pm_place_of an_place_of cd_place_of ct_place_of), sl_place_of⟩)
    (c_place_of : PySem.W.codeIn K cd_place_of "place_of" = true)
    (k_place_of : PySem.W.keepIn K (.ref f_place_of) = true)
    (a_clock_by_less : PySem.W.nsIn K mainGlobals "clock_by_less" = some (some (.ref f_clock_by_less)))
    (l_clock_by_less : K.lookup f_clock_by_less = some ⟨oc_clock_by_less, od_clock_by_less, .func (PySem.W.fnOf "clock_by_less" "clock_by_less" (defArgs s_clock_by_less) (defBody s_clock_by_less) (defScope s_clock_by_less) .none kV_clock_by_less dc_clock_by_less pm_clock_by_less an_clock_by_less cd_clock_by_less ct_clock_by_less), sl_clock_by_less⟩)
    (c_clock_by_less : PySem.W.codeIn K cd_clock_by_less "clock_by_less" = true)
    (k_clock_by_less : PySem.W.keepIn K (.ref f_clock_by_less) = true)
    (a_clock_by_together : PySem.W.nsIn K mainGlobals "clock_by_together" = some (some (.ref f_clock_by_together)))
    (l_clock_by_together : K.lookup f_clock_by_together = some ⟨oc_clock_by_together, od_clock_by_together, .func (PySem.W.fnOf "clock_by_together" "clock_by_together" (defArgs s_clock_by_together) (defBody s_clock_by_together) (defScope s_clock_by_together) .none kV_clock_by_together dc_clock_by_together pm_clock_by_together an_clock_by_together cd_clock_by_together ct_clock_by_together), sl_clock_by_together⟩)
    (c_clock_by_together : PySem.W.codeIn K cd_clock_by_together "clock_by_together" = true)
    (k_clock_by_together : PySem.W.keepIn K (.ref f_clock_by_together) = true)
    (a_heard : PySem.W.nsIn K mainGlobals "heard" = some (some (.ref f_heard)))
    (l_heard : K.lookup f_heard = some ⟨oc_heard, od_heard, .func (PySem.W.fnOf "heard" "heard" (defArgs s_heard) (defBody s_heard) (defScope s_heard) .none kV_heard dc_heard pm_heard an_heard cd_heard ct_heard), sl_heard⟩)
    (c_heard : PySem.W.codeIn K cd_heard "heard" = true)
    (k_heard : PySem.W.keepIn K (.ref f_heard) = true)
    (a_heard_of_till : PySem.W.nsIn K mainGlobals "heard_of_till" = some (some (.ref f_heard_of_till)))
    (l_heard_of_till : K.lookup f_heard_of_till = some ⟨oc_heard_of_till, od_heard_of_till, .func (PySem.W.fnOf "heard_of_till" "heard_of_till" (defArgs s_heard_of_till) (defBody s_heard_of_till) (defScope s_heard_of_till) .none kV_heard_of_till dc_heard_of_till pm_heard_of_till an_heard_of_till cd_heard_of_till ct_heard_of_till), sl_heard_of_till⟩)
    (c_heard_of_till : PySem.W.codeIn K cd_heard_of_till "heard_of_till" = true)
    (k_heard_of_till : PySem.W.keepIn K (.ref f_heard_of_till) = true)
    (a_own_time : PySem.W.nsIn K mainGlobals "own_time" = some (some (.ref f_own_time)))
    (l_own_time : K.lookup f_own_time = some ⟨oc_own_time, od_own_time, .func (PySem.W.fnOf "own_time" "own_time" (defArgs s_own_time) (defBody s_own_time) (defScope s_own_time) .none kV_own_time dc_own_time pm_own_time an_own_time cd_own_time ct_own_time), sl_own_time⟩)
    (c_own_time : PySem.W.codeIn K cd_own_time "own_time" = true)
    (k_own_time : PySem.W.keepIn K (.ref f_own_time) = true)
    (a_own_place : PySem.W.nsIn K mainGlobals "own_place" = some (some (.ref f_own_place)))
    (l_own_place : K.lookup f_own_place = some ⟨oc_own_place, od_own_place, .func (PySem.W.fnOf "own_place" "own_place" (defArgs s_own_place) (defBody s_own_place) (defScope s_own_place) .none kV_own_place dc_own_place pm_own_place an_own_place cd_own_place ct_own_place), sl_own_place⟩)
    (c_own_place : PySem.W.codeIn K cd_own_place "own_place" = true)
    (k_own_place : PySem.W.keepIn K (.ref f_own_place) = true)
    (a_side_of : PySem.W.nsIn K mainGlobals "side_of" = some (some (.ref f_side_of)))
    (l_side_of : K.lookup f_side_of = some ⟨oc_side_of, od_side_of, .func (PySem.W.fnOf "side_of" "side_of" (defArgs s_side_of) (defBody s_side_of) (defScope s_side_of) .none kV_side_of dc_side_of pm_side_of an_side_of cd_side_of ct_side_of), sl_side_of⟩)
    (c_side_of : PySem.W.codeIn K cd_side_of "side_of" = true)
    (k_side_of : PySem.W.keepIn K (.ref f_side_of) = true)
    (a_arrival : PySem.W.nsIn K mainGlobals "arrival" = some (some (.ref f_arrival)))
    (l_arrival : K.lookup f_arrival = some ⟨oc_arrival, od_arrival, .func (PySem.W.fnOf "arrival" "arrival" (defArgs s_arrival) (defBody s_arrival) (defScope s_arrival) .none kV_arrival dc_arrival pm_arrival an_arrival cd_arrival ct_arrival), sl_arrival⟩)
    (c_arrival : PySem.W.codeIn K cd_arrival "arrival" = true)
    (k_arrival : PySem.W.keepIn K (.ref f_arrival) = true)
    (a_arrival_along : PySem.W.nsIn K mainGlobals "arrival_along" = some (some (.ref f_arrival_along)))
    (l_arrival_along : K.lookup f_arrival_along = some ⟨oc_arrival_along, od_arrival_along, .func (PySem.W.fnOf "arrival_along" "arrival_along" (defArgs s_arrival_along) (defBody s_arrival_along) (defScope s_arrival_along) .none kV_arrival_along dc_arrival_along pm_arrival_along an_arrival_along cd_arrival_along ct_arrival_along), sl_arrival_along⟩)
    (c_arrival_along : PySem.W.codeIn K cd_arrival_along "arrival_along" = true)
    (k_arrival_along : PySem.W.keepIn K (.ref f_arrival_along) = true)
    (a_same_factor : PySem.W.nsIn K mainGlobals "same_factor" = some (some (.ref f_same_factor)))
    (l_same_factor : K.lookup f_same_factor = some ⟨oc_same_factor, od_same_factor, .func (PySem.W.fnOf "same_factor" "same_factor" (defArgs s_same_factor) (defBody s_same_factor) (defScope s_same_factor) .none kV_same_factor dc_same_factor pm_same_factor an_same_factor cd_same_factor ct_same_factor), sl_same_factor⟩)
    (c_same_factor : PySem.W.codeIn K cd_same_factor "same_factor" = true)
    (k_same_factor : PySem.W.keepIn K (.ref f_same_factor) = true)
    (a_factor_squares : PySem.W.nsIn K mainGlobals "factor_squares" = some (some (.ref f_factor_squares)))
    (l_factor_squares : K.lookup f_factor_squares = some ⟨oc_factor_squares, od_factor_squares, .func (PySem.W.fnOf "factor_squares" "factor_squares" (defArgs s_factor_squares) (defBody s_factor_squares) (defScope s_factor_squares) .none kV_factor_squares dc_factor_squares pm_factor_squares an_factor_squares cd_factor_squares ct_factor_squares), sl_factor_squares⟩)
    (c_factor_squares : PySem.W.codeIn K cd_factor_squares "factor_squares" = true)
    (k_factor_squares : PySem.W.keepIn K (.ref f_factor_squares) = true)
    (a_speed_of : PySem.W.nsIn K mainGlobals "speed_of" = some (some (.ref f_speed_of)))
    (l_speed_of : K.lookup f_speed_of = some ⟨oc_speed_of, od_speed_of, .func (PySem.W.fnOf "speed_of" "speed_of" (defArgs s_speed_of) (defBody s_speed_of) (defScope s_speed_of) .none kV_speed_of dc_speed_of pm_speed_of an_speed_of cd_speed_of ct_speed_of), sl_speed_of⟩)
    (c_speed_of : PySem.W.codeIn K cd_speed_of "speed_of" = true)
    (k_speed_of : PySem.W.keepIn K (.ref f_speed_of) = true)
    (a_meeting_clock : PySem.W.nsIn K mainGlobals "meeting_clock" = some (some (.ref f_meeting_clock)))
    (l_meeting_clock : K.lookup f_meeting_clock = some ⟨oc_meeting_clock, od_meeting_clock, .func (PySem.W.fnOf "meeting_clock" "meeting_clock" (defArgs s_meeting_clock) (defBody s_meeting_clock) (defScope s_meeting_clock) .none kV_meeting_clock dc_meeting_clock pm_meeting_clock an_meeting_clock cd_meeting_clock ct_meeting_clock), sl_meeting_clock⟩)
    (c_meeting_clock : PySem.W.codeIn K cd_meeting_clock "meeting_clock" = true)
    (k_meeting_clock : PySem.W.keepIn K (.ref f_meeting_clock) = true)
    (a_is_station : PySem.W.nsIn K mainGlobals "is_station" = some (some (.ref f_is_station)))
    (l_is_station : K.lookup f_is_station = some ⟨oc_is_station, od_is_station, .func (PySem.W.fnOf "is_station" "is_station" (defArgs s_is_station) (defBody s_is_station) (defScope s_is_station) .none kV_is_station dc_is_station pm_is_station an_is_station cd_is_station ct_is_station), sl_is_station⟩)
    (c_is_station : PySem.W.codeIn K cd_is_station "is_station" = true)
    (k_is_station : PySem.W.keepIn K (.ref f_is_station) = true)
    (a_is_spot : PySem.W.nsIn K mainGlobals "is_spot" = some (some (.ref f_is_spot)))
    (l_is_spot : K.lookup f_is_spot = some ⟨oc_is_spot, od_is_spot, .func (PySem.W.fnOf "is_spot" "is_spot" (defArgs s_is_spot) (defBody s_is_spot) (defScope s_is_spot) .none kV_is_spot dc_is_spot pm_is_spot an_is_spot cd_is_spot ct_is_spot), sl_is_spot⟩)
    (c_is_spot : PySem.W.codeIn K cd_is_spot "is_spot" = true)
    (k_is_spot : PySem.W.keepIn K (.ref f_is_spot) = true)
    (a_is_factor : PySem.W.nsIn K mainGlobals "is_factor" = some (some (.ref f_is_factor)))
    (l_is_factor : K.lookup f_is_factor = some ⟨oc_is_factor, od_is_factor, .func (PySem.W.fnOf "is_factor" "is_factor" (defArgs s_is_factor) (defBody s_is_factor) (defScope s_is_factor) .none kV_is_factor dc_is_factor pm_is_factor an_is_factor cd_is_factor ct_is_factor), sl_is_factor⟩)
    (c_is_factor : PySem.W.codeIn K cd_is_factor "is_factor" = true)
    (k_is_factor : PySem.W.keepIn K (.ref f_is_factor) = true)
    (a_is_clock : PySem.W.nsIn K mainGlobals "is_clock" = some (some (.ref f_is_clock)))
    (l_is_clock : K.lookup f_is_clock = some ⟨oc_is_clock, od_is_clock, .func (PySem.W.fnOf "is_clock" "is_clock" (defArgs s_is_clock) (defBody s_is_clock) (defScope s_is_clock) .none kV_is_clock dc_is_clock pm_is_clock an_is_clock cd_is_clock ct_is_clock), sl_is_clock⟩)
    (c_is_clock : PySem.W.codeIn K cd_is_clock "is_clock" = true)
    (k_is_clock : PySem.W.keepIn K (.ref f_is_clock) = true)
    (a_clock_refusal : PySem.W.nsIn K mainGlobals "clock_refusal" = some (some (.ref f_clock_refusal)))
    (l_clock_refusal : K.lookup f_clock_refusal = some ⟨oc_clock_refusal, od_clock_refusal, .func (PySem.W.fnOf "clock_refusal" "clock_refusal" (defArgs s_clock_refusal) (defBody s_clock_refusal) (defScope s_clock_refusal) .none kV_clock_refusal dc_clock_refusal pm_clock_refusal an_clock_refusal cd_clock_refusal ct_clock_refusal), sl_clock_refusal⟩)
    (c_clock_refusal : PySem.W.codeIn K cd_clock_refusal "clock_refusal" = true)
    (k_clock_refusal : PySem.W.keepIn K (.ref f_clock_refusal) = true)
    (a_spot_refusal : PySem.W.nsIn K mainGlobals "spot_refusal" = some (some (.ref f_spot_refusal)))
    (l_spot_refusal : K.lookup f_spot_refusal = some ⟨oc_spot_refusal, od_spot_refusal, .func (PySem.W.fnOf "spot_refusal" "spot_refusal" (defArgs s_spot_refusal) (defBody s_spot_refusal) (defScope s_spot_refusal) .none kV_spot_refusal dc_spot_refusal pm_spot_refusal an_spot_refusal cd_spot_refusal ct_spot_refusal), sl_spot_refusal⟩)
    (c_spot_refusal : PySem.W.codeIn K cd_spot_refusal "spot_refusal" = true)
    (k_spot_refusal : PySem.W.keepIn K (.ref f_spot_refusal) = true)
    (a_pair_refusal : PySem.W.nsIn K mainGlobals "pair_refusal" = some (some (.ref f_pair_refusal)))
    (l_pair_refusal : K.lookup f_pair_refusal = some ⟨oc_pair_refusal, od_pair_refusal, .func (PySem.W.fnOf "pair_refusal" "pair_refusal" (defArgs s_pair_refusal) (defBody s_pair_refusal) (defScope s_pair_refusal) .none kV_pair_refusal dc_pair_refusal pm_pair_refusal an_pair_refusal cd_pair_refusal ct_pair_refusal), sl_pair_refusal⟩)
    (c_pair_refusal : PySem.W.codeIn K cd_pair_refusal "pair_refusal" = true)
    (k_pair_refusal : PySem.W.keepIn K (.ref f_pair_refusal) = true)
    (a_sending_refusal : PySem.W.nsIn K mainGlobals "sending_refusal" = some (some (.ref f_sending_refusal)))
    (l_sending_refusal : K.lookup f_sending_refusal = some ⟨oc_sending_refusal, od_sending_refusal, .func (PySem.W.fnOf "sending_refusal" "sending_refusal" (defArgs s_sending_refusal) (defBody s_sending_refusal) (defScope s_sending_refusal) .none kV_sending_refusal dc_sending_refusal pm_sending_refusal an_sending_refusal cd_sending_refusal ct_sending_refusal), sl_sending_refusal⟩)
    (c_sending_refusal : PySem.W.codeIn K cd_sending_refusal "sending_refusal" = true)
    (k_sending_refusal : PySem.W.keepIn K (.ref f_sending_refusal) = true)
    (a_row_refusal : PySem.W.nsIn K mainGlobals "row_refusal" = some (some (.ref f_row_refusal)))
    (l_row_refusal : K.lookup f_row_refusal = some ⟨oc_row_refusal, od_row_refusal, .func (PySem.W.fnOf "row_refusal" "row_refusal" (defArgs s_row_refusal) (defBody s_row_refusal) (defScope s_row_refusal) .none kV_row_refusal dc_row_refusal pm_row_refusal an_row_refusal cd_row_refusal ct_row_refusal), sl_row_refusal⟩)
    (c_row_refusal : PySem.W.codeIn K cd_row_refusal "row_refusal" = true)
    (k_row_refusal : PySem.W.keepIn K (.ref f_row_refusal) = true)
    (a_without : PySem.W.nsIn K mainGlobals "without" = some (some (.ref f_without)))
    (l_without : K.lookup f_without = some ⟨oc_without, od_without, .func (PySem.W.fnOf "without" "without" (defArgs s_without) (defBody s_without) (defScope s_without) .none kV_without dc_without pm_without an_without cd_without ct_without), sl_without⟩)
    (c_without : PySem.W.codeIn K cd_without "without" = true)
    (k_without : PySem.W.keepIn K (.ref f_without) = true)
    (a_put_in_place : PySem.W.nsIn K mainGlobals "put_in_place" = some (some (.ref f_put_in_place)))
    (l_put_in_place : K.lookup f_put_in_place = some ⟨oc_put_in_place, od_put_in_place, .func (PySem.W.fnOf "put_in_place" "put_in_place" (defArgs s_put_in_place) (defBody s_put_in_place) (defScope s_put_in_place) .none kV_put_in_place dc_put_in_place pm_put_in_place an_put_in_place cd_put_in_place ct_put_in_place), sl_put_in_place⟩)
    (c_put_in_place : PySem.W.codeIn K cd_put_in_place "put_in_place" = true)
    (k_put_in_place : PySem.W.keepIn K (.ref f_put_in_place) = true)
    (a_add_station : PySem.W.nsIn K mainGlobals "add_station" = some (some (.ref f_add_station)))
    (l_add_station : K.lookup f_add_station = some ⟨oc_add_station, od_add_station, .func (PySem.W.fnOf "add_station" "add_station" (defArgs s_add_station) (defBody s_add_station) (defScope s_add_station) .none kV_add_station dc_add_station pm_add_station an_add_station cd_add_station ct_add_station), sl_add_station⟩)
    (c_add_station : PySem.W.codeIn K cd_add_station "add_station" = true)
    (k_add_station : PySem.W.keepIn K (.ref f_add_station) = true)
    (a_drop_station : PySem.W.nsIn K mainGlobals "drop_station" = some (some (.ref f_drop_station)))
    (l_drop_station : K.lookup f_drop_station = some ⟨oc_drop_station, od_drop_station, .func (PySem.W.fnOf "drop_station" "drop_station" (defArgs s_drop_station) (defBody s_drop_station) (defScope s_drop_station) .none kV_drop_station dc_drop_station pm_drop_station an_drop_station cd_drop_station ct_drop_station), sl_drop_station⟩)
    (c_drop_station : PySem.W.codeIn K cd_drop_station "drop_station" = true)
    (k_drop_station : PySem.W.keepIn K (.ref f_drop_station) = true)
    (a_move_station : PySem.W.nsIn K mainGlobals "move_station" = some (some (.ref f_move_station)))
    (l_move_station : K.lookup f_move_station = some ⟨oc_move_station, od_move_station, .func (PySem.W.fnOf "move_station" "move_station" (defArgs s_move_station) (defBody s_move_station) (defScope s_move_station) .none kV_move_station dc_move_station pm_move_station an_move_station cd_move_station ct_move_station), sl_move_station⟩)
    (c_move_station : PySem.W.codeIn K cd_move_station "move_station" = true)
    (k_move_station : PySem.W.keepIn K (.ref f_move_station) = true)
    (a_set_station : PySem.W.nsIn K mainGlobals "set_station" = some (some (.ref f_set_station)))
    (l_set_station : K.lookup f_set_station = some ⟨oc_set_station, od_set_station, .func (PySem.W.fnOf "set_station" "set_station" (defArgs s_set_station) (defBody s_set_station) (defScope s_set_station) .none kV_set_station dc_set_station pm_set_station an_set_station cd_set_station ct_set_station), sl_set_station⟩)
    (c_set_station : PySem.W.codeIn K cd_set_station "set_station" = true)
    (k_set_station : PySem.W.keepIn K (.ref f_set_station) = true)
    (a_take_last_back : PySem.W.nsIn K mainGlobals "take_last_back" = some (some (.ref f_take_last_back)))
    (l_take_last_back : K.lookup f_take_last_back = some ⟨oc_take_last_back, od_take_last_back, .func (PySem.W.fnOf "take_last_back" "take_last_back" (defArgs s_take_last_back) (defBody s_take_last_back) (defScope s_take_last_back) .none kV_take_last_back dc_take_last_back pm_take_last_back an_take_last_back cd_take_last_back ct_take_last_back), sl_take_last_back⟩)
    (c_take_last_back : PySem.W.codeIn K cd_take_last_back "take_last_back" = true)
    (k_take_last_back : PySem.W.keepIn K (.ref f_take_last_back) = true)
    (a_tell_one : PySem.W.nsIn K mainGlobals "tell_one" = some (some (.ref f_tell_one)))
    (l_tell_one : K.lookup f_tell_one = some ⟨oc_tell_one, od_tell_one, .func (PySem.W.fnOf "tell_one" "tell_one" (defArgs s_tell_one) (defBody s_tell_one) (defScope s_tell_one) .none kV_tell_one dc_tell_one pm_tell_one an_tell_one cd_tell_one ct_tell_one), sl_tell_one⟩)
    (c_tell_one : PySem.W.codeIn K cd_tell_one "tell_one" = true)
    (k_tell_one : PySem.W.keepIn K (.ref f_tell_one) = true)
    (a_tell_two : PySem.W.nsIn K mainGlobals "tell_two" = some (some (.ref f_tell_two)))
    (l_tell_two : K.lookup f_tell_two = some ⟨oc_tell_two, od_tell_two, .func (PySem.W.fnOf "tell_two" "tell_two" (defArgs s_tell_two) (defBody s_tell_two) (defScope s_tell_two) .none kV_tell_two dc_tell_two pm_tell_two an_tell_two cd_tell_two ct_tell_two), sl_tell_two⟩)
    (c_tell_two : PySem.W.codeIn K cd_tell_two "tell_two" = true)
    (k_tell_two : PySem.W.keepIn K (.ref f_tell_two) = true)
    (a_tell_state : PySem.W.nsIn K mainGlobals "tell_state" = some (some (.ref f_tell_state)))
    (l_tell_state : K.lookup f_tell_state = some ⟨oc_tell_state, od_tell_state, .func (PySem.W.fnOf "tell_state" "tell_state" (defArgs s_tell_state) (defBody s_tell_state) (defScope s_tell_state) .none kV_tell_state dc_tell_state pm_tell_state an_tell_state cd_tell_state ct_tell_state), sl_tell_state⟩)
    (c_tell_state : PySem.W.codeIn K cd_tell_state "tell_state" = true)
    (k_tell_state : PySem.W.keepIn K (.ref f_tell_state) = true)
    (a_tell_station : PySem.W.nsIn K mainGlobals "tell_station" = some (some (.ref f_tell_station)))
    (l_tell_station : K.lookup f_tell_station = some ⟨oc_tell_station, od_tell_station, .func (PySem.W.fnOf "tell_station" "tell_station" (defArgs s_tell_station) (defBody s_tell_station) (defScope s_tell_station) .none kV_tell_station dc_tell_station pm_tell_station an_tell_station cd_tell_station ct_tell_station), sl_tell_station⟩)
    (c_tell_station : PySem.W.codeIn K cd_tell_station "tell_station" = true)
    (k_tell_station : PySem.W.keepIn K (.ref f_tell_station) = true)
    (a_tell_where : PySem.W.nsIn K mainGlobals "tell_where" = some (some (.ref f_tell_where)))
    (l_tell_where : K.lookup f_tell_where = some ⟨oc_tell_where, od_tell_where, .func (PySem.W.fnOf "tell_where" "tell_where" (defArgs s_tell_where) (defBody s_tell_where) (defScope s_tell_where) .none kV_tell_where dc_tell_where pm_tell_where an_tell_where cd_tell_where ct_tell_where), sl_tell_where⟩)
    (c_tell_where : PySem.W.codeIn K cd_tell_where "tell_where" = true)
    (k_tell_where : PySem.W.keepIn K (.ref f_tell_where) = true)
    (a_tell_hears : PySem.W.nsIn K mainGlobals "tell_hears" = some (some (.ref f_tell_hears)))
    (l_tell_hears : K.lookup f_tell_hears = some ⟨oc_tell_hears, od_tell_hears, .func (PySem.W.fnOf "tell_hears" "tell_hears" (defArgs s_tell_hears) (defBody s_tell_hears) (defScope s_tell_hears) .none kV_tell_hears dc_tell_hears pm_tell_hears an_tell_hears cd_tell_hears ct_tell_hears), sl_tell_hears⟩)
    (c_tell_hears : PySem.W.codeIn K cd_tell_hears "tell_hears" = true)
    (k_tell_hears : PySem.W.keepIn K (.ref f_tell_hears) = true)
    (a_tell_till : PySem.W.nsIn K mainGlobals "tell_till" = some (some (.ref f_tell_till)))
    (l_tell_till : K.lookup f_tell_till = some ⟨oc_tell_till, od_tell_till, .func (PySem.W.fnOf "tell_till" "tell_till" (defArgs s_tell_till) (defBody s_tell_till) (defScope s_tell_till) .none kV_tell_till dc_tell_till pm_tell_till an_tell_till cd_tell_till ct_tell_till), sl_tell_till⟩)
    (c_tell_till : PySem.W.codeIn K cd_tell_till "tell_till" = true)
    (k_tell_till : PySem.W.keepIn K (.ref f_tell_till) = true)
    (a_tell_own_of_point : PySem.W.nsIn K mainGlobals "tell_own_of_point" = some (some (.ref f_tell_own_of_point)))
    (l_tell_own_of_point : K.lookup f_tell_own_of_point = some ⟨oc_tell_own_of_point, od_tell_own_of_point, .func (PySem.W.fnOf "tell_own_of_point" "tell_own_of_point" (defArgs s_tell_own_of_point) (defBody s_tell_own_of_point) (defScope s_tell_own_of_point) .none kV_tell_own_of_point dc_tell_own_of_point pm_tell_own_of_point an_tell_own_of_point cd_tell_own_of_point ct_tell_own_of_point), sl_tell_own_of_point⟩)
    (c_tell_own_of_point : PySem.W.codeIn K cd_tell_own_of_point "tell_own_of_point" = true)
    (k_tell_own_of_point : PySem.W.keepIn K (.ref f_tell_own_of_point) = true)
    (a_tell_own : PySem.W.nsIn K mainGlobals "tell_own" = some (some (.ref f_tell_own)))
    (l_tell_own : K.lookup f_tell_own = some ⟨oc_tell_own, od_tell_own, .func (PySem.W.fnOf "tell_own" "tell_own" (defArgs s_tell_own) (defBody s_tell_own) (defScope s_tell_own) .none kV_tell_own dc_tell_own pm_tell_own an_tell_own cd_tell_own ct_tell_own), sl_tell_own⟩)
    (c_tell_own : PySem.W.codeIn K cd_tell_own "tell_own" = true)
    (k_tell_own : PySem.W.keepIn K (.ref f_tell_own) = true)
    (a_tell_send : PySem.W.nsIn K mainGlobals "tell_send" = some (some (.ref f_tell_send)))
    (l_tell_send : K.lookup f_tell_send = some ⟨oc_tell_send, od_tell_send, .func (PySem.W.fnOf "tell_send" "tell_send" (defArgs s_tell_send) (defBody s_tell_send) (defScope s_tell_send) .none kV_tell_send dc_tell_send pm_tell_send an_tell_send cd_tell_send ct_tell_send), sl_tell_send⟩)
    (c_tell_send : PySem.W.codeIn K cd_tell_send "tell_send" = true)
    (k_tell_send : PySem.W.keepIn K (.ref f_tell_send) = true)
    (a_tell_echo : PySem.W.nsIn K mainGlobals "tell_echo" = some (some (.ref f_tell_echo)))
    (l_tell_echo : K.lookup f_tell_echo = some ⟨oc_tell_echo, od_tell_echo, .func (PySem.W.fnOf "tell_echo" "tell_echo" (defArgs s_tell_echo) (defBody s_tell_echo) (defScope s_tell_echo) .none kV_tell_echo dc_tell_echo pm_tell_echo an_tell_echo cd_tell_echo ct_tell_echo), sl_tell_echo⟩)
    (c_tell_echo : PySem.W.codeIn K cd_tell_echo "tell_echo" = true)
    (k_tell_echo : PySem.W.keepIn K (.ref f_tell_echo) = true)
    (a_tell_ticks : PySem.W.nsIn K mainGlobals "tell_ticks" = some (some (.ref f_tell_ticks)))
    (l_tell_ticks : K.lookup f_tell_ticks = some ⟨oc_tell_ticks, od_tell_ticks, .func (PySem.W.fnOf "tell_ticks" "tell_ticks" (defArgs s_tell_ticks) (defBody s_tell_ticks) (defScope s_tell_ticks) .none kV_tell_ticks dc_tell_ticks pm_tell_ticks an_tell_ticks cd_tell_ticks ct_tell_ticks), sl_tell_ticks⟩)
    (c_tell_ticks : PySem.W.codeIn K cd_tell_ticks "tell_ticks" = true)
    (k_tell_ticks : PySem.W.keepIn K (.ref f_tell_ticks) = true)
    (a_tell_ownof : PySem.W.nsIn K mainGlobals "tell_ownof" = some (some (.ref f_tell_ownof)))
    (l_tell_ownof : K.lookup f_tell_ownof = some ⟨oc_tell_ownof, od_tell_ownof, .func (PySem.W.fnOf "tell_ownof" "tell_ownof" (defArgs s_tell_ownof) (defBody s_tell_ownof) (defScope s_tell_ownof) .none kV_tell_ownof dc_tell_ownof pm_tell_ownof an_tell_ownof cd_tell_ownof ct_tell_ownof), sl_tell_ownof⟩)
    (c_tell_ownof : PySem.W.codeIn K cd_tell_ownof "tell_ownof" = true)
    (k_tell_ownof : PySem.W.keepIn K (.ref f_tell_ownof) = true)
    (a_tell_closing : PySem.W.nsIn K mainGlobals "tell_closing" = some (some (.ref f_tell_closing)))
    (l_tell_closing : K.lookup f_tell_closing = some ⟨oc_tell_closing, od_tell_closing, .func (PySem.W.fnOf "tell_closing" "tell_closing" (defArgs s_tell_closing) (defBody s_tell_closing) (defScope s_tell_closing) .none kV_tell_closing dc_tell_closing pm_tell_closing an_tell_closing cd_tell_closing ct_tell_closing), sl_tell_closing⟩)
    (c_tell_closing : PySem.W.codeIn K cd_tell_closing "tell_closing" = true)
    (k_tell_closing : PySem.W.keepIn K (.ref f_tell_closing) = true)
    (a_tell_meet : PySem.W.nsIn K mainGlobals "tell_meet" = some (some (.ref f_tell_meet)))
    (l_tell_meet : K.lookup f_tell_meet = some ⟨oc_tell_meet, od_tell_meet, .func (PySem.W.fnOf "tell_meet" "tell_meet" (defArgs s_tell_meet) (defBody s_tell_meet) (defScope s_tell_meet) .none kV_tell_meet dc_tell_meet pm_tell_meet an_tell_meet cd_tell_meet ct_tell_meet), sl_tell_meet⟩)
    (c_tell_meet : PySem.W.codeIn K cd_tell_meet "tell_meet" = true)
    (k_tell_meet : PySem.W.keepIn K (.ref f_tell_meet) = true)
    (a_tell_relay : PySem.W.nsIn K mainGlobals "tell_relay" = some (some (.ref f_tell_relay)))
    (l_tell_relay : K.lookup f_tell_relay = some ⟨oc_tell_relay, od_tell_relay, .func (PySem.W.fnOf "tell_relay" "tell_relay" (defArgs s_tell_relay) (defBody s_tell_relay) (defScope s_tell_relay) .none kV_tell_relay dc_tell_relay pm_tell_relay an_tell_relay cd_tell_relay ct_tell_relay), sl_tell_relay⟩)
    (c_tell_relay : PySem.W.codeIn K cd_tell_relay "tell_relay" = true)
    (k_tell_relay : PySem.W.keepIn K (.ref f_tell_relay) = true)
    (a_tell_round : PySem.W.nsIn K mainGlobals "tell_round" = some (some (.ref f_tell_round)))
    (l_tell_round : K.lookup f_tell_round = some ⟨oc_tell_round, od_tell_round, .func (PySem.W.fnOf "tell_round" "tell_round" (defArgs s_tell_round) (defBody s_tell_round) (defScope s_tell_round) .none kV_tell_round dc_tell_round pm_tell_round an_tell_round cd_tell_round ct_tell_round), sl_tell_round⟩)
    (c_tell_round : PySem.W.codeIn K cd_tell_round "tell_round" = true)
    (k_tell_round : PySem.W.keepIn K (.ref f_tell_round) = true)
    (a_call_length : PySem.W.nsIn K mainGlobals "call_length" = some (some (.ref f_call_length)))
    (l_call_length : K.lookup f_call_length = some ⟨oc_call_length, od_call_length, .func (PySem.W.fnOf "call_length" "call_length" (defArgs s_call_length) (defBody s_call_length) (defScope s_call_length) .none kV_call_length dc_call_length pm_call_length an_call_length cd_call_length ct_call_length), sl_call_length⟩)
    (c_call_length : PySem.W.codeIn K cd_call_length "call_length" = true)
    (k_call_length : PySem.W.keepIn K (.ref f_call_length) = true)
    (a_change : PySem.W.nsIn K mainGlobals "change" = some (some (.ref f_change)))
    (l_change : K.lookup f_change = some ⟨oc_change, od_change, .func (PySem.W.fnOf "change" "change" (defArgs s_change) (defBody s_change) (defScope s_change) .none kV_change dc_change pm_change an_change cd_change ct_change), sl_change⟩)
    (c_change : PySem.W.codeIn K cd_change "change" = true)
    (k_change : PySem.W.keepIn K (.ref f_change) = true)
    (a_look_at_one : PySem.W.nsIn K mainGlobals "look_at_one" = some (some (.ref f_look_at_one)))
    (l_look_at_one : K.lookup f_look_at_one = some ⟨oc_look_at_one, od_look_at_one, .func (PySem.W.fnOf "look_at_one" "look_at_one" (defArgs s_look_at_one) (defBody s_look_at_one) (defScope s_look_at_one) .none kV_look_at_one dc_look_at_one pm_look_at_one an_look_at_one cd_look_at_one ct_look_at_one), sl_look_at_one⟩)
    (c_look_at_one : PySem.W.codeIn K cd_look_at_one "look_at_one" = true)
    (k_look_at_one : PySem.W.keepIn K (.ref f_look_at_one) = true)
    (a_look_at_two : PySem.W.nsIn K mainGlobals "look_at_two" = some (some (.ref f_look_at_two)))
    (l_look_at_two : K.lookup f_look_at_two = some ⟨oc_look_at_two, od_look_at_two, .func (PySem.W.fnOf "look_at_two" "look_at_two" (defArgs s_look_at_two) (defBody s_look_at_two) (defScope s_look_at_two) .none kV_look_at_two dc_look_at_two pm_look_at_two an_look_at_two cd_look_at_two ct_look_at_two), sl_look_at_two⟩)
    (c_look_at_two : PySem.W.codeIn K cd_look_at_two "look_at_two" = true)
    (k_look_at_two : PySem.W.keepIn K (.ref f_look_at_two) = true)
    (a_look_along_row : PySem.W.nsIn K mainGlobals "look_along_row" = some (some (.ref f_look_along_row)))
    (l_look_along_row : K.lookup f_look_along_row = some ⟨oc_look_along_row, od_look_along_row, .func (PySem.W.fnOf "look_along_row" "look_along_row" (defArgs s_look_along_row) (defBody s_look_along_row) (defScope s_look_along_row) .none kV_look_along_row dc_look_along_row pm_look_along_row an_look_along_row cd_look_along_row ct_look_along_row), sl_look_along_row⟩)
    (c_look_along_row : PySem.W.codeIn K cd_look_along_row "look_along_row" = true)
    (k_look_along_row : PySem.W.keepIn K (.ref f_look_along_row) = true)
    (a_answer : PySem.W.nsIn K mainGlobals "answer" = some (some (.ref f_answer)))
    (l_answer : K.lookup f_answer = some ⟨oc_answer, od_answer, .func (PySem.W.fnOf "answer" "answer" (defArgs s_answer) (defBody s_answer) (defScope s_answer) .none kV_answer dc_answer pm_answer an_answer cd_answer ct_answer), sl_answer⟩)
    (c_answer : PySem.W.codeIn K cd_answer "answer" = true)
    (k_answer : PySem.W.keepIn K (.ref f_answer) = true)
    (a_answers : PySem.W.nsIn K mainGlobals "answers" = some (some (.ref f_answers)))
    (l_answers : K.lookup f_answers = some ⟨oc_answers, od_answers, .func (PySem.W.fnOf "answers" "answers" (defArgs s_answers) (defBody s_answers) (defScope s_answers) .none kV_answers dc_answers pm_answers an_answers cd_answers ct_answers), sl_answers⟩)
    (c_answers : PySem.W.codeIn K cd_answers "answers" = true)
    (k_answers : PySem.W.keepIn K (.ref f_answers) = true)
    :
    ∃ fd : FuncData, (∀ (s : Shared) (us : List Value), us.length = (["calls"] : List Str).length → BindsTo s fd ⟨us, []⟩ ((["calls"] : List Str).zip us)) ∧ ∀ base : Heap, K.In base → base.Ns mainGlobals mg → FnOk P w K mg base CX0 20 fa fd ["calls"] (spAnswers K) := by
  have e := hfa.symm.trans (PySem.W.mg_of X G a_answers)
  cases e
  have T : Txt K mg C_Board C_Station := ⟨⟨_, PySem.W.mg_of X G e_MOST_CHANGES⟩, ⟨_, PySem.W.mg_of X G e_THERE⟩, ⟨_, PySem.W.mg_of X G e_ON_THE_RIGHT⟩, ⟨_, PySem.W.mg_of X G e_ON_THE_LEFT⟩, ⟨_, PySem.W.mg_of X G e_NO_STATION⟩, ⟨_, PySem.W.mg_of X G e_NO_CHANGE⟩, ⟨_, PySem.W.mg_of X G e_NOT_BEGUN⟩, ⟨_, PySem.W.mg_of X G e_OUT_OF_RANGE⟩, ⟨_, PySem.W.mg_of X G e_TOO_MANY⟩, ⟨_, PySem.W.mg_of X G e_THERE_IS_NONE⟩, ⟨_, PySem.W.mg_of X G e_LEAST_ROW⟩, ⟨_, PySem.W.mg_of X G e_MOST_ROW⟩, ⟨_, PySem.W.mg_of X G e_NONE_DUE⟩, ⟨_, PySem.W.mg_of X G e_MOST_STATIONS⟩, ⟨_, PySem.W.mg_of X G e_BEGIN⟩, ⟨_, PySem.W.mg_of X G e_STATION⟩, ⟨_, PySem.W.mg_of X G e_DROP⟩, ⟨_, PySem.W.mg_of X G e_MOVE⟩, ⟨_, PySem.W.mg_of X G e_SET⟩, ⟨_, PySem.W.mg_of X G e_IS⟩, ⟨_, PySem.W.mg_of X G e_AT⟩, ⟨_, PySem.W.mg_of X G e_SEND⟩, ⟨_, PySem.W.mg_of X G e_ECHO⟩, ⟨_, PySem.W.mg_of X G e_TICKS⟩, ⟨_, PySem.W.mg_of X G e_HEARS⟩, ⟨_, PySem.W.mg_of X G e_TILL⟩, ⟨_, PySem.W.mg_of X G e_OWN⟩, ⟨_, PySem.W.mg_of X G e_OWNOF⟩, ⟨_, PySem.W.mg_of X G e_MEET⟩, ⟨_, PySem.W.mg_of X G e_RELAY⟩, ⟨_, PySem.W.mg_of X G e_ROUND⟩, ⟨_, PySem.W.mg_of X G e_BACK⟩, ⟨_, PySem.W.mg_of X G e_STATE⟩, ⟨a_GIVEN, PySem.W.mg_of X G e_GIVEN, fun H => .inr ⟨_, _, _, l_GIVEN, rfl, rfl, (by show 20 ≤ sizeLine; decide), (.cons ⟨_, rfl⟩ (.cons ⟨_, rfl⟩ (.cons ⟨_, rfl⟩ (.cons ⟨_, rfl⟩ (.cons ⟨_, rfl⟩ (.cons ⟨_, rfl⟩ (.cons ⟨_, rfl⟩ (.cons ⟨_, rfl⟩ (.cons ⟨_, rfl⟩ (.cons ⟨_, rfl⟩ (.cons ⟨_, rfl⟩ (.cons ⟨_, rfl⟩ (.cons ⟨_, rfl⟩ (.cons ⟨_, rfl⟩ (.cons ⟨_, rfl⟩ (.cons ⟨_, rfl⟩ (.cons ⟨_, rfl⟩ (.cons ⟨_, rfl⟩ (.cons ⟨_, rfl⟩ (.cons ⟨_, rfl⟩ .nil))))))))))))))))))))⟩⟩, PySem.W.mg_none_of X G z_len, PySem.W.mg_none_of X G z_abs, ⟨pg_Board, hd_Board, po_Board, sa_Board⟩, na_Board_begun, na_Board_stations, na_Board_past, ⟨pg_Station, hd_Station, po_Station, sa_Station⟩, na_Station_time, na_Station_place, na_Station_p, na_Station_q⟩
  have F_Board__init_ := fun_mk (st := s_Board__init_) l_Board__init_ c_Board__init_ k_Board__init_
  have b_Board__init_ := F_Board__init_.binds (ps := p_Board__init_) fun _ _ _ _ _ _ us hl => match us, hl with | [_], _ => rfl
  have F_Board_begin := fun_mk (st := s_Board_begin) l_Board_begin c_Board_begin k_Board_begin
  have b_Board_begin := F_Board_begin.binds (ps := p_Board_begin) fun _ _ _ _ _ _ us hl => match us, hl with | [_], _ => rfl
  have F_Board_change_to := fun_mk (st := s_Board_change_to) l_Board_change_to c_Board_change_to k_Board_change_to
  have b_Board_change_to := F_Board_change_to.binds (ps := p_Board_change_to) fun _ _ _ _ _ _ us hl => match us, hl with | [_, _], _ => rfl
  have F_Board_take_back := fun_mk (st := s_Board_take_back) l_Board_take_back c_Board_take_back k_Board_take_back
  have b_Board_take_back := F_Board_take_back.binds (ps := p_Board_take_back) fun _ _ _ _ _ _ us hl => match us, hl with | [_], _ => rfl
  have F_greatest_common := fun_mk (st := s_greatest_common) l_greatest_common c_greatest_common k_greatest_common
  have b_greatest_common := F_greatest_common.binds (ps := p_greatest_common) fun _ _ _ _ _ _ us hl => match us, hl with | [_, _], _ => rfl
  have D_greatest_common : Df K mg "greatest_common" s_greatest_common p_greatest_common _ _ := ⟨F_greatest_common, PySem.W.mg_of X G a_greatest_common, b_greatest_common⟩
  have F_ratio := fun_mk (st := s_ratio) l_ratio c_ratio k_ratio
  have b_ratio := F_ratio.binds (ps := p_ratio) fun _ _ _ _ _ _ us hl => match us, hl with | [_, _], _ => rfl
  have D_ratio : Df K mg "ratio" s_ratio p_ratio _ _ := ⟨F_ratio, PySem.W.mg_of X G a_ratio, b_ratio⟩
  have F_plus := fun_mk (st := s_plus) l_plus c_plus k_plus
  have b_plus := F_plus.binds (ps := p_plus) fun _ _ _ _ _ _ us hl => match us, hl with | [_, _], _ => rfl
  have D_plus : Df K mg "plus" s_plus p_plus _ _ := ⟨F_plus, PySem.W.mg_of X G a_plus, b_plus⟩
  have F_minus := fun_mk (st := s_minus) l_minus c_minus k_minus
  have b_minus := F_minus.binds (ps := p_minus) fun _ _ _ _ _ _ us hl => match us, hl with | [_, _], _ => rfl
  have D_minus : Df K mg "minus" s_minus p_minus _ _ := ⟨F_minus, PySem.W.mg_of X G a_minus, b_minus⟩
  have F_scaled := fun_mk (st := s_scaled) l_scaled c_scaled k_scaled
  have b_scaled := F_scaled.binds (ps := p_scaled) fun _ _ _ _ _ _ us hl => match us, hl with | [_, _, _], _ => rfl
  have D_scaled : Df K mg "scaled" s_scaled p_scaled _ _ := ⟨F_scaled, PySem.W.mg_of X G a_scaled, b_scaled⟩
  have F_over := fun_mk (st := s_over) l_over c_over k_over
  have b_over := F_over.binds (ps := p_over) fun _ _ _ _ _ _ us hl => match us, hl with | [_, _], _ => rfl
  have D_over : Df K mg "over" s_over p_over _ _ := ⟨F_over, PySem.W.mg_of X G a_over, b_over⟩
  have F_is_less := fun_mk (st := s_is_less) l_is_less c_is_less k_is_less
  have b_is_less := F_is_less.binds (ps := p_is_less) fun _ _ _ _ _ _ us hl => match us, hl with | [_, _], _ => rfl
  have D_is_less : Df K mg "is_less" s_is_less p_is_less _ _ := ⟨F_is_less, PySem.W.mg_of X G a_is_less, b_is_less⟩
  have F_greater := fun_mk (st := s_greater) l_greater c_greater k_greater
  have b_greater := F_greater.binds (ps := p_greater) fun _ _ _ _ _ _ us hl => match us, hl with | [_, _], _ => rfl
  have D_greater : Df K mg "greater" s_greater p_greater _ _ := ⟨F_greater, PySem.W.mg_of X G a_greater, b_greater⟩
  have F_lesser := fun_mk (st := s_lesser) l_lesser c_lesser k_lesser
  have b_lesser := F_lesser.binds (ps := p_lesser) fun _ _ _ _ _ _ us hl => match us, hl with | [_, _], _ => rfl
  have D_lesser : Df K mg "lesser" s_lesser p_lesser _ _ := ⟨F_lesser, PySem.W.mg_of X G a_lesser, b_lesser⟩
  have F_Station__init_ := fun_mk (st := s_Station__init_) l_Station__init_ c_Station__init_ k_Station__init_
  have b_Station__init_ := F_Station__init_.binds (ps := p_Station__init_) fun _ _ _ _ _ _ us hl => match us, hl with | [_, _, _, _, _], _ => rfl
  have F_spot_point := fun_mk (st := s_spot_point) l_spot_point c_spot_point k_spot_point
  have b_spot_point := F_spot_point.binds (ps := p_spot_point) fun _ _ _ _ _ _ us hl => match us, hl with | [_, _], _ => rfl
  have D_spot_point : Df K mg "spot_point" s_spot_point p_spot_point _ _ := ⟨F_spot_point, PySem.W.mg_of X G a_spot_point, b_spot_point⟩
  have F_start_of := fun_mk (st := s_start_of) l_start_of c_start_of k_start_of
  have b_start_of := F_start_of.binds (ps := p_start_of) fun _ _ _ _ _ _ us hl => match us, hl with | [_], _ => rfl
  have D_start_of : Df K mg "start_of" s_start_of p_start_of _ _ := ⟨F_start_of, PySem.W.mg_of X G a_start_of, b_start_of⟩
  have F_point_at := fun_mk (st := s_point_at) l_point_at c_point_at k_point_at
  have b_point_at := F_point_at.binds (ps := p_point_at) fun _ _ _ _ _ _ us hl => match us, hl with | [_, _], _ => rfl
  have D_point_at : Df K mg "point_at" s_point_at p_point_at _ _ := ⟨F_point_at, PySem.W.mg_of X G a_point_at, b_point_at⟩
  have F_time_of := fun_mk (st := s_time_of) l_time_of c_time_of k_time_of
  have b_time_of := F_time_of.binds (ps := p_time_of) fun _ _ _ _ _ _ us hl => match us, hl with | [_], _ => rfl
  have D_time_of : Df K mg "time_of" s_time_of p_time_of _ _ := ⟨F_time_of, PySem.W.mg_of X G a_time_of, b_time_of⟩
  have F_place_of := fun_mk (st := s_place_of) l_place_of c_place_of k_place_of
  have b_place_of := F_place_of.binds (ps := p_place_of) fun _ _ _ _ _ _ us hl => match us, hl with | [_], _ => rfl
  have D_place_of : Df K mg "place_of" s_place_of p_place_of _ _ := ⟨F_place_of, PySem.W.mg_of X G a_place_of, b_place_of⟩
  have F_clock_by_less := fun_mk (st := s_clock_by_less) l_clock_by_less c_clock_by_less k_clock_by_less
  have b_clock_by_less := F_clock_by_less.binds (ps := p_clock_by_less) fun _ _ _ _ _ _ us hl => match us, hl with | [_, _], _ => rfl
  have D_clock_by_less : Df K mg "clock_by_less" s_clock_by_less p_clock_by_less _ _ := ⟨F_clock_by_less, PySem.W.mg_of X G a_clock_by_less, b_clock_by_less⟩
  have F_clock_by_together := fun_mk (st := s_clock_by_together) l_clock_by_together c_clock_by_together k_clock_by_together
  have b_clock_by_together := F_clock_by_together.binds (ps := p_clock_by_together) fun _ _ _ _ _ _ us hl => match us, hl with | [_, _], _ => rfl
  have D_clock_by_together : Df K mg "clock_by_together" s_clock_by_together p_clock_by_together _ _ := ⟨F_clock_by_together, PySem.W.mg_of X G a_clock_by_together, b_clock_by_together⟩
  have F_heard := fun_mk (st := s_heard) l_heard c_heard k_heard
  have b_heard := F_heard.binds (ps := p_heard) fun _ _ _ _ _ _ us hl => match us, hl with | [_, _], _ => rfl
  have D_heard : Df K mg "heard" s_heard p_heard _ _ := ⟨F_heard, PySem.W.mg_of X G a_heard, b_heard⟩
  have F_heard_of_till := fun_mk (st := s_heard_of_till) l_heard_of_till c_heard_of_till k_heard_of_till
  have b_heard_of_till := F_heard_of_till.binds (ps := p_heard_of_till) fun _ _ _ _ _ _ us hl => match us, hl with | [_, _], _ => rfl
  have D_heard_of_till : Df K mg "heard_of_till" s_heard_of_till p_heard_of_till _ _ := ⟨F_heard_of_till, PySem.W.mg_of X G a_heard_of_till, b_heard_of_till⟩
  have F_own_time := fun_mk (st := s_own_time) l_own_time c_own_time k_own_time
  have b_own_time := F_own_time.binds (ps := p_own_time) fun _ _ _ _ _ _ us hl => match us, hl with | [_, _], _ => rfl
  have D_own_time : Df K mg "own_time" s_own_time p_own_time _ _ := ⟨F_own_time, PySem.W.mg_of X G a_own_time, b_own_time⟩
  have F_own_place := fun_mk (st := s_own_place) l_own_place c_own_place k_own_place
  have b_own_place := F_own_place.binds (ps := p_own_place) fun _ _ _ _ _ _ us hl => match us, hl with | [_, _], _ => rfl
  have D_own_place : Df K mg "own_place" s_own_place p_own_place _ _ := ⟨F_own_place, PySem.W.mg_of X G a_own_place, b_own_place⟩
  have F_side_of := fun_mk (st := s_side_of) l_side_of c_side_of k_side_of
  have b_side_of := F_side_of.binds (ps := p_side_of) fun _ _ _ _ _ _ us hl => match us, hl with | [_, _], _ => rfl
  have D_side_of : Df K mg "side_of" s_side_of p_side_of _ _ := ⟨F_side_of, PySem.W.mg_of X G a_side_of, b_side_of⟩
  have F_arrival := fun_mk (st := s_arrival) l_arrival c_arrival k_arrival
  have b_arrival := F_arrival.binds (ps := p_arrival) fun _ _ _ _ _ _ us hl => match us, hl with | [_, _, _], _ => rfl
  have D_arrival : Df K mg "arrival" s_arrival p_arrival _ _ := ⟨F_arrival, PySem.W.mg_of X G a_arrival, b_arrival⟩
  have F_arrival_along := fun_mk (st := s_arrival_along) l_arrival_along c_arrival_along k_arrival_along
  have b_arrival_along := F_arrival_along.binds (ps := p_arrival_along) fun _ _ _ _ _ _ us hl => match us, hl with | [_, _], _ => rfl
  have D_arrival_along : Df K mg "arrival_along" s_arrival_along p_arrival_along _ _ := ⟨F_arrival_along, PySem.W.mg_of X G a_arrival_along, b_arrival_along⟩
  have F_same_factor := fun_mk (st := s_same_factor) l_same_factor c_same_factor k_same_factor
  have b_same_factor := F_same_factor.binds (ps := p_same_factor) fun _ _ _ _ _ _ us hl => match us, hl with | [_, _], _ => rfl
  have D_same_factor : Df K mg "same_factor" s_same_factor p_same_factor _ _ := ⟨F_same_factor, PySem.W.mg_of X G a_same_factor, b_same_factor⟩
  have F_factor_squares := fun_mk (st := s_factor_squares) l_factor_squares c_factor_squares k_factor_squares
  have b_factor_squares := F_factor_squares.binds (ps := p_factor_squares) fun _ _ _ _ _ _ us hl => match us, hl with | [_, _], _ => rfl
  have D_factor_squares : Df K mg "factor_squares" s_factor_squares p_factor_squares _ _ := ⟨F_factor_squares, PySem.W.mg_of X G a_factor_squares, b_factor_squares⟩
  have F_speed_of := fun_mk (st := s_speed_of) l_speed_of c_speed_of k_speed_of
  have b_speed_of := F_speed_of.binds (ps := p_speed_of) fun _ _ _ _ _ _ us hl => match us, hl with | [_, _], _ => rfl
  have D_speed_of : Df K mg "speed_of" s_speed_of p_speed_of _ _ := ⟨F_speed_of, PySem.W.mg_of X G a_speed_of, b_speed_of⟩
  have F_meeting_clock := fun_mk (st := s_meeting_clock) l_meeting_clock c_meeting_clock k_meeting_clock
  have b_meeting_clock := F_meeting_clock.binds (ps := p_meeting_clock) fun _ _ _ _ _ _ us hl => match us, hl with | [_, _], _ => rfl
  have D_meeting_clock : Df K mg "meeting_clock" s_meeting_clock p_meeting_clock _ _ := ⟨F_meeting_clock, PySem.W.mg_of X G a_meeting_clock, b_meeting_clock⟩
  have F_is_station := fun_mk (st := s_is_station) l_is_station c_is_station k_is_station
  have b_is_station := F_is_station.binds (ps := p_is_station) fun _ _ _ _ _ _ us hl => match us, hl with | [_, _], _ => rfl
  have D_is_station : Df K mg "is_station" s_is_station p_is_station _ _ := ⟨F_is_station, PySem.W.mg_of X G a_is_station, b_is_station⟩
  have F_is_spot := fun_mk (st := s_is_spot) l_is_spot c_is_spot k_is_spot
  have b_is_spot := F_is_spot.binds (ps := p_is_spot) fun _ _ _ _ _ _ us hl => match us, hl with | [_, _], _ => rfl
  have D_is_spot : Df K mg "is_spot" s_is_spot p_is_spot _ _ := ⟨F_is_spot, PySem.W.mg_of X G a_is_spot, b_is_spot⟩
  have F_is_factor := fun_mk (st := s_is_factor) l_is_factor c_is_factor k_is_factor
  have b_is_factor := F_is_factor.binds (ps := p_is_factor) fun _ _ _ _ _ _ us hl => match us, hl with | [_, _], _ => rfl
  have D_is_factor : Df K mg "is_factor" s_is_factor p_is_factor _ _ := ⟨F_is_factor, PySem.W.mg_of X G a_is_factor, b_is_factor⟩
  have F_is_clock := fun_mk (st := s_is_clock) l_is_clock c_is_clock k_is_clock
  have b_is_clock := F_is_clock.binds (ps := p_is_clock) fun _ _ _ _ _ _ us hl => match us, hl with | [_, _], _ => rfl
  have D_is_clock : Df K mg "is_clock" s_is_clock p_is_clock _ _ := ⟨F_is_clock, PySem.W.mg_of X G a_is_clock, b_is_clock⟩
  have F_clock_refusal := fun_mk (st := s_clock_refusal) l_clock_refusal c_clock_refusal k_clock_refusal
  have b_clock_refusal := F_clock_refusal.binds (ps := p_clock_refusal) fun _ _ _ _ _ _ us hl => match us, hl with | [_, _, _, _], _ => rfl
  have D_clock_refusal : Df K mg "clock_refusal" s_clock_refusal p_clock_refusal _ _ := ⟨F_clock_refusal, PySem.W.mg_of X G a_clock_refusal, b_clock_refusal⟩
  have F_spot_refusal := fun_mk (st := s_spot_refusal) l_spot_refusal c_spot_refusal k_spot_refusal
  have b_spot_refusal := F_spot_refusal.binds (ps := p_spot_refusal) fun _ _ _ _ _ _ us hl => match us, hl with | [_, _, _, _], _ => rfl
  have D_spot_refusal : Df K mg "spot_refusal" s_spot_refusal p_spot_refusal _ _ := ⟨F_spot_refusal, PySem.W.mg_of X G a_spot_refusal, b_spot_refusal⟩
  have F_pair_refusal := fun_mk (st := s_pair_refusal) l_pair_refusal c_pair_refusal k_pair_refusal
  have b_pair_refusal := F_pair_refusal.binds (ps := p_pair_refusal) fun _ _ _ _ _ _ us hl => match us, hl with | [_, _, _], _ => rfl
  have D_pair_refusal : Df K mg "pair_refusal" s_pair_refusal p_pair_refusal _ _ := ⟨F_pair_refusal, PySem.W.mg_of X G a_pair_refusal, b_pair_refusal⟩
  have F_sending_refusal := fun_mk (st := s_sending_refusal) l_sending_refusal c_sending_refusal k_sending_refusal
  have b_sending_refusal := F_sending_refusal.binds (ps := p_sending_refusal) fun _ _ _ _ _ _ us hl => match us, hl with | [_, _, _, _, _], _ => rfl
  have D_sending_refusal : Df K mg "sending_refusal" s_sending_refusal p_sending_refusal _ _ := ⟨F_sending_refusal, PySem.W.mg_of X G a_sending_refusal, b_sending_refusal⟩
  have F_row_refusal := fun_mk (st := s_row_refusal) l_row_refusal c_row_refusal k_row_refusal
  have b_row_refusal := F_row_refusal.binds (ps := p_row_refusal) fun _ _ _ _ _ _ us hl => match us, hl with | [_, _, _, _], _ => rfl
  have D_row_refusal : Df K mg "row_refusal" s_row_refusal p_row_refusal _ _ := ⟨F_row_refusal, PySem.W.mg_of X G a_row_refusal, b_row_refusal⟩
  have F_without := fun_mk (st := s_without) l_without c_without k_without
  have b_without := F_without.binds (ps := p_without) fun _ _ _ _ _ _ us hl => match us, hl with | [_, _], _ => rfl
  have D_without : Df K mg "without" s_without p_without _ _ := ⟨F_without, PySem.W.mg_of X G a_without, b_without⟩
  have F_put_in_place := fun_mk (st := s_put_in_place) l_put_in_place c_put_in_place k_put_in_place
  have b_put_in_place := F_put_in_place.binds (ps := p_put_in_place) fun _ _ _ _ _ _ us hl => match us, hl with | [_, _, _], _ => rfl
  have D_put_in_place : Df K mg "put_in_place" s_put_in_place p_put_in_place _ _ := ⟨F_put_in_place, PySem.W.mg_of X G a_put_in_place, b_put_in_place⟩
  have F_add_station := fun_mk (st := s_add_station) l_add_station c_add_station k_add_station
  have b_add_station := F_add_station.binds (ps := p_add_station) fun _ _ _ _ _ _ us hl => match us, hl with | [_, _, _, _, _], _ => rfl
  have D_add_station : Df K mg "add_station" s_add_station p_add_station _ _ := ⟨F_add_station, PySem.W.mg_of X G a_add_station, b_add_station⟩
  have F_drop_station := fun_mk (st := s_drop_station) l_drop_station c_drop_station k_drop_station
  have b_drop_station := F_drop_station.binds (ps := p_drop_station) fun _ _ _ _ _ _ us hl => match us, hl with | [_, _], _ => rfl
  have D_drop_station : Df K mg "drop_station" s_drop_station p_drop_station _ _ := ⟨F_drop_station, PySem.W.mg_of X G a_drop_station, b_drop_station⟩
  have F_move_station := fun_mk (st := s_move_station) l_move_station c_move_station k_move_station
  have b_move_station := F_move_station.binds (ps := p_move_station) fun _ _ _ _ _ _ us hl => match us, hl with | [_, _, _, _], _ => rfl
  have D_move_station : Df K mg "move_station" s_move_station p_move_station _ _ := ⟨F_move_station, PySem.W.mg_of X G a_move_station, b_move_station⟩
  have F_set_station := fun_mk (st := s_set_station) l_set_station c_set_station k_set_station
  have b_set_station := F_set_station.binds (ps := p_set_station) fun _ _ _ _ _ _ us hl => match us, hl with | [_, _, _, _], _ => rfl
  have D_set_station : Df K mg "set_station" s_set_station p_set_station _ _ := ⟨F_set_station, PySem.W.mg_of X G a_set_station, b_set_station⟩
  have F_take_last_back := fun_mk (st := s_take_last_back) l_take_last_back c_take_last_back k_take_last_back
  have b_take_last_back := F_take_last_back.binds (ps := p_take_last_back) fun _ _ _ _ _ _ us hl => match us, hl with | [_], _ => rfl
  have D_take_last_back : Df K mg "take_last_back" s_take_last_back p_take_last_back _ _ := ⟨F_take_last_back, PySem.W.mg_of X G a_take_last_back, b_take_last_back⟩
  have F_tell_one := fun_mk (st := s_tell_one) l_tell_one c_tell_one k_tell_one
  have b_tell_one := F_tell_one.binds (ps := p_tell_one) fun _ _ _ _ _ _ us hl => match us, hl with | [_], _ => rfl
  have D_tell_one : Df K mg "tell_one" s_tell_one p_tell_one _ _ := ⟨F_tell_one, PySem.W.mg_of X G a_tell_one, b_tell_one⟩
  have F_tell_two := fun_mk (st := s_tell_two) l_tell_two c_tell_two k_tell_two
  have b_tell_two := F_tell_two.binds (ps := p_tell_two) fun _ _ _ _ _ _ us hl => match us, hl with | [_, _, _], _ => rfl
  have D_tell_two : Df K mg "tell_two" s_tell_two p_tell_two _ _ := ⟨F_tell_two, PySem.W.mg_of X G a_tell_two, b_tell_two⟩
  have F_tell_state := fun_mk (st := s_tell_state) l_tell_state c_tell_state k_tell_state
  have b_tell_state := F_tell_state.binds (ps := p_tell_state) fun _ _ _ _ _ _ us hl => match us, hl with | [_], _ => rfl
  have D_tell_state : Df K mg "tell_state" s_tell_state p_tell_state _ _ := ⟨F_tell_state, PySem.W.mg_of X G a_tell_state, b_tell_state⟩
  have F_tell_station := fun_mk (st := s_tell_station) l_tell_station c_tell_station k_tell_station
  have b_tell_station := F_tell_station.binds (ps := p_tell_station) fun _ _ _ _ _ _ us hl => match us, hl with | [_, _], _ => rfl
  have D_tell_station : Df K mg "tell_station" s_tell_station p_tell_station _ _ := ⟨F_tell_station, PySem.W.mg_of X G a_tell_station, b_tell_station⟩
  have F_tell_where := fun_mk (st := s_tell_where) l_tell_where c_tell_where k_tell_where
  have b_tell_where := F_tell_where.binds (ps := p_tell_where) fun _ _ _ _ _ _ us hl => match us, hl with | [_, _, _, _], _ => rfl
  have D_tell_where : Df K mg "tell_where" s_tell_where p_tell_where _ _ := ⟨F_tell_where, PySem.W.mg_of X G a_tell_where, b_tell_where⟩
  have F_tell_hears := fun_mk (st := s_tell_hears) l_tell_hears c_tell_hears k_tell_hears
  have b_tell_hears := F_tell_hears.binds (ps := p_tell_hears) fun _ _ _ _ _ _ us hl => match us, hl with | [_, _, _, _], _ => rfl
  have D_tell_hears : Df K mg "tell_hears" s_tell_hears p_tell_hears _ _ := ⟨F_tell_hears, PySem.W.mg_of X G a_tell_hears, b_tell_hears⟩
  have F_tell_till := fun_mk (st := s_tell_till) l_tell_till c_tell_till k_tell_till
  have b_tell_till := F_tell_till.binds (ps := p_tell_till) fun _ _ _ _ _ _ us hl => match us, hl with | [_, _, _, _], _ => rfl
  have D_tell_till : Df K mg "tell_till" s_tell_till p_tell_till _ _ := ⟨F_tell_till, PySem.W.mg_of X G a_tell_till, b_tell_till⟩
  have F_tell_own_of_point := fun_mk (st := s_tell_own_of_point) l_tell_own_of_point c_tell_own_of_point k_tell_own_of_point
  have b_tell_own_of_point := F_tell_own_of_point.binds (ps := p_tell_own_of_point) fun _ _ _ _ _ _ us hl => match us, hl with | [_, _], _ => rfl
  have D_tell_own_of_point : Df K mg "tell_own_of_point" s_tell_own_of_point p_tell_own_of_point _ _ := ⟨F_tell_own_of_point, PySem.W.mg_of X G a_tell_own_of_point, b_tell_own_of_point⟩
  have F_tell_own := fun_mk (st := s_tell_own) l_tell_own c_tell_own k_tell_own
  have b_tell_own := F_tell_own.binds (ps := p_tell_own) fun _ _ _ _ _ _ us hl => match us, hl with | [_, _, _, _], _ => rfl
  have D_tell_own : Df K mg "tell_own" s_tell_own p_tell_own _ _ := ⟨F_tell_own, PySem.W.mg_of X G a_tell_own, b_tell_own⟩
  have F_tell_send := fun_mk (st := s_tell_send) l_tell_send c_tell_send k_tell_send
  have b_tell_send := F_tell_send.binds (ps := p_tell_send) fun _ _ _ _ _ _ us hl => match us, hl with | [_, _, _, _, _], _ => rfl
  have D_tell_send : Df K mg "tell_send" s_tell_send p_tell_send _ _ := ⟨F_tell_send, PySem.W.mg_of X G a_tell_send, b_tell_send⟩
  have F_tell_echo := fun_mk (st := s_tell_echo) l_tell_echo c_tell_echo k_tell_echo
  have b_tell_echo := F_tell_echo.binds (ps := p_tell_echo) fun _ _ _ _ _ _ us hl => match us, hl with | [_, _, _, _, _], _ => rfl
  have D_tell_echo : Df K mg "tell_echo" s_tell_echo p_tell_echo _ _ := ⟨F_tell_echo, PySem.W.mg_of X G a_tell_echo, b_tell_echo⟩
  have F_tell_ticks := fun_mk (st := s_tell_ticks) l_tell_ticks c_tell_ticks k_tell_ticks
  have b_tell_ticks := F_tell_ticks.binds (ps := p_tell_ticks) fun _ _ _ _ _ _ us hl => match us, hl with | [_, _, _, _, _], _ => rfl
  have D_tell_ticks : Df K mg "tell_ticks" s_tell_ticks p_tell_ticks _ _ := ⟨F_tell_ticks, PySem.W.mg_of X G a_tell_ticks, b_tell_ticks⟩
  have F_tell_ownof := fun_mk (st := s_tell_ownof) l_tell_ownof c_tell_ownof k_tell_ownof
  have b_tell_ownof := F_tell_ownof.binds (ps := p_tell_ownof) fun _ _ _ _ _ _ us hl => match us, hl with | [_, _, _, _, _], _ => rfl
  have D_tell_ownof : Df K mg "tell_ownof" s_tell_ownof p_tell_ownof _ _ := ⟨F_tell_ownof, PySem.W.mg_of X G a_tell_ownof, b_tell_ownof⟩
  have F_tell_closing := fun_mk (st := s_tell_closing) l_tell_closing c_tell_closing k_tell_closing
  have b_tell_closing := F_tell_closing.binds (ps := p_tell_closing) fun _ _ _ _ _ _ us hl => match us, hl with | [_, _, _], _ => rfl
  have D_tell_closing : Df K mg "tell_closing" s_tell_closing p_tell_closing _ _ := ⟨F_tell_closing, PySem.W.mg_of X G a_tell_closing, b_tell_closing⟩
  have F_tell_meet := fun_mk (st := s_tell_meet) l_tell_meet c_tell_meet k_tell_meet
  have b_tell_meet := F_tell_meet.binds (ps := p_tell_meet) fun _ _ _ _ _ _ us hl => match us, hl with | [_, _, _], _ => rfl
  have D_tell_meet : Df K mg "tell_meet" s_tell_meet p_tell_meet _ _ := ⟨F_tell_meet, PySem.W.mg_of X G a_tell_meet, b_tell_meet⟩
  have F_tell_relay := fun_mk (st := s_tell_relay) l_tell_relay c_tell_relay k_tell_relay
  have b_tell_relay := F_tell_relay.binds (ps := p_tell_relay) fun _ _ _ _ _ _ us hl => match us, hl with | [_, _, _, _], _ => rfl
  have D_tell_relay : Df K mg "tell_relay" s_tell_relay p_tell_relay _ _ := ⟨F_tell_relay, PySem.W.mg_of X G a_tell_relay, b_tell_relay⟩
  have F_tell_round := fun_mk (st := s_tell_round) l_tell_round c_tell_round k_tell_round
  have b_tell_round := F_tell_round.binds (ps := p_tell_round) fun _ _ _ _ _ _ us hl => match us, hl with | [_, _, _, _], _ => rfl
  have D_tell_round : Df K mg "tell_round" s_tell_round p_tell_round _ _ := ⟨F_tell_round, PySem.W.mg_of X G a_tell_round, b_tell_round⟩
  have F_call_length := fun_mk (st := s_call_length) l_call_length c_call_length k_call_length
  have b_call_length := F_call_length.binds (ps := p_call_length) fun _ _ _ _ _ _ us hl => match us, hl with | [_, _], _ => rfl
  have D_call_length : Df K mg "call_length" s_call_length p_call_length _ _ := ⟨F_call_length, PySem.W.mg_of X G a_call_length, b_call_length⟩
  have F_change := fun_mk (st := s_change) l_change c_change k_change
  have b_change := F_change.binds (ps := p_change) fun _ _ _ _ _ _ us hl => match us, hl with | [_, _, _], _ => rfl
  have D_change : Df K mg "change" s_change p_change _ _ := ⟨F_change, PySem.W.mg_of X G a_change, b_change⟩
  have F_look_at_one := fun_mk (st := s_look_at_one) l_look_at_one c_look_at_one k_look_at_one
  have b_look_at_one := F_look_at_one.binds (ps := p_look_at_one) fun _ _ _ _ _ _ us hl => match us, hl with | [_, _, _], _ => rfl
  have D_look_at_one : Df K mg "look_at_one" s_look_at_one p_look_at_one _ _ := ⟨F_look_at_one, PySem.W.mg_of X G a_look_at_one, b_look_at_one⟩
  have F_look_at_two := fun_mk (st := s_look_at_two) l_look_at_two c_look_at_two k_look_at_two
  have b_look_at_two := F_look_at_two.binds (ps := p_look_at_two) fun _ _ _ _ _ _ us hl => match us, hl with | [_, _, _], _ => rfl
  have D_look_at_two : Df K mg "look_at_two" s_look_at_two p_look_at_two _ _ := ⟨F_look_at_two, PySem.W.mg_of X G a_look_at_two, b_look_at_two⟩
  have F_look_along_row := fun_mk (st := s_look_along_row) l_look_along_row c_look_along_row k_look_along_row
  have b_look_along_row := F_look_along_row.binds (ps := p_look_along_row) fun _ _ _ _ _ _ us hl => match us, hl with | [_, _, _], _ => rfl
  have D_look_along_row : Df K mg "look_along_row" s_look_along_row p_look_along_row _ _ := ⟨F_look_along_row, PySem.W.mg_of X G a_look_along_row, b_look_along_row⟩
  have F_answer := fun_mk (st := s_answer) l_answer c_answer k_answer
  have b_answer := F_answer.binds (ps := p_answer) fun _ _ _ _ _ _ us hl => match us, hl with | [_, _, _], _ => rfl
  have D_answer : Df K mg "answer" s_answer p_answer _ _ := ⟨F_answer, PySem.W.mg_of X G a_answer, b_answer⟩
  have F_answers := fun_mk (st := s_answers) l_answers c_answers k_answers
  have b_answers := F_answers.binds (ps := p_answers) fun _ _ _ _ _ _ us hl => match us, hl with | [_], _ => rfl
  have D_answers : Df K mg "answers" s_answers p_answers _ _ := ⟨F_answers, PySem.W.mg_of X G a_answers, b_answers⟩
  refine ⟨PySem.W.fnOf "answers" "answers" (defArgs s_answers) (defBody s_answers) (defScope s_answers) .none kV_answers dc_answers pm_answers an_answers cd_answers ct_answers, fun s us hu => match us, hu with | [_], _ => .of_eq rfl, fun base _ _ => ?_⟩
  have C_greatest_common := ok_greatest_common (P := P) (w := w) (base := base) D_greatest_common
  have C_ratio := ok_ratio D_ratio T C_greatest_common
  have C_plus := ok_plus D_plus C_ratio
  have C_minus := ok_minus D_minus C_ratio
  have C_scaled := ok_scaled D_scaled C_ratio
  have C_over := ok_over D_over C_ratio
  have C_is_less := ok_is_less (P := P) (w := w) (base := base) D_is_less
  have C_greater := ok_greater D_greater C_is_less
  have C_lesser := ok_lesser D_lesser C_is_less
  have Z_Station := ok_Station_init F_Station__init_ b_Station__init_ (PySem.W.mg_of X G aC_Station) ⟨mk_Station, a_Station__init_, i_Station__init_, kc_Station⟩ T.stn C_ratio
  have Z_Board := ok_Board_init (P := P) (w := w) (base := base) (C_Station := C_Station) F_Board__init_ b_Board__init_ (PySem.W.mg_of X G aC_Board) ⟨mk_Board, a_Board__init_, i_Board__init_, kc_Board⟩ T.brd
  have M_Board_begin := ok_Board_begin (P := P) (w := w) (mg := mg) (base := base) (C_Station := C_Station) F_Board_begin b_Board_begin ⟨a_Board_begin, i_Board_begin, k_Board_begin⟩ T.brd
  have M_Board_change_to := ok_Board_change_to (P := P) (w := w) (base := base) F_Board_change_to b_Board_change_to ⟨a_Board_change_to, i_Board_change_to, k_Board_change_to⟩ T
  have M_Board_take_back := ok_Board_take_back (P := P) (w := w) (base := base) F_Board_take_back b_Board_take_back ⟨a_Board_take_back, i_Board_take_back, k_Board_take_back⟩ T
  have C_spot_point := ok_spot_point (P := P) (w := w) (base := base) D_spot_point
  have C_start_of := ok_start_of D_start_of T.stn C_spot_point
  have C_point_at := ok_point_at D_point_at T.stn C_start_of C_plus C_scaled
  have C_time_of := ok_time_of D_time_of C_plus C_scaled
  have C_place_of := ok_place_of D_place_of C_minus C_scaled
  have C_clock_by_less := ok_clock_by_less D_clock_by_less T.stn C_start_of C_minus C_scaled
  have C_clock_by_together := ok_clock_by_together D_clock_by_together T.stn C_start_of C_minus C_scaled
  have C_heard := ok_heard D_heard C_clock_by_less C_clock_by_together C_greater
  have C_heard_of_till := ok_heard_of_till D_heard_of_till C_clock_by_less C_clock_by_together C_lesser
  have C_own_time := ok_own_time D_own_time C_heard C_heard_of_till C_plus C_scaled
  have C_own_place := ok_own_place D_own_place C_heard C_heard_of_till C_minus C_scaled
  have C_side_of := ok_side_of D_side_of T C_clock_by_less C_clock_by_together C_is_less
  have C_arrival := ok_arrival D_arrival C_heard C_point_at
  have C_arrival_along := ok_arrival_along D_arrival_along C_arrival
  have C_same_factor := ok_same_factor (P := P) (w := w) (base := base) D_same_factor T.stn
  have C_factor_squares := ok_factor_squares (P := P) (w := w) (base := base) D_factor_squares T.stn
  have C_speed_of := ok_speed_of D_speed_of C_factor_squares C_ratio
  have C_meeting_clock := ok_meeting_clock D_meeting_clock C_start_of C_factor_squares C_clock_by_less C_clock_by_together C_scaled C_minus C_over
  have C_is_station := ok_is_station (P := P) (w := w) (base := base) D_is_station T
  have C_is_spot := ok_is_spot (P := P) (w := w) (base := base) D_is_spot
  have C_is_factor := ok_is_factor (P := P) (w := w) (base := base) D_is_factor
  have C_is_clock := ok_is_clock (P := P) (w := w) (base := base) D_is_clock
  have C_clock_refusal := ok_clock_refusal D_clock_refusal T C_is_station C_is_clock
  have C_spot_refusal := ok_spot_refusal D_spot_refusal T C_is_station C_is_spot
  have C_row_refusal := ok_row_refusal D_row_refusal T C_is_station C_is_clock
  have C_pair_refusal := ok_pair_refusal D_pair_refusal T C_is_station
  have C_sending_refusal := ok_sending_refusal D_sending_refusal T C_pair_refusal C_is_clock
  have C_without := ok_without (P := P) (w := w) (base := base) (C_Station := C_Station) D_without
  have C_put_in_place := ok_put_in_place (P := P) (w := w) (base := base) (C_Station := C_Station) D_put_in_place
  have C_add_station := ok_add_station D_add_station T C_is_spot C_is_factor Z_Station M_Board_change_to
  have C_drop_station := ok_drop_station D_drop_station T C_is_station C_without M_Board_change_to
  have C_move_station := ok_move_station D_move_station T C_is_station C_is_factor C_put_in_place Z_Station M_Board_change_to
  have C_set_station := ok_set_station D_set_station T C_is_station C_is_spot C_put_in_place Z_Station M_Board_change_to
  have C_take_last_back := ok_take_last_back D_take_last_back T M_Board_take_back
  have C_tell_one := ok_tell_one (P := P) (w := w) (base := base) D_tell_one
  have C_tell_two := ok_tell_two (P := P) (w := w) (base := base) D_tell_two
  have C_tell_station := ok_tell_station D_tell_station T C_is_station
  have C_tell_where := ok_tell_where D_tell_where T C_clock_refusal C_point_at C_ratio C_tell_two C_time_of C_place_of
  have C_tell_send := ok_tell_send D_tell_send T C_sending_refusal C_arrival C_ratio C_tell_one
  have C_tell_echo := ok_tell_echo D_tell_echo T C_sending_refusal C_arrival C_ratio C_tell_two
  have C_tell_ticks := ok_tell_ticks D_tell_ticks T C_sending_refusal C_arrival C_ratio C_tell_one C_plus C_minus
  have C_tell_state := ok_tell_state (P := P) (w := w) (base := base) D_tell_state T
  have C_tell_own_of_point := ok_tell_own_of_point D_tell_own_of_point C_side_of C_own_time C_own_place C_tell_two
  have C_tell_hears := ok_tell_hears D_tell_hears T C_spot_refusal C_spot_point C_heard C_tell_one
  have C_tell_till := ok_tell_till D_tell_till T C_spot_refusal C_spot_point C_heard_of_till C_tell_one
  have C_tell_own := ok_tell_own D_tell_own T C_spot_refusal C_spot_point C_tell_own_of_point
  have C_tell_ownof := ok_tell_ownof D_tell_ownof T C_is_station C_clock_refusal C_point_at C_ratio C_tell_own_of_point
  have C_tell_closing := ok_tell_closing D_tell_closing T C_pair_refusal C_speed_of C_tell_one
  have C_tell_meet := ok_tell_meet D_tell_meet T C_pair_refusal C_same_factor C_meeting_clock C_arrival C_tell_two
  have C_tell_relay := ok_tell_relay D_tell_relay T C_row_refusal C_arrival_along C_ratio C_tell_one
  have C_tell_round := ok_tell_round D_tell_round T C_row_refusal C_arrival_along C_ratio C_tell_one
  have C_change := ok_change D_change T C_add_station C_drop_station C_move_station C_set_station C_take_last_back
  have C_look_at_one := ok_look_at_one D_look_at_one T C_tell_station C_tell_where C_tell_hears C_tell_till C_tell_own
  have C_look_at_two := ok_look_at_two D_look_at_two T C_tell_send C_tell_echo C_tell_ticks C_tell_ownof C_tell_meet C_tell_closing
  have C_look_along_row := ok_look_along_row D_look_along_row T C_tell_relay C_tell_round
  have C_answer := ok_answer D_answer T M_Board_begin C_change C_look_at_one C_look_along_row C_look_at_two C_tell_state
  have C_call_length := ok_call_length (P := P) (w := w) (base := base) D_call_length T
  exact ok_answers D_answers T Z_Board C_call_length C_answer
end Sig
set_option Elab.async false
set_option linter.all false
open PySem PySem.W PyProof.Rows
set_option maxRecDepth 100000 in
set_option maxHeartbeats 0 in
theorem PySem.Challenge.cw_stationsignals_s01_answers_holds : PySem.Challenge.rw_stationsignals_s01_answers.Holds := by
  w_on; k_headS; (case hw => exact ⟨[.list [.int 0]], by decide +kernel, by decide +kernel⟩)
  k_fillS
  refine L2.walk_specK (r := PySem.Challenge.rw_stationsignals_s01_answers) (k := 20) (CX := L2.CX0) (ps := ["calls"]) (sp := Sig.spAnswers) (by decide +kernel) rfl rfl ⟨rfl, by decide, by decide⟩ (fun w h Y => PySem.W.kIn_of Y) ?F ?S (fun _ _ _ _ z => z)
  case F =>
    intro w mg fa h Y KX G hmg
    refine' Sig.all_mk KX G hmg ?e_MOST_CHANGES ?e_THERE ?e_ON_THE_RIGHT ?e_ON_THE_LEFT ?e_NO_STATION ?e_NO_CHANGE ?e_NOT_BEGUN ?e_OUT_OF_RANGE ?e_TOO_MANY ?e_THERE_IS_NONE ?e_LEAST_ROW ?e_MOST_ROW ?e_NONE_DUE ?e_MOST_STATIONS ?e_BEGIN ?e_STATION ?e_DROP ?e_MOVE ?e_SET ?e_IS ?e_AT ?e_SEND ?e_ECHO ?e_TICKS ?e_HEARS ?e_TILL ?e_OWN ?e_OWNOF ?e_MEET ?e_RELAY ?e_ROUND ?e_BACK ?e_STATE ?e_GIVEN ?l_GIVEN ?z_len ?z_abs ?aC_Board ?pg_Board ?hd_Board ?po_Board ?sa_Board ?mk_Board ?kc_Board ?na_Board_begun ?na_Board_stations ?na_Board_past ?aC_Station ?pg_Station ?hd_Station ?po_Station ?sa_Station ?mk_Station ?kc_Station ?na_Station_time ?na_Station_place ?na_Station_p ?na_Station_q ?a_Board__init_ ?i_Board__init_ ?l_Board__init_ ?c_Board__init_ ?k_Board__init_ ?a_Board_begin ?i_Board_begin ?l_Board_begin ?c_Board_begin ?k_Board_begin ?a_Board_change_to ?i_Board_change_to ?l_Board_change_to ?c_Board_change_to ?k_Board_change_to ?a_Board_take_back ?i_Board_take_back ?l_Board_take_back ?c_Board_take_back ?k_Board_take_back ?a_greatest_common ?l_greatest_common ?c_greatest_common ?k_greatest_common ?a_ratio ?l_ratio ?c_ratio ?k_ratio ?a_plus ?l_plus ?c_plus ?k_plus ?a_minus ?l_minus ?c_minus ?k_minus ?a_scaled ?l_scaled ?c_scaled ?k_scaled ?a_over ?l_over ?c_over ?k_over ?a_is_less ?l_is_less ?c_is_less ?k_is_less ?a_greater ?l_greater ?c_greater ?k_greater ?a_lesser ?l_lesser ?c_lesser ?k_lesser ?a_Station__init_ ?i_Station__init_ ?l_Station__init_ ?c_Station__init_ ?k_Station__init_ ?a_spot_point ?l_spot_point ?c_spot_point ?k_spot_point ?a_start_of ?l_start_of ?c_start_of ?k_start_of ?a_point_at ?l_point_at ?c_point_at ?k_point_at ?a_time_of ?l_time_of ?c_time_of ?k_time_of ?a_place_of ?l_place_of ?c_place_of ?k_place_of ?a_clock_by_less ?l_clock_by_less ?c_clock_by_less ?k_clock_by_less ?a_clock_by_together ?l_clock_by_together ?c_clock_by_together ?k_clock_by_together ?a_heard ?l_heard ?c_heard ?k_heard ?a_heard_of_till ?l_heard_of_till ?c_heard_of_till ?k_heard_of_till ?a_own_time ?l_own_time ?c_own_time ?k_own_time ?a_own_place ?l_own_place ?c_own_place ?k_own_place ?a_side_of ?l_side_of ?c_side_of ?k_side_of ?a_arrival ?l_arrival ?c_arrival ?k_arrival ?a_arrival_along ?l_arrival_along ?c_arrival_along ?k_arrival_along ?a_same_factor ?l_same_factor ?c_same_factor ?k_same_factor ?a_factor_squares ?l_factor_squares ?c_factor_squares ?k_factor_squares ?a_speed_of ?l_speed_of ?c_speed_of ?k_speed_of ?a_meeting_clock ?l_meeting_clock ?c_meeting_clock ?k_meeting_clock ?a_is_station ?l_is_station ?c_is_station ?k_is_station ?a_is_spot ?l_is_spot ?c_is_spot ?k_is_spot ?a_is_factor ?l_is_factor ?c_is_factor ?k_is_factor ?a_is_clock ?l_is_clock ?c_is_clock ?k_is_clock ?a_clock_refusal ?l_clock_refusal ?c_clock_refusal ?k_clock_refusal ?a_spot_refusal ?l_spot_refusal ?c_spot_refusal ?k_spot_refusal ?a_pair_refusal ?l_pair_refusal ?c_pair_refusal ?k_pair_refusal ?a_sending_refusal ?l_sending_refusal ?c_sending_refusal ?k_sending_refusal ?a_row_refusal ?l_row_refusal ?c_row_refusal ?k_row_refusal ?a_without ?l_without ?c_without ?k_without ?a_put_in_place ?l_put_in_place ?c_put_in_place ?k_put_in_place ?a_add_station ?l_add_station ?c_add_station ?k_add_station ?a_drop_station ?l_drop_station ?c_drop_station ?k_drop_station ?a_move_station ?l_move_station ?c_move_station ?k_move_station ?a_set_station ?l_set_station ?c_set_station ?k_set_station ?a_take_last_back ?l_take_last_back ?c_take_last_back ?k_take_last_back ?a_tell_one ?l_tell_one ?c_tell_one ?k_tell_one ?a_tell_two ?l_tell_two ?c_tell_two ?k_tell_two ?a_tell_state ?l_tell_state ?c_tell_state ?k_tell_state ?a_tell_station ?l_tell_station ?c_tell_station ?k_tell_station ?a_tell_where ?l_tell_where ?c_tell_where ?k_tell_where ?a_tell_hears ?l_tell_hears ?c_tell_hears ?k_tell_hears ?a_tell_till ?l_tell_till ?c_tell_till ?k_tell_till ?a_tell_own_of_point ?l_tell_own_of_point ?c_tell_own_of_point ?k_tell_own_of_point ?a_tell_own ?l_tell_own ?c_tell_own ?k_tell_own ?a_tell_send ?l_tell_send ?c_tell_send ?k_tell_send ?a_tell_echo ?l_tell_echo ?c_tell_echo ?k_tell_echo ?a_tell_ticks ?l_tell_ticks ?c_tell_ticks ?k_tell_ticks ?a_tell_ownof ?l_tell_ownof ?c_tell_ownof ?k_tell_ownof ?a_tell_closing ?l_tell_closing ?c_tell_closing ?k_tell_closing ?a_tell_meet ?l_tell_meet ?c_tell_meet ?k_tell_meet ?a_tell_relay ?l_tell_relay ?c_tell_relay ?k_tell_relay ?a_tell_round ?l_tell_round ?c_tell_round ?k_tell_round ?a_call_length ?l_call_length ?c_call_length ?k_call_length ?a_change ?l_change ?c_change ?k_change ?a_look_at_one ?l_look_at_one ?c_look_at_one ?k_look_at_one ?a_look_at_two ?l_look_at_two ?c_look_at_two ?k_look_at_two ?a_look_along_row ?l_look_along_row ?c_look_along_row ?k_look_along_row ?a_answer ?l_answer ?c_answer ?k_answer ?a_answers ?l_answers ?c_answers ?k_answers
    (case e_MOST_CHANGES => k_is)
    (case e_THERE => k_is)
    (case e_ON_THE_RIGHT => k_is)
    (case e_ON_THE_LEFT => k_is)
    (case e_NO_STATION => k_is)
    (case e_NO_CHANGE => k_is)
    (case e_NOT_BEGUN => k_is)
    (case e_OUT_OF_RANGE => k_is)
    (case e_TOO_MANY => k_is)
    (case e_THERE_IS_NONE => k_is)
    (case e_LEAST_ROW => k_is)
    (case e_MOST_ROW => k_is)
    (case e_NONE_DUE => k_is)
    (case e_MOST_STATIONS => k_is)
    (case e_BEGIN => k_is)
    (case e_STATION => k_is)
    (case e_DROP => k_is)
    (case e_MOVE => k_is)
    (case e_SET => k_is)
    (case e_IS => k_is)
    (case e_AT => k_is)
    (case e_SEND => k_is)
    (case e_ECHO => k_is)
    (case e_TICKS => k_is)
    (case e_HEARS => k_is)
    (case e_TILL => k_is)
    (case e_OWN => k_is)
    (case e_OWNOF => k_is)
    (case e_MEET => k_is)
    (case e_RELAY => k_is)
    (case e_ROUND => k_is)
    (case e_BACK => k_is)
    (case e_STATE => k_is)
    (case e_GIVEN => k_is)
    (case l_GIVEN => k_is)
    (case z_len => k_is)
    (case z_abs => k_is)
    (case aC_Board => k_is)
    (case pg_Board => k_is)
    (case hd_Board => k_is)
    (case po_Board => k_is)
    (case sa_Board => k_is)
    (case mk_Board => k_is)
    (case kc_Board => k_is)
    (case na_Board_begun => k_is)
    (case na_Board_stations => k_is)
    (case na_Board_past => k_is)
    (case aC_Station => k_is)
    (case pg_Station => k_is)
    (case hd_Station => k_is)
    (case po_Station => k_is)
    (case sa_Station => k_is)
    (case mk_Station => k_is)
    (case kc_Station => k_is)
    (case na_Station_time => k_is)
    (case na_Station_place => k_is)
    (case na_Station_p => k_is)
    (case na_Station_q => k_is)
    (case a_Board__init_ => k_is)
    (case i_Board__init_ => k_is)
    (case l_Board__init_ => k_is)
    (case c_Board__init_ => k_is)
    (case k_Board__init_ => k_is)
    (case a_Board_begin => k_is)
    (case i_Board_begin => k_is)
    (case l_Board_begin => k_is)
    (case c_Board_begin => k_is)
    (case k_Board_begin => k_is)
    (case a_Board_change_to => k_is)
    (case i_Board_change_to => k_is)
    (case l_Board_change_to => k_is)
    (case c_Board_change_to => k_is)
    (case k_Board_change_to => k_is)
    (case a_Board_take_back => k_is)
    (case i_Board_take_back => k_is)
    (case l_Board_take_back => k_is)
    (case c_Board_take_back => k_is)
    (case k_Board_take_back => k_is)
    (case a_greatest_common => k_is)
    (case l_greatest_common => k_is)
    (case c_greatest_common => k_is)
    (case k_greatest_common => k_is)
    (case a_ratio => k_is)
    (case l_ratio => k_is)
    (case c_ratio => k_is)
    (case k_ratio => k_is)
    (case a_plus => k_is)
    (case l_plus => k_is)
    (case c_plus => k_is)
    (case k_plus => k_is)
    (case a_minus => k_is)
    (case l_minus => k_is)
    (case c_minus => k_is)
    (case k_minus => k_is)
    (case a_scaled => k_is)
    (case l_scaled => k_is)
    (case c_scaled => k_is)
    (case k_scaled => k_is)
    (case a_over => k_is)
    (case l_over => k_is)
    (case c_over => k_is)
    (case k_over => k_is)
    (case a_is_less => k_is)
    (case l_is_less => k_is)
    (case c_is_less => k_is)
    (case k_is_less => k_is)
    (case a_greater => k_is)
    (case l_greater => k_is)
    (case c_greater => k_is)
    (case k_greater => k_is)
    (case a_lesser => k_is)
    (case l_lesser => k_is)
    (case c_lesser => k_is)
    (case k_lesser => k_is)
    (case a_Station__init_ => k_is)
    (case i_Station__init_ => k_is)
    (case l_Station__init_ => k_is)
    (case c_Station__init_ => k_is)
    (case k_Station__init_ => k_is)
    (case a_spot_point => k_is)
    (case l_spot_point => k_is)
    (case c_spot_point => k_is)
    (case k_spot_point => k_is)
    (case a_start_of => k_is)
    (case l_start_of => k_is)
    (case c_start_of => k_is)
    (case k_start_of => k_is)
    (case a_point_at => k_is)
    (case l_point_at => k_is)
    (case c_point_at => k_is)
    (case k_point_at => k_is)
    (case a_time_of => k_is)
    (case l_time_of => k_is)
    (case c_time_of => k_is)
    (case k_time_of => k_is)
    (case a_place_of => k_is)
    (case l_place_of => k_is)
    (case c_place_of => k_is)
    (case k_place_of => k_is)
    (case a_clock_by_less => k_is)
    (case l_clock_by_less => k_is)
    (case c_clock_by_less => k_is)
    (case k_clock_by_less => k_is)
    (case a_clock_by_together => k_is)
    (case l_clock_by_together => k_is)
    (case c_clock_by_together => k_is)
    (case k_clock_by_together => k_is)
    (case a_heard => k_is)
    (case l_heard => k_is)
    (case c_heard => k_is)
    (case k_heard => k_is)
    (case a_heard_of_till => k_is)
    (case l_heard_of_till => k_is)
    (case c_heard_of_till => k_is)
    (case k_heard_of_till => k_is)
    (case a_own_time => k_is)
    (case l_own_time => k_is)
    (case c_own_time => k_is)
    (case k_own_time => k_is)
    (case a_own_place => k_is)
    (case l_own_place => k_is)
    (case c_own_place => k_is)
    (case k_own_place => k_is)
    (case a_side_of => k_is)
    (case l_side_of => k_is)
    (case c_side_of => k_is)
    (case k_side_of => k_is)
    (case a_arrival => k_is)
    (case l_arrival => k_is)
    (case c_arrival => k_is)
    (case k_arrival => k_is)
    (case a_arrival_along => k_is)
    (case l_arrival_along => k_is)
    (case c_arrival_along => k_is)
    (case k_arrival_along => k_is)
    (case a_same_factor => k_is)
    (case l_same_factor => k_is)
    (case c_same_factor => k_is)
    (case k_same_factor => k_is)
    (case a_factor_squares => k_is)
    (case l_factor_squares => k_is)
    (case c_factor_squares => k_is)
    (case k_factor_squares => k_is)
    (case a_speed_of => k_is)
    (case l_speed_of => k_is)
    (case c_speed_of => k_is)
    (case k_speed_of => k_is)
    (case a_meeting_clock => k_is)
    (case l_meeting_clock => k_is)
    (case c_meeting_clock => k_is)
    (case k_meeting_clock => k_is)
    (case a_is_station => k_is)
    (case l_is_station => k_is)
    (case c_is_station => k_is)
    (case k_is_station => k_is)
    (case a_is_spot => k_is)
    (case l_is_spot => k_is)
    (case c_is_spot => k_is)
    (case k_is_spot => k_is)
    (case a_is_factor => k_is)
    (case l_is_factor => k_is)
    (case c_is_factor => k_is)
    (case k_is_factor => k_is)
    (case a_is_clock => k_is)
    (case l_is_clock => k_is)
    (case c_is_clock => k_is)
    (case k_is_clock => k_is)
    (case a_clock_refusal => k_is)
    (case l_clock_refusal => k_is)
    (case c_clock_refusal => k_is)
    (case k_clock_refusal => k_is)
    (case a_spot_refusal => k_is)
    (case l_spot_refusal => k_is)
    (case c_spot_refusal => k_is)
    (case k_spot_refusal => k_is)
    (case a_pair_refusal => k_is)
    (case l_pair_refusal => k_is)
    (case c_pair_refusal => k_is)
    (case k_pair_refusal => k_is)
    (case a_sending_refusal => k_is)
    (case l_sending_refusal => k_is)
    (case c_sending_refusal => k_is)
    (case k_sending_refusal => k_is)
    (case a_row_refusal => k_is)
    (case l_row_refusal => k_is)
    (case c_row_refusal => k_is)
    (case k_row_refusal => k_is)
    (case a_without => k_is)
    (case l_without => k_is)
    (case c_without => k_is)
    (case k_without => k_is)
    (case a_put_in_place => k_is)
    (case l_put_in_place => k_is)
    (case c_put_in_place => k_is)
    (case k_put_in_place => k_is)
    (case a_add_station => k_is)
    (case l_add_station => k_is)
    (case c_add_station => k_is)
    (case k_add_station => k_is)
    (case a_drop_station => k_is)
    (case l_drop_station => k_is)
    (case c_drop_station => k_is)
    (case k_drop_station => k_is)
    (case a_move_station => k_is)
    (case l_move_station => k_is)
    (case c_move_station => k_is)
    (case k_move_station => k_is)
    (case a_set_station => k_is)
    (case l_set_station => k_is)
    (case c_set_station => k_is)
    (case k_set_station => k_is)
    (case a_take_last_back => k_is)
    (case l_take_last_back => k_is)
    (case c_take_last_back => k_is)
    (case k_take_last_back => k_is)
    (case a_tell_one => k_is)
    (case l_tell_one => k_is)
    (case c_tell_one => k_is)
    (case k_tell_one => k_is)
    (case a_tell_two => k_is)
    (case l_tell_two => k_is)
    (case c_tell_two => k_is)
    (case k_tell_two => k_is)
    (case a_tell_state => k_is)
    (case l_tell_state => k_is)
    (case c_tell_state => k_is)
    (case k_tell_state => k_is)
    (case a_tell_station => k_is)
    (case l_tell_station => k_is)
    (case c_tell_station => k_is)
    (case k_tell_station => k_is)
    (case a_tell_where => k_is)
    (case l_tell_where => k_is)
    (case c_tell_where => k_is)
    (case k_tell_where => k_is)
    (case a_tell_hears => k_is)
    (case l_tell_hears => k_is)
    (case c_tell_hears => k_is)
    (case k_tell_hears => k_is)
    (case a_tell_till => k_is)
    (case l_tell_till => k_is)
    (case c_tell_till => k_is)
    (case k_tell_till => k_is)
    (case a_tell_own_of_point => k_is)
    (case l_tell_own_of_point => k_is)
    (case c_tell_own_of_point => k_is)
    (case k_tell_own_of_point => k_is)
    (case a_tell_own => k_is)
    (case l_tell_own => k_is)
    (case c_tell_own => k_is)
    (case k_tell_own => k_is)
    (case a_tell_send => k_is)
    (case l_tell_send => k_is)
    (case c_tell_send => k_is)
    (case k_tell_send => k_is)
    (case a_tell_echo => k_is)
    (case l_tell_echo => k_is)
    (case c_tell_echo => k_is)
    (case k_tell_echo => k_is)
    (case a_tell_ticks => k_is)
    (case l_tell_ticks => k_is)
    (case c_tell_ticks => k_is)
    (case k_tell_ticks => k_is)
    (case a_tell_ownof => k_is)
    (case l_tell_ownof => k_is)
    (case c_tell_ownof => k_is)
    (case k_tell_ownof => k_is)
    (case a_tell_closing => k_is)
    (case l_tell_closing => k_is)
    (case c_tell_closing => k_is)
    (case k_tell_closing => k_is)
    (case a_tell_meet => k_is)
    (case l_tell_meet => k_is)
    (case c_tell_meet => k_is)
    (case k_tell_meet => k_is)
    (case a_tell_relay => k_is)
    (case l_tell_relay => k_is)
    (case c_tell_relay => k_is)
    (case k_tell_relay => k_is)
    (case a_tell_round => k_is)
    (case l_tell_round => k_is)
    (case c_tell_round => k_is)
    (case k_tell_round => k_is)
    (case a_call_length => k_is)
    (case l_call_length => k_is)
    (case c_call_length => k_is)
    (case k_call_length => k_is)
    (case a_change => k_is)
    (case l_change => k_is)
    (case c_change => k_is)
    (case k_change => k_is)
    (case a_look_at_one => k_is)
    (case l_look_at_one => k_is)
    (case c_look_at_one => k_is)
    (case k_look_at_one => k_is)
    (case a_look_at_two => k_is)
    (case l_look_at_two => k_is)
    (case c_look_at_two => k_is)
    (case k_look_at_two => k_is)
    (case a_look_along_row => k_is)
    (case l_look_along_row => k_is)
    (case c_look_along_row => k_is)
    (case k_look_along_row => k_is)
    (case a_answer => k_is)
    (case l_answer => k_is)
    (case c_answer => k_is)
    (case k_answer => k_is)
    (case a_answers => k_is)
    (case l_answers => k_is)
    (case c_answers => k_is)
    (case k_answers => k_is)
  case S =>
    intro K H xs a hO hwi hask hx
    cases hx with
    | cons h1 h2 =>
      cases h2
      cases h1 with
      | lst hs ha =>
        have e := L2.ints_dw a.1 _ ha
        subst e
        exact ⟨_, a.1, rfl, hs, hask, fun H' p hp => .lst (L2.SqL.of hp) (L2.dw_ints _)⟩
