import PyProof.Rows.All
import Wide.All
import OpenK.AllK
import Wide.FinOn
import Open.SpecLaws
import KE.OsGo
import HandS.ForSpec
import HandS.ForMost
import HandS.Rev
import HandS.Wide
import PySem.Challenge.RW_leaveoffers_s06_value_of_outside_option
set_option Elab.async false
set_option linter.all false
set_option maxRecDepth 100000
set_option maxHeartbeats 2000000
namespace Lv
open Ks526

/-- in lowest terms, its denominator above 0 -/
structure Ok (q : Rational) : Prop where
  den : 0 < q.den
  gcd : Nat.gcd q.num.natAbs q.den = 1

theorem make_pos {n : Int} {d : Nat} (h : 0 < d) : Rational.make n d = ⟨n / (Nat.gcd n.natAbs d : Nat), d / Nat.gcd n.natAbs d⟩ := by
  unfold Rational.make
  rw [if_neg (Nat.ne_of_gt h)]

theorem gcd_pos (n : Int) {d : Nat} (h : 0 < d) : 0 < Nat.gcd n.natAbs d := Nat.gcd_pos_of_pos_right _ h

theorem gcd_dvd_int (n : Int) (d : Nat) : ((Nat.gcd n.natAbs d : Nat) : Int) ∣ n := Int.ofNat_dvd_left.mpr (Nat.gcd_dvd_left _ _)

theorem make_ok (n : Int) {d : Nat} (h : 0 < d) : Ok (Rational.make n d) := by
  rw [make_pos h]
  have g := gcd_pos n h
  refine ⟨Nat.div_pos (Nat.le_of_dvd h (Nat.gcd_dvd_right _ _)) g, ?_⟩
  show Nat.gcd (n / ((Nat.gcd n.natAbs d : Nat) : Int)).natAbs (d / Nat.gcd n.natAbs d) = 1
  rw [Int.natAbs_ediv_of_dvd (gcd_dvd_int n d), Int.natAbs_natCast]
  exact Nat.coprime_div_gcd_div_gcd g

theorem make_eqv (n : Int) {d : Nat} (h : 0 < d) : (Rational.make n d).num * (d : Int) = n * ((Rational.make n d).den : Int) := by
  rw [make_pos h]
  obtain ⟨k, hk⟩ := gcd_dvd_int n d
  obtain ⟨m, hm⟩ := Nat.gcd_dvd_right n.natAbs d
  have g := gcd_pos n h
  generalize Nat.gcd n.natAbs d = G at *
  subst hk
  subst hm
  show (↑G * k / ↑G) * ((G * m : Nat) : Int) = (↑G * k) * ((G * m / G : Nat) : Int)
  rw [Int.mul_ediv_cancel_left _ (by omega), Nat.mul_div_cancel_left _ g, Int.natCast_mul]
  grind

theorem eq_of {a b : Rational} (ha : Ok a) (hb : Ok b) (h : a.num * (b.den : Int) = b.num * (a.den : Int)) : a = b := by
  have e : a.num.natAbs * b.den = b.num.natAbs * a.den := by
    have := congrArg Int.natAbs h
    simpa [Int.natAbs_mul] using this
  have d1 : a.den ∣ b.den := by
    have : a.den ∣ a.num.natAbs * b.den := ⟨b.num.natAbs, by rw [e, Nat.mul_comm]⟩
    exact Nat.Coprime.dvd_of_dvd_mul_left (Nat.Coprime.symm ha.gcd) this
  have d2 : b.den ∣ a.den := by
    have : b.den ∣ b.num.natAbs * a.den := ⟨a.num.natAbs, by rw [← e, Nat.mul_comm]⟩
    exact Nat.Coprime.dvd_of_dvd_mul_left (Nat.Coprime.symm hb.gcd) this
  have ed : a.den = b.den := Nat.dvd_antisymm d1 d2
  have en : a.num = b.num := by
    rw [ed] at h
    exact Int.eq_of_mul_eq_mul_right (by have := hb.den; omega) h
  cases a; cases b
  simp_all

theorem eq_make {q : Rational} (hq : Ok q) {n : Int} {d : Nat} (hd : 0 < d) (h : q.num * (d : Int) = n * (q.den : Int)) : q = Rational.make n d := by
  have hm := make_eqv n hd
  refine eq_of hq (make_ok n hd) ?_
  generalize Rational.make n d = m at *
  have hd' : (d : Int) ≠ 0 := by omega
  refine Int.eq_of_mul_eq_mul_right hd' ?_
  grind

theorem add_def (a b : Rational) : a + b = Rational.make (a.num * b.den + b.num * a.den) (a.den * b.den) := rfl
theorem mul_def (a b : Rational) : a * b = Rational.make (a.num * b.num) (a.den * b.den) := rfl
theorem sub_def (a b : Rational) : a - b = Rational.make (a.num * b.den + (-b.num) * a.den) (a.den * b.den) := rfl

theorem add_ok {a b : Rational} (ha : Ok a) (hb : Ok b) : Ok (a + b) := make_ok _ (Nat.mul_pos ha.den hb.den)
theorem mul_ok {a b : Rational} (ha : Ok a) (hb : Ok b) : Ok (a * b) := make_ok _ (Nat.mul_pos ha.den hb.den)
theorem sub_ok {a b : Rational} (ha : Ok a) (hb : Ok b) : Ok (a - b) := make_ok _ (Nat.mul_pos ha.den hb.den)
theorem ofNat_ok (n : Nat) : Ok (Rational.ofNat n) := ⟨Nat.zero_lt_one, Nat.gcd_one_right _⟩
theorem one_ok : Ok Rational.one := ⟨Nat.zero_lt_one, rfl⟩

/-- the value of q is n / d -/
def Is (q : Rational) (n d : Int) : Prop := q.num * d = n * (q.den : Int)
theorem is_make (n : Int) {d : Nat} (h : 0 < d) : Is (Rational.make n d) n d := make_eqv n h
theorem is_self (q : Rational) : Is q q.num q.den := rfl
theorem is_ofNat (n : Nat) : Is (Rational.ofNat n) n 1 := rfl
theorem is_one : Is Rational.one 1 1 := rfl
theorem cancel {D x y : Int} (hD : 0 < D) (h : x * D = y * D) : x = y := Int.eq_of_mul_eq_mul_right (by omega) h
theorem is_add {a b : Rational} {na da nb db : Int} (oa : Ok a) (ob : Ok b) (ha : Is a na da) (hb : Is b nb db) : Is (a + b) (na * db + nb * da) (da * db) := by
  have h := make_eqv (a.num * b.den + b.num * a.den) (Nat.mul_pos oa.den ob.den)
  rw [← add_def] at h
  generalize a + b = m at *
  have p : (0 : Int) < (a.den : Int) * (b.den : Int) := Int.mul_pos (by have := oa.den; omega) (by have := ob.den; omega)
  unfold Is at *
  rw [Int.natCast_mul] at h
  refine cancel p ?_
  grind
theorem is_sub {a b : Rational} {na da nb db : Int} (oa : Ok a) (ob : Ok b) (ha : Is a na da) (hb : Is b nb db) : Is (a - b) (na * db - nb * da) (da * db) := by
  have h := make_eqv (a.num * b.den + (-b.num) * a.den) (Nat.mul_pos oa.den ob.den)
  rw [← sub_def] at h
  generalize a - b = m at *
  have p : (0 : Int) < (a.den : Int) * (b.den : Int) := Int.mul_pos (by have := oa.den; omega) (by have := ob.den; omega)
  unfold Is at *
  rw [Int.natCast_mul] at h
  refine cancel p ?_
  grind
theorem is_mul {a b : Rational} {na da nb db : Int} (oa : Ok a) (ob : Ok b) (ha : Is a na da) (hb : Is b nb db) : Is (a * b) (na * nb) (da * db) := by
  have h := make_eqv (a.num * b.num) (Nat.mul_pos oa.den ob.den)
  rw [← mul_def] at h
  generalize a * b = m at *
  have p : (0 : Int) < (a.den : Int) * (b.den : Int) := Int.mul_pos (by have := oa.den; omega) (by have := ob.den; omega)
  unfold Is at *
  rw [Int.natCast_mul] at h
  refine cancel p ?_
  grind
/-! ### the negotiation by its numbers -/
structure Dat where
  amount : Nat
  dn0 : Nat
  dd0 : Nat
  dn1 : Nat
  dd1 : Nat
  f0 : Nat
  f1 : Nat
  xn : Nat
  xd : Nat
  b0 : Nat
  b1 : Nat
  o0 : Nat
  o1 : Nat
  a0 : Nat
  a1 : Nat
namespace Dat
def disc (c : Dat) : List Nat := [c.dn0, c.dd0, c.dn1, c.dd1]
def fin (c : Dat) : List Nat := [c.f0, c.f1]
def extra (c : Dat) : List Nat := [c.xn, c.xd, c.b0, c.b1, c.o0, c.o1, c.a0, c.a1]
def stg (c : Dat) (ps : List Nat) : Setting := ⟨⟨c.amount, ps, Rational.make (c.dn0 : Int) c.dd0, Rational.make (c.dn1 : Int) c.dd1, c.f0, c.f1⟩, Rational.make (c.xn : Int) c.xd, c.b0, c.b1, c.o0, c.o1, c.a0, c.a1⟩
structure In (c : Dat) : Prop where
  am1 : 1 ≤ c.amount
  am2 : c.amount ≤ 1000
  d0a : 1 ≤ c.dd0
  d0b : c.dd0 ≤ 100
  d0c : c.dn0 ≤ c.dd0
  d1a : 1 ≤ c.dd1
  d1b : c.dd1 ≤ 100
  d1c : c.dn1 ≤ c.dd1
  f0 : c.f0 ≤ 1000
  f1 : c.f1 ≤ 1000
  xa : 1 ≤ c.xd
  xb : c.xd ≤ 100
  xc : c.xn ≤ c.xd
  b0 : c.b0 ≤ 1000
  b1 : c.b1 ≤ 1000
  o0 : c.o0 ≤ 1000
  o1 : c.o1 ≤ 1000
  a0 : c.a0 ≤ 1000
  a1 : c.a1 ≤ 1000
end Dat
def fracOk (n d : Nat) : Bool := decide (1 ≤ d ∧ d ≤ 100) && decide (n ≤ d)
def payOk (xs : List Nat) : Bool := xs.all fun x => decide (x ≤ 1000)
def propOk (xs : List Nat) : Bool := decide (1 ≤ xs.length ∧ xs.length ≤ 12) && xs.all fun x => decide (x ≤ 1)
def discOk (xs : List Nat) : Bool := decide (xs.length = 4) && (fracOk (xs.getD 0 0) (xs.getD 1 0) && fracOk (xs.getD 2 0) (xs.getD 3 0))
def extraOk (xs : List Nat) : Bool := decide (xs.length = 8) && (fracOk (xs.getD 0 0) (xs.getD 1 0) && payOk (xs.drop 2))
def valid (amount : Nat) (ps ds fs es : List Nat) : Bool :=
  decide (1 ≤ amount ∧ amount ≤ 1000) && (propOk ps && (discOk ds && (decide (fs.length = 2) && (payOk fs && extraOk es))))

theorem any_not {xs : List Nat} {m : Nat} : (xs.any fun x => decide (m < x)) = !(xs.all fun x => decide (x ≤ m)) := by
  induction xs with
  | nil => rfl
  | cons x r ih =>
    rw [List.any_cons, List.all_cons, ih]
    by_cases h : m < x
    · have h2 : ¬ x ≤ m := by omega
      simp [h, h2]
    · have h2 : x ≤ m := by omega
      simp [h, h2]
theorem frac_none {n d : Nat} (h : fracOk n d = false) : parseFraction n d = none := by
  unfold parseFraction fracOk maxDenominator at *
  rw [if_pos]
  simp at h
  omega
theorem frac_some {n d : Nat} (h : fracOk n d = true) : parseFraction n d = some (Rational.make (n : Int) d) := by
  unfold parseFraction fracOk maxDenominator at *
  rw [if_neg]
  simp at h
  omega
theorem frac_lim {n d : Nat} (h : fracOk n d = true) : 1 ≤ d ∧ d ≤ 100 ∧ n ≤ d := by
  unfold fracOk at h
  simp at h
  omega
theorem len4 {xs : List Nat} (h : xs.length = 4) : ∃ a b c d, xs = [a, b, c, d] := by
  match xs, h with
  | [a, b, c, d], _ => exact ⟨a, b, c, d, rfl⟩
theorem len2 {xs : List Nat} (h : xs.length = 2) : ∃ a b, xs = [a, b] := by
  match xs, h with
  | [a, b], _ => exact ⟨a, b, rfl⟩
theorem len8 {xs : List Nat} (h : xs.length = 8) : ∃ a b c d e f g i, xs = [a, b, c, d, e, f, g, i] := by
  match xs, h with
  | [a, b, c, d, e, f, g, i], _ => exact ⟨a, b, c, d, e, f, g, i, rfl⟩

theorem parse_none {amount : Nat} {ps ds fs es : List Nat} (h : valid amount ps ds fs es = false) : parseSetting amount ps ds fs es = none := by
  unfold parseSetting parseNegotiation maxAmount maxRounds
  rw [any_not, any_not, any_not]
  unfold valid propOk discOk extraOk payOk at h
  by_cases h0 : amount < 1 ∨ 1000 < amount ∨ ps.length < 1 ∨ 12 < ps.length ∨ (!(ps.all fun x => decide (x ≤ 1))) = true ∨ ds.length ≠ 4 ∨ fs.length ≠ 2 ∨ (!(fs.all fun x => decide (x ≤ 1000))) = true
  · rw [if_pos h0]
  · rw [if_neg h0]
    simp only [not_or, Nat.not_lt, ne_eq, Decidable.not_not, Bool.not_eq_true', Bool.not_eq_false] at h0
    obtain ⟨a1, a2, p1, p2, p3, d1, f1, f2⟩ := h0
    rw [p3, f2, decide_eq_true (show 1 ≤ amount ∧ amount ≤ 1000 from ⟨a1, a2⟩), decide_eq_true (show 1 ≤ ps.length ∧ ps.length ≤ 12 from ⟨p1, p2⟩), decide_eq_true d1, decide_eq_true f1] at h
    simp only [Bool.true_and, Bool.and_true] at h
    cases q0 : fracOk (ds.getD 0 0) (ds.getD 1 0) with
    | false => rw [frac_none q0]
    | true =>
      rw [frac_some q0]
      cases q1 : fracOk (ds.getD 2 0) (ds.getD 3 0) with
      | false => rw [frac_none q1]
      | true =>
        rw [frac_some q1]
        rw [q0, q1] at h
        simp only [Bool.true_and] at h
        by_cases e : es.length ≠ 8
        · simp only [if_pos e]
        · simp only [if_neg e]
          rw [decide_eq_true (Decidable.not_not.mp e), Bool.true_and] at h
          cases q2 : fracOk (es.getD 0 0) (es.getD 1 0) with
          | false => rw [frac_none q2]
          | true =>
            rw [frac_some q2]
            rw [q2, Bool.true_and] at h
            simp only [h]
            rfl
theorem parse_some {amount : Nat} {ps ds fs es : List Nat} (h : valid amount ps ds fs es = true) :
    ∃ c : Dat, c.In ∧ amount = c.amount ∧ ds = c.disc ∧ fs = c.fin ∧ es = c.extra ∧ 1 ≤ ps.length ∧ ps.length ≤ 12 ∧ (∀ p ∈ ps, p ≤ 1) ∧ parseSetting amount ps ds fs es = some (c.stg ps) := by
  unfold valid propOk discOk extraOk payOk at h
  simp only [Bool.and_eq_true, decide_eq_true_eq] at h
  obtain ⟨⟨a1, a2⟩, ⟨⟨p1, p2⟩, p3⟩, ⟨d1, d2, d3⟩, f1, f2, e1, e2, e3⟩ := h
  obtain ⟨w0, w1, w2, w3, rfl⟩ := len4 d1
  obtain ⟨u0, u1, rfl⟩ := len2 f1
  obtain ⟨x0, x1, x2, x3, x4, x5, x6, x7, rfl⟩ := len8 e1
  have l0 := frac_lim d2
  have l1 := frac_lim d3
  have l2 := frac_lim e2
  simp only [List.getD_cons_zero, List.getD_cons_succ] at l0 l1 l2
  have f2' := f2
  have e3' := e3
  simp only [List.all_cons, List.all_nil, Bool.and_true, Bool.and_eq_true, decide_eq_true_eq, List.drop_succ_cons, List.drop_zero] at f2' e3'
  refine ⟨⟨amount, w0, w1, w2, w3, u0, u1, x0, x1, x2, x3, x4, x5, x6, x7⟩, ?_, rfl, rfl, rfl, rfl, p1, p2, ?_, ?_⟩
  · constructor <;> (dsimp only; omega)
  · intro p hp
    exact of_decide_eq_true (List.all_eq_true.mp p3 p hp)
  · unfold parseSetting parseNegotiation maxAmount maxRounds
    rw [any_not, any_not, any_not, p3, f2, e3, if_neg]
    · rw [frac_some d2, frac_some d3]
      simp only []
      rw [if_neg (fun z => z rfl), frac_some e2]
      rfl
    · simp only [Bool.not_true, Bool.false_eq_true, or_false, false_or, not_or, Nat.not_lt, ne_eq, Decidable.not_not]
      exact ⟨a1, a2, p1, p2, rfl, rfl⟩
/-! ### sizes -/
structure Good (k : Nat) (q : Rational) : Prop where
  ok : Ok q
  nn : 0 ≤ q.num
  sn : q.num.natAbs < 2 ^ k
  sd : q.den < 2 ^ k
theorem two_le {a b : Nat} (h : a ≤ b) : 2 ^ a ≤ 2 ^ b := Nat.pow_le_pow_right (by decide) h
theorem Good.mono {k j : Nat} {q : Rational} (h : Good k q) (le : k ≤ j) : Good j q :=
  ⟨h.ok, h.nn, Nat.lt_of_lt_of_le h.sn (two_le le), Nat.lt_of_lt_of_le h.sd (two_le le)⟩
theorem ofNat_good {k n : Nat} (h : n ≤ 1000) (hk : 10 ≤ k) : Good k (Rational.ofNat n) := by
  have e : 2 ^ 10 ≤ 2 ^ k := two_le hk
  have e2 : (2 : Nat) ^ 10 = 1024 := by decide
  refine ⟨ofNat_ok n, Int.natCast_nonneg _, ?_, ?_⟩
  · show (n : Int).natAbs < 2 ^ k
    rw [Int.natAbs_natCast]
    omega
  · show 1 < 2 ^ k
    omega
theorem make_nn {n : Int} {d : Nat} (hn : 0 ≤ n) (h : 0 < d) : 0 ≤ (Rational.make n d).num := by
  rw [make_pos h]
  exact Int.ediv_nonneg hn (Int.natCast_nonneg _)
theorem make_num_le (n : Int) {d : Nat} (h : 0 < d) : (Rational.make n d).num.natAbs ≤ n.natAbs := by
  rw [make_pos h]
  show (n / ((Nat.gcd n.natAbs d : Nat) : Int)).natAbs ≤ n.natAbs
  rw [Int.natAbs_ediv_of_dvd (gcd_dvd_int n d), Int.natAbs_natCast]
  exact Nat.div_le_self _ _
theorem make_den_le (n : Int) {d : Nat} (h : 0 < d) : (Rational.make n d).den ≤ d := by
  rw [make_pos h]
  exact Nat.div_le_self _ _
/-! ### one player's numbers -/
namespace Dat
def dn (c : Dat) (p : Nat) : Nat := forPlayer p c.dn0 c.dn1
def dd (c : Dat) (p : Nat) : Nat := forPlayer p c.dd0 c.dd1
def b (c : Dat) (p : Nat) : Nat := forPlayer p c.b0 c.b1
def o (c : Dat) (p : Nat) : Nat := forPlayer p c.o0 c.o1
def a (c : Dat) (p : Nat) : Nat := forPlayer p c.a0 c.a1
end Dat
theorem player_cases {p : Nat} (h : p ≤ 1) : p = 0 ∨ p = 1 := by omega
theorem fp_good {k p : Nat} {u v : Rational} (hu : Good k u) (hv : Good k v) : Good k (forPlayer p u v) := by
  unfold forPlayer
  split
  · exact hu
  · exact hv
theorem lim_dn {c : Dat} (h : c.In) (p : Nat) : c.dn p ≤ c.dd p ∧ 1 ≤ c.dd p ∧ c.dd p ≤ 100 := by
  unfold Dat.dn Dat.dd forPlayer
  have := h.d0a; have := h.d0b; have := h.d0c; have := h.d1a; have := h.d1b; have := h.d1c
  split <;> omega
theorem lim_b {c : Dat} (h : c.In) (p : Nat) : c.b p ≤ 1000 := by
  unfold Dat.b forPlayer
  have := h.b0; have := h.b1
  split <;> omega
theorem lim_o {c : Dat} (h : c.In) (p : Nat) : c.o p ≤ 1000 := by
  unfold Dat.o forPlayer
  have := h.o0; have := h.o1
  split <;> omega
theorem lim_a {c : Dat} (h : c.In) (p : Nat) : c.a p ≤ 1000 := by
  unfold Dat.a forPlayer
  have := h.a0; have := h.a1
  split <;> omega
/-- the numerator and the denominator that the program reckons -/
def contN (c : Dat) (p : Nat) (v : Rational) : Int := (c.xn : Int) * c.b p * c.dd p * v.den + ((c.xd : Int) - c.xn) * c.dn p * v.num
def contD (c : Dat) (p : Nat) (v : Rational) : Nat := c.xd * c.dd p * v.den
theorem contD_pos {c : Dat} (h : c.In) (p : Nat) {v : Rational} (hv : Ok v) : 0 < contD c p v :=
  Nat.mul_pos (Nat.mul_pos h.xa (lim_dn h p).2.1) hv.den
theorem disc_stg (c : Dat) (ps : List Nat) (p : Nat) : discount (c.stg ps).negotiation p = Rational.make (c.dn p : Int) (c.dd p) := by
  unfold discount Dat.dn Dat.dd forPlayer Dat.stg
  split <;> rfl
theorem cont_eq {c : Dat} (h : c.In) (ps : List Nat) (n0 n1 : Rational) {p : Nat} (hv : Ok (forPlayer p n0 n1)) :
    continuationValue (c.stg ps) (n0, n1) p = Rational.make (contN c p (forPlayer p n0 n1)) (contD c p (forPlayer p n0 n1)) := by
  unfold continuationValue
  rw [disc_stg]
  show Rational.make (c.xn : Int) c.xd * Rational.ofNat (c.b p) + (Rational.one - Rational.make (c.xn : Int) c.xd) * (Rational.make (c.dn p : Int) (c.dd p) * forPlayer p n0 n1) = _
  have ox : Ok (Rational.make (c.xn : Int) c.xd) := make_ok _ h.xa
  have od : Ok (Rational.make (c.dn p : Int) (c.dd p)) := make_ok _ (lim_dn h p).2.1
  have ix := is_make (c.xn : Int) (d := c.xd) h.xa
  have id := is_make (c.dn p : Int) (d := c.dd p) (lim_dn h p).2.1
  have pv := hv.den
  generalize forPlayer p n0 n1 = v at *
  have o1 := mul_ok ox (ofNat_ok (c.b p))
  have o2 := sub_ok one_ok ox
  have o3 := mul_ok od hv
  have i1 := is_mul ox (ofNat_ok (c.b p)) ix (is_ofNat (c.b p))
  have i2 := is_sub one_ok ox is_one ix
  have i3 := is_mul od hv id (is_self v)
  have i4 := is_add o1 (mul_ok o2 o3) i1 (is_mul o2 o3 i2 i3)
  refine eq_make (add_ok o1 (mul_ok o2 o3)) (contD_pos h p hv) ?_
  generalize Rational.make (c.xn : Int) c.xd * Rational.ofNat (c.b p) + (Rational.one - Rational.make (c.xn : Int) c.xd) * (Rational.make (c.dn p : Int) (c.dd p) * v) = m at *
  unfold Is at i4
  unfold contN contD
  have q1 := h.xa
  have xpos : (0 : Int) < (c.xd : Int) := by omega
  refine cancel xpos ?_
  rw [Int.natCast_mul, Int.natCast_mul]
  generalize (c.xn : Int) = xn at *
  generalize (c.xd : Int) = xd at *
  generalize (c.b p : Int) = b at *
  generalize (c.dn p : Int) = dn at *
  generalize (c.dd p : Int) = dd at *
  grind
theorem cont_size {c : Dat} (h : c.In) {k p : Nat} {v : Rational} (hv : Good k v) :
    0 ≤ contN c p v ∧ (contN c p v).natAbs < 2 ^ (k + 24) ∧ contD c p v < 2 ^ (k + 24) := by
  obtain ⟨m, hm⟩ : ∃ m : Nat, v.num = (m : Int) := ⟨v.num.natAbs, by have := hv.nn; omega⟩
  have sn : m < 2 ^ k := by
    have := hv.sn
    rw [hm, Int.natAbs_natCast] at this
    exact this
  have sd := hv.sd
  have l1 := lim_dn h p
  have l2 := lim_b h p
  have l3 := h.xa
  have l4 := h.xb
  have l5 := h.xc
  have e : contN c p v = ((c.xn * c.b p * c.dd p * v.den + (c.xd - c.xn) * c.dn p * m : Nat) : Int) := by
    unfold contN
    rw [hm]
    simp only [Int.natCast_add, Int.natCast_mul, Int.natCast_sub l5]
  have b1 : c.xn * c.b p * c.dd p * v.den ≤ 100 * 1000 * 100 * v.den :=
    Nat.mul_le_mul_right _ (Nat.mul_le_mul (Nat.mul_le_mul (by omega) l2) (by omega))
  have b2 : (c.xd - c.xn) * c.dn p * m ≤ 100 * 100 * m :=
    Nat.mul_le_mul_right _ (Nat.mul_le_mul (by omega) (by omega))
  have b3 : c.xd * c.dd p * v.den ≤ 100 * 100 * v.den :=
    Nat.mul_le_mul_right _ (Nat.mul_le_mul (by omega) (by omega))
  have p24 : 2 ^ (k + 24) = 2 ^ k * 16777216 := by
    rw [Nat.pow_add]
  rw [e, p24]
  refine ⟨Int.natCast_nonneg _, ?_, ?_⟩
  · rw [Int.natAbs_natCast]
    omega
  · unfold contD
    omega
theorem make_good {n : Int} {d k : Nat} (hn : 0 ≤ n) (hd : 0 < d) (sn : n.natAbs < 2 ^ k) (sd : d < 2 ^ k) : Good k (Rational.make n d) :=
  ⟨make_ok n hd, make_nn hn hd, Nat.lt_of_le_of_lt (make_num_le n hd) sn, Nat.lt_of_le_of_lt (make_den_le n hd) sd⟩
theorem cont_good {c : Dat} (h : c.In) (ps : List Nat) {k p : Nat} {n0 n1 : Rational} (h0 : Good k n0) (h1 : Good k n1) : Good (k + 24) (continuationValue (c.stg ps) (n0, n1) p) := by
  have hv : Good k (forPlayer p n0 n1) := fp_good h0 h1
  rw [cont_eq h ps n0 n1 hv.ok]
  have s := cont_size (p := p) h hv
  exact make_good s.1 (contD_pos h p hv.ok) s.2.1 s.2.2
theorem out_stg (c : Dat) (ps : List Nat) (p : Nat) : outsideOption (c.stg ps) p = Rational.ofNat (c.o p) := rfl
theorem ab_stg (c : Dat) (ps : List Nat) (p : Nat) : abandonedPayoff (c.stg ps) p = Rational.ofNat (c.a p) := rfl
theorem res_eq {c : Dat} (h : c.In) (ps : List Nat) {k p : Nat} {n0 n1 : Rational} (h0 : Good k n0) (h1 : Good k n1) :
    reservationOf (c.stg ps) (n0, n1) p = if leaves (c.stg ps) (n0, n1) p = true then Rational.ofNat (c.o p) else continuationValue (c.stg ps) (n0, n1) p := by
  unfold reservationOf leaves
  rw [out_stg]
  have g := cont_good (p := p) h ps h0 h1
  have go := ofNat_ok (c.o p)
  generalize continuationValue (c.stg ps) (n0, n1) p = q at *
  generalize Rational.ofNat (c.o p) = r at *
  unfold Rational.lt Rational.le
  by_cases c1 : q.num * (r.den : Int) < r.num * (q.den : Int)
  · rw [if_pos (decide_eq_true c1), if_pos (decide_eq_true (Int.le_of_lt c1))]
  · rw [if_neg (by rw [decide_eq_true_eq]; exact c1)]
    by_cases c2 : q.num * (r.den : Int) ≤ r.num * (q.den : Int)
    · rw [if_pos (decide_eq_true c2)]
      exact eq_of g.ok go (by omega)
    · rw [if_neg (by rw [decide_eq_true_eq]; exact c2)]
theorem res_good {c : Dat} (h : c.In) (ps : List Nat) {k p : Nat} {n0 n1 : Rational} (h0 : Good k n0) (h1 : Good k n1) : Good (k + 24) (reservationOf (c.stg ps) (n0, n1) p) := by
  unfold reservationOf
  rw [out_stg]
  split
  · exact ofNat_good (lim_o h p) (by omega)
  · exact cont_good h ps h0 h1
theorem rej_good {c : Dat} (h : c.In) (ps : List Nat) {k p : Nat} {n0 n1 : Rational} (h0 : Good k n0) (h1 : Good k n1) : Good (k + 24) (rejectionPayoff (c.stg ps) (n0, n1) p) := by
  unfold rejectionPayoff
  rw [ab_stg]
  split
  · exact ofNat_good (lim_a h p) (by omega)
  · exact cont_good h ps h0 h1
/-- the amount minus a number, as the program reckons it -/
def minus (m : Nat) (v : Rational) : Rational := ⟨(m : Int) * v.den - v.num, v.den⟩
theorem gcd_minus (m d : Nat) (n : Int) (h : Nat.gcd n.natAbs d = 1) : Nat.gcd ((m : Int) * d - n).natAbs d = 1 := by
  have e1 : Int.gcd ((m : Int) * d - n) d = Int.gcd n d := by
    rw [← Int.gcd_neg (a := n)]
    have := Int.gcd_add_mul_right_left (-n) (d : Int) (m : Int)
    rw [show (m : Int) * d - n = -n + m * d by omega]
    simpa using this
  have e2 : Int.gcd ((m : Int) * d - n) d = Nat.gcd ((m : Int) * d - n).natAbs d := by simp [Int.gcd]
  have e3 : Int.gcd n d = Nat.gcd n.natAbs d := by simp [Int.gcd]
  rw [← e2, e1, e3]
  exact h
theorem minus_ok (m : Nat) {v : Rational} (h : Ok v) : Ok (minus m v) := ⟨h.den, gcd_minus m v.den v.num h.gcd⟩
theorem minus_eq (m : Nat) {v : Rational} (h : Ok v) : Rational.ofNat m - v = minus m v := by
  have i := is_sub (ofNat_ok m) h (is_ofNat m) (is_self v)
  refine eq_of (sub_ok (ofNat_ok m) h) (minus_ok m h) ?_
  unfold Is at i
  generalize Rational.ofNat m - v = q at *
  show q.num * (v.den : Int) = ((m : Int) * v.den - v.num) * q.den
  grind
theorem minus_size {m k : Nat} {v : Rational} (hm : m ≤ 1000) (h : Good k v) : (minus m v).num.natAbs < 2 ^ (k + 10) ∧ (minus m v).den < 2 ^ (k + 10) := by
  have sn := h.sn
  have sd := h.sd
  have nn := h.nn
  have p10 : 2 ^ (k + 10) = 2 ^ k * 1024 := by rw [Nat.pow_add]
  have b1 : m * v.den ≤ 1000 * v.den := Nat.mul_le_mul_right _ hm
  rw [p10]
  constructor
  · show ((m : Int) * v.den - v.num).natAbs < _
    rw [← Int.natCast_mul]
    omega
  · show v.den < _
    omega
theorem nn_of_le {a b : Rational} (ha : 0 ≤ a.num) (hd : 0 < a.den) (h : Rational.le a b = true) : 0 ≤ b.num := by
  have e : a.num * (b.den : Int) ≤ b.num * (a.den : Int) := of_decide_eq_true h
  have p : 0 ≤ a.num * (b.den : Int) := Int.mul_nonneg ha (Int.natCast_nonneg _)
  have q : 0 ≤ b.num * (a.den : Int) := Int.le_trans p e
  have r : (0 : Int) < (a.den : Int) := by omega
  exact Int.nonneg_of_mul_nonneg_left q r
/-- one round: the proposer's and the responder's payoffs -/
def ownOf (c : Dat) (ps : List Nat) (next : Rational × Rational) (p : Nat) : Rational :=
  if Rational.le (rejectionPayoff (c.stg ps) next p) (minus c.amount (reservationOf (c.stg ps) next (1 - p))) = true then minus c.amount (reservationOf (c.stg ps) next (1 - p)) else rejectionPayoff (c.stg ps) next p
def roundOf (c : Dat) (ps : List Nat) (next : Rational × Rational) (p : Nat) : Rational × Rational :=
  forPlayer p (ownOf c ps next p, reservationOf (c.stg ps) next (1 - p)) (reservationOf (c.stg ps) next (1 - p), ownOf c ps next p)
theorem own_good {c : Dat} (h : c.In) (ps : List Nat) {k p : Nat} {n : Rational × Rational} (h0 : Good k n.1) (h1 : Good k n.2) : Good (k + 34) (ownOf c ps n p) := by
  have hr := res_good (p := 1 - p) h ps h0 h1
  have hj := rej_good (p := p) h ps h0 h1
  unfold ownOf
  split
  · rename_i le
    have s := minus_size h.am2 hr
    exact ⟨minus_ok _ hr.ok, nn_of_le hj.nn hj.ok.den le, s.1, s.2⟩
  · exact hj.mono (by omega)
theorem round_good {c : Dat} (h : c.In) (ps : List Nat) {k p : Nat} {n : Rational × Rational} (h0 : Good k n.1) (h1 : Good k n.2) : Good (k + 40) (roundOf c ps n p).1 ∧ Good (k + 40) (roundOf c ps n p).2 := by
  have a := (own_good (p := p) h ps h0 h1).mono (show k + 34 ≤ k + 40 by omega)
  have b := (res_good (p := 1 - p) h ps h0 h1).mono (show k + 24 ≤ k + 40 by omega)
  unfold roundOf forPlayer
  split
  · exact ⟨a, b⟩
  · exact ⟨b, a⟩
def bits (n : Nat) : Nat := 10 + 40 * n
theorem from_both {c : Dat} (h : c.In) (ps : List Nat) : ∀ l : List Nat, Good (bits l.length) (payoffsFrom (c.stg ps) l).1 ∧ Good (bits l.length) (payoffsFrom (c.stg ps) l).2
  | [] => ⟨ofNat_good h.f0 (by decide), ofNat_good h.f1 (by decide)⟩
  | p :: l => by
    have ih := from_both h ps l
    have e : payoffsFrom (c.stg ps) (p :: l) = roundOf c ps (payoffsFrom (c.stg ps) l) p := by
      show forPlayer p _ _ = _
      unfold roundOf ownOf
      have hr := res_good (p := 1 - p) h ps ih.1 ih.2
      have q := minus_eq c.amount hr.ok
      rw [← q]
      rfl
    rw [e]
    have r := round_good (p := p) h ps ih.1 ih.2
    have eb : bits (p :: l).length = bits l.length + 40 := by
      unfold bits
      rw [List.length_cons]
      omega
    rw [eb]
    exact r
theorem from_cons {c : Dat} (h : c.In) (ps : List Nat) (p : Nat) (l : List Nat) : payoffsFrom (c.stg ps) (p :: l) = roundOf c ps (payoffsFrom (c.stg ps) l) p := by
  have ih := from_both h ps l
  show forPlayer p _ _ = _
  unfold roundOf ownOf
  have hr := res_good (p := 1 - p) h ps ih.1 ih.2
  have q := minus_eq c.amount hr.ok
  rw [← q]
  rfl
end Lv

namespace Pr
open PySem PySem.Spec PyProof.Rows L2
open Lv (Ok Good Dat minus contN contD bits)
/-! ### the text -/
def top (i : Nat) : Stmt := PySem.Challenge.pw_leaveoffers_s06_value_of_outside_option.main.body.getD i (.Pass ⟨0, 0, 0, 0⟩)
abbrev sGcd : Stmt := top 5
abbrev sLow : Stmt := top 6
abbrev sMost : Stmt := top 7
abbrev sMinus : Stmt := top 8
abbrev sSub : Stmt := top 9
abbrev sFrac : Stmt := top 10
abbrev sPays : Stmt := top 11
abbrev sProps : Stmt := top 12
abbrev sDiscs : Stmt := top 13
abbrev sExtra : Stmt := top 14
abbrev sNeg : Stmt := top 15
abbrev sRef : Stmt := top 16
abbrev sOut : Stmt := top 17
abbrev sBare : Stmt := top 18
abbrev sAb : Stmt := top 19
abbrev sCont : Stmt := top 20
abbrev sLeave : Stmt := top 21
abbrev sResp : Stmt := top 22
abbrev sRej : Stmt := top 23
abbrev sAgr : Stmt := top 24
abbrev sIs : Stmt := top 25
abbrev sOwn : Stmt := top 26
abbrev sRound : Stmt := top 27
abbrev sFrom : Stmt := top 28
abbrev sAns : Stmt := top 29
abbrev sMain : Stmt := top 30
/-- a def of the text, its name at the top, how its arguments bind -/
structure Def (K : PySem.W.Frag) (mg : Str → Option Value) (x : Str) (st : Stmt) (ps : List Str) (f : Addr) (fd : FuncData) : Prop where
  F : Fun K x x st f fd
  g : mg x = some (.ref f)
  b : Binds K fd ps []
/-! ### values -/
abbrev nv (n : Nat) : V := .int (n : Int)
abbrev nvs (l : List Nat) : List V := l.map nv
abbrev rat (q : Ks526.Rational) : HO := .tup [.int q.num, .int (q.den : Int)]
theorem same_upd {H : Hp} {p : Addr} {o : HO} (h : H p = none) : Same H (upd H p o) := fun b x e => by
  rw [upd_ne (ne_of_none e h)]
  exact e
theorem two_line {n : Nat} (h : n ≤ 1000) : n ≤ sizeLine := Nat.le_of_lt (small1000 h)
/-! ### greatest_common_divisor -/
theorem gcd_step (l : Int) (s : Nat) (h : 0 < s) : Nat.gcd s (l % (s : Int)).natAbs = Nat.gcd l.natAbs s := by
  have e : Int.gcd (l % (s : Int)) (s : Int) = Int.gcd l (s : Int) := by
    have := Int.gcd_add_mul_left_left (s : Int) (l % (s : Int)) (l / (s : Int))
    rw [Int.emod_add_mul_ediv] at this
    exact this.symm
  have e2 : Int.gcd (l % (s : Int)) (s : Int) = Nat.gcd (l % (s : Int)).natAbs s := by simp [Int.gcd]
  have e3 : Int.gcd l (s : Int) = Nat.gcd l.natAbs s := by simp [Int.gcd]
  rw [Nat.gcd_comm, ← e2, e, e3]
def spGcd : Sp := fun vs H Q _ => ∃ (a : Int) (b : Nat), vs = [.int a, .int (b : Int)] ∧ (0 ≤ a ∨ 0 < b) ∧ Q (.int ((Nat.gcd a.natAbs b : Nat) : Int)) H
theorem scGcd : FnScope ["first", "second", "larger", "smaller", "rest"] ["first", "second"] (defScope sGcd) := ⟨rfl, rfl, rfl, by decide +kernel, rfl, by decide +kernel, by decide +kernel⟩
section
variable {P : Program} {w : World} {K : PySem.W.Frag} {mg : Str → Option Value} {base : Heap}
theorem ok_gcd {f : Addr} {fd : FuncData} (F : Fun K "greatest_common_divisor" "greatest_common_divisor" sGcd f fd) : FnOk P w K mg base CX0 1 f fd ["first", "second"] spGcd := by
  refine F.ok scGcd (fun vs H Q E h => ?_) (fun cdv A outer s H vs Q E hr h => ?_)
  · obtain ⟨a, b, rfl, _⟩ := h
    rfl
  · obtain ⟨a, b, rfl, hab, q⟩ := h
    refine ⟨_, pss_cons (ps_set (i := 2) scGcd.nd rfl (.inl rfl) (pv 0))
      (pss_cons (ps_set (i := 3) scGcd.nd rfl (.inl rfl) (pv 1))
      (pss_cons (ps_while PassesOwn.never (pt_cmpR op_ne (pv 3) pe_int (nomark _))
        (pss_cons (ps_set (i := 4) scGcd.nd rfl (.inl rfl) (pe_op op_mod (pv 2) (pv 3)))
        (pss_cons (ps_set (i := 2) scGcd.nd rfl (.inl rfl) (pv 3))
        (pss_one (ps_set (i := 3) scGcd.nd rfl (.inl rfl) (pv 4))))))
      (pss_one (ps_ret (pv 2))))), ?_⟩
    refine ⟨_, rfl, _, rfl, fun m σ H' => H' = H ∧ ∃ (l : Int) (r : Option V), σ = [some (.int a), some (.int (b : Int)), some (.int l), some (.int (m : Int)), r] ∧ (m = 0 → 0 ≤ l) ∧ Nat.gcd l.natAbs m = Nat.gcd a.natAbs b,
      ⟨b, rfl, a, none, rfl, fun z => by omega, rfl⟩, ?_⟩
    rintro m σ H' ⟨rfl, l, r, rfl, hl, hg⟩
    refine ⟨_, rfl, rfl, _, rfl, ite2 (fun e => ?_) (fun e => ?_)⟩
    · have hm : 0 < m := by
        rcases Nat.eq_zero_or_pos m with z | z
        · subst z
          exact absurd e (by decide)
        · exact z
      have hmi : (0 : Int) < (m : Int) := by omega
      have h0 := Int.emod_nonneg l (show (m : Int) ≠ 0 by omega)
      have h1 := Int.emod_lt_of_pos l hmi
      refine ⟨fun σ' H2 => H2 = H' ∧ ∃ r, σ' = [some (.int a), some (.int (b : Int)), some (.int (m : Int)), some (.int (l % (m : Int))), r], ?_, ?_⟩
      · rintro σ' H2 ⟨rfl, r', rfl⟩
        refine ⟨(l % (m : Int)).natAbs, by omega, rfl, (m : Int), r', ?_, fun _ => by omega, ?_⟩
        · rw [show (((l % (m : Int)).natAbs : Nat) : Int) = l % (m : Int) by omega]
        · rw [Int.natAbs_natCast, gcd_step l m hm]
          exact hg
      · exact ⟨_, rfl, _, rfl, l, (m : Int), rfl, rfl, hmi, _, rfl, _, rfl, rfl, _, rfl⟩
    · have hm : m = 0 := by
        rcases Nat.eq_zero_or_pos m with z | z
        · exact z
        · refine absurd ?_ e
          have : ¬ (V.int (m : Int) = V.int 0) := fun z' => by
            have := V.int.inj z'
            omega
          simp [this]
      subst hm
      have hl0 := hl rfl
      rw [Nat.gcd_zero_right] at hg
      have : l = ((Nat.gcd a.natAbs b : Nat) : Int) := by omega
      subst this
      exact ⟨_, rfl, q⟩
/-! ### lowest_terms -/
def spLow : Sp := fun vs H Q _ => ∃ (n : Int) (d : Nat), vs = [.int n, .int (d : Int)] ∧ 0 < d ∧ d < 2 ^ 9000 ∧ ∀ p, H p = none → Q (.ref p) (upd H p (rat (Ks526.Rational.make n d)))
theorem scLow : FnScope ["numerator", "denominator", "divisor"] ["numerator", "denominator"] (defScope sLow) := ⟨rfl, rfl, rfl, by decide +kernel, rfl, by decide +kernel, by decide +kernel⟩
theorem ok_low {f fG : Addr} {fd fdG : FuncData} (F : Fun K "lowest_terms" "lowest_terms" sLow f fd) (DG : Def K mg "greatest_common_divisor" sGcd ["first", "second"] fG fdG) : FnOk P w K mg base CX0 2 f fd ["numerator", "denominator"] spLow := by
  have GG : FnOk P w K mg base CX0 1 fG fdG ["first", "second"] spGcd := ok_gcd DG.F
  refine F.ok scLow (fun vs H Q E h => ?_) (fun cdv A outer s H vs Q E hr h => ?_)
  · obtain ⟨n, d, rfl, _⟩ := h
    rfl
  · obtain ⟨n, d, rfl, hd, hd9, q⟩ := h
    refine ⟨_, pss_cons (ps_set (i := 2) scLow.nd rfl (.inl rfl) (pe_call GG hr (by rfl) DG.g DG.F.kp DG.b .nil pass0 (pa_cons (pv 0) (pa_cons (pv 1) pa_nil))))
      (pss_one (ps_ret (pe_tup (pa_cons (pe_op op_fdivW (pv 0) (pv 2)) (pa_cons (pe_op op_fdivW (pv 1) (pv 2)) pa_nil))))), ?_⟩
    have hg : 0 < Nat.gcd n.natAbs d := Lv.gcd_pos n hd
    have hgd : Nat.gcd n.natAbs d ≤ d := Nat.le_of_dvd hd (Nat.gcd_dvd_right _ _)
    have hw : ∀ i : Int, CDivW i ((Nat.gcd n.natAbs d : Nat) : Int) := fun i =>
      wide_div (b := 9000) (by omega) (by rw [Int.natAbs_natCast]; exact Nat.lt_of_le_of_lt hgd hd9) (by decide) (by decide)
    refine ⟨_, rfl, _, rfl, n, d, rfl, .inr hd, ?_⟩
    refine ⟨_, rfl, _, rfl, _, _, rfl, rfl, hw _, _, rfl, _, rfl, _, _, rfl, rfl, hw _, (by show 2 ≤ sizeLine; decide), fun p hp => ?_⟩
    have e := q p hp
    rw [Lv.make_pos hd] at e
    exact e
/-! ### is_at_most -/
structure Sz (k : Nat) (q : Ks526.Rational) : Prop where
  n : q.num.natAbs < 2 ^ k
  d : q.den < 2 ^ k
theorem sz_mul {k : Nat} {p q : Ks526.Rational} (h0 : 0 < k) (h : k ≤ 400000) (a : Sz k p) (b : Sz k q) : CMulW p.num (q.den : Int) :=
  wide_mul a.n (by rw [Int.natAbs_natCast]; exact b.d) h0 h0 (by omega)
def spMost : Sp := fun vs H Q _ => ∃ (l r : Addr) (p q : Ks526.Rational) (k : Nat), vs = [.ref l, .ref r] ∧ H l = some (rat p) ∧ H r = some (rat q) ∧ 0 < k ∧ k ≤ 400000 ∧ Sz k p ∧ Sz k q ∧ Q (.bl (Ks526.Rational.le p q)) H
theorem scMost : FnScope ["left", "right"] ["left", "right"] (defScope sMost) := ⟨rfl, rfl, rfl, by decide +kernel, rfl, by decide +kernel, by decide +kernel⟩
theorem ok_most {f : Addr} {fd : FuncData} (F : Fun K "is_at_most" "is_at_most" sMost f fd) : FnOk P w K mg base CX0 1 f fd ["left", "right"] spMost := by
  refine F.ok scMost (fun vs H Q E h => ?_) (fun cdv A outer s H vs Q E hr h => ?_)
  · obtain ⟨l, r, p, q, k, rfl, _⟩ := h
    rfl
  · obtain ⟨l, r, p, q, k, rfl, hl, hr', k0, k1, sp, sq, z⟩ := h
    refine ⟨_, pss_one (ps_ret (pe_cmpR op_le (pe_op op_mulW (pe_ix ix_tup (pv 0) pe_int (fun _ _ => rfl)) (pe_ix ix_tup (pv 1) pe_int (fun _ _ => rfl)))
      (pe_op op_mulW (pe_ix ix_tup (pv 1) pe_int (fun _ _ => rfl)) (pe_ix ix_tup (pv 0) pe_int (fun _ _ => rfl))) (nomark _))), ?_⟩
    refine ⟨_, rfl, l, _, 0, _, rfl, rfl, SqT.of hl, atI_nat (j := 0) rfl, _, rfl, r, _, 1, _, rfl, rfl, SqT.of hr', atI_nat (j := 1) rfl, _, _, rfl, rfl, sz_mul k0 k1 sp sq, ?_⟩
    refine ⟨_, rfl, r, _, 0, _, rfl, rfl, SqT.of hr', atI_nat (j := 0) rfl, _, rfl, l, _, 1, _, rfl, rfl, SqT.of hl, atI_nat (j := 1) rfl, _, _, rfl, rfl, sz_mul k0 k1 sq sp, ?_⟩
    exact ⟨_, _, rfl, rfl, z⟩
/-! ### whole_minus -/
def spMinus : Sp := fun vs H Q _ => ∃ (m : Nat) (v : Addr) (q : Ks526.Rational), vs = [nv m, .ref v] ∧ H v = some (rat q) ∧ m ≤ 1000 ∧ ∀ p, H p = none → Q (.ref p) (upd H p (rat (minus m q)))
theorem scMinus : FnScope ["whole", "value"] ["whole", "value"] (defScope sMinus) := ⟨rfl, rfl, rfl, by decide +kernel, rfl, by decide +kernel, by decide +kernel⟩
theorem ok_minus {f : Addr} {fd : FuncData} (F : Fun K "whole_minus" "whole_minus" sMinus f fd) : FnOk P w K mg base CX0 1 f fd ["whole", "value"] spMinus := by
  refine F.ok scMinus (fun vs H Q E h => ?_) (fun cdv A outer s H vs Q E hr h => ?_)
  · obtain ⟨m, v, q, rfl, _⟩ := h
    rfl
  · obtain ⟨m, v, q, rfl, hv, hm, z⟩ := h
    refine ⟨_, pss_one (ps_ret (pe_tup (pa_cons (pe_op op_sub (pe_op op_mul (pv 0) (pe_ix ix_tup (pv 1) pe_int (fun _ _ => rfl))) (pe_ix ix_tup (pv 1) pe_int (fun _ _ => rfl)))
      (pa_cons (pe_ix ix_tup (pv 1) pe_int (fun _ _ => rfl)) pa_nil)))), ?_⟩
    refine ⟨_, rfl, _, rfl, v, _, 1, _, rfl, rfl, SqT.of hv, atI_nat (j := 1) rfl, _, _, rfl, rfl, .inl ⟨by omega, by omega⟩, ?_⟩
    refine ⟨_, rfl, v, _, 0, _, rfl, rfl, SqT.of hv, atI_nat (j := 0) rfl, _, _, rfl, rfl, ?_⟩
    refine ⟨_, rfl, v, _, 1, _, rfl, rfl, SqT.of hv, atI_nat (j := 1) rfl, (by show 2 ≤ sizeLine; decide), fun p hp => z p hp⟩
/-! ### tests -/
theorem rd_and {c : Bool} {A B : Prop} (h1 : c = true → A) (h2 : c = false → B) : ∃ k, V.bl c = V.bl k ∧ if k = true then A else B := by
  refine ⟨c, rfl, ?_⟩
  cases c with
  | true => exact iteT (h1 rfl)
  | false => exact iteF (h2 rfl)
theorem rd_F {A B : Prop} (h : B) : ∃ k, V.bl false = V.bl k ∧ if k = true then A else B := ⟨false, rfl, iteF h⟩
/-! ### is_fraction_within_limits -/
def spFrac : Sp := fun vs H Q _ => ∃ (n d : Nat), vs = [nv n, nv d] ∧ Q (.bl (Lv.fracOk n d)) H
theorem scFrac : FnScope ["numerator", "denominator"] ["numerator", "denominator"] (defScope sFrac) := ⟨rfl, rfl, rfl, by decide +kernel, rfl, by decide +kernel, by decide +kernel⟩
theorem ok_frac {f : Addr} {fd : FuncData} {t : Tok} (F : Fun K "is_fraction_within_limits" "is_fraction_within_limits" sFrac f fd) (gD : mg "MOST_DENOMINATOR" = some (.int 100 t)) : FnOk P w K mg base CX0 1 f fd ["numerator", "denominator"] spFrac := by
  refine F.ok scFrac (fun vs H Q E h => ?_) (fun cdv A outer s H vs Q E hr h => ?_)
  · obtain ⟨n, d, rfl, _⟩ := h
    rfl
  · obtain ⟨n, d, rfl, z⟩ := h
    refine ⟨_, pss_one (ps_ret (pe_and (pe_chain op_le op_le pe_int (pv 1) (pe_glob (v := .int 100) (by rfl) gD ⟨_, rfl⟩)) (pe_one (pe_chain op_le op_le pe_int (pv 0) (pv 1))))), ?_⟩
    have bad : ¬ (1 ≤ d ∧ d ≤ 100) → Q (.bl false) H := fun e => by
      have ef : Lv.fracOk n d = false := by
        unfold Lv.fracOk
        rw [decide_eq_false e, Bool.false_and]
      rw [ef] at z
      exact z
    refine ⟨_, rfl, _, _, rfl, rfl, rd_and (fun e1 => ⟨_, _, rfl, rfl, rd_and (fun e2 => ⟨_, rfl, _, _, rfl, rfl, rd_and (fun e3 => ⟨_, rfl, _, _, rfl, rfl, ?_⟩) (fun e3 => ?_)⟩) (fun e2 => ?_)⟩) (fun e1 => rd_F ?_)⟩
    · rw [decide_eq_true_eq] at e1 e2
      have ef : Lv.fracOk n d = decide ((n : Int) ≤ (d : Int)) := by
        unfold Lv.fracOk
        rw [decide_eq_true (show 1 ≤ d ∧ d ≤ 100 by omega), Bool.true_and]
        exact decide_eq_decide.mpr (by omega)
      rw [ef] at z
      exact z
    · rw [decide_eq_false_iff_not] at e3
      omega
    · rw [decide_eq_false_iff_not] at e2
      exact bad (by omega)
    · rw [decide_eq_false_iff_not] at e1
      exact bad (by omega)
end
end Pr

namespace Pr
open PySem PySem.Spec PyProof.Rows L2
open Lv (Ok Good Dat minus contN contD bits)
section
variable {P : Program} {w : World} {K : PySem.W.Frag} {mg : Str → Option Value} {base : Heap}
theorem nvs_at {ns : List Nat} {i : Nat} {x : V} (h : (nvs ns)[i]? = some x) : ∃ n, ns[i]? = some n ∧ x = nv n := by
  rw [List.getElem?_map] at h
  cases e : ns[i]? with
  | none =>
    rw [e] at h
    cases h
  | some z =>
    rw [e] at h
    exact ⟨z, rfl, (Option.some.inj h).symm⟩
theorem take_more {α : Type} {l : List α} {i : Nat} {x : α} (h : l[i]? = some x) : l.take (i + 1) = l.take i ++ [x] := by
  rw [List.take_add_one, h]
  rfl
/-! ### are_payoffs_within_limits -/
def spPays (K : PySem.W.Frag) : Sp := fun vs H Q _ => ∃ (a : Addr) (ns : List Nat), vs = [.ref a] ∧ SqL K H a (nvs ns) ∧ ns.length ≤ 900 ∧ ∀ H', Same H H' → Q (.bl (Lv.payOk ns)) H'
theorem scPays : FnScope ["payoffs", "value"] ["payoffs"] (defScope sPays) := ⟨rfl, rfl, rfl, by decide +kernel, rfl, by decide +kernel, by decide +kernel⟩
/-- the list that a comprehension of tests has made -/
theorem made_bools {p : Nat → Bool} {ns : List Nat} : (ns.map fun n => V.bl (p n)) = (ns.map p).map V.bl := by
  rw [List.map_map]
  rfl
theorem all_bools {p : Nat → Bool} {ns : List Nat} : (ns.map p).all id = ns.all p := by
  rw [List.all_map]
  rfl
theorem ok_pays {f : Addr} {fd : FuncData} {t : Tok} (F : Fun K "are_payoffs_within_limits" "are_payoffs_within_limits" sPays f fd) (gP : mg "MOST_PAYOFF" = some (.int 1000 t)) (mAll : mg "all" = none) : FnOk P w K mg base CX0 1 f fd ["payoffs"] (spPays K) := by
  refine F.ok scPays (fun vs H Q E h => ?_) (fun cdv A outer s H vs Q E hr h => ?_)
  · obtain ⟨a, ns, rfl, _⟩ := h
    rfl
  · obtain ⟨a, ns, rfl, hS, hlen, z⟩ := h
    refine ⟨_, pss_one (ps_ret (pe_callB (cr_all rfl) (by rfl) mAll (by decide +kernel) (pa_cons
      (pe_lc (own := [("value", 1)]) (g := gName 1) (tt := tYes) rfl scPays.nd (pi_list (pv 0)) (blkOk_by (own := [("value", 1)]) (N := ["payoffs", "value"]) (sc := defScope sPays) (by decide +kernel))
        (fun _ _ _ _ _ => pg_name (i := 1) scPays.nd rfl (Or.inl rfl)) (fun _ _ _ _ _ => pts_nil)
        (fun _ _ _ _ _ => pe_chain op_le op_le pe_int (pv 1) (pe_glob (v := .int 1000) (by rfl) gP ⟨_, rfl⟩))) pa_nil))), ?_⟩
    refine ⟨_, rfl, a, rfl, ⟨_, hS⟩, fun D hD => lc_list (K := K) (a := a) (xs := nvs ns) (fun i H' => Same H H' ∧ H' D = some (.lst ((ns.take i).map fun n => V.bl (decide (n ≤ 1000))))) ⟨same_upd hD, upd_same⟩ (fun i H' _ hi => hi.1.seq hS) ?_ ?_⟩
    · rintro i x H' hx ⟨sm, eD⟩
      obtain ⟨n, hn, rfl⟩ := nvs_at hx
      have fin : ∀ b : Bool, b = decide (n ≤ 1000) → ∃ acc, H' D = some (.lst acc) ∧ acc.length < sizeLine ∧ (Same H (upd H' D (.lst (acc ++ [V.bl b]))) ∧ (upd H' D (.lst (acc ++ [V.bl b]))) D = some (.lst ((ns.take (i + 1)).map fun n => V.bl (decide (n ≤ 1000))))) := fun b eb => by
        refine ⟨_, eD, ?_, fun c o e => ?_, ?_⟩
        · rw [List.length_map, List.length_take]
          exact small1000 (by omega)
        · rw [upd_ne (ne_of_none e hD)]
          exact sm c o e
        · rw [upd_same, take_more hn, List.map_append, eb]
          rfl
      refine ⟨rfl, ?_⟩
      refine ⟨_, rfl, _, _, rfl, rfl, rd_and (fun e1 => ⟨_, _, rfl, rfl, ?_⟩) (fun e1 => ?_)⟩
      · exact fin _ (decide_eq_decide.mpr (by omega))
      · rw [decide_eq_false_iff_not] at e1
        omega
    · rintro H' ⟨sm, eD⟩
      rw [List.length_map, List.take_length, made_bools] at eD
      refine ⟨D, _, rfl, SqL.of eD, ?_⟩
      rw [all_bools]
      exact z H' sm
/-! ### are_proposers_within_limits -/
def spProps (K : PySem.W.Frag) : Sp := fun vs H Q _ => ∃ (a : Addr) (ns : List Nat), vs = [.ref a] ∧ SqL K H a (nvs ns) ∧ ns.length ≤ 900 ∧ ∀ H', Same H H' → Q (.bl (Lv.propOk ns)) H'
theorem scProps : FnScope ["proposers", "proposer"] ["proposers"] (defScope sProps) := ⟨rfl, rfl, rfl, by decide +kernel, rfl, by decide +kernel, by decide +kernel⟩
theorem ok_props {f : Addr} {fd : FuncData} {t : Tok} (F : Fun K "are_proposers_within_limits" "are_proposers_within_limits" sProps f fd) (gR : mg "MOST_ROUNDS" = some (.int 12 t)) (mAll : mg "all" = none) (mLen : mg "len" = none) : FnOk P w K mg base CX0 1 f fd ["proposers"] (spProps K) := by
  refine F.ok scProps (fun vs H Q E h => ?_) (fun cdv A outer s H vs Q E hr h => ?_)
  · obtain ⟨a, ns, rfl, _⟩ := h
    rfl
  · obtain ⟨a, ns, rfl, hS, hlen, z⟩ := h
    refine ⟨_, pss_one (ps_ret (pe_and (pe_chain op_le op_le pe_int (pe_callB call_len_seq (by rfl) mLen PySem.boot_len (pa_cons (pv 0) pa_nil)) (pe_glob (v := .int 12) (by rfl) gR ⟨_, rfl⟩))
      (pe_one (pe_callB (cr_all rfl) (by rfl) mAll (by decide +kernel) (pa_cons
      (pe_lc (own := [("proposer", 1)]) (g := gName 1) (tt := tYes) rfl scProps.nd (pi_list (pv 0)) (blkOk_by (own := [("proposer", 1)]) (N := ["proposers", "proposer"]) (sc := defScope sProps) (by decide +kernel))
        (fun _ _ _ _ _ => pg_name (i := 1) scProps.nd rfl (Or.inl rfl)) (fun _ _ _ _ _ => pts_nil)
        (fun _ _ _ _ _ => pe_chain op_le op_le pe_int (pv 1) pe_int)) pa_nil))))), ?_⟩
    have bad : ¬ (1 ≤ ns.length ∧ ns.length ≤ 12) → Q (.bl false) H := fun e => by
      have ef : Lv.propOk ns = false := by
        unfold Lv.propOk
        rw [decide_eq_false e, Bool.false_and]
      have z' := z H (Same.refl H)
      rw [ef] at z'
      exact z'
    refine ⟨_, rfl, a, _, rfl, .inl hS, _, _, rfl, rfl, rd_and (fun e1 => ⟨_, _, rfl, rfl, rd_and (fun e2 => ?_) (fun e2 => ?_)⟩) (fun e1 => rd_F ?_)⟩
    · rw [decide_eq_true_eq, List.length_map] at e1 e2
      refine ⟨_, rfl, a, rfl, ⟨_, hS⟩, fun D hD => lc_list (K := K) (a := a) (xs := nvs ns) (fun i H' => Same H H' ∧ H' D = some (.lst ((ns.take i).map fun n => V.bl (decide (n ≤ 1))))) ⟨same_upd hD, upd_same⟩ (fun i H' _ hi => hi.1.seq hS) ?_ ?_⟩
      · rintro i x H' hx ⟨sm, eD⟩
        obtain ⟨n, hn, rfl⟩ := nvs_at hx
        have fin : ∀ b : Bool, b = decide (n ≤ 1) → ∃ acc, H' D = some (.lst acc) ∧ acc.length < sizeLine ∧ (Same H (upd H' D (.lst (acc ++ [V.bl b]))) ∧ (upd H' D (.lst (acc ++ [V.bl b]))) D = some (.lst ((ns.take (i + 1)).map fun n => V.bl (decide (n ≤ 1))))) := fun b eb => by
          refine ⟨_, eD, ?_, fun c o e => ?_, ?_⟩
          · rw [List.length_map, List.length_take]
            exact small1000 (by omega)
          · rw [upd_ne (ne_of_none e hD)]
            exact sm c o e
          · rw [upd_same, take_more hn, List.map_append, eb]
            rfl
        refine ⟨rfl, ?_⟩
        refine ⟨_, rfl, _, _, rfl, rfl, rd_and (fun e1 => ⟨_, _, rfl, rfl, ?_⟩) (fun e1 => ?_)⟩
        · exact fin _ (decide_eq_decide.mpr (by omega))
        · rw [decide_eq_false_iff_not] at e1
          omega
      · rintro H' ⟨sm, eD⟩
        rw [List.length_map, List.take_length, made_bools] at eD
        refine ⟨D, _, rfl, SqL.of eD, ?_⟩
        have z' := z H' sm
        unfold Lv.propOk at z'
        rw [decide_eq_true (show 1 ≤ ns.length ∧ ns.length ≤ 12 by omega), Bool.true_and] at z'
        rw [all_bools]
        exact z'
    · rw [decide_eq_false_iff_not, List.length_map] at e2
      exact bad (by omega)
    · rw [decide_eq_false_iff_not, List.length_map] at e1
      exact bad (by omega)
/-! ### are_discounts_within_limits -/
theorem at_nv {ns : List Nat} {j n : Nat} (h : ns[j]? = some n) : atI (nvs ns) (j : Int) = some (nv n) := atI_nat (by rw [List.getElem?_map, h]; rfl)
theorem get_lt {ns : List Nat} {j : Nat} (h : j < ns.length) : ns[j]? = some (ns.getD j 0) := by
  rw [List.getD_eq_getElem?_getD, List.getElem?_eq_getElem h]
  rfl
def spDiscs (K : PySem.W.Frag) : Sp := fun vs H Q _ => ∃ (a : Addr) (ns : List Nat), vs = [.ref a] ∧ SqL K H a (nvs ns) ∧ Q (.bl (Lv.discOk ns)) H
theorem scDiscs : FnScope ["discounts"] ["discounts"] (defScope sDiscs) := ⟨rfl, rfl, rfl, by decide +kernel, rfl, by decide +kernel, by decide +kernel⟩
theorem ok_discs {f fF : Addr} {fd fdF : FuncData} {t : Tok} (F : Fun K "are_discounts_within_limits" "are_discounts_within_limits" sDiscs f fd) (DF : Def K mg "is_fraction_within_limits" sFrac ["numerator", "denominator"] fF fdF)
    (gD : mg "MOST_DENOMINATOR" = some (.int 100 t)) (mLen : mg "len" = none) : FnOk P w K mg base CX0 2 f fd ["discounts"] (spDiscs K) := by
  have GF : FnOk P w K mg base CX0 1 fF fdF ["numerator", "denominator"] spFrac := ok_frac DF.F gD
  refine F.ok scDiscs (fun vs H Q E h => ?_) (fun cdv A outer s H vs Q E hr h => ?_)
  · obtain ⟨a, ns, rfl, _⟩ := h
    rfl
  · obtain ⟨a, ns, rfl, hS, z⟩ := h
    refine ⟨_, pss_cons (ps_if (pt_cmpR op_ne (pe_callB call_len_seq (by rfl) mLen PySem.boot_len (pa_cons (pv 0) pa_nil)) pe_int (nomark _)) (pss_one (ps_ret pe_bl)) pss_nil)
      (pss_one (ps_ret (pe_and (pe_call GF hr (by rfl) DF.g DF.F.kp DF.b .nil pass0 (pa_cons (pe_ix ix_list (pv 0) pe_int (fun _ _ => rfl)) (pa_cons (pe_ix ix_list (pv 0) pe_int (fun _ _ => rfl)) pa_nil)))
        (pe_one (pe_call GF hr (by rfl) DF.g DF.F.kp DF.b .nil pass0 (pa_cons (pe_ix ix_list (pv 0) pe_int (fun _ _ => rfl)) (pa_cons (pe_ix ix_list (pv 0) pe_int (fun _ _ => rfl)) pa_nil))))))), ?_⟩
    refine ⟨_, rfl, a, _, rfl, .inl hS, rfl, _, rfl, ite2 (fun e => ?_) (fun e => ?_)⟩
    · have hl : ¬ ns.length = 4 := fun h4 => by
        rw [List.length_map, h4] at e
        exact absurd e (by decide)
      unfold Lv.discOk at z
      rw [decide_eq_false hl, Bool.false_and] at z
      exact z
    · have hl : ns.length = 4 := by
        rw [List.length_map] at e
        by_cases h4 : ns.length = 4
        · exact h4
        · refine absurd ?_ e
          have : ¬ (V.int (ns.length : Int) = V.int 4) := fun z' => by
            have := V.int.inj z'
            omega
          simp [this]
      unfold Lv.discOk at z
      rw [decide_eq_true hl, Bool.true_and] at z
      refine ⟨_, rfl, a, _, 0, _, rfl, rfl, hS, at_nv (j := 0) (get_lt (by omega)), _, rfl, a, _, 1, _, rfl, rfl, hS, at_nv (j := 1) (get_lt (by omega)), _, _, rfl, rd_and (fun e1 => ?_) (fun e1 => ?_)⟩
      · rw [e1, Bool.true_and] at z
        exact ⟨_, rfl, a, _, 2, _, rfl, rfl, hS, at_nv (j := 2) (get_lt (by omega)), _, rfl, a, _, 3, _, rfl, rfl, hS, at_nv (j := 3) (get_lt (by omega)), _, _, rfl, z⟩
      · rw [e1, Bool.false_and] at z
        exact z
/-! ### is_extra_within_limits -/
theorem cut_from (xs : List V) (k : Nat) : cutV xs (some (k : Int)) none = xs.drop k := by
  unfold cutV
  rw [HT.sIx_nat xs.length 0 k, HT.sIx_none]
  by_cases h : k ≤ xs.length
  · rw [Nat.min_eq_left h, List.take_of_length_le (by rw [List.length_drop]; omega)]
  · rw [Nat.min_eq_right (by omega), List.drop_of_length_le (Nat.le_refl _), List.drop_of_length_le (by omega)]
    simp
def spExtra (K : PySem.W.Frag) : Sp := fun vs H Q _ => ∃ (a : Addr) (ns : List Nat), vs = [.ref a] ∧ SqL K H a (nvs ns) ∧ ∀ H', Same H H' → Q (.bl (Lv.extraOk ns)) H'
theorem scExtra : FnScope ["extra"] ["extra"] (defScope sExtra) := ⟨rfl, rfl, rfl, by decide +kernel, rfl, by decide +kernel, by decide +kernel⟩
theorem ok_extra {f fF fP : Addr} {fd fdF fdP : FuncData} {t u : Tok} (F : Fun K "is_extra_within_limits" "is_extra_within_limits" sExtra f fd) (DF : Def K mg "is_fraction_within_limits" sFrac ["numerator", "denominator"] fF fdF)
    (DP : Def K mg "are_payoffs_within_limits" sPays ["payoffs"] fP fdP) (gD : mg "MOST_DENOMINATOR" = some (.int 100 t)) (gP : mg "MOST_PAYOFF" = some (.int 1000 u)) (mAll : mg "all" = none) (mLen : mg "len" = none) : FnOk P w K mg base CX0 2 f fd ["extra"] (spExtra K) := by
  have GF : FnOk P w K mg base CX0 1 fF fdF ["numerator", "denominator"] spFrac := ok_frac DF.F gD
  have GP : FnOk P w K mg base CX0 1 fP fdP ["payoffs"] (spPays K) := ok_pays DP.F gP mAll
  refine F.ok scExtra (fun vs H Q E h => ?_) (fun cdv A outer s H vs Q E hr h => ?_)
  · obtain ⟨a, ns, rfl, _⟩ := h
    rfl
  · obtain ⟨a, ns, rfl, hS, z⟩ := h
    refine ⟨_, pss_cons (ps_if (pt_cmpR op_ne (pe_callB call_len_seq (by rfl) mLen PySem.boot_len (pa_cons (pv 0) pa_nil)) pe_int (nomark _)) (pss_one (ps_ret pe_bl)) pss_nil)
      (pss_one (ps_ret (pe_and (pe_call GF hr (by rfl) DF.g DF.F.kp DF.b .nil pass0 (pa_cons (pe_ix ix_list (pv 0) pe_int (fun _ _ => rfl)) (pa_cons (pe_ix ix_list (pv 0) pe_int (fun _ _ => rfl)) pa_nil)))
        (pe_one (pe_call GP hr (by rfl) DP.g DP.F.kp DP.b .nil pass0 (pa_cons (pe_slice sl_list (pv 0) (po_some pe_int) po_none) pa_nil)))))), ?_⟩
    refine ⟨_, rfl, a, _, rfl, .inl hS, rfl, _, rfl, ite2 (fun e => ?_) (fun e => ?_)⟩
    · have hl : ¬ ns.length = 8 := fun h4 => by
        rw [List.length_map, h4] at e
        exact absurd e (by decide)
      have z := z H (Same.refl H)
      unfold Lv.extraOk at z
      rw [decide_eq_false hl, Bool.false_and] at z
      exact z
    · have hl : ns.length = 8 := by
        rw [List.length_map] at e
        by_cases h4 : ns.length = 8
        · exact h4
        · refine absurd ?_ e
          have : ¬ (V.int (ns.length : Int) = V.int 8) := fun z' => by
            have := V.int.inj z'
            omega
          simp [this]
      unfold Lv.extraOk at z
      rw [decide_eq_true hl] at z
      refine ⟨_, rfl, a, _, 0, _, rfl, rfl, hS, at_nv (j := 0) (get_lt (by omega)), _, rfl, a, _, 1, _, rfl, rfl, hS, at_nv (j := 1) (get_lt (by omega)), _, _, rfl, rd_and (fun e1 => ?_) (fun e1 => ?_)⟩
      · rw [e1] at z
        refine ⟨_, rfl, _, rfl, a, _, rfl, hS, fun p hp => ?_⟩
        refine ⟨p, ns.drop 2, rfl, SqL.of ?_, by rw [List.length_drop]; omega, fun H' sm => z H' ((same_upd hp).trans sm)⟩
        rw [upd_same]
        have := cut_from (nvs ns) 2
        rw [show ((2 : Nat) : Int) = 2 from rfl] at this
        rw [this, ← List.map_drop]
      · have z := z H (Same.refl H)
        rw [e1] at z
        exact z
end
end Pr

namespace Pr
open PySem PySem.Spec PyProof.Rows L2
open Lv (Ok Good Dat minus contN contD bits)
section
variable {P : Program} {w : World} {K : PySem.W.Frag} {mg : Str → Option Value} {base : Heap}
/-! ### is_negotiation_within_limits -/
structure Args (K : PySem.W.Frag) (H : Hp) (ap ad af ae : Addr) (ps ds fs es : List Nat) : Prop where
  p : SqL K H ap (nvs ps)
  d : SqL K H ad (nvs ds)
  f : SqL K H af (nvs fs)
  e : SqL K H ae (nvs es)
  lp : ps.length ≤ 900
  lf : fs.length ≤ 900
theorem Args.mono {H H' : Hp} {ap ad af ae : Addr} {ps ds fs es : List Nat} (A : Args K H ap ad af ae ps ds fs es) (s : Same H H') : Args K H' ap ad af ae ps ds fs es := ⟨s.seq A.p, s.seq A.d, s.seq A.f, s.seq A.e, A.lp, A.lf⟩
/-- what the top says of the limits -/
structure Lim (mg : Str → Option Value) : Prop where
  a : ∃ t, mg "MOST_AMOUNT" = some (.int 1000 t)
  r : ∃ t, mg "MOST_ROUNDS" = some (.int 12 t)
  d : ∃ t, mg "MOST_DENOMINATOR" = some (.int 100 t)
  p : ∃ t, mg "MOST_PAYOFF" = some (.int 1000 t)
  all : mg "all" = none
  len : mg "len" = none
def spNeg (K : PySem.W.Frag) : Sp := fun vs H Q _ => ∃ (amount : Nat) (ps ds fs es : List Nat) (ap ad af ae : Addr), vs = [nv amount, .ref ap, .ref ad, .ref af, .ref ae] ∧ Args K H ap ad af ae ps ds fs es ∧
  ∀ H', Same H H' → Q (.bl (Lv.valid amount ps ds fs es)) H'
theorem scNeg : FnScope ["amount", "proposers", "discounts", "final", "extra"] ["amount", "proposers", "discounts", "final", "extra"] (defScope sNeg) := ⟨rfl, rfl, rfl, by decide +kernel, rfl, by decide +kernel, by decide +kernel⟩
theorem ok_neg {f fF fP fR fD fE : Addr} {fd fdF fdP fdR fdD fdE : FuncData} (F : Fun K "is_negotiation_within_limits" "is_negotiation_within_limits" sNeg f fd) (L : Lim mg)
    (DF : Def K mg "is_fraction_within_limits" sFrac ["numerator", "denominator"] fF fdF) (DP : Def K mg "are_payoffs_within_limits" sPays ["payoffs"] fP fdP) (DR : Def K mg "are_proposers_within_limits" sProps ["proposers"] fR fdR)
    (DD : Def K mg "are_discounts_within_limits" sDiscs ["discounts"] fD fdD) (DE : Def K mg "is_extra_within_limits" sExtra ["extra"] fE fdE) :
    FnOk P w K mg base CX0 3 f fd ["amount", "proposers", "discounts", "final", "extra"] (spNeg K) := by
  obtain ⟨⟨ta, gA⟩, ⟨tr, gR⟩, ⟨td, gD⟩, ⟨tp, gP⟩, mAll, mLen⟩ := L
  have GP : FnOk P w K mg base CX0 1 fP fdP ["payoffs"] (spPays K) := ok_pays DP.F gP mAll
  have GR : FnOk P w K mg base CX0 1 fR fdR ["proposers"] (spProps K) := ok_props DR.F gR mAll mLen
  have GD : FnOk P w K mg base CX0 2 fD fdD ["discounts"] (spDiscs K) := ok_discs DD.F DF gD mLen
  have GE : FnOk P w K mg base CX0 2 fE fdE ["extra"] (spExtra K) := ok_extra DE.F DF DP gD gP mAll mLen
  refine F.ok scNeg (fun vs H Q E h => ?_) (fun cdv A outer s H vs Q E hr h => ?_)
  · obtain ⟨amount, ps, ds, fs, es, ap, ad, af, ae, rfl, _⟩ := h
    rfl
  · obtain ⟨amount, ps, ds, fs, es, ap, ad, af, ae, rfl, B, z⟩ := h
    have hr1 : Room 1 _ := hr.mono (by decide)
    refine ⟨_, pss_one (ps_ret (pe_and (pe_chain op_le op_le pe_int (pv 0) (pe_glob (v := .int 1000) (by rfl) gA ⟨_, rfl⟩))
      (pe_and (pe_call GR hr1 (by rfl) DR.g DR.F.kp DR.b .nil pass0 (pa_cons (pv 1) pa_nil))
      (pe_and (pe_call GD hr (by rfl) DD.g DD.F.kp DD.b .nil pass0 (pa_cons (pv 2) pa_nil))
      (pe_and (pe_cmpR op_eq (pe_callB call_len_seq (by rfl) mLen PySem.boot_len (pa_cons (pv 3) pa_nil)) pe_int (nomark _))
      (pe_and (pe_call GP hr1 (by rfl) DP.g DP.F.kp DP.b .nil pass0 (pa_cons (pv 3) pa_nil))
      (pe_one (pe_call GE hr (by rfl) DE.g DE.F.kp DE.b .nil pass0 (pa_cons (pv 4) pa_nil))))))))), ?_⟩
    have bad : ¬ (1 ≤ amount ∧ amount ≤ 1000) → Q (.bl false) H := fun e => by
      have z' := z H (Same.refl H)
      unfold Lv.valid at z'
      rw [decide_eq_false e, Bool.false_and] at z'
      exact z'
    refine ⟨_, rfl, _, _, rfl, rfl, rd_and (fun e1 => ⟨_, _, rfl, rfl, rd_and (fun e2 => ?_) (fun e2 => ?_)⟩) (fun e1 => rd_F ?_)⟩
    · rw [decide_eq_true_eq] at e1 e2
      unfold Lv.valid at z
      rw [decide_eq_true (show 1 ≤ amount ∧ amount ≤ 1000 by omega)] at z
      refine ⟨_, rfl, ap, ps, rfl, B.p, B.lp, fun H1 s1 => rd_and (fun e3 => ?_) (fun e3 => ?_)⟩
      · rw [e3] at z
        refine ⟨_, rfl, ad, ds, rfl, s1.seq B.d, rd_and (fun e4 => ?_) (fun e4 => ?_)⟩
        · rw [e4] at z
          refine ⟨_, rfl, af, _, rfl, .inl (s1.seq B.f), rfl, rd_and (fun e5 => ?_) (fun e5 => ?_)⟩
          · have hl : fs.length = 2 := by
              have := V.int.inj (of_decide_eq_true e5)
              rw [List.length_map] at this
              omega
            rw [decide_eq_true hl] at z
            refine ⟨_, rfl, af, fs, rfl, s1.seq B.f, B.lf, fun H2 s2 => rd_and (fun e6 => ?_) (fun e6 => ?_)⟩
            · rw [e6] at z
              exact ⟨_, rfl, ae, es, rfl, (s1.trans s2).seq B.e, fun H3 s3 => z H3 ((s1.trans s2).trans s3)⟩
            · rw [e6] at z
              exact z H2 (s1.trans s2)
          · have hl : ¬ fs.length = 2 := fun h2 => by
              refine (of_decide_eq_false e5) ?_
              rw [List.length_map, h2]
              rfl
            rw [decide_eq_false hl] at z
            exact z H1 s1
        · rw [e4] at z
          exact z H1 s1
      · rw [e3] at z
        exact z H1 s1
    · rw [decide_eq_false_iff_not] at e2
      exact bad (by omega)
    · rw [decide_eq_false_iff_not] at e1
      exact bad (by omega)
/-! ### refusal -/
def refCode (amount rnd pl : Nat) (ps ds fs es : List Nat) : Int :=
  if Lv.valid amount ps ds fs es = true then (if rnd < ps.length ∧ pl ≤ 1 then 0 else -2) else -22
def spRef (K : PySem.W.Frag) : Sp := fun vs H Q _ => ∃ (amount rnd pl : Nat) (ps ds fs es : List Nat) (ap ad af ae : Addr), vs = [nv amount, nv rnd, nv pl, .ref ap, .ref ad, .ref af, .ref ae] ∧ Args K H ap ad af ae ps ds fs es ∧
  ∀ H', Same H H' → Q (.int (refCode amount rnd pl ps ds fs es)) H'
abbrev ps7 : List Str := ["amount", "the_round", "player", "proposers", "discounts", "final", "extra"]
theorem scRef : FnScope ps7 ps7 (defScope sRef) := ⟨rfl, rfl, rfl, by decide +kernel, rfl, by decide +kernel, by decide +kernel⟩
theorem ok_ref {f fN : Addr} {fd fdN : FuncData} (F : Fun K "refusal" "refusal" sRef f fd) (mLen : mg "len" = none)
    (DN : Def K mg "is_negotiation_within_limits" sNeg ["amount", "proposers", "discounts", "final", "extra"] fN fdN) (GN : FnOk P w K mg base CX0 3 fN fdN ["amount", "proposers", "discounts", "final", "extra"] (spNeg K)) :
    FnOk P w K mg base CX0 4 f fd ps7 (spRef K) := by
  refine F.ok scRef (fun vs H Q E h => ?_) (fun cdv A outer s H vs Q E hr h => ?_)
  · obtain ⟨amount, rnd, pl, ps, ds, fs, es, ap, ad, af, ae, rfl, _⟩ := h
    rfl
  · obtain ⟨amount, rnd, pl, ps, ds, fs, es, ap, ad, af, ae, rfl, B, z⟩ := h
    refine ⟨_, pss_cons (ps_if (pt_not (pt_val (pe_call GN hr (by rfl) DN.g DN.F.kp DN.b .nil pass0 (pa_cons (pv 0) (pa_cons (pv 3) (pa_cons (pv 4) (pa_cons (pv 5) (pa_cons (pv 6) pa_nil)))))))) (pss_one (ps_ret (pe_un un_neg pe_int))) pss_nil)
      (pss_cons (ps_if (pt_not (PW.pt (pw_and (pt_chain op_le op_lt pe_int (pv 1) (pe_callB call_len_seq (by rfl) mLen PySem.boot_len (pa_cons (pv 3) pa_nil))) (pw_and1 (pt_chain op_le op_le pe_int (pv 2) pe_int))))) (pss_one (ps_ret (pe_un un_neg pe_int))) pss_nil)
      (pss_one (ps_ret pe_int))), ?_⟩
    refine ⟨_, rfl, _, rfl, _, rfl, _, rfl, _, rfl, amount, ps, ds, fs, es, ap, ad, af, ae, rfl, B, fun H1 s1 => ⟨_, rfl, ?_⟩⟩
    unfold refCode at z
    cases hv : Lv.valid amount ps ds fs es with
    | false =>
      rw [hv] at z
      exact ⟨_, rfl, z H1 s1⟩
    | true =>
      rw [hv, if_pos rfl] at z
      have no : ¬ (rnd < ps.length ∧ pl ≤ 1) → Q (.int (-2)) H1 := fun e => by
        rw [if_neg e] at z
        exact z H1 s1
      refine ⟨_, rfl, _, _, rfl, rfl, rd_and (fun e1 => ?_) (fun e1 => ?_)⟩
      · refine ⟨_, rfl, ap, _, rfl, .inl (s1.seq B.p), _, _, rfl, rfl, rd_and (fun e2 => ?_) (fun e2 => ?_)⟩
        · rw [decide_eq_true_eq, List.length_map] at e2
          refine ⟨_, rfl, _, _, rfl, rfl, rd_and (fun e3 => ?_) (fun e3 => ?_)⟩
          · refine ⟨_, _, rfl, rfl, _, rfl, ite2 (fun e4 => ?_) (fun e4 => ?_)⟩
            · refine ⟨_, rfl, no fun h => ?_⟩
              have : decide ((pl : Int) ≤ 1) = true := decide_eq_true (by omega)
              rw [this] at e4
              exact absurd e4 (by decide)
            · have h1 : pl ≤ 1 := by
                cases hd : decide ((pl : Int) ≤ 1) with
                | true =>
                  have := of_decide_eq_true hd
                  omega
                | false =>
                  rw [hd] at e4
                  exact absurd rfl e4
              rw [if_pos (show rnd < ps.length ∧ pl ≤ 1 by omega)] at z
              exact z H1 s1
          · rw [decide_eq_false_iff_not] at e3
            omega
        · rw [decide_eq_false_iff_not, List.length_map] at e2
          exact ⟨_, rfl, no (by omega)⟩
      · rw [decide_eq_false_iff_not] at e1
        omega
end
end Pr

namespace Pr
open PySem PySem.Spec PyProof.Rows L2
open Lv (Ok Good Dat minus contN contD bits)
section
variable {P : Program} {w : World} {K : PySem.W.Frag} {mg : Str → Option Value} {base : Heap}
theorem ex_at {ns : List Nat} {j n : Nat} {z : Int} (e : z = (j : Int)) (h : ns[j]? = some n) : atI (nvs ns) z = some (nv n) := by
  rw [e]
  exact at_nv h
theorem ex_o (c : Dat) {p : Nat} (h : p ≤ 1) : c.extra[4 + p]? = some (c.o p) := by
  rcases Lv.player_cases h with rfl | rfl <;> rfl
theorem ex_a (c : Dat) {p : Nat} (h : p ≤ 1) : c.extra[6 + p]? = some (c.a p) := by
  rcases Lv.player_cases h with rfl | rfl <;> rfl
theorem ex_b (c : Dat) {p : Nat} (h : p ≤ 1) : c.extra[2 + p]? = some (c.b p) := by
  rcases Lv.player_cases h with rfl | rfl <;> rfl
theorem di_n (c : Dat) {p : Nat} (h : p ≤ 1) : c.disc[2 * p]? = some (c.dn p) := by
  rcases Lv.player_cases h with rfl | rfl <;> rfl
theorem di_d (c : Dat) {p : Nat} (h : p ≤ 1) : c.disc[2 * p + 1]? = some (c.dd p) := by
  rcases Lv.player_cases h with rfl | rfl <;> rfl
/-! ### outside_option, abandoned_payoff -/
def spOut (K : PySem.W.Frag) : Sp := fun vs H Q _ => ∃ (c : Dat) (pl : Nat) (ae : Addr), vs = [nv pl, .ref ae] ∧ pl ≤ 1 ∧ SqL K H ae (nvs c.extra) ∧ ∀ p, H p = none → Q (.ref p) (upd H p (rat (Ks526.Rational.ofNat (c.o pl))))
theorem scOut : FnScope ["player", "extra"] ["player", "extra"] (defScope sOut) := ⟨rfl, rfl, rfl, by decide +kernel, rfl, by decide +kernel, by decide +kernel⟩
theorem ok_out {f : Addr} {fd : FuncData} (F : Fun K "outside_option" "outside_option" sOut f fd) : FnOk P w K mg base CX0 1 f fd ["player", "extra"] (spOut K) := by
  refine F.ok scOut (fun vs H Q E h => ?_) (fun cdv A outer s H vs Q E hr h => ?_)
  · obtain ⟨c, pl, ae, rfl, _⟩ := h
    rfl
  · obtain ⟨c, pl, ae, rfl, hp, hS, z⟩ := h
    refine ⟨_, pss_one (ps_ret (pe_tup (pa_cons (pe_ix ix_list (pv 1) (pe_op op_add pe_int (pv 0)) (fun _ _ => rfl)) (pa_cons pe_int pa_nil)))), ?_⟩
    exact ⟨_, rfl, _, rfl, _, _, rfl, rfl, ae, _, _, _, rfl, rfl, hS, ex_at (by omega) (ex_o c hp), (by show 2 ≤ sizeLine; decide), fun p hn => z p hn⟩
def spAb (K : PySem.W.Frag) : Sp := fun vs H Q _ => ∃ (c : Dat) (pl : Nat) (ae : Addr), vs = [nv pl, .ref ae] ∧ pl ≤ 1 ∧ SqL K H ae (nvs c.extra) ∧ ∀ p, H p = none → Q (.ref p) (upd H p (rat (Ks526.Rational.ofNat (c.a pl))))
theorem scAb : FnScope ["player", "extra"] ["player", "extra"] (defScope sAb) := ⟨rfl, rfl, rfl, by decide +kernel, rfl, by decide +kernel, by decide +kernel⟩
theorem ok_ab {f : Addr} {fd : FuncData} (F : Fun K "abandoned_payoff" "abandoned_payoff" sAb f fd) : FnOk P w K mg base CX0 1 f fd ["player", "extra"] (spAb K) := by
  refine F.ok scAb (fun vs H Q E h => ?_) (fun cdv A outer s H vs Q E hr h => ?_)
  · obtain ⟨c, pl, ae, rfl, _⟩ := h
    rfl
  · obtain ⟨c, pl, ae, rfl, hp, hS, z⟩ := h
    refine ⟨_, pss_one (ps_ret (pe_tup (pa_cons (pe_ix ix_list (pv 1) (pe_op op_add pe_int (pv 0)) (fun _ _ => rfl)) (pa_cons pe_int pa_nil)))), ?_⟩
    exact ⟨_, rfl, _, rfl, _, _, rfl, rfl, ae, _, _, _, rfl, rfl, hS, ex_at (by omega) (ex_a c hp), (by show 2 ≤ sizeLine; decide), fun p hn => z p hn⟩
/-! ### the payoffs of a round in the heap -/
def PayAt (H : Hp) (p : Addr) (n : Ks526.Rational × Ks526.Rational) : Prop := ∃ t0 t1, H p = some (.tup [.ref t0, .ref t1]) ∧ H t0 = some (rat n.1) ∧ H t1 = some (rat n.2)
theorem PayAt.mono {H H' : Hp} {p : Addr} {n : Ks526.Rational × Ks526.Rational} (h : PayAt H p n) (s : Same H H') : PayAt H' p n := by
  obtain ⟨t0, t1, a, b, d⟩ := h
  exact ⟨t0, t1, s _ _ a, s _ _ b, s _ _ d⟩
structure Ctx (K : PySem.W.Frag) (H : Hp) (c : Dat) (l ad ae : Addr) (n : Ks526.Rational × Ks526.Rational) (k : Nat) : Prop where
  ci : c.In
  la : PayAt H l n
  g0 : Good k n.1
  g1 : Good k n.2
  kk : k ≤ 2000
  d : SqL K H ad (nvs c.disc)
  e : SqL K H ae (nvs c.extra)
theorem Ctx.mono {H H' : Hp} {c : Dat} {l ad ae : Addr} {n : Ks526.Rational × Ks526.Rational} {k : Nat} (h : Ctx K H c l ad ae n k) (s : Same H H') : Ctx K H' c l ad ae n k := ⟨h.ci, h.la.mono s, h.g0, h.g1, h.kk, s.seq h.d, s.seq h.e⟩
theorem PayAt.pick {H : Hp} {l : Addr} {n : Ks526.Rational × Ks526.Rational} (h : PayAt H l n) {p : Nat} (hp : p ≤ 1) : ∃ (t : Addr) (xs : List V), H l = some (.tup xs) ∧ atI xs (p : Int) = some (.ref t) ∧ H t = some (rat (Ks526.forPlayer p n.1 n.2)) := by
  obtain ⟨t0, t1, a, b, d⟩ := h
  rcases Lv.player_cases hp with rfl | rfl
  · exact ⟨t0, _, a, atI_nat (j := 0) rfl, b⟩
  · exact ⟨t1, _, a, atI_nat (j := 1) rfl, d⟩
/-! ### continuation_value -/
abbrev psC : List Str := ["player", "later", "discounts", "extra"]
abbrev nC : List Str := ["player", "later", "discounts", "extra", "breakdown_numerator", "breakdown_denominator", "breakdown_payoff", "discount_numerator", "discount_denominator", "value", "broken_down", "continued"]
def spCont (K : PySem.W.Frag) : Sp := fun vs H Q _ => ∃ (c : Dat) (ps : List Nat) (pl : Nat) (l ad ae : Addr) (n : Ks526.Rational × Ks526.Rational) (k : Nat), vs = [nv pl, .ref l, .ref ad, .ref ae] ∧ pl ≤ 1 ∧ Ctx K H c l ad ae n k ∧
  ∀ p, H p = none → Q (.ref p) (upd H p (rat (Ks526.continuationValue (c.stg ps) n pl)))
theorem scCont : FnScope nC psC (defScope sCont) := ⟨rfl, rfl, rfl, by decide +kernel, rfl, by decide +kernel, by decide +kernel⟩
theorem small_mul {a b A B : Nat} (h1 : a ≤ A) (h2 : b ≤ B) : a * b ≤ A * B := Nat.mul_le_mul h1 h2
theorem ok_cont {f fL : Addr} {fd fdL : FuncData} (F : Fun K "continuation_value" "continuation_value" sCont f fd) (DL : Def K mg "lowest_terms" sLow ["numerator", "denominator"] fL fdL) (GL : FnOk P w K mg base CX0 2 fL fdL ["numerator", "denominator"] spLow) :
    FnOk P w K mg base CX0 3 f fd psC (spCont K) := by
  refine F.ok scCont (fun vs H Q E h => ?_) (fun cdv A outer s H vs Q E hr h => ?_)
  · obtain ⟨c, ps, pl, l, ad, ae, n, k, rfl, _⟩ := h
    rfl
  · obtain ⟨c, ps, pl, l, ad, ae, n, k, rfl, hp, B, z⟩ := h
    refine ⟨_, pss_cons (ps_set (i := 4) scCont.nd rfl (.inl rfl) (pe_ix ix_list (pv 3) pe_int (fun _ _ => rfl)))
      (pss_cons (ps_set (i := 5) scCont.nd rfl (.inl rfl) (pe_ix ix_list (pv 3) pe_int (fun _ _ => rfl)))
      (pss_cons (ps_set (i := 6) scCont.nd rfl (.inl rfl) (pe_ix ix_list (pv 3) (pe_op op_add pe_int (pv 0)) (fun _ _ => rfl)))
      (pss_cons (ps_set (i := 7) scCont.nd rfl (.inl rfl) (pe_ix ix_list (pv 2) (pe_op op_mul pe_int (pv 0)) (fun _ _ => rfl)))
      (pss_cons (ps_set (i := 8) scCont.nd rfl (.inl rfl) (pe_ix ix_list (pv 2) (pe_op op_add (pe_op op_mul pe_int (pv 0)) pe_int) (fun _ _ => rfl)))
      (pss_cons (ps_set (i := 9) scCont.nd rfl (.inl rfl) (pe_ix ix_tup (pv 1) (pv 0) (fun _ _ => rfl)))
      (pss_cons (ps_set (i := 10) scCont.nd rfl (.inl rfl) (pe_op op_mul (pe_op op_mul (pe_op op_mul (pv 4) (pv 6)) (pv 8)) (pe_ix ix_tup (pv 9) pe_int (fun _ _ => rfl))))
      (pss_cons (ps_set (i := 11) scCont.nd rfl (.inl rfl) (pe_op op_mul (pe_op op_mul (pe_op op_sub (pv 5) (pv 4)) (pv 7)) (pe_ix ix_tup (pv 9) pe_int (fun _ _ => rfl))))
      (pss_one (ps_ret (pe_call GL hr (by rfl) DL.g DL.F.kp DL.b .nil pass0 (pa_cons (pe_op op_add (pv 10) (pv 11)) (pa_cons (pe_op op_mul (pe_op op_mul (pv 5) (pv 8)) (pe_ix ix_tup (pv 9) pe_int (fun _ _ => rfl))) pa_nil)))))))))))), ?_⟩
    obtain ⟨t, xs, hl, hx, ht⟩ := B.la.pick hp
    have hv : Good k (Ks526.forPlayer pl n.1 n.2) := Lv.fp_good B.g0 B.g1
    rw [show n = (n.1, n.2) from rfl, Lv.cont_eq B.ci ps n.1 n.2 hv.ok] at z
    have pD := Lv.contD_pos B.ci pl hv.ok
    have sz := Lv.cont_size (p := pl) B.ci hv
    generalize Ks526.forPlayer pl n.1 n.2 = v at *
    have l1 := Lv.lim_dn B.ci pl
    have l2 := Lv.lim_b B.ci pl
    have l3 := B.ci.xa
    have l4 := B.ci.xb
    have l5 := B.ci.xc
    have m1 : c.xn * c.b pl ≤ 100 * 1000 := small_mul (by omega) l2
    have m2 : c.xn * c.b pl * c.dd pl ≤ 100 * 1000 * 100 := small_mul m1 (by omega)
    have m3 : (c.xd - c.xn) * c.dn pl ≤ 100 * 100 := small_mul (by omega) (by omega)
    have m4 : c.xd * c.dd pl ≤ 100 * 100 := small_mul (by omega) (by omega)
    have i2 : (c.xn : Int) * (c.b pl : Int) * (c.dd pl : Int) = ((c.xn * c.b pl * c.dd pl : Nat) : Int) := by
      rw [Int.natCast_mul, Int.natCast_mul]
    have i3 : ((c.xd : Int) - (c.xn : Int)) * (c.dn pl : Int) = (((c.xd - c.xn) * c.dn pl : Nat) : Int) := by
      rw [Int.natCast_mul, Int.natCast_sub l5]
    have i4 : (c.xd : Int) * (c.dd pl : Int) = ((c.xd * c.dd pl : Nat) : Int) := by
      rw [Int.natCast_mul]
    have i5 : (c.xd : Int) * (c.dd pl : Int) * (v.den : Int) = ((Lv.contD c pl v : Nat) : Int) := by
      unfold Lv.contD
      rw [Int.natCast_mul, Int.natCast_mul]
    have p2000 : 2 ^ (k + 24) ≤ 2 ^ 9000 := Lv.two_le (by have := B.kk; omega)
    refine ⟨_, rfl, ae, _, 0, _, rfl, rfl, B.e, at_nv (j := 0) rfl, ?_⟩
    refine ⟨_, rfl, ae, _, 1, _, rfl, rfl, B.e, at_nv (j := 1) rfl, ?_⟩
    refine ⟨_, rfl, _, rfl, _, _, rfl, rfl, ae, _, _, _, rfl, rfl, B.e, ex_at (by omega) (ex_b c hp), ?_⟩
    refine ⟨_, rfl, _, rfl, _, _, rfl, rfl, .inl ⟨by decide, by decide⟩, ad, _, _, _, rfl, rfl, B.d, ex_at (by omega) (di_n c hp), ?_⟩
    refine ⟨_, rfl, _, rfl, _, _, rfl, rfl, .inl ⟨by decide, by decide⟩, _, _, rfl, rfl, ad, _, _, _, rfl, rfl, B.d, ex_at (by omega) (di_d c hp), ?_⟩
    refine ⟨_, rfl, _, rfl, l, _, _, _, rfl, rfl, SqT.of hl, hx, ?_⟩
    refine ⟨_, rfl, _, rfl, _, _, rfl, rfl, .inl ⟨by omega, by omega⟩, _, rfl, _, _, rfl, rfl, .inr ⟨by omega, by omega⟩, _, rfl, t, _, 1, _, rfl, rfl, SqT.of ht, atI_nat (j := 1) rfl, _, _, rfl, rfl, .inl ⟨by rw [i2]; omega, by rw [i2]; omega⟩, ?_⟩
    refine ⟨_, rfl, _, rfl, _, _, rfl, rfl, _, rfl, _, _, rfl, rfl, .inl ⟨by omega, by omega⟩, _, rfl, t, _, 0, _, rfl, rfl, SqT.of ht, atI_nat (j := 0) rfl, _, _, rfl, rfl, .inl ⟨by rw [i3]; omega, by rw [i3]; omega⟩, ?_⟩
    refine ⟨_, rfl, _, rfl, _, _, rfl, rfl, _, rfl, _, rfl, _, _, rfl, rfl, .inl ⟨by omega, by omega⟩, _, rfl, t, _, 1, _, rfl, rfl, SqT.of ht, atI_nat (j := 1) rfl, _, _, rfl, rfl, .inl ⟨by rw [i4]; omega, by rw [i4]; omega⟩, ?_⟩
    refine ⟨Lv.contN c pl v, Lv.contD c pl v, ?_, pD, Nat.lt_of_lt_of_le sz.2.2 p2000, fun p hn => z p hn⟩
    show [V.int _, V.int _] = _
    rw [i5]
    rfl
end
end Pr

namespace Pr
open PySem PySem.Spec PyProof.Rows L2
open Lv (Ok Good Dat minus contN contD bits)
theorem Sz.of {k : Nat} {q : Ks526.Rational} (g : Good k q) : Sz k q := ⟨g.sn, g.sd⟩
theorem Sz.mono {k j : Nat} {q : Ks526.Rational} (g : Sz k q) (h : k ≤ j) : Sz j q := ⟨Nat.lt_of_lt_of_le g.n (Lv.two_le h), Nat.lt_of_lt_of_le g.d (Lv.two_le h)⟩
section
variable {P : Program} {w : World} {K : PySem.W.Frag} {mg : Str → Option Value} {base : Heap}
/-! ### does_leave -/
abbrev psL : List Str := ["responder", "later", "discounts", "extra"]
def spLeave (K : PySem.W.Frag) : Sp := fun vs H Q _ => ∃ (c : Dat) (ps : List Nat) (pl : Nat) (l ad ae : Addr) (n : Ks526.Rational × Ks526.Rational) (k : Nat), vs = [nv pl, .ref l, .ref ad, .ref ae] ∧ pl ≤ 1 ∧ Ctx K H c l ad ae n k ∧
  ∀ H', Same H H' → Q (.bl (Ks526.leaves (c.stg ps) n pl)) H'
theorem scLeave : FnScope psL psL (defScope sLeave) := ⟨rfl, rfl, rfl, by decide +kernel, rfl, by decide +kernel, by decide +kernel⟩
/-- the defs that a round needs -/
structure Defs (P : Program) (w : World) (K : PySem.W.Frag) (mg : Str → Option Value) (base : Heap) (fM fO fA fC : Addr) (dM dO dA dC : FuncData) : Prop where
  most : Def K mg "is_at_most" sMost ["left", "right"] fM dM
  out : Def K mg "outside_option" sOut ["player", "extra"] fO dO
  ab : Def K mg "abandoned_payoff" sAb ["player", "extra"] fA dA
  cont : Def K mg "continuation_value" sCont psC fC dC
  okC : FnOk P w K mg base CX0 3 fC dC psC (spCont K)
theorem ok_leave {f fM fO fA fC : Addr} {fd dM dO dA dC : FuncData} (F : Fun K "does_leave" "does_leave" sLeave f fd) (S : Defs P w K mg base fM fO fA fC dM dO dA dC) : FnOk P w K mg base CX0 4 f fd psL (spLeave K) := by
  have GM : FnOk P w K mg base CX0 1 fM dM ["left", "right"] spMost := ok_most S.most.F
  have GO : FnOk P w K mg base CX0 1 fO dO ["player", "extra"] (spOut K) := ok_out S.out.F
  have GC := S.okC
  refine F.ok scLeave (fun vs H Q E h => ?_) (fun cdv A outer s H vs Q E hr h => ?_)
  · obtain ⟨c, ps, pl, l, ad, ae, n, k, rfl, _⟩ := h
    rfl
  · obtain ⟨c, ps, pl, l, ad, ae, n, k, rfl, hp, B, z⟩ := h
    have hr1 : Room 1 _ := hr.mono (by decide)
    refine ⟨_, pss_one (ps_ret (pe_call GM hr1 (by rfl) S.most.g S.most.F.kp S.most.b .nil pass0
      (pa_cons (pe_call GC hr (by rfl) S.cont.g S.cont.F.kp S.cont.b .nil pass0 (pa_cons (pv 0) (pa_cons (pv 1) (pa_cons (pv 2) (pa_cons (pv 3) pa_nil)))))
      (pa_cons (pe_call GO hr1 (by rfl) S.out.g S.out.F.kp S.out.b .nil pass0 (pa_cons (pv 0) (pa_cons (pv 3) pa_nil))) pa_nil)))), ?_⟩
    refine ⟨_, rfl, _, rfl, _, rfl, _, rfl, c, ps, pl, l, ad, ae, n, k, rfl, hp, B, fun p1 h1 => ?_⟩
    refine ⟨_, rfl, _, rfl, c, pl, ae, rfl, hp, (same_upd h1).seq B.e, fun p2 h2 => ?_⟩
    have gc : Good (k + 24) (Ks526.continuationValue (c.stg ps) n pl) := Lv.cont_good B.ci ps B.g0 B.g1
    have go : Good (k + 24) (Ks526.Rational.ofNat (c.o pl)) := Lv.ofNat_good (Lv.lim_o B.ci pl) (by omega)
    have kk := B.kk
    exact ⟨p1, p2, _, _, k + 24, rfl, same_upd h2 _ _ upd_same, upd_same, by omega, by omega, .of gc, .of go, z _ ((same_upd h1).trans (same_upd h2))⟩
/-! ### responder_payoff, rejection_payoff -/
def spResp (K : PySem.W.Frag) : Sp := fun vs H Q _ => ∃ (c : Dat) (ps : List Nat) (pl : Nat) (l ad ae : Addr) (n : Ks526.Rational × Ks526.Rational) (k : Nat), vs = [nv pl, .ref l, .ref ad, .ref ae] ∧ pl ≤ 1 ∧ Ctx K H c l ad ae n k ∧
  ∀ H' p, Same H H' → H' p = some (rat (Ks526.reservationOf (c.stg ps) n pl)) → Q (.ref p) H'
theorem scResp : FnScope psL psL (defScope sResp) := ⟨rfl, rfl, rfl, by decide +kernel, rfl, by decide +kernel, by decide +kernel⟩
theorem ok_resp {f fL fM fO fA fC : Addr} {fd dL dM dO dA dC : FuncData} (F : Fun K "responder_payoff" "responder_payoff" sResp f fd) (S : Defs P w K mg base fM fO fA fC dM dO dA dC) (DL : Def K mg "does_leave" sLeave psL fL dL) : FnOk P w K mg base CX0 5 f fd psL (spResp K) := by
  have GO : FnOk P w K mg base CX0 1 fO dO ["player", "extra"] (spOut K) := ok_out S.out.F
  have GC := S.okC
  have GL : FnOk P w K mg base CX0 4 fL dL psL (spLeave K) := ok_leave DL.F S
  refine F.ok scResp (fun vs H Q E h => ?_) (fun cdv A outer s H vs Q E hr h => ?_)
  · obtain ⟨c, ps, pl, l, ad, ae, n, k, rfl, _⟩ := h
    rfl
  · obtain ⟨c, ps, pl, l, ad, ae, n, k, rfl, hp, B, z⟩ := h
    have hr1 : Room 1 _ := hr.mono (by decide)
    have hr3 : Room 3 _ := hr.mono (by decide)
    refine ⟨_, pss_cons (ps_if (pt_val (pe_call GL hr (by rfl) DL.g DL.F.kp DL.b .nil pass0 (pa_cons (pv 0) (pa_cons (pv 1) (pa_cons (pv 2) (pa_cons (pv 3) pa_nil))))))
        (pss_one (ps_ret (pe_call GO hr1 (by rfl) S.out.g S.out.F.kp S.out.b .nil pass0 (pa_cons (pv 0) (pa_cons (pv 3) pa_nil))))) pss_nil)
      (pss_one (ps_ret (pe_call GC hr3 (by rfl) S.cont.g S.cont.F.kp S.cont.b .nil pass0 (pa_cons (pv 0) (pa_cons (pv 1) (pa_cons (pv 2) (pa_cons (pv 3) pa_nil))))))), ?_⟩
    have er := Lv.res_eq (p := pl) B.ci ps B.g0 B.g1
    refine ⟨_, rfl, _, rfl, _, rfl, _, rfl, c, ps, pl, l, ad, ae, n, k, rfl, hp, B, fun H1 s1 => ⟨_, rfl, ite2 (fun e => ?_) (fun e => ?_)⟩⟩
    · refine ⟨_, rfl, _, rfl, c, pl, ae, rfl, hp, s1.seq B.e, fun p h1 => z _ p (s1.trans (same_upd h1)) ?_⟩
      rw [upd_same]
      rw [if_pos e] at er
      exact congrArg (fun q => some (rat q)) er.symm
    · refine ⟨_, rfl, _, rfl, _, rfl, _, rfl, c, ps, pl, l, ad, ae, n, k, rfl, hp, B.mono s1, fun p h1 => z _ p (s1.trans (same_upd h1)) ?_⟩
      rw [upd_same]
      rw [if_neg e] at er
      exact congrArg (fun q => some (rat q)) er.symm
abbrev psJ : List Str := ["proposer", "later", "discounts", "extra"]
def spRej (K : PySem.W.Frag) : Sp := fun vs H Q _ => ∃ (c : Dat) (ps : List Nat) (pl : Nat) (l ad ae : Addr) (n : Ks526.Rational × Ks526.Rational) (k : Nat), vs = [nv pl, .ref l, .ref ad, .ref ae] ∧ pl ≤ 1 ∧ Ctx K H c l ad ae n k ∧
  ∀ H' p, Same H H' → H' p = some (rat (Ks526.rejectionPayoff (c.stg ps) n pl)) → Q (.ref p) H'
theorem scRej : FnScope psJ psJ (defScope sRej) := ⟨rfl, rfl, rfl, by decide +kernel, rfl, by decide +kernel, by decide +kernel⟩
theorem other_eq {pl : Nat} (h : pl ≤ 1) : (1 : Int) - (pl : Int) = ((1 - pl : Nat) : Int) := by omega
theorem ok_rej {f fL fM fO fA fC : Addr} {fd dL dM dO dA dC : FuncData} (F : Fun K "rejection_payoff" "rejection_payoff" sRej f fd) (S : Defs P w K mg base fM fO fA fC dM dO dA dC) (DL : Def K mg "does_leave" sLeave psL fL dL) : FnOk P w K mg base CX0 5 f fd psJ (spRej K) := by
  have GA : FnOk P w K mg base CX0 1 fA dA ["player", "extra"] (spAb K) := ok_ab S.ab.F
  have GC := S.okC
  have GL : FnOk P w K mg base CX0 4 fL dL psL (spLeave K) := ok_leave DL.F S
  refine F.ok scRej (fun vs H Q E h => ?_) (fun cdv A outer s H vs Q E hr h => ?_)
  · obtain ⟨c, ps, pl, l, ad, ae, n, k, rfl, _⟩ := h
    rfl
  · obtain ⟨c, ps, pl, l, ad, ae, n, k, rfl, hp, B, z⟩ := h
    have hr1 : Room 1 _ := hr.mono (by decide)
    have hr3 : Room 3 _ := hr.mono (by decide)
    refine ⟨_, pss_cons (ps_if (pt_val (pe_call GL hr (by rfl) DL.g DL.F.kp DL.b .nil pass0 (pa_cons (pe_op op_sub pe_int (pv 0)) (pa_cons (pv 1) (pa_cons (pv 2) (pa_cons (pv 3) pa_nil))))))
        (pss_one (ps_ret (pe_call GA hr1 (by rfl) S.ab.g S.ab.F.kp S.ab.b .nil pass0 (pa_cons (pv 0) (pa_cons (pv 3) pa_nil))))) pss_nil)
      (pss_one (ps_ret (pe_call GC hr3 (by rfl) S.cont.g S.cont.F.kp S.cont.b .nil pass0 (pa_cons (pv 0) (pa_cons (pv 1) (pa_cons (pv 2) (pa_cons (pv 3) pa_nil))))))), ?_⟩
    refine ⟨_, rfl, _, _, rfl, rfl, _, rfl, _, rfl, _, rfl, c, ps, 1 - pl, l, ad, ae, n, k, ?_, by omega, B, fun H1 s1 => ⟨_, rfl, ite2 (fun e => ?_) (fun e => ?_)⟩⟩
    · show [V.int _, _, _, _] = _
      rw [other_eq hp]
    · refine ⟨_, rfl, _, rfl, c, pl, ae, rfl, hp, s1.seq B.e, fun p h1 => z _ p (s1.trans (same_upd h1)) ?_⟩
      rw [upd_same]
      unfold Ks526.rejectionPayoff Ks526.otherPlayer
      rw [if_pos e]
      rfl
    · refine ⟨_, rfl, _, rfl, _, rfl, _, rfl, c, ps, pl, l, ad, ae, n, k, rfl, hp, B.mono s1, fun p h1 => z _ p (s1.trans (same_upd h1)) ?_⟩
      rw [upd_same]
      unfold Ks526.rejectionPayoff Ks526.otherPlayer
      rw [if_neg e]
/-! ### agreement_payoff, is_agreement, proposer_payoff -/
abbrev psR : List Str := ["amount", "proposer", "later", "discounts", "extra"]
def spAgr (K : PySem.W.Frag) : Sp := fun vs H Q _ => ∃ (c : Dat) (ps : List Nat) (pl : Nat) (l ad ae : Addr) (n : Ks526.Rational × Ks526.Rational) (k : Nat), vs = [nv c.amount, nv pl, .ref l, .ref ad, .ref ae] ∧ pl ≤ 1 ∧ Ctx K H c l ad ae n k ∧
  ∀ H' p, Same H H' → H' p = some (rat (minus c.amount (Ks526.reservationOf (c.stg ps) n (1 - pl)))) → Q (.ref p) H'
theorem scAgr : FnScope psR psR (defScope sAgr) := ⟨rfl, rfl, rfl, by decide +kernel, rfl, by decide +kernel, by decide +kernel⟩
theorem ok_agr {f fR fW : Addr} {fd dR dW : FuncData} (F : Fun K "agreement_payoff" "agreement_payoff" sAgr f fd) (DR : Def K mg "responder_payoff" sResp psL fR dR) (GR : FnOk P w K mg base CX0 5 fR dR psL (spResp K)) (DW : Def K mg "whole_minus" sMinus ["whole", "value"] fW dW) : FnOk P w K mg base CX0 6 f fd psR (spAgr K) := by
  have GW : FnOk P w K mg base CX0 1 fW dW ["whole", "value"] spMinus := ok_minus DW.F
  refine F.ok scAgr (fun vs H Q E h => ?_) (fun cdv A outer s H vs Q E hr h => ?_)
  · obtain ⟨c, ps, pl, l, ad, ae, n, k, rfl, _⟩ := h
    rfl
  · obtain ⟨c, ps, pl, l, ad, ae, n, k, rfl, hp, B, z⟩ := h
    have hr1 : Room 1 _ := hr.mono (by decide)
    refine ⟨_, pss_one (ps_ret (pe_call GW hr1 (by rfl) DW.g DW.F.kp DW.b .nil pass0 (pa_cons (pv 0) (pa_cons (pe_call GR hr (by rfl) DR.g DR.F.kp DR.b .nil pass0 (pa_cons (pe_op op_sub pe_int (pv 1)) (pa_cons (pv 2) (pa_cons (pv 3) (pa_cons (pv 4) pa_nil))))) pa_nil)))), ?_⟩
    refine ⟨_, rfl, _, rfl, _, _, rfl, rfl, _, rfl, _, rfl, _, rfl, c, ps, 1 - pl, l, ad, ae, n, k, ?_, by omega, B, fun H1 r s1 h1 => ?_⟩
    · show [V.int _, _, _, _] = _
      rw [other_eq hp]
    exact ⟨c.amount, r, _, rfl, h1, B.ci.am2, fun a ha => z _ a (s1.trans (same_upd ha)) upd_same⟩
/-- whether a round ends with an agreement -/
def agrees (c : Dat) (ps : List Nat) (n : Ks526.Rational × Ks526.Rational) (p : Nat) : Bool := Ks526.Rational.le (Ks526.rejectionPayoff (c.stg ps) n p) (minus c.amount (Ks526.reservationOf (c.stg ps) n (1 - p)))
def spIs (K : PySem.W.Frag) : Sp := fun vs H Q _ => ∃ (c : Dat) (ps : List Nat) (pl : Nat) (l ad ae : Addr) (n : Ks526.Rational × Ks526.Rational) (k : Nat), vs = [nv c.amount, nv pl, .ref l, .ref ad, .ref ae] ∧ pl ≤ 1 ∧ Ctx K H c l ad ae n k ∧
  ∀ H', Same H H' → Q (.bl (agrees c ps n pl)) H'
theorem scIs : FnScope psR psR (defScope sIs) := ⟨rfl, rfl, rfl, by decide +kernel, rfl, by decide +kernel, by decide +kernel⟩
theorem ok_is {f fM fJ fA : Addr} {fd dM dJ dA : FuncData} (F : Fun K "is_agreement" "is_agreement" sIs f fd) (DM : Def K mg "is_at_most" sMost ["left", "right"] fM dM) (DJ : Def K mg "rejection_payoff" sRej psJ fJ dJ) (GJ : FnOk P w K mg base CX0 5 fJ dJ psJ (spRej K))
    (DA : Def K mg "agreement_payoff" sAgr psR fA dA) (GA : FnOk P w K mg base CX0 6 fA dA psR (spAgr K)) : FnOk P w K mg base CX0 7 f fd psR (spIs K) := by
  have GM : FnOk P w K mg base CX0 1 fM dM ["left", "right"] spMost := ok_most DM.F
  refine F.ok scIs (fun vs H Q E h => ?_) (fun cdv A outer s H vs Q E hr h => ?_)
  · obtain ⟨c, ps, pl, l, ad, ae, n, k, rfl, _⟩ := h
    rfl
  · obtain ⟨c, ps, pl, l, ad, ae, n, k, rfl, hp, B, z⟩ := h
    have hr1 : Room 1 _ := hr.mono (by decide)
    have hr5 : Room 5 _ := hr.mono (by decide)
    refine ⟨_, pss_one (ps_ret (pe_call GM hr1 (by rfl) DM.g DM.F.kp DM.b .nil pass0
      (pa_cons (pe_call GJ hr5 (by rfl) DJ.g DJ.F.kp DJ.b .nil pass0 (pa_cons (pv 1) (pa_cons (pv 2) (pa_cons (pv 3) (pa_cons (pv 4) pa_nil)))))
      (pa_cons (pe_call GA hr (by rfl) DA.g DA.F.kp DA.b .nil pass0 (pa_cons (pv 0) (pa_cons (pv 1) (pa_cons (pv 2) (pa_cons (pv 3) (pa_cons (pv 4) pa_nil)))))) pa_nil)))), ?_⟩
    have kk := B.kk
    have g1 := Lv.res_good (p := 1 - pl) B.ci ps B.g0 B.g1
    have g2 := Lv.rej_good (p := pl) B.ci ps B.g0 B.g1
    have g3 := Lv.minus_size B.ci.am2 g1
    refine ⟨_, rfl, _, rfl, _, rfl, _, rfl, c, ps, pl, l, ad, ae, n, k, rfl, hp, B, fun H1 j s1 hj => ?_⟩
    refine ⟨_, rfl, _, rfl, _, rfl, _, rfl, _, rfl, c, ps, pl, l, ad, ae, n, k, rfl, hp, B.mono s1, fun H2 a s2 ha => ?_⟩
    exact ⟨j, a, _, _, k + 34, rfl, s2 _ _ hj, ha, by omega, by omega, (Sz.of g2).mono (by omega), ⟨g3.1, g3.2⟩, z _ (s1.trans s2)⟩
def spOwn (K : PySem.W.Frag) : Sp := fun vs H Q _ => ∃ (c : Dat) (ps : List Nat) (pl : Nat) (l ad ae : Addr) (n : Ks526.Rational × Ks526.Rational) (k : Nat), vs = [nv c.amount, nv pl, .ref l, .ref ad, .ref ae] ∧ pl ≤ 1 ∧ Ctx K H c l ad ae n k ∧
  ∀ H' p, Same H H' → H' p = some (rat (Lv.ownOf c ps n pl)) → Q (.ref p) H'
theorem scOwn : FnScope psR psR (defScope sOwn) := ⟨rfl, rfl, rfl, by decide +kernel, rfl, by decide +kernel, by decide +kernel⟩
theorem ok_own {f fI fJ fA : Addr} {fd dI dJ dA : FuncData} (F : Fun K "proposer_payoff" "proposer_payoff" sOwn f fd) (DI : Def K mg "is_agreement" sIs psR fI dI) (GI : FnOk P w K mg base CX0 7 fI dI psR (spIs K)) (DJ : Def K mg "rejection_payoff" sRej psJ fJ dJ) (GJ : FnOk P w K mg base CX0 5 fJ dJ psJ (spRej K))
    (DA : Def K mg "agreement_payoff" sAgr psR fA dA) (GA : FnOk P w K mg base CX0 6 fA dA psR (spAgr K)) : FnOk P w K mg base CX0 8 f fd psR (spOwn K) := by
  refine F.ok scOwn (fun vs H Q E h => ?_) (fun cdv A outer s H vs Q E hr h => ?_)
  · obtain ⟨c, ps, pl, l, ad, ae, n, k, rfl, _⟩ := h
    rfl
  · obtain ⟨c, ps, pl, l, ad, ae, n, k, rfl, hp, B, z⟩ := h
    have hr5 : Room 5 _ := hr.mono (by decide)
    have hr6 : Room 6 _ := hr.mono (by decide)
    refine ⟨_, pss_cons (ps_if (pt_val (pe_call GI hr (by rfl) DI.g DI.F.kp DI.b .nil pass0 (pa_cons (pv 0) (pa_cons (pv 1) (pa_cons (pv 2) (pa_cons (pv 3) (pa_cons (pv 4) pa_nil)))))))
        (pss_one (ps_ret (pe_call GA hr6 (by rfl) DA.g DA.F.kp DA.b .nil pass0 (pa_cons (pv 0) (pa_cons (pv 1) (pa_cons (pv 2) (pa_cons (pv 3) (pa_cons (pv 4) pa_nil)))))))) pss_nil)
      (pss_one (ps_ret (pe_call GJ hr5 (by rfl) DJ.g DJ.F.kp DJ.b .nil pass0 (pa_cons (pv 1) (pa_cons (pv 2) (pa_cons (pv 3) (pa_cons (pv 4) pa_nil))))))), ?_⟩
    refine ⟨_, rfl, _, rfl, _, rfl, _, rfl, _, rfl, c, ps, pl, l, ad, ae, n, k, rfl, hp, B, fun H1 s1 => ⟨_, rfl, ite2 (fun e => ?_) (fun e => ?_)⟩⟩
    · refine ⟨_, rfl, _, rfl, _, rfl, _, rfl, _, rfl, c, ps, pl, l, ad, ae, n, k, rfl, hp, B.mono s1, fun H2 p s2 h2 => z _ p (s1.trans s2) ?_⟩
      unfold agrees at e
      unfold Lv.ownOf
      rw [if_pos e]
      exact h2
    · refine ⟨_, rfl, _, rfl, _, rfl, _, rfl, c, ps, pl, l, ad, ae, n, k, rfl, hp, B.mono s1, fun H2 p s2 h2 => z _ p (s1.trans s2) ?_⟩
      unfold agrees at e
      unfold Lv.ownOf
      rw [if_neg e]
      exact h2
/-! ### round_payoffs -/
abbrev nR : List Str := ["amount", "proposer", "later", "discounts", "extra", "gained", "reservation"]
def spRound (K : PySem.W.Frag) : Sp := fun vs H Q _ => ∃ (c : Dat) (ps : List Nat) (pl : Nat) (l ad ae : Addr) (n : Ks526.Rational × Ks526.Rational) (k : Nat), vs = [nv c.amount, nv pl, .ref l, .ref ad, .ref ae] ∧ pl ≤ 1 ∧ Ctx K H c l ad ae n k ∧
  ∀ H' p, Same H H' → PayAt H' p (Lv.roundOf c ps n pl) → Q (.ref p) H'
theorem scRound : FnScope nR psR (defScope sRound) := ⟨rfl, rfl, rfl, by decide +kernel, rfl, by decide +kernel, by decide +kernel⟩
theorem ok_round {f fP fR : Addr} {fd dP dR : FuncData} (F : Fun K "round_payoffs" "round_payoffs" sRound f fd) (DP : Def K mg "proposer_payoff" sOwn psR fP dP) (GP : FnOk P w K mg base CX0 8 fP dP psR (spOwn K))
    (DR : Def K mg "responder_payoff" sResp psL fR dR) (GR : FnOk P w K mg base CX0 5 fR dR psL (spResp K)) : FnOk P w K mg base CX0 9 f fd psR (spRound K) := by
  refine F.ok scRound (fun vs H Q E h => ?_) (fun cdv A outer s H vs Q E hr h => ?_)
  · obtain ⟨c, ps, pl, l, ad, ae, n, k, rfl, _⟩ := h
    rfl
  · obtain ⟨c, ps, pl, l, ad, ae, n, k, rfl, hp, B, z⟩ := h
    have hr5 : Room 5 _ := hr.mono (by decide)
    refine ⟨_, pss_cons (ps_set (i := 5) scRound.nd rfl (.inl rfl) (pe_call GP hr (by rfl) DP.g DP.F.kp DP.b .nil pass0 (pa_cons (pv 0) (pa_cons (pv 1) (pa_cons (pv 2) (pa_cons (pv 3) (pa_cons (pv 4) pa_nil)))))))
      (pss_cons (ps_set (i := 6) scRound.nd rfl (.inl rfl) (pe_call GR hr5 (by rfl) DR.g DR.F.kp DR.b .nil pass0 (pa_cons (pe_op op_sub pe_int (pv 1)) (pa_cons (pv 2) (pa_cons (pv 3) (pa_cons (pv 4) pa_nil))))))
      (pss_cons (ps_if (pt_cmpR op_eq (pv 1) pe_int (nomark _)) (pss_one (ps_ret (pe_tup (pa_cons (pv 5) (pa_cons (pv 6) pa_nil))))) pss_nil)
      (pss_one (ps_ret (pe_tup (pa_cons (pv 6) (pa_cons (pv 5) pa_nil))))))), ?_⟩
    -- gained
    refine ⟨_, rfl, _, rfl, _, rfl, _, rfl, _, rfl, c, ps, pl, l, ad, ae, n, k, rfl, hp, B, fun H1 g s1 hg1 => ?_⟩
    -- reservation
    refine ⟨_, rfl, _, _, rfl, rfl, _, rfl, _, rfl, _, rfl, c, ps, 1 - pl, l, ad, ae, n, k, ?_, by omega, B.mono s1, fun H3 r s3 hr3 => ?_⟩
    · show [V.int _, _, _, _] = _
      rw [other_eq hp]
    have hg := s3 _ _ hg1
    have sAll := s1.trans s3
    have e0 : Lv.roundOf c ps n pl = if pl = 0 then (Lv.ownOf c ps n pl, Ks526.reservationOf (c.stg ps) n (1 - pl)) else (Ks526.reservationOf (c.stg ps) n (1 - pl), Lv.ownOf c ps n pl) := rfl
    refine ⟨_, rfl, rfl, _, rfl, ite2 (fun e => ?_) (fun e => ?_)⟩
    · have : pl = 0 := by
        have := V.int.inj (of_decide_eq_true e)
        omega
      rw [if_pos this] at e0
      refine ⟨_, rfl, _, rfl, (by show 2 ≤ sizeLine; decide), fun p hpn => z _ p (sAll.trans (same_upd hpn)) ⟨g, r, upd_same, ?_, ?_⟩⟩
      · rw [e0]
        exact same_upd hpn _ _ hg
      · rw [e0]
        exact same_upd hpn _ _ hr3
    · have : ¬ pl = 0 := fun h0 => by
        refine e (decide_eq_true ?_)
        rw [h0]
        rfl
      rw [if_neg this] at e0
      refine ⟨_, rfl, _, rfl, (by show 2 ≤ sizeLine; decide), fun p hpn => z _ p (sAll.trans (same_upd hpn)) ⟨r, g, upd_same, ?_, ?_⟩⟩
      · rw [e0]
        exact same_upd hpn _ _ hr3
      · rw [e0]
        exact same_upd hpn _ _ hg
end
end Pr

namespace Pr
open PySem PySem.Spec PyProof.Rows L2
open Lv (Ok Good Dat minus contN contD bits)
section
variable {P : Program} {w : World} {K : PySem.W.Frag} {mg : Str → Option Value} {base : Heap}
/-! ### payoffs_from -/
theorem drop_cons {l : List Nat} {j x : Nat} (h : l[j]? = some x) : l.drop j = x :: l.drop (j + 1) := by
  obtain ⟨h1, h2⟩ := List.getElem?_eq_some_iff.mp h
  rw [List.drop_eq_getElem_cons h1, h2]
abbrev psF : List Str := ["amount", "the_round", "proposers", "discounts", "final", "extra"]
abbrev nF : List Str := ["amount", "the_round", "proposers", "discounts", "final", "extra", "payoffs", "proposer"]
def spFrom (K : PySem.W.Frag) : Sp := fun vs H Q _ => ∃ (c : Dat) (rnd : Nat) (ps : List Nat) (ap ad af ae : Addr), vs = [nv c.amount, nv rnd, .ref ap, .ref ad, .ref af, .ref ae] ∧ c.In ∧ ps.length ≤ 12 ∧ (∀ p ∈ ps, p ≤ 1) ∧
  SqL K H ap (nvs ps) ∧ SqL K H ad (nvs c.disc) ∧ SqL K H af (nvs c.fin) ∧ SqL K H ae (nvs c.extra) ∧ ∀ H' p, Same H H' → PayAt H' p (Ks526.payoffsFrom (c.stg ps) (ps.drop rnd)) → Q (.ref p) H'
theorem scFrom : FnScope nF psF (defScope sFrom) := ⟨rfl, rfl, rfl, by decide +kernel, rfl, by decide +kernel, by decide +kernel⟩
theorem ok_from {f fR : Addr} {fd dR : FuncData} (F : Fun K "payoffs_from" "payoffs_from" sFrom f fd) (DR : Def K mg "round_payoffs" sRound psR fR dR) (GR : FnOk P w K mg base CX0 9 fR dR psR (spRound K)) (mRev : mg "reversed" = none) : FnOk P w K mg base CX0 10 f fd psF (spFrom K) := by
  refine F.ok scFrom (fun vs H Q E h => ?_) (fun cdv A outer s H vs Q E hr h => ?_)
  · obtain ⟨c, rnd, ps, ap, ad, af, ae, rfl, _⟩ := h
    rfl
  · obtain ⟨c, rnd, ps, ap, ad, af, ae, rfl, ci, lp, p1, hP, hD, hF, hE, z⟩ := h
    refine ⟨_, pss_cons (ps_set (i := 6) scFrom.nd rfl (.inl rfl) (pe_tup (pa_cons (pe_tup (pa_cons (pe_ix ix_list (pv 4) pe_int (fun _ _ => rfl)) (pa_cons pe_int pa_nil))) (pa_cons (pe_tup (pa_cons (pe_ix ix_list (pv 4) pe_int (fun _ _ => rfl)) (pa_cons pe_int pa_nil))) pa_nil))))
      (pss_cons (ps_for PassesOwn.never rfl (pi_reversed (by rfl) mRev (pa_cons (pe_slice sl_list (pv 2) (po_some (pv 1)) po_none) pa_nil)) (pg_name (i := 7) scFrom.nd rfl (.inl rfl))
        (pss_one (ps_set (i := 6) scFrom.nd rfl (.inl rfl) (pe_call GR hr (by rfl) DR.g DR.F.kp DR.b .nil pass0 (pa_cons (pv 0) (pa_cons (pv 7) (pa_cons (pv 6) (pa_cons (pv 3) (pa_cons (pv 5) pa_nil)))))))))
      (pss_one (ps_ret (pv 6)))), ?_⟩
    -- payoffs
    refine ⟨_, rfl, af, _, 0, _, rfl, rfl, hF, at_nv (j := 0) rfl, (by show 2 ≤ sizeLine; decide), fun t0 h0 => ?_⟩
    have s0 : Same H (upd H t0 (rat (Ks526.Rational.ofNat c.f0))) := same_upd h0
    refine ⟨_, rfl, af, _, 1, _, rfl, rfl, s0.seq hF, at_nv (j := 1) rfl, (by show 2 ≤ sizeLine; decide), fun t1 h1 => ⟨(by show 2 ≤ sizeLine; decide), fun q0 hq0 => ?_⟩⟩
    have s1 := same_upd (o := rat (Ks526.Rational.ofNat c.f1)) h1
    have s2 := same_upd (o := .tup [.ref t0, .ref t1]) hq0
    have e0 : PayAt _ q0 (Ks526.payoffsFrom (c.stg ps) []) := ⟨t0, t1, upd_same, s2 _ _ (s1 _ _ upd_same), s2 _ _ upd_same⟩
    have sH := (s0.trans s1).trans s2
    -- reversed(proposers[the_round:])
    refine ⟨_, rfl, _, rfl, rnd, rfl, ap, _, rfl, sH.seq hP, fun q hq => ?_⟩
    rw [cut_from (nvs ps) rnd, ← List.map_drop]
    have hl12 : (ps.drop rnd).length ≤ 12 := by
      rw [List.length_drop]
      omega
    have pl1 : ∀ p ∈ ps.drop rnd, p ≤ 1 := fun p hp => p1 p (List.mem_of_mem_drop hp)
    have s3 := same_upd (o := .lst (nvs (ps.drop rnd))) hq
    generalize ps.drop rnd = l at *
    refine ⟨q, _, rfl, SqL.of upd_same, RT.for_Itv (K := K) (a := q) (xs := nvs l) (fun i σ H' => Same H H' ∧ H' q = some (.lst (nvs l)) ∧ ∃ (a : Addr) (r : Option V), σ = [some (nv c.amount), some (nv rnd), some (.ref ap), some (.ref ad), some (.ref af), some (.ref ae), some (.ref a), r] ∧ PayAt H' a (Ks526.payoffsFrom (c.stg ps) (l.drop (l.length - i))))
      ⟨sH.trans s3, upd_same, q0, none, rfl, ?_⟩ (fun i σ H' hi => SqL.of hi.2.1) ?_ ?_⟩
    · rw [Nat.sub_zero, List.drop_length]
      exact e0.mono s3
    · rintro i x σ H' hi hx ⟨sm, eq, a, r, rfl, pa⟩
      obtain ⟨p, hp, rfl⟩ := nvs_at hx
      rw [List.length_map] at hi hp
      have hp1 : p ≤ 1 := pl1 p (List.mem_of_getElem? hp)
      have hb := Lv.from_both ci ps (l.drop (l.length - i))
      refine ⟨_, rfl, _, rfl, _, rfl, _, rfl, _, rfl, c, ps, p, a, ad, ae, _, _, rfl, hp1, ⟨ci, pa, hb.1, hb.2, ?_, sm.seq hD, sm.seq hE⟩, fun H2 a2 s4 pa2 => ?_⟩
      · unfold Lv.bits
        rw [List.length_drop]
        omega
      · refine ⟨sm.trans s4, s4 _ _ eq, a2, _, rfl, ?_⟩
        have ed : l.drop (l.length - (i + 1)) = p :: l.drop (l.length - i) := by
          have := drop_cons hp
          rw [show l.length - 1 - i + 1 = l.length - i by omega] at this
          rw [← this]
          congr 1
          omega
        rw [ed, Lv.from_cons ci]
        exact pa2
    · rintro σ H' ⟨sm, eq, a, r, rfl, pa⟩
      rw [List.length_map, Nat.sub_self, List.drop_zero] at pa
      exact ⟨_, rfl, z H' a sm pa⟩
end
end Pr

namespace Pr
open PySem PySem.Spec PyProof.Rows L2
open Lv (Ok Good Dat minus contN contD bits)
/-! ### what is due -/
theorem ok_code {amount rnd pl : Nat} {ps ds fs es : List Nat} (h : refCode amount rnd pl ps ds fs es = 0) :
    rnd < ps.length ∧ pl ≤ 1 ∧ ∃ c : Dat, c.In ∧ amount = c.amount ∧ ds = c.disc ∧ fs = c.fin ∧ es = c.extra ∧ 1 ≤ ps.length ∧ ps.length ≤ 12 ∧ (∀ p ∈ ps, p ≤ 1) ∧ Ks526.parseSetting amount ps ds fs es = some (c.stg ps) := by
  unfold refCode at h
  cases hv : Lv.valid amount ps ds fs es with
  | false =>
    rw [hv, if_neg Bool.false_ne_true] at h
    exact absurd h (by decide)
  | true =>
    rw [hv, if_pos rfl] at h
    by_cases hn : rnd < ps.length ∧ pl ≤ 1
    · exact ⟨hn.1, hn.2, Lv.parse_some hv⟩
    · rw [if_neg hn] at h
      exact absurd h (by decide)
/-- a call without a player that is refused -/
theorem due_bad {amount rnd : Nat} {ps ds fs es : List Nat} (compute : Ks526.Setting → Ks526.Result) (h : refCode amount rnd 0 ps ds fs es ≠ 0) :
    Ks526Neutral.integers (Ks526.withRound amount rnd ps ds fs es compute) = [refCode amount rnd 0 ps ds fs es] := by
  unfold refCode at *
  unfold Ks526.withRound
  cases hv : Lv.valid amount ps ds fs es with
  | false =>
    rw [Lv.parse_none hv]
    rfl
  | true =>
    rw [hv, if_pos rfl] at h
    rw [if_pos rfl]
    obtain ⟨c, ci, rfl, rfl, rfl, rfl, _, _, _, e⟩ := Lv.parse_some hv
    rw [e]
    have hn : ¬ (rnd < ps.length ∧ 0 ≤ 1) := fun z => h (if_pos z)
    rw [if_neg hn]
    dsimp only
    rw [if_pos (show (c.stg ps).negotiation.proposers.length ≤ rnd from by
      show ps.length ≤ rnd
      omega)]
    rfl
/-- .. and one that is answered -/
theorem due_ok {rnd : Nat} {ps ds fs es : List Nat} {c : Dat} (compute : Ks526.Setting → Ks526.Result) (h1 : rnd < ps.length) (e : Ks526.parseSetting c.amount ps ds fs es = some (c.stg ps)) :
    Ks526.withRound c.amount rnd ps ds fs es compute = compute (c.stg ps) := by
  unfold Ks526.withRound
  rw [e]
  dsimp only
  rw [if_neg (show ¬ (c.stg ps).negotiation.proposers.length ≤ rnd from fun z => by
    have z' : ps.length ≤ rnd := z
    omega)]
theorem code_zero {n : Int} (e : ¬ (!decide (V.int n = V.int 0)) = true) : n = 0 := by
  by_cases h0 : n = 0
  · exact h0
  · refine absurd ?_ e
    have : ¬ (V.int n = V.int 0) := fun z' => h0 (V.int.inj z')
    simp [this]

/-! ### answer_with -/
/-- xs.extend(t) of a tuple t -/
def rExtT : V → List V → Hp → VK → Prop := fun x vs H Q => ∃ l b xs zs, x = .ref l ∧ vs = [.ref b] ∧ H l = some (.lst xs) ∧ H b = some (.tup zs) ∧ xs.length + zs.length ≤ sizeLine ∧ Q .non (upd H l (.lst (xs ++ zs)))
theorem ext_tup (l : Addr) (us : Array Value) (n : Nat) (b : Addr) (ws : Array Value) (m : Nat) (od : Option Addr) (sl : Array (Option Value)) (k0 : ¬(!us.isEmpty && Builtin.List.listTooLong (us.size + ws.size)) = true) (k1 : us.size ≤ sizeLine) (k2 : us.size + ws.size ≤ sizeLine + 1) :
    Meets (Builtin.«list.extend» ⟨[.ref l, .ref b], []⟩) (fun _ R s => s.heap.get? l = some { cls := .type "list", dict := none, data := .seq us n, slots := #[] } ∧ s.heap.get? b = some { cls := .type "tuple", dict := od, data := .seq ws m, slots := sl } ∧ R (.ok (.ret Value.none)) { s with heap := s.heap.update l (Obj.mapSeq fun x => x ++ ws), toks := s.toks }) :=
  .of_wp fun prog w A R s h => by
    obtain ⟨hp, g, d, tk, os⟩ := s
    obtain ⟨gl, gb, gR⟩ := h
    have f2 := AutoSeq1.sub_tuple_tuple
    have f3 := AutoSeq1.sub_list_list
    have f4 := AutoSeq1.sub_tuple_list
    have f5 := AutoSeq1.sub_list_tuple
    have k3 : (us ++ ws).size ≤ sizeLine + 1 := by rw [Array.size_append]; exact k2
    wp_walk using (wpAny_updateSeq gl rfl (hz := k1) (_hz' := k3)), AutoSeq1.wpAny_loadPart' gl, AutoSeq1.wpAny_loadPart' gb
    exact ⟨_, rfl, gR⟩
theorem mt_extT {X : Cx} : MtM X "list.extend" rExtT := by
  intro pins s σ H x vs v us Q I r0 rv h
  obtain ⟨l, b, xs, zs, rfl, rfl, gl, gb, hz, q⟩ := h
  cases r0
  obtain ⟨u, rfl, ru⟩ := rv.one
  cases ru
  obtain ⟨z1, i1, n1, r1, g1, e1⟩ := I.lstM gl
  obtain ⟨z2, i2, r2, o, e2, hc, n2, hd⟩ := I.hok b _ gb
  have g2 := r2.length
  obtain ⟨oc, od, oa, os⟩ := o
  dsimp only at hc hd
  subst hc
  subst hd
  have hs : i1.toArray.size + i2.toArray.size ≤ sizeLine := by
    rw [List.size_toArray, List.size_toArray]
    omega
  have k0 : ¬ (!i1.toArray.isEmpty && Builtin.List.listTooLong (i1.toArray.size + i2.toArray.size)) = true := by
    rw [notLongL hs, Bool.and_false]
    exact Bool.false_ne_true
  refine call_meets F.slot_list_extend ⟨_, e1, rfl⟩ F.entry_list_extend (F.args_list_extend_2 _ _) (ext_tup l i1.toArray n1 b i2.toArray n2 od os k0 (by omega) (by omega)) ⟨e1, e2, ?_⟩
  refine ⟨.non, _, I.lset (its' := i1 ++ i2) gl e1 (by simp) (r1.append r2) ?_, rfl, q⟩
  rw [List.length_append]
  omega
/-- what an answer says of some numbers -/
abbrev told (qs : List Ks526.Rational) : List Int := 0 :: Ks526.pairs qs
theorem pairs_len : ∀ qs : List Ks526.Rational, (Ks526.pairs qs).length = 2 * qs.length
  | [] => rfl
  | q :: r => by
    have ih := pairs_len r
    show (q.num :: (q.den : Int) :: Ks526.pairs r).length = 2 * (q :: r).length
    rw [List.length_cons, List.length_cons, List.length_cons, ih]
    omega
theorem pairs_more (qs : List Ks526.Rational) (q : Ks526.Rational) : Ks526.pairs (qs ++ [q]) = Ks526.pairs qs ++ [q.num, (q.den : Int)] := by
  unfold Ks526.pairs
  rw [List.flatMap_append]
  rfl
/-- numbers that stand in the heap -/
abbrev refs (zs : List (Addr × Ks526.Rational)) : List V := zs.map fun z => V.ref z.1
theorem refs_at {zs : List (Addr × Ks526.Rational)} {i : Nat} {x : V} (h : (refs zs)[i]? = some x) : ∃ z, zs[i]? = some z ∧ x = V.ref z.1 := by
  rw [List.getElem?_map] at h
  cases e : zs[i]? with
  | none =>
    rw [e] at h
    cases h
  | some z =>
    rw [e] at h
    exact ⟨z, rfl, (Option.some.inj h).symm⟩
section
variable {P : Program} {w : World} {K : PySem.W.Frag} {mg : Str → Option Value} {base : Heap}
def spAns (K : PySem.W.Frag) : Sp := fun vs H Q _ => ∃ (a : Addr) (zs : List (Addr × Ks526.Rational)), vs = [.ref a] ∧ SqL K H a (refs zs) ∧ (∀ z ∈ zs, H z.1 = some (rat z.2)) ∧ zs.length ≤ 4 ∧
  ∀ H' p, Same H H' → H' p = some (.lst ((told (zs.map (·.2))).map V.int)) → Q (.ref p) H'
theorem scAns : FnScope ["values", "numbers", "value"] ["values"] (defScope sAns) := ⟨rfl, rfl, rfl, by decide +kernel, rfl, by decide +kernel, by decide +kernel⟩
theorem ok_ans {f : Addr} {fd : FuncData} (F : Fun K "answer_with" "answer_with" sAns f fd) : FnOk P w K mg base CX0 1 f fd ["values"] (spAns K) := by
  refine F.ok scAns (fun vs H Q E h => ?_) (fun cdv A outer s H vs Q E hr h => ?_)
  · obtain ⟨a, zs, rfl, _⟩ := h
    rfl
  · obtain ⟨a, zs, rfl, hS, hz, hl, z⟩ := h
    refine ⟨_, pss_cons (ps_set (i := 1) scAns.nd rfl (.inl rfl) (pe_lst (pa_cons pe_int pa_nil)))
      (pss_cons (ps_for PassesOwn.never rfl (pi_list (pv 0)) (pg_name (i := 2) scAns.nd rfl (.inl rfl))
        (pss_one (ps_expr (pe_bm PySem.F.plainAttrs_list PySem.F.slot_list_extend PySem.F.type_list_extend mt_extT (pv 1) (pa_cons (pv 2) pa_nil)))))
      (pss_one (ps_ret (pv 1)))), ?_⟩
    refine ⟨(by show 1 ≤ sizeLine; decide), fun D hD => ?_⟩
    have s0 : Same H (upd H D (.lst [V.int 0])) := same_upd hD
    refine ⟨_, rfl, a, rfl, ⟨_, s0.seq hS⟩, for_list (K := K) (a := a) (xs := refs zs) (fun i σ H' => Same H H' ∧ (∃ r, σ = [some (.ref a), some (.ref D), r]) ∧ H' D = some (.lst ((told ((zs.take i).map (·.2))).map V.int)))
      ⟨s0, ⟨none, rfl⟩, upd_same⟩ (fun i σ H' _ hi => hi.1.seq hS) ?_ ?_⟩
    · rintro i x σ H' hx ⟨sm, ⟨r, rfl⟩, eD⟩
      obtain ⟨q, hq, rfl⟩ := refs_at hx
      have hi := (List.getElem?_eq_some_iff.mp hq).1
      refine ⟨_, rfl, .inl ⟨rfl, _, SqL.of eD⟩, _, rfl, D, q.1, _, _, rfl, rfl, eD, sm _ _ (hz q (List.mem_of_getElem? hq)), ?_, ?_⟩
      · have e9 : ((told ((zs.take i).map (·.2))).map V.int).length = 1 + 2 * i := by
          rw [List.length_map, List.length_cons, pairs_len, List.length_map, List.length_take]
          omega
        rw [e9]
        show 1 + 2 * i + 2 ≤ sizeLine
        exact two_line (by omega)
      · refine ⟨fun b o e => ?_, ⟨_, rfl⟩, ?_⟩
        · rw [upd_ne (ne_of_none e hD)]
          exact sm b o e
        · have et : zs.take (i + 1) = zs.take i ++ [q] := take_more hq
          rw [upd_same, et, List.map_append]
          show some (HO.lst _) = some (HO.lst ((0 :: Ks526.pairs ((zs.take i).map (·.2) ++ [q.2])).map V.int))
          rw [pairs_more, ← List.cons_append, List.map_append]
          rfl
    · rintro σ H' ⟨sm, ⟨r, rfl⟩, eD⟩
      rw [List.length_map, List.take_length] at eD
      exact ⟨_, rfl, z H' D sm eD⟩
end

/-! ### minus -/
theorem sub_raw (p q : Ks526.Rational) : p - q = Ks526.Rational.make (p.num * (q.den : Int) - q.num * (p.den : Int)) (p.den * q.den) := by
  rw [Lv.sub_def]
  congr 1
  rw [Int.neg_mul]
  rfl
/-! ### a negotiation without a player's outside option -/
def bareOf (c : Dat) (p : Nat) : Dat := if p = 0 then { c with o0 := 0 } else { c with o1 := 0 }
theorem bare_in {c : Dat} (h : c.In) (p : Nat) : (bareOf c p).In := by
  unfold bareOf
  split
  · exact { h with o0 := Nat.zero_le _ }
  · exact { h with o1 := Nat.zero_le _ }
theorem bare_stg (c : Dat) (ps : List Nat) (p : Nat) : Ks526.withoutOutsideOption (c.stg ps) p = (bareOf c p).stg ps := by
  unfold Ks526.withoutOutsideOption bareOf
  split <;> rfl
theorem bare_extra (c : Dat) {p : Nat} (h : p ≤ 1) : (nvs c.extra).set (4 + p) (V.int 0) = nvs (bareOf c p).extra := by
  rcases Lv.player_cases h with rfl | rfl <;> rfl
theorem bare_disc (c : Dat) (p : Nat) : (bareOf c p).disc = c.disc := by
  unfold bareOf
  split <;> rfl
theorem bare_fin (c : Dat) (p : Nat) : (bareOf c p).fin = c.fin := by
  unfold bareOf
  split <;> rfl
theorem bare_amount (c : Dat) (p : Nat) : (bareOf c p).amount = c.amount := by
  unfold bareOf
  split <;> rfl
theorem bare_ix (c : Dat) {p : Nat} (h : p ≤ 1) : ixN (nvs c.extra).length (4 + (p : Int)) = some (4 + p) := by
  rcases Lv.player_cases h with rfl | rfl <;> rfl
theorem same_upd2 {H : Hp} {p : Addr} {o1 o2 : HO} (h : H p = none) : Same H (upd (upd H p o1) p o2) := fun b x e => by
  rw [upd_ne (ne_of_none e h), upd_ne (ne_of_none e h)]
  exact e
section
variable {P : Program} {w : World} {K : PySem.W.Frag} {mg : Str → Option Value} {base : Heap}
def spSub : Sp := fun vs H Q _ => ∃ (l r : Addr) (p q : Ks526.Rational) (k : Nat), vs = [.ref l, .ref r] ∧ H l = some (rat p) ∧ H r = some (rat q) ∧ 0 < k ∧ k ≤ 4000 ∧ Good k p ∧ Good k q ∧ ∀ a, H a = none → Q (.ref a) (upd H a (rat (p - q)))
theorem scSub : FnScope ["left", "right"] ["left", "right"] (defScope sSub) := ⟨rfl, rfl, rfl, by decide +kernel, rfl, by decide +kernel, by decide +kernel⟩
theorem ok_sub {f fL : Addr} {fd dL : FuncData} (F : Fun K "minus" "minus" sSub f fd) (DL : Def K mg "lowest_terms" sLow ["numerator", "denominator"] fL dL) (GL : FnOk P w K mg base CX0 2 fL dL ["numerator", "denominator"] spLow) : FnOk P w K mg base CX0 3 f fd ["left", "right"] spSub := by
  refine F.ok scSub (fun vs H Q E h => ?_) (fun cdv A outer s H vs Q E hr h => ?_)
  · obtain ⟨l, r, p, q, k, rfl, _⟩ := h
    rfl
  · obtain ⟨l, r, p, q, k, rfl, hl, hr', k0, k1, gp, gq, z⟩ := h
    refine ⟨_, pss_one (ps_ret (pe_call GL hr (by rfl) DL.g DL.F.kp DL.b .nil pass0
      (pa_cons (pe_op op_sub (pe_op op_mulW (pe_ix ix_tup (pv 0) pe_int (fun _ _ => rfl)) (pe_ix ix_tup (pv 1) pe_int (fun _ _ => rfl))) (pe_op op_mulW (pe_ix ix_tup (pv 1) pe_int (fun _ _ => rfl)) (pe_ix ix_tup (pv 0) pe_int (fun _ _ => rfl))))
      (pa_cons (pe_op op_mulW (pe_ix ix_tup (pv 0) pe_int (fun _ _ => rfl)) (pe_ix ix_tup (pv 1) pe_int (fun _ _ => rfl))) pa_nil)))), ?_⟩
    have sp := Sz.of gp
    have sq := Sz.of gq
    have dd : CMulW (p.den : Int) (q.den : Int) := wide_mul (by rw [Int.natAbs_natCast]; exact sp.d) (by rw [Int.natAbs_natCast]; exact sq.d) k0 k0 (by omega)
    refine ⟨_, rfl, l, _, 0, _, rfl, rfl, SqT.of hl, atI_nat (j := 0) rfl, _, rfl, r, _, 1, _, rfl, rfl, SqT.of hr', atI_nat (j := 1) rfl, _, _, rfl, rfl, sz_mul k0 (by omega) sp sq, ?_⟩
    refine ⟨_, rfl, r, _, 0, _, rfl, rfl, SqT.of hr', atI_nat (j := 0) rfl, _, rfl, l, _, 1, _, rfl, rfl, SqT.of hl, atI_nat (j := 1) rfl, _, _, rfl, rfl, sz_mul k0 (by omega) sq sp, _, _, rfl, rfl, ?_⟩
    refine ⟨_, rfl, l, _, 1, _, rfl, rfl, SqT.of hl, atI_nat (j := 1) rfl, _, rfl, r, _, 1, _, rfl, rfl, SqT.of hr', atI_nat (j := 1) rfl, _, _, rfl, rfl, dd, ?_⟩
    refine ⟨p.num * (q.den : Int) - q.num * (p.den : Int), p.den * q.den, ?_, Nat.mul_pos gp.ok.den gq.ok.den, ?_, fun a ha => ?_⟩
    · show [V.int _, V.int _] = _
      rw [Int.natCast_mul]
    · refine Nat.lt_of_lt_of_le (Nat.mul_lt_mul'' gp.sd gq.sd) ?_
      rw [← Nat.pow_add]
      exact Lv.two_le (by omega)
    · have e := z a ha
      rw [sub_raw] at e
      exact e
/-! ### without_outside_option -/
abbrev psB : List Str := ["player", "extra"]
def spBare (K : PySem.W.Frag) : Sp := fun vs H Q _ => ∃ (c : Dat) (pl : Nat) (ae : Addr), vs = [nv pl, .ref ae] ∧ pl ≤ 1 ∧ SqL K H ae (nvs c.extra) ∧ ∀ H' p, Same H H' → H' p = some (.lst (nvs (bareOf c pl).extra)) → Q (.ref p) H'
theorem scBare : FnScope ["player", "extra", "copied"] psB (defScope sBare) := ⟨rfl, rfl, rfl, by decide +kernel, rfl, by decide +kernel, by decide +kernel⟩
theorem ok_bare {f : Addr} {fd : FuncData} (F : Fun K "without_outside_option" "without_outside_option" sBare f fd) (mList : mg "list" = none) : FnOk P w K mg base CX0 1 f fd psB (spBare K) := by
  refine F.ok scBare (fun vs H Q E h => ?_) (fun cdv A outer s H vs Q E hr h => ?_)
  · obtain ⟨c, pl, ae, rfl, _⟩ := h
    rfl
  · obtain ⟨c, pl, ae, rfl, hp, hS, z⟩ := h
    refine ⟨_, pss_cons (ps_set (i := 2) scBare.nd rfl (.inl rfl) (pe_callTy call_list_of (by rfl) mList (by decide +kernel) (pa_cons (pv 1) pa_nil)))
      (pss_cons (ps_asg pe_int (pg_sub (pv 2) (pe_op op_add pe_int (pv 0)) set_list))
      (pss_one (ps_ret (pv 2)))), ?_⟩
    refine ⟨_, rfl, ae, _, rfl, .inl hS, fun l hl => ?_⟩
    refine ⟨_, rfl, _, rfl, _, _, rfl, rfl, l, _, _, 4 + pl, rfl, rfl, upd_same, bare_ix c hp, _, rfl, z _ l (same_upd2 hl) ?_⟩
    rw [upd_same, bare_extra c hp]
end

/-! ### what is due -/
theorem due_bad_player {amount rnd pl : Nat} {ps ds fs es : List Nat} (h : refCode amount rnd pl ps ds fs es ≠ 0) :
    Ks526Neutral.integers (Ks526.answer (.valueOfOutsideOption amount rnd pl ps ds fs es)) = [refCode amount rnd pl ps ds fs es] := by
  unfold refCode at *
  show Ks526Neutral.integers (Ks526.withRound amount rnd ps ds fs es _) = _
  unfold Ks526.withRound
  cases hv : Lv.valid amount ps ds fs es with
  | false =>
    rw [Lv.parse_none hv]
    rfl
  | true =>
    rw [hv, if_pos rfl] at h
    rw [if_pos rfl]
    obtain ⟨c, ci, rfl, rfl, rfl, rfl, _, _, _, e⟩ := Lv.parse_some hv
    rw [e]
    have hn : ¬ (rnd < ps.length ∧ pl ≤ 1) := fun z => h (if_pos z)
    rw [if_neg hn]
    dsimp only
    by_cases h1 : (c.stg ps).negotiation.proposers.length ≤ rnd
    · rw [if_pos h1]
      rfl
    · rw [if_neg h1, if_pos (show 2 ≤ pl by
        have h2 : ¬ ps.length ≤ rnd := h1
        omega)]
      rfl
theorem due_value {rnd pl : Nat} {ps ds fs es : List Nat} {c : Dat} (h1 : rnd < ps.length) (h2 : pl ≤ 1) (e : Ks526.parseSetting c.amount ps ds fs es = some (c.stg ps)) :
    Ks526Neutral.integers (Ks526.answer (.valueOfOutsideOption c.amount rnd pl ps ds fs es)) = told [Ks526.forPlayer pl (Ks526.payoffsFrom (c.stg ps) (ps.drop rnd)).1 (Ks526.payoffsFrom (c.stg ps) (ps.drop rnd)).2
      - Ks526.forPlayer pl (Ks526.payoffsFrom ((bareOf c pl).stg ps) (ps.drop rnd)).1 (Ks526.payoffsFrom ((bareOf c pl).stg ps) (ps.drop rnd)).2] := by
  rw [← bare_stg]
  rw [show Ks526.answer (.valueOfOutsideOption c.amount rnd pl ps ds fs es) = _ from due_ok _ h1 e]
  rw [if_neg (by omega)]
  have ed : Ks526.payoff (Ks526.withoutOutsideOption (c.stg ps) pl) rnd pl = Ks526.forPlayer pl (Ks526.payoffsFrom (Ks526.withoutOutsideOption (c.stg ps) pl) (ps.drop rnd)).1 (Ks526.payoffsFrom (Ks526.withoutOutsideOption (c.stg ps) pl) (ps.drop rnd)).2 := by
    rw [bare_stg]
    unfold Ks526.payoff Ks526.payoffs
    rw [show ((bareOf c pl).stg ps).negotiation.proposers = ps from rfl]
  rw [ed]
  rfl
section
variable {P : Program} {w : World} {K : PySem.W.Frag} {mg : Str → Option Value} {base : Heap}
/-! ### value_of_outside_option -/
abbrev n7 : List Str := ["amount", "the_round", "player", "proposers", "discounts", "final", "extra", "code", "bare", "value", "bare_value"]
def spMain (K : PySem.W.Frag) : Sp := fun vs H Q _ => ∃ (amount rnd pl : Nat) (ps ds fs es : List Nat) (ap ad af ae : Addr), vs = [nv amount, nv rnd, nv pl, .ref ap, .ref ad, .ref af, .ref ae] ∧ Args K H ap ad af ae ps ds fs es ∧
  ∀ (H' : Hp) (p : Addr), H' p = some (.lst ((Ks526Neutral.integers (Ks526.answer (.valueOfOutsideOption amount rnd pl ps ds fs es))).map V.int)) → Q (.ref p) H'
theorem scMain : FnScope n7 ps7 (defScope sMain) := ⟨rfl, rfl, rfl, by decide +kernel, rfl, by decide +kernel, by decide +kernel⟩
theorem ok_main {f fR fF fB fS fA : Addr} {fd dR dF dB dS dA : FuncData} (F : Fun K "value_of_outside_option" "value_of_outside_option" sMain f fd) (DR : Def K mg "refusal" sRef ps7 fR dR) (GR : FnOk P w K mg base CX0 4 fR dR ps7 (spRef K)) (DF : Def K mg "payoffs_from" sFrom psF fF dF) (GF : FnOk P w K mg base CX0 10 fF dF psF (spFrom K))
    (DB : Def K mg "without_outside_option" sBare psB fB dB) (mList : mg "list" = none) (DS : Def K mg "minus" sSub ["left", "right"] fS dS) (GS : FnOk P w K mg base CX0 3 fS dS ["left", "right"] spSub) (DA : Def K mg "answer_with" sAns ["values"] fA dA) :
    FnOk P w K mg base CX0 11 f fd ps7 (spMain K) := by
  have GA : FnOk P w K mg base CX0 1 fA dA ["values"] (spAns K) := ok_ans DA.F
  have GB : FnOk P w K mg base CX0 1 fB dB psB (spBare K) := ok_bare DB.F mList
  refine F.ok scMain (fun vs H Q E h => ?_) (fun cdv A outer s H vs Q E hr h => ?_)
  · obtain ⟨amount, rnd, pl, ps, ds, fs, es, ap, ad, af, ae, rfl, _⟩ := h
    rfl
  · obtain ⟨amount, rnd, pl, ps, ds, fs, es, ap, ad, af, ae, rfl, B, z⟩ := h
    have hr1 : Room 1 _ := hr.mono (by decide)
    have hr3 : Room 3 _ := hr.mono (by decide)
    have hr4 : Room 4 _ := hr.mono (by decide)
    refine ⟨_, pss_cons (ps_set (i := 7) scMain.nd rfl (.inl rfl) (pe_call GR hr4 (by rfl) DR.g DR.F.kp DR.b .nil pass0 (pa_cons (pv 0) (pa_cons (pv 1) (pa_cons (pv 2) (pa_cons (pv 3) (pa_cons (pv 4) (pa_cons (pv 5) (pa_cons (pv 6) pa_nil)))))))))
      (pss_cons (ps_if (pt_cmpR op_ne (pv 7) pe_int (nomark _)) (pss_one (ps_ret (pe_lst (pa_cons (pv 7) pa_nil)))) pss_nil)
      (pss_cons (ps_set (i := 8) scMain.nd rfl (.inl rfl) (pe_call GB hr1 (by rfl) DB.g DB.F.kp DB.b .nil pass0 (pa_cons (pv 2) (pa_cons (pv 6) pa_nil))))
      (pss_cons (ps_set (i := 9) scMain.nd rfl (.inl rfl) (pe_ix ix_tup (pe_call GF hr (by rfl) DF.g DF.F.kp DF.b .nil pass0 (pa_cons (pv 0) (pa_cons (pv 1) (pa_cons (pv 3) (pa_cons (pv 4) (pa_cons (pv 5) (pa_cons (pv 6) pa_nil))))))) (pv 2) (fun _ _ => rfl)))
      (pss_cons (ps_set (i := 10) scMain.nd rfl (.inl rfl) (pe_ix ix_tup (pe_call GF hr (by rfl) DF.g DF.F.kp DF.b .nil pass0 (pa_cons (pv 0) (pa_cons (pv 1) (pa_cons (pv 3) (pa_cons (pv 4) (pa_cons (pv 5) (pa_cons (pv 8) pa_nil))))))) (pv 2) (fun _ _ => rfl)))
      (pss_one (ps_ret (pe_call GA hr1 (by rfl) DA.g DA.F.kp DA.b .nil pass0 (pa_cons (pe_lst (pa_cons (pe_call GS hr3 (by rfl) DS.g DS.F.kp DS.b .nil pass0 (pa_cons (pv 9) (pa_cons (pv 10) pa_nil))) pa_nil)) pa_nil)))))))), ?_⟩
    refine ⟨_, rfl, _, rfl, _, rfl, _, rfl, _, rfl, _, rfl, _, rfl, amount, rnd, pl, ps, ds, fs, es, ap, ad, af, ae, rfl, B, fun H1 s1 => ?_⟩
    refine ⟨_, rfl, rfl, _, rfl, ite2 (fun e => ?_) (fun e => ?_)⟩
    · have hc : refCode amount rnd pl ps ds fs es ≠ 0 := fun h0 => by
        rw [h0] at e
        exact absurd e (by decide)
      refine ⟨_, rfl, (by show 1 ≤ sizeLine; decide), fun p hp => z _ p ?_⟩
      rw [due_bad_player hc]
      exact upd_same
    · have hc : refCode amount rnd pl ps ds fs es = 0 := code_zero e
      obtain ⟨h1, h2, c, ci, rfl, rfl, rfl, rfl, l1, l2, l3, ep⟩ := ok_code hc
      rw [due_value h1 h2 ep] at z
      have cb := bare_in ci pl
      have b1 := Lv.from_both ci ps (ps.drop rnd)
      have b2 := Lv.from_both cb ps (ps.drop rnd)
      have hk : Lv.bits (ps.drop rnd).length ≤ 2000 ∧ 0 < Lv.bits (ps.drop rnd).length := by
        unfold Lv.bits
        rw [List.length_drop]
        omega
      -- bare
      refine ⟨_, rfl, _, rfl, c, pl, ae, rfl, h2, s1.seq B.e, fun H2 ab s2 hab => ?_⟩
      have s12 := s1.trans s2
      -- value
      refine ⟨_, rfl, _, rfl, _, rfl, _, rfl, _, rfl, _, rfl, c, rnd, ps, ap, ad, af, ae, rfl, ci, l2, l3, s12.seq B.p, s12.seq B.d, s12.seq B.f, s12.seq B.e, fun H3 q s3 pq => ?_⟩
      obtain ⟨t, xs, hl, hx, ht⟩ := pq.pick h2
      refine ⟨_, rfl, q, _, _, _, rfl, rfl, SqT.of hl, hx, ?_⟩
      have s123 := s12.trans s3
      -- bare_value
      refine ⟨_, rfl, _, rfl, _, rfl, _, rfl, _, rfl, _, rfl, bareOf c pl, rnd, ps, ap, ad, af, ab, ?_, cb, l2, l3, s123.seq B.p, ?_, ?_, SqL.of (s3 _ _ hab), fun H4 q4 s4 pq4 => ?_⟩
      · rw [bare_amount]
        rfl
      · rw [bare_disc]
        exact s123.seq B.d
      · rw [bare_fin]
        exact s123.seq B.f
      obtain ⟨t4, xs4, hl4, hx4, ht4⟩ := pq4.pick h2
      refine ⟨_, rfl, q4, _, _, _, rfl, rfl, SqT.of hl4, hx4, ?_⟩
      -- the answer
      refine ⟨_, rfl, _, rfl, t, t4, _, _, Lv.bits (ps.drop rnd).length, rfl, s4 _ _ ht, ht4, hk.2, by omega, Lv.fp_good b1.1 b1.2, Lv.fp_good b2.1 b2.2, fun a ha => ?_⟩
      refine ⟨(by show 1 ≤ sizeLine; decide), fun L hL => ⟨L, [(a, _)], rfl, SqL.of upd_same, fun y hy => ?_, by show 1 ≤ 4; decide, fun H5 p s5 hp => z _ p hp⟩⟩
      rw [List.mem_singleton] at hy
      subst hy
      exact same_upd hL _ _ upd_same
end

/-! ### the top -/
theorem all_mk {P : Program} {w : World} {K : PySem.W.Frag} {h : Heap} {mg : Str → Option Value} {fa : Addr} (X : K.In h) (G : h.Ns mainGlobals mg) (hfa : mg "value_of_outside_option" = some (.ref fa))
    {f0 f1 f2 f3 f4 f5 f6 f7 f8 f9 f10 f11 f12 f13 f14 f15 f16 f17 f18 f19 f20 f21 f22 f23 f24 f25 : Addr} {od0 an0 od1 an1 od2 an2 od3 an3 od4 an4 od5 an5 od6 an6 od7 an7 od8 an8 od9 an9 od10 an10 od11 an11 od12 an12 od13 an13 od14 an14 od15 an15 od16 an16 od17 an17 od18 an18 od19 an19 od20 an20 od21 an21 od22 an22 od23 an23 od24 an24 od25 an25 : Option Addr} {sl0 sl1 sl2 sl3 sl4 sl5 sl6 sl7 sl8 sl9 sl10 sl11 sl12 sl13 sl14 sl15 sl16 sl17 sl18 sl19 sl20 sl21 sl22 sl23 sl24 sl25 : Array (Option Value)}
    {oc0 kV0 dc0 pm0 cd0 ct0 oc1 kV1 dc1 pm1 cd1 ct1 oc2 kV2 dc2 pm2 cd2 ct2 oc3 kV3 dc3 pm3 cd3 ct3 oc4 kV4 dc4 pm4 cd4 ct4 oc5 kV5 dc5 pm5 cd5 ct5 oc6 kV6 dc6 pm6 cd6 ct6 oc7 kV7 dc7 pm7 cd7 ct7 oc8 kV8 dc8 pm8 cd8 ct8 oc9 kV9 dc9 pm9 cd9 ct9 oc10 kV10 dc10 pm10 cd10 ct10 oc11 kV11 dc11 pm11 cd11 ct11 oc12 kV12 dc12 pm12 cd12 ct12 oc13 kV13 dc13 pm13 cd13 ct13 oc14 kV14 dc14 pm14 cd14 ct14 oc15 kV15 dc15 pm15 cd15 ct15 oc16 kV16 dc16 pm16 cd16 ct16 oc17 kV17 dc17 pm17 cd17 ct17 oc18 kV18 dc18 pm18 cd18 ct18 oc19 kV19 dc19 pm19 cd19 ct19 oc20 kV20 dc20 pm20 cd20 ct20 oc21 kV21 dc21 pm21 cd21 ct21 oc22 kV22 dc22 pm22 cd22 ct22 oc23 kV23 dc23 pm23 cd23 ct23 oc24 kV24 dc24 pm24 cd24 ct24 oc25 kV25 dc25 pm25 cd25 ct25 : Value} {t0 t1 t2 t3 : Tok}
    (a0 : PySem.W.nsIn K mainGlobals "greatest_common_divisor" = some (some (.ref f0))) (l0 : K.lookup f0 = some ⟨oc0, od0, .func (PySem.W.fnOf "greatest_common_divisor" "greatest_common_divisor" (defArgs sGcd) (defBody sGcd) (defScope sGcd) .none kV0 dc0 pm0 an0 cd0 ct0), sl0⟩) (c0 : PySem.W.codeIn K cd0 "greatest_common_divisor" = true) (k0 : PySem.W.keepIn K (.ref f0) = true)
    (a1 : PySem.W.nsIn K mainGlobals "lowest_terms" = some (some (.ref f1))) (l1 : K.lookup f1 = some ⟨oc1, od1, .func (PySem.W.fnOf "lowest_terms" "lowest_terms" (defArgs sLow) (defBody sLow) (defScope sLow) .none kV1 dc1 pm1 an1 cd1 ct1), sl1⟩) (c1 : PySem.W.codeIn K cd1 "lowest_terms" = true) (k1 : PySem.W.keepIn K (.ref f1) = true)
    (a2 : PySem.W.nsIn K mainGlobals "is_at_most" = some (some (.ref f2))) (l2 : K.lookup f2 = some ⟨oc2, od2, .func (PySem.W.fnOf "is_at_most" "is_at_most" (defArgs sMost) (defBody sMost) (defScope sMost) .none kV2 dc2 pm2 an2 cd2 ct2), sl2⟩) (c2 : PySem.W.codeIn K cd2 "is_at_most" = true) (k2 : PySem.W.keepIn K (.ref f2) = true)
    (a3 : PySem.W.nsIn K mainGlobals "whole_minus" = some (some (.ref f3))) (l3 : K.lookup f3 = some ⟨oc3, od3, .func (PySem.W.fnOf "whole_minus" "whole_minus" (defArgs sMinus) (defBody sMinus) (defScope sMinus) .none kV3 dc3 pm3 an3 cd3 ct3), sl3⟩) (c3 : PySem.W.codeIn K cd3 "whole_minus" = true) (k3 : PySem.W.keepIn K (.ref f3) = true)
    (a4 : PySem.W.nsIn K mainGlobals "minus" = some (some (.ref f4))) (l4 : K.lookup f4 = some ⟨oc4, od4, .func (PySem.W.fnOf "minus" "minus" (defArgs sSub) (defBody sSub) (defScope sSub) .none kV4 dc4 pm4 an4 cd4 ct4), sl4⟩) (c4 : PySem.W.codeIn K cd4 "minus" = true) (k4 : PySem.W.keepIn K (.ref f4) = true)
    (a5 : PySem.W.nsIn K mainGlobals "is_fraction_within_limits" = some (some (.ref f5))) (l5 : K.lookup f5 = some ⟨oc5, od5, .func (PySem.W.fnOf "is_fraction_within_limits" "is_fraction_within_limits" (defArgs sFrac) (defBody sFrac) (defScope sFrac) .none kV5 dc5 pm5 an5 cd5 ct5), sl5⟩) (c5 : PySem.W.codeIn K cd5 "is_fraction_within_limits" = true) (k5 : PySem.W.keepIn K (.ref f5) = true)
    (a6 : PySem.W.nsIn K mainGlobals "are_payoffs_within_limits" = some (some (.ref f6))) (l6 : K.lookup f6 = some ⟨oc6, od6, .func (PySem.W.fnOf "are_payoffs_within_limits" "are_payoffs_within_limits" (defArgs sPays) (defBody sPays) (defScope sPays) .none kV6 dc6 pm6 an6 cd6 ct6), sl6⟩) (c6 : PySem.W.codeIn K cd6 "are_payoffs_within_limits" = true) (k6 : PySem.W.keepIn K (.ref f6) = true)
    (a7 : PySem.W.nsIn K mainGlobals "are_proposers_within_limits" = some (some (.ref f7))) (l7 : K.lookup f7 = some ⟨oc7, od7, .func (PySem.W.fnOf "are_proposers_within_limits" "are_proposers_within_limits" (defArgs sProps) (defBody sProps) (defScope sProps) .none kV7 dc7 pm7 an7 cd7 ct7), sl7⟩) (c7 : PySem.W.codeIn K cd7 "are_proposers_within_limits" = true) (k7 : PySem.W.keepIn K (.ref f7) = true)
    (a8 : PySem.W.nsIn K mainGlobals "are_discounts_within_limits" = some (some (.ref f8))) (l8 : K.lookup f8 = some ⟨oc8, od8, .func (PySem.W.fnOf "are_discounts_within_limits" "are_discounts_within_limits" (defArgs sDiscs) (defBody sDiscs) (defScope sDiscs) .none kV8 dc8 pm8 an8 cd8 ct8), sl8⟩) (c8 : PySem.W.codeIn K cd8 "are_discounts_within_limits" = true) (k8 : PySem.W.keepIn K (.ref f8) = true)
    (a9 : PySem.W.nsIn K mainGlobals "is_extra_within_limits" = some (some (.ref f9))) (l9 : K.lookup f9 = some ⟨oc9, od9, .func (PySem.W.fnOf "is_extra_within_limits" "is_extra_within_limits" (defArgs sExtra) (defBody sExtra) (defScope sExtra) .none kV9 dc9 pm9 an9 cd9 ct9), sl9⟩) (c9 : PySem.W.codeIn K cd9 "is_extra_within_limits" = true) (k9 : PySem.W.keepIn K (.ref f9) = true)
    (a10 : PySem.W.nsIn K mainGlobals "is_negotiation_within_limits" = some (some (.ref f10))) (l10 : K.lookup f10 = some ⟨oc10, od10, .func (PySem.W.fnOf "is_negotiation_within_limits" "is_negotiation_within_limits" (defArgs sNeg) (defBody sNeg) (defScope sNeg) .none kV10 dc10 pm10 an10 cd10 ct10), sl10⟩) (c10 : PySem.W.codeIn K cd10 "is_negotiation_within_limits" = true) (k10 : PySem.W.keepIn K (.ref f10) = true)
    (a11 : PySem.W.nsIn K mainGlobals "refusal" = some (some (.ref f11))) (l11 : K.lookup f11 = some ⟨oc11, od11, .func (PySem.W.fnOf "refusal" "refusal" (defArgs sRef) (defBody sRef) (defScope sRef) .none kV11 dc11 pm11 an11 cd11 ct11), sl11⟩) (c11 : PySem.W.codeIn K cd11 "refusal" = true) (k11 : PySem.W.keepIn K (.ref f11) = true)
    (a12 : PySem.W.nsIn K mainGlobals "outside_option" = some (some (.ref f12))) (l12 : K.lookup f12 = some ⟨oc12, od12, .func (PySem.W.fnOf "outside_option" "outside_option" (defArgs sOut) (defBody sOut) (defScope sOut) .none kV12 dc12 pm12 an12 cd12 ct12), sl12⟩) (c12 : PySem.W.codeIn K cd12 "outside_option" = true) (k12 : PySem.W.keepIn K (.ref f12) = true)
    (a13 : PySem.W.nsIn K mainGlobals "without_outside_option" = some (some (.ref f13))) (l13 : K.lookup f13 = some ⟨oc13, od13, .func (PySem.W.fnOf "without_outside_option" "without_outside_option" (defArgs sBare) (defBody sBare) (defScope sBare) .none kV13 dc13 pm13 an13 cd13 ct13), sl13⟩) (c13 : PySem.W.codeIn K cd13 "without_outside_option" = true) (k13 : PySem.W.keepIn K (.ref f13) = true)
    (a14 : PySem.W.nsIn K mainGlobals "abandoned_payoff" = some (some (.ref f14))) (l14 : K.lookup f14 = some ⟨oc14, od14, .func (PySem.W.fnOf "abandoned_payoff" "abandoned_payoff" (defArgs sAb) (defBody sAb) (defScope sAb) .none kV14 dc14 pm14 an14 cd14 ct14), sl14⟩) (c14 : PySem.W.codeIn K cd14 "abandoned_payoff" = true) (k14 : PySem.W.keepIn K (.ref f14) = true)
    (a15 : PySem.W.nsIn K mainGlobals "continuation_value" = some (some (.ref f15))) (l15 : K.lookup f15 = some ⟨oc15, od15, .func (PySem.W.fnOf "continuation_value" "continuation_value" (defArgs sCont) (defBody sCont) (defScope sCont) .none kV15 dc15 pm15 an15 cd15 ct15), sl15⟩) (c15 : PySem.W.codeIn K cd15 "continuation_value" = true) (k15 : PySem.W.keepIn K (.ref f15) = true)
    (a16 : PySem.W.nsIn K mainGlobals "does_leave" = some (some (.ref f16))) (l16 : K.lookup f16 = some ⟨oc16, od16, .func (PySem.W.fnOf "does_leave" "does_leave" (defArgs sLeave) (defBody sLeave) (defScope sLeave) .none kV16 dc16 pm16 an16 cd16 ct16), sl16⟩) (c16 : PySem.W.codeIn K cd16 "does_leave" = true) (k16 : PySem.W.keepIn K (.ref f16) = true)
    (a17 : PySem.W.nsIn K mainGlobals "responder_payoff" = some (some (.ref f17))) (l17 : K.lookup f17 = some ⟨oc17, od17, .func (PySem.W.fnOf "responder_payoff" "responder_payoff" (defArgs sResp) (defBody sResp) (defScope sResp) .none kV17 dc17 pm17 an17 cd17 ct17), sl17⟩) (c17 : PySem.W.codeIn K cd17 "responder_payoff" = true) (k17 : PySem.W.keepIn K (.ref f17) = true)
    (a18 : PySem.W.nsIn K mainGlobals "rejection_payoff" = some (some (.ref f18))) (l18 : K.lookup f18 = some ⟨oc18, od18, .func (PySem.W.fnOf "rejection_payoff" "rejection_payoff" (defArgs sRej) (defBody sRej) (defScope sRej) .none kV18 dc18 pm18 an18 cd18 ct18), sl18⟩) (c18 : PySem.W.codeIn K cd18 "rejection_payoff" = true) (k18 : PySem.W.keepIn K (.ref f18) = true)
    (a19 : PySem.W.nsIn K mainGlobals "agreement_payoff" = some (some (.ref f19))) (l19 : K.lookup f19 = some ⟨oc19, od19, .func (PySem.W.fnOf "agreement_payoff" "agreement_payoff" (defArgs sAgr) (defBody sAgr) (defScope sAgr) .none kV19 dc19 pm19 an19 cd19 ct19), sl19⟩) (c19 : PySem.W.codeIn K cd19 "agreement_payoff" = true) (k19 : PySem.W.keepIn K (.ref f19) = true)
    (a20 : PySem.W.nsIn K mainGlobals "is_agreement" = some (some (.ref f20))) (l20 : K.lookup f20 = some ⟨oc20, od20, .func (PySem.W.fnOf "is_agreement" "is_agreement" (defArgs sIs) (defBody sIs) (defScope sIs) .none kV20 dc20 pm20 an20 cd20 ct20), sl20⟩) (c20 : PySem.W.codeIn K cd20 "is_agreement" = true) (k20 : PySem.W.keepIn K (.ref f20) = true)
    (a21 : PySem.W.nsIn K mainGlobals "proposer_payoff" = some (some (.ref f21))) (l21 : K.lookup f21 = some ⟨oc21, od21, .func (PySem.W.fnOf "proposer_payoff" "proposer_payoff" (defArgs sOwn) (defBody sOwn) (defScope sOwn) .none kV21 dc21 pm21 an21 cd21 ct21), sl21⟩) (c21 : PySem.W.codeIn K cd21 "proposer_payoff" = true) (k21 : PySem.W.keepIn K (.ref f21) = true)
    (a22 : PySem.W.nsIn K mainGlobals "round_payoffs" = some (some (.ref f22))) (l22 : K.lookup f22 = some ⟨oc22, od22, .func (PySem.W.fnOf "round_payoffs" "round_payoffs" (defArgs sRound) (defBody sRound) (defScope sRound) .none kV22 dc22 pm22 an22 cd22 ct22), sl22⟩) (c22 : PySem.W.codeIn K cd22 "round_payoffs" = true) (k22 : PySem.W.keepIn K (.ref f22) = true)
    (a23 : PySem.W.nsIn K mainGlobals "payoffs_from" = some (some (.ref f23))) (l23 : K.lookup f23 = some ⟨oc23, od23, .func (PySem.W.fnOf "payoffs_from" "payoffs_from" (defArgs sFrom) (defBody sFrom) (defScope sFrom) .none kV23 dc23 pm23 an23 cd23 ct23), sl23⟩) (c23 : PySem.W.codeIn K cd23 "payoffs_from" = true) (k23 : PySem.W.keepIn K (.ref f23) = true)
    (a24 : PySem.W.nsIn K mainGlobals "answer_with" = some (some (.ref f24))) (l24 : K.lookup f24 = some ⟨oc24, od24, .func (PySem.W.fnOf "answer_with" "answer_with" (defArgs sAns) (defBody sAns) (defScope sAns) .none kV24 dc24 pm24 an24 cd24 ct24), sl24⟩) (c24 : PySem.W.codeIn K cd24 "answer_with" = true) (k24 : PySem.W.keepIn K (.ref f24) = true)
    (a25 : PySem.W.nsIn K mainGlobals "value_of_outside_option" = some (some (.ref f25))) (l25 : K.lookup f25 = some ⟨oc25, od25, .func (PySem.W.fnOf "value_of_outside_option" "value_of_outside_option" (defArgs sMain) (defBody sMain) (defScope sMain) .none kV25 dc25 pm25 an25 cd25 ct25), sl25⟩) (c25 : PySem.W.codeIn K cd25 "value_of_outside_option" = true) (k25 : PySem.W.keepIn K (.ref f25) = true)
    (cn0 : PySem.W.nsIn K mainGlobals "MOST_AMOUNT" = some (some (.int 1000 t0)))
    (cn1 : PySem.W.nsIn K mainGlobals "MOST_ROUNDS" = some (some (.int 12 t1)))
    (cn2 : PySem.W.nsIn K mainGlobals "MOST_DENOMINATOR" = some (some (.int 100 t2)))
    (cn3 : PySem.W.nsIn K mainGlobals "MOST_PAYOFF" = some (some (.int 1000 t3)))
    (z0 : PySem.W.nsIn K mainGlobals "all" = some none)
    (z1 : PySem.W.nsIn K mainGlobals "len" = some none)
    (z2 : PySem.W.nsIn K mainGlobals "reversed" = some none)
    (z3 : PySem.W.nsIn K mainGlobals "list" = some none)
    : ∃ fd : FuncData, (∀ (s : Shared) (us : List Value), us.length = (["amount", "the_round", "player", "proposers", "discounts", "final", "extra"] : List Str).length → BindsTo s fd ⟨us, []⟩ ((["amount", "the_round", "player", "proposers", "discounts", "final", "extra"] : List Str).zip us)) ∧ ∀ base : Heap, K.In base → base.Ns mainGlobals mg → FnOk P w K mg base CX0 11 fa fd ["amount", "the_round", "player", "proposers", "discounts", "final", "extra"] (spMain K) := by
  have e := hfa.symm.trans (PySem.W.mg_of X G a25)
  cases e
  have F0 := fun_mk (st := sGcd) l0 c0 k0
  have b0 := F0.binds (ps := ["first", "second"]) fun _ _ _ _ _ _ us hl => match us, hl with | [_, _], _ => rfl
  have D0 : Def K mg "greatest_common_divisor" sGcd ["first", "second"] f0 _ := ⟨F0, PySem.W.mg_of X G a0, b0⟩
  have F1 := fun_mk (st := sLow) l1 c1 k1
  have b1 := F1.binds (ps := ["numerator", "denominator"]) fun _ _ _ _ _ _ us hl => match us, hl with | [_, _], _ => rfl
  have D1 : Def K mg "lowest_terms" sLow ["numerator", "denominator"] f1 _ := ⟨F1, PySem.W.mg_of X G a1, b1⟩
  have F2 := fun_mk (st := sMost) l2 c2 k2
  have b2 := F2.binds (ps := ["left", "right"]) fun _ _ _ _ _ _ us hl => match us, hl with | [_, _], _ => rfl
  have D2 : Def K mg "is_at_most" sMost ["left", "right"] f2 _ := ⟨F2, PySem.W.mg_of X G a2, b2⟩
  have F3 := fun_mk (st := sMinus) l3 c3 k3
  have b3 := F3.binds (ps := ["whole", "value"]) fun _ _ _ _ _ _ us hl => match us, hl with | [_, _], _ => rfl
  have D3 : Def K mg "whole_minus" sMinus ["whole", "value"] f3 _ := ⟨F3, PySem.W.mg_of X G a3, b3⟩
  have F4 := fun_mk (st := sSub) l4 c4 k4
  have b4 := F4.binds (ps := ["left", "right"]) fun _ _ _ _ _ _ us hl => match us, hl with | [_, _], _ => rfl
  have D4 : Def K mg "minus" sSub ["left", "right"] f4 _ := ⟨F4, PySem.W.mg_of X G a4, b4⟩
  have F5 := fun_mk (st := sFrac) l5 c5 k5
  have b5 := F5.binds (ps := ["numerator", "denominator"]) fun _ _ _ _ _ _ us hl => match us, hl with | [_, _], _ => rfl
  have D5 : Def K mg "is_fraction_within_limits" sFrac ["numerator", "denominator"] f5 _ := ⟨F5, PySem.W.mg_of X G a5, b5⟩
  have F6 := fun_mk (st := sPays) l6 c6 k6
  have b6 := F6.binds (ps := ["payoffs"]) fun _ _ _ _ _ _ us hl => match us, hl with | [_], _ => rfl
  have D6 : Def K mg "are_payoffs_within_limits" sPays ["payoffs"] f6 _ := ⟨F6, PySem.W.mg_of X G a6, b6⟩
  have F7 := fun_mk (st := sProps) l7 c7 k7
  have b7 := F7.binds (ps := ["proposers"]) fun _ _ _ _ _ _ us hl => match us, hl with | [_], _ => rfl
  have D7 : Def K mg "are_proposers_within_limits" sProps ["proposers"] f7 _ := ⟨F7, PySem.W.mg_of X G a7, b7⟩
  have F8 := fun_mk (st := sDiscs) l8 c8 k8
  have b8 := F8.binds (ps := ["discounts"]) fun _ _ _ _ _ _ us hl => match us, hl with | [_], _ => rfl
  have D8 : Def K mg "are_discounts_within_limits" sDiscs ["discounts"] f8 _ := ⟨F8, PySem.W.mg_of X G a8, b8⟩
  have F9 := fun_mk (st := sExtra) l9 c9 k9
  have b9 := F9.binds (ps := ["extra"]) fun _ _ _ _ _ _ us hl => match us, hl with | [_], _ => rfl
  have D9 : Def K mg "is_extra_within_limits" sExtra ["extra"] f9 _ := ⟨F9, PySem.W.mg_of X G a9, b9⟩
  have F10 := fun_mk (st := sNeg) l10 c10 k10
  have b10 := F10.binds (ps := ["amount", "proposers", "discounts", "final", "extra"]) fun _ _ _ _ _ _ us hl => match us, hl with | [_, _, _, _, _], _ => rfl
  have D10 : Def K mg "is_negotiation_within_limits" sNeg ["amount", "proposers", "discounts", "final", "extra"] f10 _ := ⟨F10, PySem.W.mg_of X G a10, b10⟩
  have F11 := fun_mk (st := sRef) l11 c11 k11
  have b11 := F11.binds (ps := ["amount", "the_round", "player", "proposers", "discounts", "final", "extra"]) fun _ _ _ _ _ _ us hl => match us, hl with | [_, _, _, _, _, _, _], _ => rfl
  have D11 : Def K mg "refusal" sRef ["amount", "the_round", "player", "proposers", "discounts", "final", "extra"] f11 _ := ⟨F11, PySem.W.mg_of X G a11, b11⟩
  have F12 := fun_mk (st := sOut) l12 c12 k12
  have b12 := F12.binds (ps := ["player", "extra"]) fun _ _ _ _ _ _ us hl => match us, hl with | [_, _], _ => rfl
  have D12 : Def K mg "outside_option" sOut ["player", "extra"] f12 _ := ⟨F12, PySem.W.mg_of X G a12, b12⟩
  have F13 := fun_mk (st := sBare) l13 c13 k13
  have b13 := F13.binds (ps := ["player", "extra"]) fun _ _ _ _ _ _ us hl => match us, hl with | [_, _], _ => rfl
  have D13 : Def K mg "without_outside_option" sBare ["player", "extra"] f13 _ := ⟨F13, PySem.W.mg_of X G a13, b13⟩
  have F14 := fun_mk (st := sAb) l14 c14 k14
  have b14 := F14.binds (ps := ["player", "extra"]) fun _ _ _ _ _ _ us hl => match us, hl with | [_, _], _ => rfl
  have D14 : Def K mg "abandoned_payoff" sAb ["player", "extra"] f14 _ := ⟨F14, PySem.W.mg_of X G a14, b14⟩
  have F15 := fun_mk (st := sCont) l15 c15 k15
  have b15 := F15.binds (ps := ["player", "later", "discounts", "extra"]) fun _ _ _ _ _ _ us hl => match us, hl with | [_, _, _, _], _ => rfl
  have D15 : Def K mg "continuation_value" sCont ["player", "later", "discounts", "extra"] f15 _ := ⟨F15, PySem.W.mg_of X G a15, b15⟩
  have F16 := fun_mk (st := sLeave) l16 c16 k16
  have b16 := F16.binds (ps := ["responder", "later", "discounts", "extra"]) fun _ _ _ _ _ _ us hl => match us, hl with | [_, _, _, _], _ => rfl
  have D16 : Def K mg "does_leave" sLeave ["responder", "later", "discounts", "extra"] f16 _ := ⟨F16, PySem.W.mg_of X G a16, b16⟩
  have F17 := fun_mk (st := sResp) l17 c17 k17
  have b17 := F17.binds (ps := ["responder", "later", "discounts", "extra"]) fun _ _ _ _ _ _ us hl => match us, hl with | [_, _, _, _], _ => rfl
  have D17 : Def K mg "responder_payoff" sResp ["responder", "later", "discounts", "extra"] f17 _ := ⟨F17, PySem.W.mg_of X G a17, b17⟩
  have F18 := fun_mk (st := sRej) l18 c18 k18
  have b18 := F18.binds (ps := ["proposer", "later", "discounts", "extra"]) fun _ _ _ _ _ _ us hl => match us, hl with | [_, _, _, _], _ => rfl
  have D18 : Def K mg "rejection_payoff" sRej ["proposer", "later", "discounts", "extra"] f18 _ := ⟨F18, PySem.W.mg_of X G a18, b18⟩
  have F19 := fun_mk (st := sAgr) l19 c19 k19
  have b19 := F19.binds (ps := ["amount", "proposer", "later", "discounts", "extra"]) fun _ _ _ _ _ _ us hl => match us, hl with | [_, _, _, _, _], _ => rfl
  have D19 : Def K mg "agreement_payoff" sAgr ["amount", "proposer", "later", "discounts", "extra"] f19 _ := ⟨F19, PySem.W.mg_of X G a19, b19⟩
  have F20 := fun_mk (st := sIs) l20 c20 k20
  have b20 := F20.binds (ps := ["amount", "proposer", "later", "discounts", "extra"]) fun _ _ _ _ _ _ us hl => match us, hl with | [_, _, _, _, _], _ => rfl
  have D20 : Def K mg "is_agreement" sIs ["amount", "proposer", "later", "discounts", "extra"] f20 _ := ⟨F20, PySem.W.mg_of X G a20, b20⟩
  have F21 := fun_mk (st := sOwn) l21 c21 k21
  have b21 := F21.binds (ps := ["amount", "proposer", "later", "discounts", "extra"]) fun _ _ _ _ _ _ us hl => match us, hl with | [_, _, _, _, _], _ => rfl
  have D21 : Def K mg "proposer_payoff" sOwn ["amount", "proposer", "later", "discounts", "extra"] f21 _ := ⟨F21, PySem.W.mg_of X G a21, b21⟩
  have F22 := fun_mk (st := sRound) l22 c22 k22
  have b22 := F22.binds (ps := ["amount", "proposer", "later", "discounts", "extra"]) fun _ _ _ _ _ _ us hl => match us, hl with | [_, _, _, _, _], _ => rfl
  have D22 : Def K mg "round_payoffs" sRound ["amount", "proposer", "later", "discounts", "extra"] f22 _ := ⟨F22, PySem.W.mg_of X G a22, b22⟩
  have F23 := fun_mk (st := sFrom) l23 c23 k23
  have b23 := F23.binds (ps := ["amount", "the_round", "proposers", "discounts", "final", "extra"]) fun _ _ _ _ _ _ us hl => match us, hl with | [_, _, _, _, _, _], _ => rfl
  have D23 : Def K mg "payoffs_from" sFrom ["amount", "the_round", "proposers", "discounts", "final", "extra"] f23 _ := ⟨F23, PySem.W.mg_of X G a23, b23⟩
  have F24 := fun_mk (st := sAns) l24 c24 k24
  have b24 := F24.binds (ps := ["values"]) fun _ _ _ _ _ _ us hl => match us, hl with | [_], _ => rfl
  have D24 : Def K mg "answer_with" sAns ["values"] f24 _ := ⟨F24, PySem.W.mg_of X G a24, b24⟩
  have F25 := fun_mk (st := sMain) l25 c25 k25
  have L : Lim mg := ⟨⟨_, PySem.W.mg_of X G cn0⟩, ⟨_, PySem.W.mg_of X G cn1⟩, ⟨_, PySem.W.mg_of X G cn2⟩, ⟨_, PySem.W.mg_of X G cn3⟩, PySem.W.mg_none_of X G z0, PySem.W.mg_none_of X G z1⟩
  refine ⟨PySem.W.fnOf "value_of_outside_option" "value_of_outside_option" (defArgs sMain) (defBody sMain) (defScope sMain) .none kV25 dc25 pm25 an25 cd25 ct25, fun s us hu => match us, hu with | [_, _, _, _, _, _, _], _ => .of_eq rfl, fun base _ _ => ?_⟩
  have GN := ok_neg (P := P) (w := w) (base := base) F10 L D5 D6 D7 D8 D9
  have GRf := ok_ref (P := P) (w := w) (base := base) F11 L.len D10 GN
  have GLw := ok_low (P := P) (w := w) (base := base) F1 D0
  have GC := ok_cont (P := P) (w := w) (base := base) F15 D1 GLw
  have S : Defs P w K mg base f2 f12 f14 f15 _ _ _ _ := ⟨D2, D12, D14, D15, GC⟩
  have GL := ok_leave (P := P) (w := w) (base := base) F16 S
  have GRs := ok_resp (P := P) (w := w) (base := base) F17 S D16
  have GJ := ok_rej (P := P) (w := w) (base := base) F18 S D16
  have GA := ok_agr (P := P) (w := w) (base := base) F19 D17 GRs D3
  have GI := ok_is (P := P) (w := w) (base := base) F20 D2 D18 GJ D19 GA
  have GP := ok_own (P := P) (w := w) (base := base) F21 D20 GI D18 GJ D19 GA
  have GRd := ok_round (P := P) (w := w) (base := base) F22 D21 GP D17 GRs
  have GF := ok_from (P := P) (w := w) (base := base) F23 D22 GRd (PySem.W.mg_none_of X G z2)
  have GSb := ok_sub (P := P) (w := w) (base := base) F4 D1 GLw
  exact ok_main F25 D11 GRf D23 GF D13 (PySem.W.mg_none_of X G z3) D4 GSb D24
/-! ### the request -/
theorem nat_ints : ∀ {ns : List Int}, ns.all (PySem.W.Codec.inInt 0 4294967295) = true → ns.map V.int = nvs (ns.map Int.toNat)
  | [], _ => rfl
  | n :: r, h => by
    rw [List.all_cons, Bool.and_eq_true] at h
    have ih := nat_ints h.2
    have h0 := (PySem.W.Codec.inInt_iff.mp h.1).1
    show V.int n :: r.map V.int = nv n.toNat :: nvs (r.map Int.toNat)
    rw [ih]
    congr 2
    omega
theorem nat_int {n : Int} (h : PySem.W.Codec.inInt 0 4294967295 n = true) : V.int n = nv n.toNat := by
  have h0 := (PySem.W.Codec.inInt_iff.mp h).1
  congr 1
  omega
end Pr
open PySem PySem.W PyProof.Rows
set_option maxRecDepth 100000 in
set_option maxHeartbeats 8000000 in
theorem PySem.Challenge.cw_leaveoffers_s06_value_of_outside_option_holds : PySem.Challenge.rw_leaveoffers_s06_value_of_outside_option.Holds := by
  w_on; k_headS; (case hw => exact ⟨[.int 0, .int 0, .int 0, .list [], .list [], .list [], .list []], by decide +kernel, by decide +kernel⟩)
  k_fillS
  refine L2.walk_specK (r := PySem.Challenge.rw_leaveoffers_s06_value_of_outside_option) (k := 11) (CX := L2.CX0) (ps := ["amount", "the_round", "player", "proposers", "discounts", "final", "extra"]) (sp := Pr.spMain) (by decide +kernel) rfl rfl ⟨rfl, by decide, by decide⟩ (fun w h Y => PySem.W.kIn_of Y) ?F ?S (fun _ _ _ _ z => z)
  case F =>
    intro w mg fa h Y KX G hmg
    refine' Pr.all_mk KX G hmg ?a0 ?l0 ?c0 ?k0 ?a1 ?l1 ?c1 ?k1 ?a2 ?l2 ?c2 ?k2 ?a3 ?l3 ?c3 ?k3 ?a4 ?l4 ?c4 ?k4 ?a5 ?l5 ?c5 ?k5 ?a6 ?l6 ?c6 ?k6 ?a7 ?l7 ?c7 ?k7 ?a8 ?l8 ?c8 ?k8 ?a9 ?l9 ?c9 ?k9 ?a10 ?l10 ?c10 ?k10 ?a11 ?l11 ?c11 ?k11 ?a12 ?l12 ?c12 ?k12 ?a13 ?l13 ?c13 ?k13 ?a14 ?l14 ?c14 ?k14 ?a15 ?l15 ?c15 ?k15 ?a16 ?l16 ?c16 ?k16 ?a17 ?l17 ?c17 ?k17 ?a18 ?l18 ?c18 ?k18 ?a19 ?l19 ?c19 ?k19 ?a20 ?l20 ?c20 ?k20 ?a21 ?l21 ?c21 ?k21 ?a22 ?l22 ?c22 ?k22 ?a23 ?l23 ?c23 ?k23 ?a24 ?l24 ?c24 ?k24 ?a25 ?l25 ?c25 ?k25 ?cn0 ?cn1 ?cn2 ?cn3 ?z0 ?z1 ?z2 ?z3
    (case a0 => k_is); (case l0 => k_is); (case c0 => k_is); (case k0 => k_is); (case a1 => k_is); (case l1 => k_is); (case c1 => k_is); (case k1 => k_is); (case a2 => k_is); (case l2 => k_is); (case c2 => k_is); (case k2 => k_is); (case a3 => k_is); (case l3 => k_is); (case c3 => k_is); (case k3 => k_is); (case a4 => k_is); (case l4 => k_is); (case c4 => k_is); (case k4 => k_is); (case a5 => k_is); (case l5 => k_is); (case c5 => k_is); (case k5 => k_is); (case a6 => k_is); (case l6 => k_is); (case c6 => k_is); (case k6 => k_is); (case a7 => k_is); (case l7 => k_is); (case c7 => k_is); (case k7 => k_is); (case a8 => k_is); (case l8 => k_is); (case c8 => k_is); (case k8 => k_is); (case a9 => k_is); (case l9 => k_is); (case c9 => k_is); (case k9 => k_is); (case a10 => k_is); (case l10 => k_is); (case c10 => k_is); (case k10 => k_is); (case a11 => k_is); (case l11 => k_is); (case c11 => k_is); (case k11 => k_is); (case a12 => k_is); (case l12 => k_is); (case c12 => k_is); (case k12 => k_is); (case a13 => k_is); (case l13 => k_is); (case c13 => k_is); (case k13 => k_is); (case a14 => k_is); (case l14 => k_is); (case c14 => k_is); (case k14 => k_is); (case a15 => k_is); (case l15 => k_is); (case c15 => k_is); (case k15 => k_is); (case a16 => k_is); (case l16 => k_is); (case c16 => k_is); (case k16 => k_is); (case a17 => k_is); (case l17 => k_is); (case c17 => k_is); (case k17 => k_is); (case a18 => k_is); (case l18 => k_is); (case c18 => k_is); (case k18 => k_is); (case a19 => k_is); (case l19 => k_is); (case c19 => k_is); (case k19 => k_is); (case a20 => k_is); (case l20 => k_is); (case c20 => k_is); (case k20 => k_is); (case a21 => k_is); (case l21 => k_is); (case c21 => k_is); (case k21 => k_is); (case a22 => k_is); (case l22 => k_is); (case c22 => k_is); (case k22 => k_is); (case a23 => k_is); (case l23 => k_is); (case c23 => k_is); (case k23 => k_is); (case a24 => k_is); (case l24 => k_is); (case c24 => k_is); (case k24 => k_is); (case a25 => k_is); (case l25 => k_is); (case c25 => k_is); (case k25 => k_is); (case cn0 => k_is); (case cn1 => k_is); (case cn2 => k_is); (case cn3 => k_is); (case z0 => k_is); (case z1 => k_is); (case z2 => k_is); (case z3 => k_is)
  case S =>
    intro K H xs a hO hwi hask hx
    obtain ⟨x0, x1, x2, x3, x4, x5, x6, u⟩ := a
    have q : (Codec.inInt 0 4294967295 x0 && (Codec.inInt 0 4294967295 x1 && (Codec.inInt 0 4294967295 x2 && ((Codec.inLen 0 14 x3 && x3.all (Codec.inInt 0 4294967295)) && ((Codec.inLen 0 6 x4 && x4.all (Codec.inInt 0 4294967295)) && ((Codec.inLen 0 4 x5 && x5.all (Codec.inInt 0 4294967295)) && ((Codec.inLen 0 10 x6 && x6.all (Codec.inInt 0 4294967295)) && true))))))) = true := hwi
    simp only [Bool.and_eq_true] at q
    obtain ⟨q0, q1, q2, ⟨m3, q3⟩, ⟨m4, q4⟩, ⟨m5, q5⟩, ⟨m6, q6⟩, _⟩ := q
    cases hx with
    | cons h0 hx => cases hx with
    | cons h1 hx => cases hx with
    | cons h2 hx => cases hx with
    | cons h3 hx => cases hx with
    | cons h4 hx => cases hx with
    | cons h5 hx => cases hx with
    | cons h6 hx =>
      cases hx
      cases h0
      cases h1
      cases h2
      cases h3 with
      | lst s3 a3 => cases h4 with
      | lst s4 a4 => cases h5 with
      | lst s5 a5 => cases h6 with
      | lst s6 a6 =>
        have e3 := L2.ints_dw x3 _ a3
        rw [Pr.nat_ints q3] at e3
        have e4 := L2.ints_dw x4 _ a4
        rw [Pr.nat_ints q4] at e4
        have e5 := L2.ints_dw x5 _ a5
        rw [Pr.nat_ints q5] at e5
        have e6 := L2.ints_dw x6 _ a6
        rw [Pr.nat_ints q6] at e6
        subst e3 e4 e5 e6
        have l3 := (Codec.inNat_iff.mp m3).2
        have l5 := (Codec.inNat_iff.mp m5).2
        refine ⟨x0.toNat, x1.toNat, x2.toNat, x3.map Int.toNat, x4.map Int.toNat, x5.map Int.toNat, x6.map Int.toNat, _, _, _, _, ?_, ⟨s3, s4, s5, s6, ?_, ?_⟩, fun H' p hp => .lst (L2.SqL.of hp) (L2.dw_ints _)⟩
        · rw [← Pr.nat_int q0, ← Pr.nat_int q1, ← Pr.nat_int q2]
        · rw [List.length_map]
          omega
        · rw [List.length_map]
          omega
#print axioms PySem.Challenge.cw_leaveoffers_s06_value_of_outside_option_holds
