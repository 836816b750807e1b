import PyProof.Rows.All
import Wide.All
import OpenK.AllK
import Wide.FinOn
import HandS.ForMost
import HandS.ForExc
import HandS.Flow
import HandS.Style
import HandS.Wide
import HandS.Property
import HandS.Star
import HandS.MakeKw
import HandS.MakeKwOnly
import HandS.OwnEq
import HandS.IsInst
import HandS.Defaults
import HandS.TryOnly
import HandS.NoneIn
import HandS.Lambda
import HandS.EndTab
import HandS.EndOwn
import HandS.ExcOwn
import HandS.ExcIs
import HandS.ExcInit
import HandS.ExcField
import KE.KDflt
import PySem.Challenge.RW_copyarms_k15_arms_and_their_poles
set_option Elab.async false
set_option linter.all false
set_option maxRecDepth 100000
set_option maxHeartbeats 4000000
set_option exponentiation.threshold 100000
namespace Mth
/-! ### numbers of two parts, in lowest terms -/
abbrev T3 := Int × Int × Int
def g3 (x y d : Int) : Int := ((Int.gcd ((Int.gcd x y : Nat) : Int) d : Nat) : Int)
def sg (x y d : Int) : Int := if d < 0 then -(g3 x y d) else g3 x y d
def low (x y d : Int) : T3 := (x.fdiv (sg x y d), y.fdiv (sg x y d), d.fdiv (sg x y d))
def Ok (s : T3) : Prop := 0 < s.2.2 ∧ g3 s.1 s.2.1 s.2.2 = 1
def re (s : T3) : Rat := (s.1 : Rat) / (s.2.2 : Rat)
def im (s : T3) : Rat := (s.2.1 : Rat) / (s.2.2 : Rat)
theorem g3_pos {x y d : Int} (hd : d ≠ 0) : 0 < g3 x y d := by
  unfold g3
  have : 0 < Int.gcd ((Int.gcd x y : Nat) : Int) d := Int.gcd_pos_of_ne_zero_right _ hd
  omega
theorem g3_dx {x y d : Int} : g3 x y d ∣ x := Int.dvd_trans (Int.gcd_dvd_left _ _) (Int.gcd_dvd_left _ _)
theorem g3_dy {x y d : Int} : g3 x y d ∣ y := Int.dvd_trans (Int.gcd_dvd_left _ _) (Int.gcd_dvd_right _ _)
theorem g3_dd {x y d : Int} : g3 x y d ∣ d := Int.gcd_dvd_right _ _
theorem g3_great {x y d c : Int} (h1 : c ∣ x) (h2 : c ∣ y) (h3 : c ∣ d) : c ∣ g3 x y d := Int.dvd_coe_gcd (Int.dvd_coe_gcd h1 h2) h3
theorem sg_ne {x y d : Int} (hd : d ≠ 0) : sg x y d ≠ 0 := by
  have := g3_pos (x := x) (y := y) hd
  unfold sg; split <;> omega
theorem sg_of {x y d : Int} : sg x y d = g3 x y d ∨ sg x y d = -g3 x y d := by unfold sg; split <;> simp
theorem sg_dx {x y d : Int} : sg x y d ∣ x := by rcases @sg_of x y d with h | h <;> rw [h]; exact g3_dx; exact Int.neg_dvd.mpr g3_dx
theorem sg_dy {x y d : Int} : sg x y d ∣ y := by rcases @sg_of x y d with h | h <;> rw [h]; exact g3_dy; exact Int.neg_dvd.mpr g3_dy
theorem sg_dd {x y d : Int} : sg x y d ∣ d := by rcases @sg_of x y d with h | h <;> rw [h]; exact g3_dd; exact Int.neg_dvd.mpr g3_dd
/-- the three parts, times the divisor -/
theorem low_mul (x y d : Int) : x = sg x y d * (low x y d).1 ∧ y = sg x y d * (low x y d).2.1 ∧ d = sg x y d * (low x y d).2.2 := by
  unfold low
  refine ⟨?_, ?_, ?_⟩ <;> dsimp only
  · rw [Int.fdiv_eq_ediv_of_dvd sg_dx]; exact (Int.mul_ediv_cancel' sg_dx).symm
  · rw [Int.fdiv_eq_ediv_of_dvd sg_dy]; exact (Int.mul_ediv_cancel' sg_dy).symm
  · rw [Int.fdiv_eq_ediv_of_dvd sg_dd]; exact (Int.mul_ediv_cancel' sg_dd).symm
theorem low_pos {x y d : Int} (hd : d ≠ 0) : 0 < (low x y d).2.2 := by
  have h := (low_mul x y d).2.2
  have hg := g3_pos (x := x) (y := y) hd
  generalize (low x y d).2.2 = z at h ⊢
  unfold sg at h
  rcases Int.lt_trichotomy z 0 with hz | hz | hz
  · exfalso
    split at h
    · have : 0 < (g3 x y d) * (-z) := Int.mul_pos hg (by omega)
      have e : g3 x y d * -z = - g3 x y d * z := by grind
      omega
    · have : 0 < (g3 x y d) * (-z) := Int.mul_pos hg (by omega)
      have e : g3 x y d * -z = - (g3 x y d * z) := by grind
      omega
  · subst hz; simp at h; exact absurd h hd
  · exact hz
theorem low_ok {x y d : Int} (hd : d ≠ 0) : Ok (low x y d) := by
  refine ⟨low_pos hd, ?_⟩
  obtain ⟨h1, h2, h3⟩ := low_mul x y d
  have hs := sg_ne (x := x) (y := y) hd
  have hp := low_pos (x := x) (y := y) hd
  generalize (low x y d).1 = a at *
  generalize (low x y d).2.1 = b at *
  generalize (low x y d).2.2 = c at *
  have hg := g3_pos (x := a) (y := b) (d := c) (by omega)
  have k1 : sg x y d * g3 a b c ∣ x := by
    obtain ⟨u, hu⟩ := @g3_dx a b c
    exact ⟨u, by rw [Int.mul_assoc, ← hu, ← h1]⟩
  have k2 : sg x y d * g3 a b c ∣ y := by
    obtain ⟨u, hu⟩ := @g3_dy a b c
    exact ⟨u, by rw [Int.mul_assoc, ← hu, ← h2]⟩
  have k3 : sg x y d * g3 a b c ∣ d := by
    obtain ⟨u, hu⟩ := @g3_dd a b c
    exact ⟨u, by rw [Int.mul_assoc, ← hu, ← h3]⟩
  have k := g3_great k1 k2 k3
  have k' : sg x y d * g3 a b c ∣ sg x y d := by
    rcases @sg_of x y d with h | h
    · rw [h] at k ⊢; exact k
    · rw [h]; rw [h] at k; exact (Int.dvd_neg).mpr k
  obtain ⟨u, hu⟩ := k'
  have e : g3 a b c * u = 1 := by
    have : sg x y d * (g3 a b c * u) = sg x y d * 1 := by rw [← Int.mul_assoc, ← hu, Int.mul_one]
    exact Int.eq_of_mul_eq_mul_left hs this
  exact Int.eq_one_of_dvd_one (by omega) ⟨u, e.symm⟩
theorem cast_ne {d : Int} (h : d ≠ 0) : (d : Rat) ≠ 0 := by simpa using h
theorem low_re {x y d : Int} (hd : d ≠ 0) : re (low x y d) = (x : Rat) / (d : Rat) := by
  obtain ⟨h1, h2, h3⟩ := low_mul x y d
  have hs := cast_ne (sg_ne (x := x) (y := y) hd)
  have hp := cast_ne (show (low x y d).2.2 ≠ 0 by have := low_pos (x := x) (y := y) hd; omega)
  unfold re
  have e1 : (x : Rat) = (sg x y d : Rat) * ((low x y d).1 : Rat) := by rw [← Rat.intCast_mul, ← h1]
  have e3 : (d : Rat) = (sg x y d : Rat) * ((low x y d).2.2 : Rat) := by rw [← Rat.intCast_mul, ← h3]
  generalize (sg x y d : Rat) = s at *
  generalize ((low x y d).1 : Rat) = a at *
  generalize ((low x y d).2.2 : Rat) = c at *
  grind
theorem low_im {x y d : Int} (hd : d ≠ 0) : im (low x y d) = (y : Rat) / (d : Rat) := by
  obtain ⟨h1, h2, h3⟩ := low_mul x y d
  have hs := cast_ne (sg_ne (x := x) (y := y) hd)
  have hp := cast_ne (show (low x y d).2.2 ≠ 0 by have := low_pos (x := x) (y := y) hd; omega)
  unfold im
  have e1 : (y : Rat) = (sg x y d : Rat) * ((low x y d).2.1 : Rat) := by rw [← Rat.intCast_mul, ← h2]
  have e3 : (d : Rat) = (sg x y d : Rat) * ((low x y d).2.2 : Rat) := by rw [← Rat.intCast_mul, ← h3]
  generalize (sg x y d : Rat) = s at *
  generalize ((low x y d).2.1 : Rat) = a at *
  generalize ((low x y d).2.2 : Rat) = c at *
  grind
theorem div_eq {a b c d : Int} (hb : b ≠ 0) (hd : d ≠ 0) (h : (a : Rat) / (b : Rat) = (c : Rat) / (d : Rat)) : a * d = c * b := by
  have h1 := cast_ne hb
  have h2 := cast_ne hd
  have : (a : Rat) * (d : Rat) = (c : Rat) * (b : Rat) := by grind
  rw [← Rat.intCast_mul, ← Rat.intCast_mul] at this
  exact Rat.intCast_inj.mp this
theorem dvd_of {s t : T3} (hs : Ok s) (ht : Ok t) (h1 : s.1 * t.2.2 = t.1 * s.2.2) (h2 : s.2.1 * t.2.2 = t.2.1 * s.2.2) : s.2.2 ∣ t.2.2 := by
  have a : s.2.2 ∣ s.1 * t.2.2 := ⟨t.1, by rw [h1, Int.mul_comm]⟩
  have b : s.2.2 ∣ s.2.1 * t.2.2 := ⟨t.2.1, by rw [h2, Int.mul_comm]⟩
  have c := Int.dvd_coe_gcd a b
  rw [Int.gcd_mul_right] at c
  have d : s.2.2 ∣ s.2.2 * ((t.2.2.natAbs : Nat) : Int) := ⟨_, rfl⟩
  have c' : s.2.2 ∣ ((Int.gcd s.1 s.2.1 : Nat) : Int) * ((t.2.2.natAbs : Nat) : Int) := by rw [← Int.natCast_mul]; exact c
  have e := Int.dvd_coe_gcd c' d
  rw [Int.gcd_mul_right] at e
  have g := hs.2
  unfold g3 at g
  have g' : Int.gcd ((Int.gcd s.1 s.2.1 : Nat) : Int) s.2.2 = 1 := by omega
  rw [g'] at e
  have ht2 := ht.1
  have e2 : (((1 * ((t.2.2.natAbs : Nat) : Int).natAbs : Nat)) : Int) = t.2.2 := by omega
  rw [e2] at e
  exact e
theorem ext {s t : T3} (hs : Ok s) (ht : Ok t) (h1 : re s = re t) (h2 : im s = im t) : s = t := by
  have ps := hs.1
  have pt := ht.1
  have e1 := div_eq (by omega) (by omega) h1
  have e2 := div_eq (by omega) (by omega) h2
  have d1 := dvd_of hs ht e1 e2
  have d2 := dvd_of ht hs e1.symm e2.symm
  have e3 : s.2.2 = t.2.2 := Int.le_antisymm (Int.le_of_dvd pt d1) (Int.le_of_dvd ps d2)
  obtain ⟨a, b, c⟩ := s
  obtain ⟨u, v, w⟩ := t
  dsimp only at *
  subst e3
  have q1 := Int.eq_of_mul_eq_mul_right (by omega) e1
  have q2 := Int.eq_of_mul_eq_mul_right (by omega) e2
  rw [q1, q2]
/-! ### reckoning -/
def plus (a b : T3) : T3 := low (a.1 * b.2.2 + b.1 * a.2.2) (a.2.1 * b.2.2 + b.2.1 * a.2.2) (a.2.2 * b.2.2)
def times (a b : T3) : T3 := low (a.1 * b.1 - a.2.1 * b.2.1) (a.1 * b.2.1 + a.2.1 * b.1) (a.2.2 * b.2.2)
def over (a : T3) : T3 := (a.1, -a.2.1, a.2.2)
def neg (a : T3) : T3 := (-a.1, -a.2.1, a.2.2)
def inv (a : T3) : T3 := low (a.1 * a.2.2) (-a.2.1 * a.2.2) (a.1 * a.1 + a.2.1 * a.2.1)
def face (a : T3) (m : Bool) : T3 := if m = true then over a else a
def car (t s : T3) (m : Bool) (z : T3) : T3 := plus (times t (face z m)) s
theorem Ok.ne {a : T3} (h : Ok a) : a.2.2 ≠ 0 := by have := h.1; omega
theorem mul_ne {a b : Int} (ha : a ≠ 0) (hb : b ≠ 0) : a * b ≠ 0 := fun h => (Int.mul_eq_zero.mp h).elim ha hb
theorem plus_ok {a b : T3} (ha : Ok a) (hb : Ok b) : Ok (plus a b) := low_ok (mul_ne ha.ne hb.ne)
theorem times_ok {a b : T3} (ha : Ok a) (hb : Ok b) : Ok (times a b) := low_ok (mul_ne ha.ne hb.ne)
theorem over_ok {a : T3} (ha : Ok a) : Ok (over a) := by
  refine ⟨ha.1, ?_⟩
  have h := ha.2
  unfold g3 over at *
  dsimp only at *
  rw [Int.gcd_neg]; exact h
theorem neg_ok {a : T3} (ha : Ok a) : Ok (neg a) := by
  refine ⟨ha.1, ?_⟩
  have h := ha.2
  unfold g3 neg at *
  dsimp only at *
  rw [Int.gcd_neg, Int.neg_gcd]; exact h
theorem face_ok {a : T3} (ha : Ok a) (m : Bool) : Ok (face a m) := by
  unfold face; split
  · exact over_ok ha
  · exact ha
theorem car_ok {t s z : T3} {m : Bool} (ht : Ok t) (hs : Ok s) (hz : Ok z) : Ok (car t s m z) := plus_ok (times_ok ht (face_ok hz m)) hs
def Nz (a : T3) : Prop := a.1 ≠ 0 ∨ a.2.1 ≠ 0
theorem sq_ne {a : T3} (h : Nz a) : a.1 * a.1 + a.2.1 * a.2.1 ≠ 0 := by
  have h1 : 0 ≤ a.1 * a.1 := by rcases Int.le_total 0 a.1 with h | h; exact Int.mul_nonneg h h; exact Int.mul_nonneg_of_nonpos_of_nonpos h h
  have h2 : 0 ≤ a.2.1 * a.2.1 := by rcases Int.le_total 0 a.2.1 with h | h; exact Int.mul_nonneg h h; exact Int.mul_nonneg_of_nonpos_of_nonpos h h
  rcases h with h | h
  · have := mul_ne h h; omega
  · have := mul_ne h h; omega
theorem inv_ok {a : T3} (h : Nz a) : Ok (inv a) := low_ok (sq_ne h)
theorem re_plus {a b : T3} (ha : Ok a) (hb : Ok b) : re (plus a b) = re a + re b := by
  unfold plus
  rw [low_re (mul_ne ha.ne hb.ne)]
  have h1 := cast_ne ha.ne
  have h2 := cast_ne hb.ne
  unfold re
  simp only [Rat.intCast_add, Rat.intCast_mul]
  grind
theorem im_plus {a b : T3} (ha : Ok a) (hb : Ok b) : im (plus a b) = im a + im b := by
  unfold plus
  rw [low_im (mul_ne ha.ne hb.ne)]
  have h1 := cast_ne ha.ne
  have h2 := cast_ne hb.ne
  unfold im
  simp only [Rat.intCast_add, Rat.intCast_mul]
  grind
theorem re_times {a b : T3} (ha : Ok a) (hb : Ok b) : re (times a b) = re a * re b - im a * im b := by
  unfold times
  rw [low_re (mul_ne ha.ne hb.ne)]
  have h1 := cast_ne ha.ne
  have h2 := cast_ne hb.ne
  unfold re im
  simp only [Rat.intCast_sub, Rat.intCast_mul]
  grind
theorem im_times {a b : T3} (ha : Ok a) (hb : Ok b) : im (times a b) = re a * im b + im a * re b := by
  unfold times
  rw [low_im (mul_ne ha.ne hb.ne)]
  have h1 := cast_ne ha.ne
  have h2 := cast_ne hb.ne
  unfold re im
  simp only [Rat.intCast_add, Rat.intCast_mul]
  grind
theorem re_over (a : T3) : re (over a) = re a := rfl
theorem im_over (a : T3) : im (over a) = - im a := by
  unfold im over
  simp only [Rat.intCast_neg]
  grind
theorem re_neg (a : T3) : re (neg a) = - re a := by
  unfold re neg
  simp only [Rat.intCast_neg]
  grind
theorem im_neg (a : T3) : im (neg a) = - im a := by
  unfold im neg
  simp only [Rat.intCast_neg]
  grind
theorem re_face (a : T3) (m : Bool) : re (face a m) = re a := by
  unfold face; split <;> first | exact re_over a | rfl
theorem im_face (a : T3) (m : Bool) : im (face a m) = (if m = true then -1 else 1) * im a := by
  unfold face; split
  · rw [im_over]; grind
  · grind
/-- the square of the size -/
def nn (a : T3) : Rat := re a * re a + im a * im a
theorem nn_eq {a : T3} (ha : Ok a) : nn a * ((a.2.2 : Rat) * (a.2.2 : Rat)) = ((a.1 * a.1 + a.2.1 * a.2.1 : Int) : Rat) := by
  have h1 := cast_ne ha.ne
  unfold nn re im
  simp only [Rat.intCast_add, Rat.intCast_mul]
  grind
theorem nn_ne {a : T3} (ha : Ok a) (h : Nz a) : nn a ≠ 0 := by
  intro e
  have q := nn_eq ha
  rw [e] at q
  have : ((a.1 * a.1 + a.2.1 * a.2.1 : Int) : Rat) = 0 := by rw [← q]; grind
  exact cast_ne (sq_ne h) this
theorem re_inv {a : T3} (ha : Ok a) (h : Nz a) : re (inv a) = re a / nn a := by
  have q := nn_eq ha
  have n := nn_ne ha h
  have h1 := cast_ne ha.ne
  have h2 := cast_ne (sq_ne h)
  unfold inv
  rw [low_re (sq_ne h), ← q]
  unfold re
  simp only [Rat.intCast_mul]
  rw [← q] at h2
  generalize nn a = k at *
  grind
theorem im_inv {a : T3} (ha : Ok a) (h : Nz a) : im (inv a) = - im a / nn a := by
  have q := nn_eq ha
  have n := nn_ne ha h
  have h1 := cast_ne ha.ne
  have h2 := cast_ne (sq_ne h)
  unfold inv
  rw [low_im (sq_ne h), ← q]
  unfold im
  simp only [Rat.intCast_mul, Rat.intCast_neg]
  rw [← q] at h2
  generalize nn a = k at *
  grind
theorem nz_iff {a : T3} (ha : Ok a) : Nz a ↔ nn a ≠ 0 := by
  refine ⟨nn_ne ha, fun h => ?_⟩
  by_cases h1 : a.1 = 0
  · by_cases h2 : a.2.1 = 0
    · exfalso; apply h; unfold nn re im; rw [h1, h2]; grind
    · exact .inr h2
  · exact .inl h1
theorem nn_times {a b : T3} (ha : Ok a) (hb : Ok b) : nn (times a b) = nn a * nn b := by
  unfold nn; rw [re_times ha hb, im_times ha hb]; grind
theorem nn_face (a : T3) (m : Bool) : nn (face a m) = nn a := by
  unfold nn; rw [re_face, im_face]; split <;> grind
theorem nn_inv {a : T3} (ha : Ok a) (h : Nz a) : nn (inv a) = 1 / nn a := by
  have n := nn_ne ha h
  have e : nn (inv a) = (re a / nn a) * (re a / nn a) + (- im a / nn a) * (- im a / nn a) := by
    rw [← re_inv ha h, ← im_inv ha h]; rfl
  rw [e]
  have q : nn a = re a * re a + im a * im a := rfl
  generalize nn a = k at *
  grind
theorem times_nz {a b : T3} (ha : Ok a) (hb : Ok b) (na : Nz a) (nb : Nz b) : Nz (times a b) := (nz_iff (times_ok ha hb)).mpr (by
  rw [nn_times ha hb]
  have := nn_ne ha na
  have := nn_ne hb nb
  grind)
theorem face_nz {a : T3} (ha : Ok a) (na : Nz a) (m : Bool) : Nz (face a m) := (nz_iff (face_ok ha m)).mpr (by rw [nn_face]; exact nn_ne ha na)
theorem inv_nz {a : T3} (ha : Ok a) (na : Nz a) : Nz (inv a) := (nz_iff (inv_ok na)).mpr (by
  rw [nn_inv ha na]
  have := nn_ne ha na
  grind)
/-! ### copies -/
structure Cp where
  t : T3
  s : T3
  m : Bool
  deriving DecidableEq
structure CpOk (c : Cp) : Prop where
  t : Ok c.t
  n : Nz c.t
  s : Ok c.s
def ap (c : Cp) (z : T3) : T3 := car c.t c.s c.m z
def jn (a b : Cp) : Cp := ⟨times b.t (face a.t b.m), car b.t b.s b.m a.s, a.m != b.m⟩
def bk (c : Cp) : Cp := ⟨face (inv c.t) c.m, face (neg (times (inv c.t) c.s)) c.m, c.m⟩
def still : Cp := ⟨(1, 0, 1), (0, 0, 1), false⟩
theorem still_ok : CpOk still := ⟨⟨by decide, by decide⟩, .inl (by decide), ⟨by decide, by decide⟩⟩
theorem jn_ok {a b : Cp} (ha : CpOk a) (hb : CpOk b) : CpOk (jn a b) :=
  ⟨times_ok hb.t (face_ok ha.t _), times_nz hb.t (face_ok ha.t _) hb.n (face_nz ha.t ha.n _), car_ok hb.t hb.s ha.s⟩
theorem bk_ok {c : Cp} (h : CpOk c) : CpOk (bk c) :=
  ⟨face_ok (inv_ok h.n) _, face_nz (inv_ok h.n) (inv_nz h.t h.n) _, face_ok (neg_ok (times_ok (inv_ok h.n) h.s)) _⟩
theorem re_car {t s z : T3} {m : Bool} (ht : Ok t) (hs : Ok s) (hz : Ok z) : re (car t s m z) = re t * re z - im t * ((if m = true then -1 else 1) * im z) + re s := by
  unfold car
  rw [re_plus (times_ok ht (face_ok hz m)) hs, re_times ht (face_ok hz m), re_face, im_face]
theorem im_car {t s z : T3} {m : Bool} (ht : Ok t) (hs : Ok s) (hz : Ok z) : im (car t s m z) = re t * ((if m = true then -1 else 1) * im z) + im t * re z + im s := by
  unfold car
  rw [im_plus (times_ok ht (face_ok hz m)) hs, im_times ht (face_ok hz m), re_face, im_face]
theorem ap_ok {c : Cp} {z : T3} (h : CpOk c) (hz : Ok z) : Ok (ap c z) := car_ok h.t h.s hz
theorem jn_ap {a b : Cp} (ha : CpOk a) (hb : CpOk b) {z : T3} (hz : Ok z) : ap (jn a b) z = ap b (ap a z) := by
  have hj := jn_ok ha hb
  refine ext (ap_ok hj hz) (ap_ok hb (ap_ok ha hz)) ?_ ?_
  · unfold ap
    rw [re_car hj.t hj.s hz, re_car hb.t hb.s (car_ok ha.t ha.s hz), re_car ha.t ha.s hz, im_car ha.t ha.s hz]
    show re (times b.t (face a.t b.m)) * re z - im (times b.t (face a.t b.m)) * ((if (a.m != b.m) = true then -1 else 1) * im z) + re (car b.t b.s b.m a.s) = _
    rw [re_times hb.t (face_ok ha.t _), im_times hb.t (face_ok ha.t _), re_face, im_face, re_car hb.t hb.s ha.s]
    cases a.m <;> cases b.m <;> simp <;> grind
  · unfold ap
    rw [im_car hj.t hj.s hz, im_car hb.t hb.s (car_ok ha.t ha.s hz), re_car ha.t ha.s hz, im_car ha.t ha.s hz]
    show re (times b.t (face a.t b.m)) * ((if (a.m != b.m) = true then -1 else 1) * im z) + im (times b.t (face a.t b.m)) * re z + im (car b.t b.s b.m a.s) = _
    rw [re_times hb.t (face_ok ha.t _), im_times hb.t (face_ok ha.t _), re_face, im_face, im_car hb.t hb.s ha.s]
    cases a.m <;> cases b.m <;> simp <;> grind
theorem cp_ext {a b : Cp} (ha : CpOk a) (hb : CpOk b) (h1 : re a.t = re b.t) (h2 : im a.t = im b.t) (h3 : re a.s = re b.s) (h4 : im a.s = im b.s) (h5 : a.m = b.m) : a = b := by
  have e1 := ext ha.t hb.t h1 h2
  have e2 := ext ha.s hb.s h3 h4
  cases a; cases b
  dsimp only at e1 e2 h5
  rw [e1, e2, h5]
theorem re_jt {a b : Cp} (ha : CpOk a) (hb : CpOk b) : re (jn a b).t = re b.t * re a.t - im b.t * ((if b.m = true then -1 else 1) * im a.t) := by
  show re (times b.t (face a.t b.m)) = _
  rw [re_times hb.t (face_ok ha.t _), re_face, im_face]
theorem im_jt {a b : Cp} (ha : CpOk a) (hb : CpOk b) : im (jn a b).t = re b.t * ((if b.m = true then -1 else 1) * im a.t) + im b.t * re a.t := by
  show im (times b.t (face a.t b.m)) = _
  rw [im_times hb.t (face_ok ha.t _), re_face, im_face]
theorem re_js {a b : Cp} (ha : CpOk a) (hb : CpOk b) : re (jn a b).s = re b.t * re a.s - im b.t * ((if b.m = true then -1 else 1) * im a.s) + re b.s := re_car hb.t hb.s ha.s
theorem im_js {a b : Cp} (ha : CpOk a) (hb : CpOk b) : im (jn a b).s = re b.t * ((if b.m = true then -1 else 1) * im a.s) + im b.t * re a.s + im b.s := im_car hb.t hb.s ha.s
theorem jn_m (a b : Cp) : (jn a b).m = (a.m != b.m) := rfl
theorem jn_assoc {a b c : Cp} (ha : CpOk a) (hb : CpOk b) (hc : CpOk c) : jn (jn a b) c = jn a (jn b c) := by
  have h1 := jn_ok ha hb
  have h2 := jn_ok hb hc
  refine cp_ext (jn_ok h1 hc) (jn_ok ha h2) ?_ ?_ ?_ ?_ ?_
  · rw [re_jt h1 hc, re_jt ha h2, re_jt ha hb, im_jt ha hb, re_jt hb hc, im_jt hb hc, jn_m]
    cases b.m <;> cases c.m <;> simp <;> grind
  · rw [im_jt h1 hc, im_jt ha h2, re_jt ha hb, im_jt ha hb, re_jt hb hc, im_jt hb hc, jn_m]
    cases b.m <;> cases c.m <;> simp <;> grind
  · rw [re_js h1 hc, re_js ha h2, re_js ha hb, im_js ha hb, re_js hb hc, re_jt hb hc, im_jt hb hc, jn_m]
    cases b.m <;> cases c.m <;> simp <;> grind
  · rw [im_js h1 hc, im_js ha h2, re_js ha hb, im_js ha hb, im_js hb hc, re_jt hb hc, im_jt hb hc, jn_m]
    cases b.m <;> cases c.m <;> simp <;> grind
  · show ((a.m != b.m) != c.m) = (a.m != (b.m != c.m))
    cases a.m <;> cases b.m <;> cases c.m <;> rfl
theorem re_1 : re (1, 0, 1) = 1 := by unfold re; decide +kernel
theorem im_1 : im (1, 0, 1) = 0 := by unfold im; decide +kernel
theorem re_0 : re (0, 0, 1) = 0 := by unfold re; decide +kernel
theorem im_0 : im (0, 0, 1) = 0 := by unfold im; decide +kernel
theorem jn_still {a : Cp} (ha : CpOk a) : jn a still = a := by
  refine cp_ext (jn_ok ha still_ok) ha ?_ ?_ ?_ ?_ ?_
  · rw [re_jt ha still_ok]; simp only [still, re_1, im_1]; grind
  · rw [im_jt ha still_ok]; simp only [still, re_1, im_1]; grind
  · rw [re_js ha still_ok]; simp only [still, re_1, im_1, re_0, im_0]; grind
  · rw [im_js ha still_ok]; simp only [still, re_1, im_1, re_0, im_0]; grind
  · rw [jn_m]; simp [still]
theorem still_jn {a : Cp} (ha : CpOk a) : jn still a = a := by
  refine cp_ext (jn_ok still_ok ha) ha ?_ ?_ ?_ ?_ ?_
  · rw [re_jt still_ok ha]; simp only [still, re_1, im_1]; grind
  · rw [im_jt still_ok ha]; simp only [still, re_1, im_1]; grind
  · rw [re_js still_ok ha]; simp only [still, re_1, im_1, re_0, im_0]; grind
  · rw [im_js still_ok ha]; simp only [still, re_1, im_1, re_0, im_0]; grind
  · rw [jn_m]; simp [still]
theorem re_bt {a : Cp} (ha : CpOk a) : re (bk a).t = re a.t / nn a.t := by
  show re (face (inv a.t) a.m) = _
  rw [re_face, re_inv ha.t ha.n]
theorem im_bt {a : Cp} (ha : CpOk a) : im (bk a).t = (if a.m = true then -1 else 1) * (- im a.t / nn a.t) := by
  show im (face (inv a.t) a.m) = _
  rw [im_face, im_inv ha.t ha.n]
theorem re_bs {a : Cp} (ha : CpOk a) : re (bk a).s = -((re a.t / nn a.t) * re a.s - (- im a.t / nn a.t) * im a.s) := by
  show re (face (neg (times (inv a.t) a.s)) a.m) = _
  rw [re_face, re_neg, re_times (inv_ok ha.n) ha.s, re_inv ha.t ha.n, im_inv ha.t ha.n]
theorem im_bs {a : Cp} (ha : CpOk a) : im (bk a).s = (if a.m = true then -1 else 1) * -((re a.t / nn a.t) * im a.s + (- im a.t / nn a.t) * re a.s) := by
  show im (face (neg (times (inv a.t) a.s)) a.m) = _
  rw [im_face, im_neg, im_times (inv_ok ha.n) ha.s, re_inv ha.t ha.n, im_inv ha.t ha.n]
theorem jn_bk {a : Cp} (ha : CpOk a) : jn a (bk a) = still := by
  have hb := bk_ok ha
  have n := nn_ne ha.t ha.n
  have q : nn a.t = re a.t * re a.t + im a.t * im a.t := rfl
  have em : (bk a).m = a.m := rfl
  refine cp_ext (jn_ok ha hb) still_ok ?_ ?_ ?_ ?_ ?_
  · rw [re_jt ha hb, re_bt ha, im_bt ha, em]; simp only [still, re_1, im_1]
    generalize nn a.t = k at *
    cases a.m <;> simp <;> grind
  · rw [im_jt ha hb, re_bt ha, im_bt ha, em]; simp only [still, re_1, im_1]
    generalize nn a.t = k at *
    cases a.m <;> simp <;> grind
  · rw [re_js ha hb, re_bt ha, im_bt ha, re_bs ha, em]; simp only [still, re_0, im_0]
    generalize nn a.t = k at *
    cases a.m <;> simp <;> grind
  · rw [im_js ha hb, re_bt ha, im_bt ha, im_bs ha, em]; simp only [still, re_0, im_0]
    generalize nn a.t = k at *
    cases a.m <;> simp <;> grind
  · show (a.m != a.m) = false
    simp
theorem bk_jn {a : Cp} (ha : CpOk a) : jn (bk a) a = still := by
  have hb := bk_ok ha
  have n := nn_ne ha.t ha.n
  have q : nn a.t = re a.t * re a.t + im a.t * im a.t := rfl
  have em : (bk a).m = a.m := rfl
  refine cp_ext (jn_ok hb ha) still_ok ?_ ?_ ?_ ?_ ?_
  · rw [re_jt hb ha, re_bt ha, im_bt ha]; simp only [still, re_1, im_1]
    generalize nn a.t = k at *
    cases a.m <;> simp <;> grind
  · rw [im_jt hb ha, re_bt ha, im_bt ha]; simp only [still, re_1, im_1]
    generalize nn a.t = k at *
    cases a.m <;> simp <;> grind
  · rw [re_js hb ha, re_bs ha, im_bs ha]; simp only [still, re_0, im_0]
    generalize nn a.t = k at *
    cases a.m <;> simp <;> grind
  · rw [im_js hb ha, re_bs ha, im_bs ha]; simp only [still, re_0, im_0]
    generalize nn a.t = k at *
    cases a.m <;> simp <;> grind
  · show (a.m != a.m) = false
    simp
/-- what brings back is one -/
theorem bk_uniq {a b : Cp} (ha : CpOk a) (hb : CpOk b) (h : jn a b = still) : b = bk a := by
  have e : jn (jn (bk a) a) b = jn (bk a) (jn a b) := jn_assoc (bk_ok ha) ha hb
  rw [bk_jn ha, h, still_jn hb, jn_still (bk_ok ha)] at e
  exact e
theorem bk_bk {a : Cp} (ha : CpOk a) : bk (bk a) = a := (bk_uniq (bk_ok ha) ha (bk_jn ha)).symm
theorem bk_jn_eq {a b : Cp} (ha : CpOk a) (hb : CpOk b) : bk (jn a b) = jn (bk b) (bk a) := by
  refine (bk_uniq (jn_ok ha hb) (jn_ok (bk_ok hb) (bk_ok ha)) ?_).symm
  rw [jn_assoc ha hb (jn_ok (bk_ok hb) (bk_ok ha)), ← jn_assoc hb (bk_ok hb) (bk_ok ha), jn_bk hb, still_jn (bk_ok ha), jn_bk ha]
theorem bk_still : bk still = still := (bk_uniq still_ok still_ok (jn_still still_ok)).symm
theorem ap_still {z : T3} (hz : Ok z) : ap still z = z := by
  refine ext (ap_ok still_ok hz) hz ?_ ?_
  · unfold ap; rw [re_car still_ok.t still_ok.s hz]; simp only [still, re_1, im_1, re_0]; grind
  · unfold ap; rw [im_car still_ok.t still_ok.s hz]; simp only [still, re_1, im_1, im_0]; grind
theorem bk_ap {a : Cp} (ha : CpOk a) {z : T3} (hz : Ok z) : ap (bk a) (ap a z) = z := by
  rw [← jn_ap ha (bk_ok ha) hz, jn_bk ha, ap_still hz]
theorem ap_bk {a : Cp} (ha : CpOk a) {z : T3} (hz : Ok z) : ap a (ap (bk a) z) = z := by
  rw [← jn_ap (bk_ok ha) ha hz, bk_jn ha, ap_still hz]
/-! ### growth: the square of the size, a fraction -/
def fr (p q : Int) : Int × Int := ((low p 0 q).1, (low p 0 q).2.2)
def gr (t : T3) : Int × Int := fr (t.1 * t.1 + t.2.1 * t.2.1) (t.2.2 * t.2.2)
def gr3 (t : T3) : T3 := low (t.1 * t.1 + t.2.1 * t.2.1) 0 (t.2.2 * t.2.2)
theorem low_0 (p q : Int) : (low p 0 q).2.1 = 0 := by
  unfold low; dsimp only; exact Int.zero_fdiv _
theorem low_fr (p q : Int) : low p 0 q = ((fr p q).1, 0, (fr p q).2) := by
  have e := low_0 p q
  unfold fr
  generalize low p 0 q = z at *
  obtain ⟨a, b, c⟩ := z
  dsimp only at *
  rw [e]
theorem gr3_eq (t : T3) : gr3 t = ((gr t).1, 0, (gr t).2) := low_fr _ _
theorem gr3_ok {t : T3} (h : Ok t) : Ok (gr3 t) := low_ok (mul_ne h.ne h.ne)
theorem re_gr3 {t : T3} (h : Ok t) : re (gr3 t) = nn t := by
  have h1 := cast_ne h.ne
  have q := nn_eq h
  unfold gr3
  rw [low_re (mul_ne h.ne h.ne), ← q]
  simp only [Rat.intCast_mul]
  generalize nn t = k at *
  grind
theorem im_gr3 {t : T3} (h : Ok t) : im (gr3 t) = 0 := by
  unfold im gr3; rw [low_0]; grind
theorem gr_jn {a b : Cp} (ha : CpOk a) (hb : CpOk b) : times (gr3 a.t) (gr3 b.t) = gr3 (jn a b).t := by
  refine ext (times_ok (gr3_ok ha.t) (gr3_ok hb.t)) (gr3_ok (jn_ok ha hb).t) ?_ ?_
  · rw [re_times (gr3_ok ha.t) (gr3_ok hb.t), re_gr3 (jn_ok ha hb).t, re_gr3 ha.t, re_gr3 hb.t, im_gr3 ha.t]
    show _ = nn (times b.t (face a.t b.m))
    rw [nn_times hb.t (face_ok ha.t _), nn_face]
    grind
  · rw [im_times (gr3_ok ha.t) (gr3_ok hb.t), im_gr3 (jn_ok ha hb).t, im_gr3 ha.t, im_gr3 hb.t]
    grind
theorem gr_pos {t : T3} (h : Ok t) (n : Nz t) : 0 < (gr t).1 ∧ 0 < (gr t).2 := by
  have k := low_pos (x := t.1 * t.1 + t.2.1 * t.2.1) (y := 0) (d := t.2.2 * t.2.2) (mul_ne h.ne h.ne)
  refine ⟨?_, k⟩
  obtain ⟨h1, h2, h3⟩ := low_mul (t.1 * t.1 + t.2.1 * t.2.1) 0 (t.2.2 * t.2.2)
  have hsq := sq_ne n
  have q1 : 0 ≤ t.1 * t.1 := by rcases Int.le_total 0 t.1 with h | h; exact Int.mul_nonneg h h; exact Int.mul_nonneg_of_nonpos_of_nonpos h h
  have q2 : 0 ≤ t.2.1 * t.2.1 := by rcases Int.le_total 0 t.2.1 with h | h; exact Int.mul_nonneg h h; exact Int.mul_nonneg_of_nonpos_of_nonpos h h
  have q3 : 0 < t.2.2 * t.2.2 := Int.mul_pos h.1 h.1
  show 0 < (low (t.1 * t.1 + t.2.1 * t.2.1) 0 (t.2.2 * t.2.2)).1
  generalize (low (t.1 * t.1 + t.2.1 * t.2.1) 0 (t.2.2 * t.2.2)).1 = a at *
  generalize (low (t.1 * t.1 + t.2.1 * t.2.1) 0 (t.2.2 * t.2.2)).2.2 = c at *
  generalize hS : sg (t.1 * t.1 + t.2.1 * t.2.1) 0 (t.2.2 * t.2.2) = g at *
  have gp : 0 < g := by
    rcases Int.lt_trichotomy g 0 with z | z | z
    · have : g * c < 0 := Int.mul_neg_of_neg_of_pos z k
      omega
    · subst z; simp at h3; omega
    · exact z
  rcases Int.lt_trichotomy a 0 with z | z | z
  · have : g * a < 0 := Int.mul_neg_of_pos_of_neg gp z
    omega
  · subst z; simp at h1; omega
  · exact z
theorem gr_bk {a : Cp} (ha : CpOk a) : gr (bk a).t = ((gr a.t).2, (gr a.t).1) := by
  obtain ⟨p1, p2⟩ := gr_pos ha.t ha.n
  have o := gr3_ok ha.t
  rw [gr3_eq] at o
  have o2 : Ok ((gr a.t).2, 0, (gr a.t).1) := by
    refine ⟨p1, ?_⟩
    have z := o.2
    unfold g3 at z ⊢
    dsimp only at z ⊢
    rw [Int.gcd_zero_right] at z ⊢
    have e1 : (((gr a.t).1.natAbs : Nat) : Int) = (gr a.t).1 := by omega
    have e2 : (((gr a.t).2.natAbs : Nat) : Int) = (gr a.t).2 := by omega
    rw [e1] at z
    rw [e2, Int.gcd_comm]
    exact z
  have e : gr3 (bk a).t = ((gr a.t).2, 0, (gr a.t).1) := by
    have n := nn_ne ha.t ha.n
    refine ext (gr3_ok (bk_ok ha).t) o2 ?_ ?_
    · rw [re_gr3 (bk_ok ha).t]
      show nn (face (inv a.t) a.m) = _
      rw [nn_face, nn_inv ha.t ha.n, ← re_gr3 ha.t, gr3_eq]
      unfold re
      dsimp only
      have c1 := cast_ne (show (gr a.t).1 ≠ 0 by omega)
      have c2 := cast_ne (show (gr a.t).2 ≠ 0 by omega)
      grind
    · rw [im_gr3 (bk_ok ha).t]; unfold im; dsimp only; grind
  rw [gr3_eq] at e
  have x1 := congrArg (fun z : T3 => z.1) e
  have x2 := congrArg (fun z : T3 => z.2.2) e
  dsimp only at x1 x2
  exact Prod.ext x1 x2
/-! ### sizes -/
def B (n : Nat) (s : T3) : Prop := s.1.natAbs < 2 ^ n ∧ s.2.1.natAbs < 2 ^ n ∧ s.2.2.natAbs < 2 ^ n
theorem pw {n m : Nat} (h : n ≤ m) : 2 ^ n ≤ 2 ^ m := Nat.pow_le_pow_right (by decide) h
theorem B.mono {n m : Nat} {s : T3} (b : B n s) (h : n ≤ m) : B m s := ⟨Nat.lt_of_lt_of_le b.1 (pw h), Nat.lt_of_lt_of_le b.2.1 (pw h), Nat.lt_of_lt_of_le b.2.2 (pw h)⟩
theorem abs_le {g a : Int} (h : g ≠ 0) : a.natAbs ≤ (g * a).natAbs := by
  rw [Int.natAbs_mul]
  have : 1 ≤ g.natAbs := by omega
  calc a.natAbs = 1 * a.natAbs := by omega
    _ ≤ g.natAbs * a.natAbs := Nat.mul_le_mul_right _ this
theorem low_B {x y d : Int} {n : Nat} (hd : d ≠ 0) (h1 : x.natAbs < 2 ^ n) (h2 : y.natAbs < 2 ^ n) (h3 : d.natAbs < 2 ^ n) : B n (low x y d) := by
  obtain ⟨e1, e2, e3⟩ := low_mul x y d
  have hs := sg_ne (x := x) (y := y) hd
  refine ⟨?_, ?_, ?_⟩
  · have := abs_le (a := (low x y d).1) hs; rw [← e1] at this; omega
  · have := abs_le (a := (low x y d).2.1) hs; rw [← e2] at this; omega
  · have := abs_le (a := (low x y d).2.2) hs; rw [← e3] at this; omega
theorem mul_lt {a b : Int} {n m : Nat} (ha : a.natAbs < 2 ^ n) (hb : b.natAbs < 2 ^ m) : (a * b).natAbs < 2 ^ (n + m) := by
  rw [Int.natAbs_mul, Nat.pow_add]
  exact Nat.mul_lt_mul'' ha hb
theorem add_lt {a b : Int} {n : Nat} (ha : a.natAbs < 2 ^ n) (hb : b.natAbs < 2 ^ n) : (a + b).natAbs < 2 ^ (n + 1) := by
  rw [Nat.pow_succ]; omega
theorem sub_lt {a b : Int} {n : Nat} (ha : a.natAbs < 2 ^ n) (hb : b.natAbs < 2 ^ n) : (a - b).natAbs < 2 ^ (n + 1) := by
  rw [Nat.pow_succ]; omega
theorem up_lt {a : Int} {n m : Nat} (h : n ≤ m) (ha : a.natAbs < 2 ^ n) : a.natAbs < 2 ^ m := Nat.lt_of_lt_of_le ha (pw h)
theorem plus_B {a b : T3} {n m : Nat} (oa : Ok a) (ob : Ok b) (ha : B n a) (hb : B m b) : B (n + m + 1) (plus a b) := by
  refine low_B (mul_ne oa.ne ob.ne) (add_lt (mul_lt ha.1 hb.2.2) ?_) (add_lt (mul_lt ha.2.1 hb.2.2) ?_) (up_lt (Nat.le_succ _) (mul_lt ha.2.2 hb.2.2))
  · rw [Nat.add_comm]; exact mul_lt hb.1 ha.2.2
  · rw [Nat.add_comm]; exact mul_lt hb.2.1 ha.2.2
theorem times_B {a b : T3} {n m : Nat} (oa : Ok a) (ob : Ok b) (ha : B n a) (hb : B m b) : B (n + m + 1) (times a b) :=
  low_B (mul_ne oa.ne ob.ne) (sub_lt (mul_lt ha.1 hb.1) (mul_lt ha.2.1 hb.2.1)) (add_lt (mul_lt ha.1 hb.2.1) (mul_lt ha.2.1 hb.1)) (up_lt (Nat.le_succ _) (mul_lt ha.2.2 hb.2.2))
theorem over_B {a : T3} {n : Nat} (h : B n a) : B n (over a) := ⟨h.1, by show (-a.2.1).natAbs < _; rw [Int.natAbs_neg]; exact h.2.1, h.2.2⟩
theorem neg_B {a : T3} {n : Nat} (h : B n a) : B n (neg a) := ⟨by show (-a.1).natAbs < _; rw [Int.natAbs_neg]; exact h.1, by show (-a.2.1).natAbs < _; rw [Int.natAbs_neg]; exact h.2.1, h.2.2⟩
theorem face_B {a : T3} {n : Nat} (h : B n a) (m : Bool) : B n (face a m) := by unfold face; split; exact over_B h; exact h
theorem neg_lt {a : Int} {n : Nat} (h : a.natAbs < 2 ^ n) : (-a).natAbs < 2 ^ n := by rw [Int.natAbs_neg]; exact h
theorem inv_B {a : T3} {n : Nat} (z : Nz a) (h : B n a) : B (n + n + 1) (inv a) :=
  low_B (sq_ne z) (up_lt (Nat.le_succ _) (mul_lt h.1 h.2.2)) (up_lt (Nat.le_succ _) (mul_lt (neg_lt h.2.1) h.2.2)) (add_lt (mul_lt h.1 h.1) (mul_lt h.2.1 h.2.1))
theorem car_B {t s z : T3} {m : Bool} {i j k : Nat} (ot : Ok t) (os : Ok s) (oz : Ok z) (ht : B i t) (hs : B j s) (hz : B k z) : B (i + k + 1 + j + 1) (car t s m z) :=
  plus_B (times_ok ot (face_ok oz m)) os (times_B ot (face_ok oz m) ht (face_B hz m)) hs
/-! ### the divisor by remainders -/
theorem gcd_fmod (a b : Int) : Int.gcd b (a.fmod b) = Int.gcd a b := by
  rw [Int.fmod_def, Int.gcd_sub_mul_left_right, Int.gcd_comm]
theorem fmod_small {a b : Int} (h : b ≠ 0) : (a.fmod b).natAbs < b.natAbs := by
  rw [Int.fmod_eq_emod]
  have h1 := Int.emod_nonneg a h
  have h2 : a % b < (b.natAbs : Int) := Int.emod_lt a h
  split
  · omega
  · have h3 : a % b ≠ 0 := fun e => by
      have := Int.dvd_of_emod_eq_zero e
      simp_all
    omega
theorem gcd_0 (a : Int) : ((Int.gcd a 0 : Nat) : Int) = if a < 0 then -a else a := by
  rw [Int.gcd_zero_right]; split <;> omega
end Mth
namespace Mth
/-! ### copies done several times -/
def ag (c : Cp) : Nat → Cp
  | 0 => still
  | n + 1 => jn (ag c n) c
theorem ag_ok {c : Cp} (h : CpOk c) : ∀ n, CpOk (ag c n)
  | 0 => still_ok
  | n + 1 => jn_ok (ag_ok h n) h
theorem ag_add {c : Cp} (h : CpOk c) (n : Nat) : ∀ m, ag c (n + m) = jn (ag c n) (ag c m)
  | 0 => (jn_still (ag_ok h n)).symm
  | m + 1 => by
    show jn (ag c (n + m)) c = jn (ag c n) (jn (ag c m) c)
    rw [ag_add h n m, jn_assoc (ag_ok h n) (ag_ok h m) h]
theorem ag_one {c : Cp} (h : CpOk c) : ag c 1 = c := still_jn h
theorem ag_comm {c : Cp} (h : CpOk c) (n : Nat) : jn c (ag c n) = jn (ag c n) c := by
  have e1 := ag_add h 1 n
  rw [ag_one h, Nat.add_comm] at e1
  exact e1.symm
theorem ag_mul {c : Cp} (h : CpOk c) (n : Nat) : ∀ m, ag c (n * m) = ag (ag c n) m
  | 0 => rfl
  | m + 1 => by
    show ag c (n * m + n) = jn (ag (ag c n) m) (ag c n)
    rw [ag_add h, ag_mul h n m]
theorem bk_ag {c : Cp} (h : CpOk c) : ∀ n, bk (ag c n) = ag (bk c) n
  | 0 => bk_still
  | n + 1 => by
    show bk (jn (ag c n) c) = jn (ag (bk c) n) (bk c)
    rw [bk_jn_eq (ag_ok h n) h, bk_ag h n, ag_comm (bk_ok h)]
theorem jn_l {a b c : Cp} (ha : CpOk a) (hb : CpOk b) (hc : CpOk c) (e : jn a b = jn a c) : b = c := by
  have q := congrArg (jn (bk a)) e
  rw [← jn_assoc (bk_ok ha) ha hb, ← jn_assoc (bk_ok ha) ha hc, bk_jn ha, still_jn hb, still_jn hc] at q
  exact q
theorem bk_still_iff {a : Cp} (ha : CpOk a) : bk a = still ↔ a = still := ⟨fun e => by have q := congrArg bk e; rw [bk_bk ha, bk_still] at q; exact q, fun e => by rw [e, bk_still]⟩
/-- seen from elsewhere -/
def cj (o c : Cp) : Cp := jn (jn (bk o) c) o
theorem cj_ok {o c : Cp} (ho : CpOk o) (hc : CpOk c) : CpOk (cj o c) := jn_ok (jn_ok (bk_ok ho) hc) ho
theorem cj_jn {o a b : Cp} (ho : CpOk o) (ha : CpOk a) (hb : CpOk b) : jn (cj o a) (cj o b) = cj o (jn a b) := by
  have hbo := bk_ok ho
  unfold cj
  rw [jn_assoc (jn_ok hbo ha) ho (jn_ok (jn_ok hbo hb) ho), jn_assoc hbo hb ho, ← jn_assoc ho hbo (jn_ok hb ho), jn_bk ho, still_jn (jn_ok hb ho),
    jn_assoc hbo ha (jn_ok hb ho), ← jn_assoc ha hb ho, jn_assoc hbo (jn_ok ha hb) ho]
theorem cj_still {o : Cp} (ho : CpOk o) : cj o still = still := by
  unfold cj; rw [jn_still (bk_ok ho), bk_jn ho]
theorem cj_ag {o c : Cp} (ho : CpOk o) (hc : CpOk c) : ∀ n, ag (cj o c) n = cj o (ag c n)
  | 0 => (cj_still ho).symm
  | n + 1 => by
    show jn (ag (cj o c) n) (cj o c) = cj o (jn (ag c n) c)
    rw [cj_ag ho hc n, cj_jn ho (ag_ok hc n) hc]
theorem cj_iff {o c : Cp} (ho : CpOk o) (hc : CpOk c) : cj o c = still ↔ c = still := by
  refine ⟨fun e => ?_, fun e => by rw [e, cj_still ho]⟩
  have q := congrArg (fun z => jn (jn o z) (bk o)) e
  unfold cj at q
  have hbo := bk_ok ho
  rw [jn_assoc hbo hc ho, ← jn_assoc ho hbo (jn_ok hc ho), jn_bk ho, still_jn (jn_ok hc ho), jn_assoc hc ho hbo, jn_bk ho, jn_still hc, jn_still ho, jn_bk ho] at q
  exact q
/-- the times as the program has them -/
def stp (c : Cp) (n : Int) : Cp := if 0 ≤ n then c else bk c
def agz (c : Cp) (n : Int) : Cp := ag (stp c n) n.natAbs
theorem stp_ok {c : Cp} (h : CpOk c) (n : Int) : CpOk (stp c n) := by unfold stp; split; exact h; exact bk_ok h
theorem agz_ok {c : Cp} (h : CpOk c) (n : Int) : CpOk (agz c n) := ag_ok (stp_ok h n) _
/-! ### the first time at which all is as it was -/
def At (c : Cp) (n : Nat) : Prop := ag c n = still
/-- the turns alone -/
def tn (t : T3) (m : Bool) : Nat → T3
  | 0 => (1, 0, 1)
  | n + 1 => times t (face (tn t m n) m)
theorem ag_t (c : Cp) : ∀ n, (ag c n).t = tn c.t c.m n
  | 0 => rfl
  | n + 1 => by
    show times c.t (face (ag c n).t c.m) = times c.t (face (tn c.t c.m n) c.m)
    rw [ag_t c n]
theorem ag_m (c : Cp) : ∀ n, (ag c n).m = (c.m && (n % 2 == 1))
  | 0 => by show false = _; simp
  | n + 1 => by
    show ((ag c n).m != c.m) = _
    rw [ag_m c n]
    rcases Nat.mod_two_eq_zero_or_one n with h | h
    · have h' : (n + 1) % 2 = 1 := by omega
      rw [h, h']; cases c.m <;> rfl
    · have h' : (n + 1) % 2 = 0 := by omega
      rw [h, h']; cases c.m <;> rfl
/-- only a shift: k times it is still none but if the shift is none -/
theorem shift_only {c : Cp} (h : CpOk c) (ht : c.t = (1, 0, 1)) (hm : c.m = false) : ∀ n : Nat, re (ag c n).s = (n : Rat) * re c.s ∧ im (ag c n).s = (n : Rat) * im c.s
  | 0 => by
    refine ⟨?_, ?_⟩
    · show re (0, 0, 1) = _; rw [re_0]; simp
    · show im (0, 0, 1) = _; rw [im_0]; simp
  | n + 1 => by
    obtain ⟨h1, h2⟩ := shift_only h ht hm n
    have e1 : re (ag c (n + 1)).s = _ := re_js (ag_ok h n) h
    have e2 : im (ag c (n + 1)).s = _ := im_js (ag_ok h n) h
    rw [ht, hm, re_1, im_1, h1] at e1
    rw [ht, hm, re_1, im_1, h2] at e2
    have ec : ((n + 1 : Nat) : Rat) = (n : Rat) + 1 := by simp
    rw [e1, e2, ec]
    refine ⟨?_, ?_⟩
    · simp; grind
    · simp; grind
theorem shift_still {c : Cp} (h : CpOk c) (ht : c.t = (1, 0, 1)) (hm : c.m = false) {n : Nat} (hn : 0 < n) (e : ag c n = still) : c = still := by
  obtain ⟨h1, h2⟩ := shift_only h ht hm n
  rw [e] at h1 h2
  have n0 : (n : Rat) ≠ 0 := by
    have : ((n : Int) : Rat) ≠ 0 := cast_ne (by omega)
    simpa using this
  have z1 : re c.s = 0 := by
    have : re still.s = 0 := re_0
    rw [this] at h1
    grind
  have z2 : im c.s = 0 := by
    have : im still.s = 0 := im_0
    rw [this] at h2
    grind
  refine cp_ext h still_ok ?_ ?_ ?_ ?_ hm
  · rw [ht]; rfl
  · rw [ht]; rfl
  · rw [z1]; exact re_0.symm
  · rw [z2]; exact im_0.symm
theorem at_half {c : Cp} (h : CpOk c) (ht : c.t = (-1, 0, 1)) (hm : c.m = false) : ag c 2 = still := by
  have e : ag c 2 = jn c c := by
    show jn (jn still c) c = _
    rw [still_jn h]
  have r : re (-1, 0, 1) = -1 := by unfold re; decide +kernel
  have i : im (-1, 0, 1) = 0 := by unfold im; decide +kernel
  rw [e]
  refine cp_ext (jn_ok h h) still_ok ?_ ?_ ?_ ?_ ?_
  · rw [re_jt h h, ht, hm, r, i]; show _ = re (1, 0, 1); rw [re_1]; simp; grind
  · rw [im_jt h h, ht, hm, r, i]; show _ = im (1, 0, 1); rw [im_1]; simp; grind
  · rw [re_js h h, ht, hm, r, i]; show _ = re (0, 0, 1); rw [re_0]; simp; grind
  · rw [im_js h h, ht, hm, r, i]; show _ = im (0, 0, 1); rw [im_0]; simp; grind
  · rw [jn_m, hm]; rfl
def turns13 : List T3 := [(1, 0, 1), (-1, 0, 1), (0, 1, 1), (0, -1, 1), (2, 0, 1), (1, 0, 2), (1, 1, 1), (3, 4, 5), (0, 2, 1), (-1, 0, 3), (1, -1, 2), (2, 1, 1), (-4, 3, 5)]
theorem turns_cases : ∀ t ∈ turns13, ∀ m ∈ [false, true], (t = (1, 0, 1) ∧ m = false) ∨ (t = (-1, 0, 1) ∧ m = false) ∨ (tn t m 2 = (-1, 0, 1) ∧ m = false ∧ ∀ n ∈ [1, 2, 3], tn t m n ≠ (1, 0, 1)) ∨ (tn t m 2 = (1, 0, 1) ∧ m = true) ∨
    (∀ n ∈ [1, 2, 3, 4, 5, 6, 7, 8, 9, 10, 11, 12], tn t m n ≠ (1, 0, 1) ∨ (m = true ∧ n % 2 = 1)) := by decide +kernel
theorem first_of {c : Cp} (h : CpOk c) (ht : c.t ∈ turns13) {n : Nat} (n1 : 1 ≤ n) (n12 : n ≤ 12) (e : ag c n = still) : ag c 1 = still ∨ (2 ≤ n ∧ ag c 2 = still) ∨ (4 ≤ n ∧ ag c 4 = still) := by
  have et : tn c.t c.m n = (1, 0, 1) := by rw [← ag_t, e]; rfl
  have em : (c.m && (n % 2 == 1)) = false := by rw [← ag_m, e]; rfl
  rcases turns_cases c.t ht c.m (by cases c.m <;> simp) with ⟨h1, h2⟩ | ⟨h1, h2⟩ | ⟨h1, h2, h3⟩ | ⟨h1, h2⟩ | h1
  · left
    rw [ag_one h]
    exact shift_still h h1 h2 n1 e
  · right; left
    refine ⟨?_, at_half h h1 h2⟩
    rcases Nat.lt_or_ge n 2 with z | z
    · have : n = 1 := by omega
      subst this
      rw [ag_one h] at e
      rw [e] at h1
      exact absurd h1 (by decide)
    · exact z
  · right; right
    refine ⟨?_, ?_⟩
    · rcases Nat.lt_or_ge n 4 with z | z
      · exact absurd et (h3 n (by simp; omega))
      · exact z
    · show ag c (2 * 2) = still
      rw [ag_mul h]
      exact at_half (ag_ok h 2) (by rw [ag_t]; exact h1) (by rw [ag_m, h2]; rfl)
  · right; left
    rw [h2] at em
    have ev : n % 2 = 0 := by
      rcases Nat.mod_two_eq_zero_or_one n with z | z
      · exact z
      · rw [z] at em; simp at em
    refine ⟨by omega, ?_⟩
    obtain ⟨k, rfl⟩ : ∃ k, n = 2 * k := ⟨n / 2, by omega⟩
    rw [ag_mul h] at e
    refine shift_still (ag_ok h 2) (by rw [ag_t]; exact h1) (by rw [ag_m]; simp) (by omega) e
  · exfalso
    rcases h1 n (by simp; omega) with z | ⟨z1, z2⟩
    · exact z et
    · rw [z1, z2] at em; simp at em
/-! ### the order as the program finds it -/
def ord (c : Cp) : Option Nat := if ag c 1 = still then some 1 else if ag c 2 = still then some 2 else if ag c 4 = still then some 4 else none
theorem ord_congr {a b : Cp} (h : ∀ n, ag a n = still ↔ ag b n = still) : ord a = ord b := by
  unfold ord
  simp only [h]
theorem ord_bk {c : Cp} (h : CpOk c) : ord (bk c) = ord c := ord_congr fun n => by rw [← bk_ag h, bk_still_iff (ag_ok h n)]
theorem ord_cj {o c : Cp} (ho : CpOk o) (h : CpOk c) : ord (cj o c) = ord c := ord_congr fun n => by rw [cj_ag ho h, cj_iff ho (ag_ok h n)]
/-- the first one of 1 .. i -/
def due (c : Cp) : Nat → Option Nat
  | 0 => none
  | n + 1 => if due c n = none ∧ ag c (n + 1) = still then some (n + 1) else due c n
theorem due_eq {c : Cp} (h : CpOk c) (ht : c.t ∈ turns13) : due c 12 = ord c := by
  have P := fun n n1 n12 e => first_of (n := n) h ht n1 n12 e
  have s1 : due c 1 = if ag c 1 = still then some 1 else none := by simp [due]
  by_cases h1 : ag c 1 = still
  · have k : ∀ n, due c (n + 1) = some 1 := fun n => by
      induction n with
      | zero => rw [s1, if_pos h1]
      | succ n ih => simp [due] at ih ⊢; simp [ih]
    rw [k 11]
    unfold ord
    rw [if_pos h1]
  · have d1 : due c 1 = none := by rw [s1, if_neg h1]
    by_cases h2 : ag c 2 = still
    · have k : ∀ n, due c (n + 2) = some 2 := fun n => by
        induction n with
        | zero => show (if due c 1 = none ∧ ag c 2 = still then some 2 else due c 1) = _; rw [if_pos ⟨d1, h2⟩]
        | succ n ih => show (if due c (n + 2) = none ∧ ag c (n + 3) = still then some (n + 3) else due c (n + 2)) = _; rw [ih]; simp
      rw [k 10]
      unfold ord
      rw [if_neg h1, if_pos h2]
    · have d2 : due c 2 = none := by show (if due c 1 = none ∧ ag c 2 = still then some 2 else due c 1) = _; rw [if_neg (fun z => h2 z.2), d1]
      have n3 : ag c 3 ≠ still := fun e => by
        rcases P 3 (by decide) (by decide) e with z | ⟨_, z⟩ | ⟨z, _⟩
        · exact h1 z
        · exact h2 z
        · omega
      have d3 : due c 3 = none := by show (if due c 2 = none ∧ ag c 3 = still then some 3 else due c 2) = _; rw [if_neg (fun z => n3 z.2), d2]
      by_cases h4 : ag c 4 = still
      · have k : ∀ n, due c (n + 4) = some 4 := fun n => by
          induction n with
          | zero => show (if due c 3 = none ∧ ag c 4 = still then some 4 else due c 3) = _; rw [if_pos ⟨d3, h4⟩]
          | succ n ih => show (if due c (n + 4) = none ∧ ag c (n + 5) = still then some (n + 5) else due c (n + 4)) = _; rw [ih]; simp
        rw [k 8]
        unfold ord
        rw [if_neg h1, if_neg h2, if_pos h4]
      · have k : ∀ n, n ≤ 12 → due c n = none := fun n => by
          induction n with
          | zero => intro _; rfl
          | succ n ih =>
            intro hn
            have nn : ag c (n + 1) ≠ still := fun e => by
              rcases P (n + 1) (by omega) hn e with z | ⟨_, z⟩ | ⟨_, z⟩
              · exact h1 z
              · exact h2 z
              · exact h4 z
            show (if due c n = none ∧ ag c (n + 1) = still then some (n + 1) else due c n) = _
            rw [if_neg (fun z => nn z.2)]
            exact ih (by omega)
        rw [k 12 (by decide)]
        unfold ord
        rw [if_neg h1, if_neg h2, if_neg h4]
end Mth
namespace Mth
/-! ### lines a * x + b * y = c, and what satisfies rows of them -/
def sgl (a b c : Int) : Int := if a < 0 ∨ (a = 0 ∧ b < 0) then -(g3 a b c) else g3 a b c
def lf (r : T3) : T3 := (r.1.fdiv (sgl r.1 r.2.1 r.2.2), r.2.1.fdiv (sgl r.1 r.2.1 r.2.2), r.2.2.fdiv (sgl r.1 r.2.1 r.2.2))
def on (l z : T3) : Prop := l.1 * z.1 + l.2.1 * z.2.1 = l.2.2 * z.2.2
instance (l z : T3) : Decidable (on l z) := inferInstanceAs (Decidable (_ = _))
theorem g3_pos' {a b c : Int} (h : a ≠ 0 ∨ b ≠ 0) : 0 < g3 a b c := by
  unfold g3
  have h1 : 0 < Int.gcd a b := by
    rcases h with h | h
    · exact Int.gcd_pos_of_ne_zero_left _ h
    · exact Int.gcd_pos_of_ne_zero_right _ h
  have h2 : 0 < Int.gcd ((Int.gcd a b : Nat) : Int) c := Int.gcd_pos_of_ne_zero_left _ (by omega)
  omega
theorem sgl_of {a b c : Int} : sgl a b c = g3 a b c ∨ sgl a b c = -g3 a b c := by unfold sgl; split <;> simp
theorem sgl_ne {a b c : Int} (h : a ≠ 0 ∨ b ≠ 0) : sgl a b c ≠ 0 := by
  have := g3_pos' (c := c) h
  rcases @sgl_of a b c with e | e <;> omega
theorem sgl_d1 {a b c : Int} : sgl a b c ∣ a := by rcases @sgl_of a b c with h | h <;> rw [h]; exact g3_dx; exact Int.neg_dvd.mpr g3_dx
theorem sgl_d2 {a b c : Int} : sgl a b c ∣ b := by rcases @sgl_of a b c with h | h <;> rw [h]; exact g3_dy; exact Int.neg_dvd.mpr g3_dy
theorem sgl_d3 {a b c : Int} : sgl a b c ∣ c := by rcases @sgl_of a b c with h | h <;> rw [h]; exact g3_dd; exact Int.neg_dvd.mpr g3_dd
theorem lf_mul (r : T3) : r.1 = sgl r.1 r.2.1 r.2.2 * (lf r).1 ∧ r.2.1 = sgl r.1 r.2.1 r.2.2 * (lf r).2.1 ∧ r.2.2 = sgl r.1 r.2.1 r.2.2 * (lf r).2.2 := by
  unfold lf
  refine ⟨?_, ?_, ?_⟩ <;> dsimp only
  · rw [Int.fdiv_eq_ediv_of_dvd sgl_d1]; exact (Int.mul_ediv_cancel' sgl_d1).symm
  · rw [Int.fdiv_eq_ediv_of_dvd sgl_d2]; exact (Int.mul_ediv_cancel' sgl_d2).symm
  · rw [Int.fdiv_eq_ediv_of_dvd sgl_d3]; exact (Int.mul_ediv_cancel' sgl_d3).symm
/-- a line in its only form -/
structure Ln (l : T3) : Prop where
  g : g3 l.1 l.2.1 l.2.2 = 1
  s : 0 < l.1 ∨ (l.1 = 0 ∧ 0 < l.2.1)
theorem lf_ln {r : T3} (h : r.1 ≠ 0 ∨ r.2.1 ≠ 0) : Ln (lf r) := by
  obtain ⟨h1, h2, h3⟩ := lf_mul r
  have hs := sgl_ne (c := r.2.2) h
  have hg := g3_pos' (c := r.2.2) h
  have sdef : sgl r.1 r.2.1 r.2.2 = if r.1 < 0 ∨ (r.1 = 0 ∧ r.2.1 < 0) then -(g3 r.1 r.2.1 r.2.2) else g3 r.1 r.2.1 r.2.2 := rfl
  have so := @sgl_of r.1 r.2.1 r.2.2
  generalize hx : (lf r).1 = x at *
  generalize hy : (lf r).2.1 = y at *
  generalize hz : (lf r).2.2 = z at *
  generalize sgl r.1 r.2.1 r.2.2 = g at *
  generalize hG : g3 r.1 r.2.1 r.2.2 = G at *
  have sgn : ∀ u v : Int, u = g * v → 0 < G → (g = G → (0 < u → 0 < v) ∧ (u = 0 → v = 0)) ∧ (g = -G → (u < 0 → 0 < v) ∧ (u = 0 → v = 0)) := by
    intro u v e hG
    refine ⟨fun eg => ⟨fun hu => ?_, fun hu => ?_⟩, fun eg => ⟨fun hu => ?_, fun hu => ?_⟩⟩
    · rcases Int.lt_trichotomy v 0 with z | z | z
      · have : g * v < 0 := Int.mul_neg_of_pos_of_neg (by omega) z
        omega
      · subst z; simp at e; omega
      · exact z
    · rw [hu] at e; exact (Int.mul_eq_zero.mp e.symm).resolve_left hs
    · rcases Int.lt_trichotomy v 0 with z | z | z
      · have : 0 < g * v := Int.mul_pos_of_neg_of_neg (by omega) z
        omega
      · subst z; simp at e; omega
      · exact z
    · rw [hu] at e; exact (Int.mul_eq_zero.mp e.symm).resolve_left hs
  refine ⟨?_, ?_⟩
  · rw [hx, hy, hz]
    have k1 : g * g3 x y z ∣ r.1 := by
      obtain ⟨u, hu⟩ := @g3_dx x y z
      exact ⟨u, by rw [Int.mul_assoc, ← hu, ← h1]⟩
    have k2 : g * g3 x y z ∣ r.2.1 := by
      obtain ⟨u, hu⟩ := @g3_dy x y z
      exact ⟨u, by rw [Int.mul_assoc, ← hu, ← h2]⟩
    have k3 : g * g3 x y z ∣ r.2.2 := by
      obtain ⟨u, hu⟩ := @g3_dd x y z
      exact ⟨u, by rw [Int.mul_assoc, ← hu, ← h3]⟩
    have k := g3_great k1 k2 k3
    rw [hG] at k
    have k' : g * g3 x y z ∣ g := by
      rcases so with e | e
      · rw [e] at k ⊢; exact k
      · rw [e]; rw [e] at k; exact (Int.dvd_neg).mpr k
    obtain ⟨u, hu⟩ := k'
    have e : g3 x y z * u = 1 := by
      have : g * (g3 x y z * u) = g * 1 := by rw [← Int.mul_assoc, ← hu, Int.mul_one]
      exact Int.eq_of_mul_eq_mul_left hs this
    have nn : 0 ≤ g3 x y z := by unfold g3; omega
    exact Int.eq_one_of_dvd_one nn ⟨u, e.symm⟩
  · rw [hx, hy]
    by_cases c : r.1 < 0 ∨ (r.1 = 0 ∧ r.2.1 < 0)
    · rw [if_pos c] at sdef
      have a1 := (sgn r.1 x h1 hg).2 sdef
      have a2 := (sgn r.2.1 y h2 hg).2 sdef
      rcases c with c | ⟨c1, c2⟩
      · exact .inl (a1.1 c)
      · exact .inr ⟨a1.2 c1, a2.1 c2⟩
    · rw [if_neg c] at sdef
      have a1 := (sgn r.1 x h1 hg).1 sdef
      have a2 := (sgn r.2.1 y h2 hg).1 sdef
      rcases Int.lt_trichotomy r.1 0 with z1 | z1 | z1
      · exact absurd (.inl z1) c
      · rcases Int.lt_trichotomy r.2.1 0 with z2 | z2 | z2
        · exact absurd (.inr ⟨z1, z2⟩) c
        · omega
        · exact .inr ⟨a1.2 z1, a2.1 z2⟩
      · exact .inl (a1.1 z1)
theorem lf_on {r : T3} (h : r.1 ≠ 0 ∨ r.2.1 ≠ 0) (z : T3) : on (lf r) z ↔ on r z := by
  obtain ⟨h1, h2, h3⟩ := lf_mul r
  have hs := sgl_ne (c := r.2.2) h
  unfold on
  generalize sgl r.1 r.2.1 r.2.2 = g at *
  refine ⟨fun e => ?_, fun e => ?_⟩
  · rw [h1, h2, h3]
    have : g * ((lf r).1 * z.1 + (lf r).2.1 * z.2.1) = g * ((lf r).2.2 * z.2.2) := by rw [e]
    grind
  · have : g * ((lf r).1 * z.1 + (lf r).2.1 * z.2.1) = g * ((lf r).2.2 * z.2.2) := by
      rw [h1, h2, h3] at e
      grind
    exact Int.eq_of_mul_eq_mul_left hs this
theorem on_iff {l z : T3} (hz : Ok z) : on l z ↔ (l.1 : Rat) * re z + (l.2.1 : Rat) * im z = (l.2.2 : Rat) := by
  have d := cast_ne hz.ne
  unfold on re im
  rw [← Rat.intCast_inj]
  simp only [Rat.intCast_add, Rat.intCast_mul]
  refine ⟨fun e => ?_, fun e => ?_⟩ <;> grind
theorem dvd3 {k m x y z : Int} (h1 : k ∣ x * m) (h2 : k ∣ y * m) (h3 : k ∣ z * m) (g : g3 x y z = 1) : k ∣ m := by
  have c := Int.dvd_coe_gcd h1 h2
  rw [Int.gcd_mul_right] at c
  have c' : k ∣ ((Int.gcd x y : Nat) : Int) * ((m.natAbs : Nat) : Int) := by rw [← Int.natCast_mul]; exact c
  have d : k ∣ z * ((m.natAbs : Nat) : Int) := by
    rcases Int.natAbs_eq m with e | e
    · rw [← e]; exact h3
    · have : ((m.natAbs : Nat) : Int) = -m := by omega
      rw [this, Int.mul_neg]; exact (Int.dvd_neg).mpr h3
  have e := Int.dvd_coe_gcd c' d
  rw [Int.gcd_mul_right] at e
  unfold g3 at g
  have g' : Int.gcd ((Int.gcd x y : Nat) : Int) z = 1 := by omega
  rw [g', Nat.one_mul, Int.natAbs_natCast] at e
  exact Int.dvd_natAbs.mp e
theorem ln_same {l m z : T3} (hl : Ln l) (hm : Ln m) (hz : Ok z) (p : l.1 * m.2.1 = m.1 * l.2.1) (h1 : on l z) (h2 : on m z) : l = m := by
  have dz := hz.ne
  unfold on at h1 h2
  obtain ⟨a, b, c⟩ := l
  obtain ⟨u, v, w⟩ := m
  obtain ⟨x, y, d⟩ := z
  have sl := hl.s
  have sm := hm.s
  have gl := hl.g
  have gm := hm.g
  dsimp only at *
  have e1 : a * w = u * c := by
    have : d * (a * w) = d * (u * c) := by grind
    exact Int.eq_of_mul_eq_mul_left dz this
  have e2 : b * w = v * c := by
    have : d * (b * w) = d * (v * c) := by grind
    exact Int.eq_of_mul_eq_mul_left dz this
  by_cases a0 : a = 0
  · subst a0
    have b0 : 0 < b := by omega
    have u0 : u = 0 := by
      have : u * b = 0 := by rw [← p]; simp
      exact (Int.mul_eq_zero.mp this).resolve_right (by omega)
    subst u0
    have v0 : 0 < v := by omega
    have d1 : b ∣ v := dvd3 (x := 0) (y := b) (z := c) (by simp) ⟨v, rfl⟩ ⟨w, by grind⟩ gl
    have d2 : v ∣ b := dvd3 (x := 0) (y := v) (z := w) (by simp) ⟨b, rfl⟩ ⟨c, by grind⟩ gm
    have eb : b = v := Int.le_antisymm (Int.le_of_dvd v0 d1) (Int.le_of_dvd b0 d2)
    subst eb
    have : w = c := Int.eq_of_mul_eq_mul_left (by omega) e2
    rw [this]
  · have a1 : 0 < a := by omega
    have u1 : 0 < u := by
      rcases sm with h | ⟨h, _⟩
      · exact h
      · exfalso
        subst h
        have : a * v = 0 := by rw [p]; simp
        have v0 := (Int.mul_eq_zero.mp this).resolve_left a0
        omega
    have d1 : a ∣ u := dvd3 (x := a) (y := b) (z := c) ⟨u, rfl⟩ ⟨v, by grind⟩ ⟨w, by grind⟩ gl
    have d2 : u ∣ a := dvd3 (x := u) (y := v) (z := w) ⟨a, rfl⟩ ⟨b, by grind⟩ ⟨c, by grind⟩ gm
    have ea : a = u := Int.le_antisymm (Int.le_of_dvd u1 d1) (Int.le_of_dvd a1 d2)
    subst ea
    have : v = b := Int.eq_of_mul_eq_mul_left a0 (by grind)
    have : w = c := Int.eq_of_mul_eq_mul_left a0 (by grind)
    simp_all
def cross (l m : T3) : T3 := low (l.2.2 * m.2.1 - m.2.2 * l.2.1) (l.1 * m.2.2 - m.1 * l.2.2) (l.1 * m.2.1 - m.1 * l.2.1)
theorem cross_iff {l m z : T3} (hz : Ok z) (d : l.1 * m.2.1 ≠ m.1 * l.2.1) : (on l z ∧ on m z) ↔ z = cross l m := by
  have dn : l.1 * m.2.1 - m.1 * l.2.1 ≠ 0 := by omega
  have oc : Ok (cross l m) := low_ok dn
  have r : re (cross l m) = ((l.2.2 * m.2.1 - m.2.2 * l.2.1 : Int) : Rat) / ((l.1 * m.2.1 - m.1 * l.2.1 : Int) : Rat) := low_re dn
  have i : im (cross l m) = ((l.1 * m.2.2 - m.1 * l.2.2 : Int) : Rat) / ((l.1 * m.2.1 - m.1 * l.2.1 : Int) : Rat) := low_im dn
  have dq := cast_ne dn
  simp only [Rat.intCast_sub, Rat.intCast_mul] at r i dq
  refine ⟨fun ⟨h1, h2⟩ => ?_, fun e => ?_⟩
  · rw [on_iff hz] at h1 h2
    refine ext hz oc ?_ ?_
    · rw [r]; grind
    · rw [i]; grind
  · rw [e, on_iff oc, on_iff oc, r, i]
    refine ⟨?_, ?_⟩ <;> grind
/-! ### what satisfies all rows -/
inductive KS where
  | all | none | spot (s : T3) | line (l : T3)
def Mem : KS → T3 → Prop
  | .all, _ => True
  | .none, _ => False
  | .spot s, z => z = s
  | .line l, z => on l z
def bad (r : T3) : Bool := decide (r.1 = 0) && (decide (r.2.1 = 0) && !decide (r.2.2 = 0))
def nz2 (r : T3) : Bool := !decide (r.1 = 0) || !decide (r.2.1 = 0)
def solL : List T3 → KS
  | [] => .all
  | f :: ls => match (f :: ls).filter (fun l => !decide (l = f)) with
    | [] => .line f
    | o :: _ => if f.1 * o.2.1 = o.1 * f.2.1 then .none else if (f :: ls).all (fun l => decide (on l (cross f o))) = true then .spot (cross f o) else .none
def sol (rows : List T3) : KS := if rows.any bad = true then .none else solL ((rows.filter nz2).map lf)
theorem sol_mem (rows : List T3) {z : T3} (hz : Ok z) : Mem (sol rows) z ↔ ∀ r ∈ rows, on r z := by
  unfold sol
  by_cases hb : rows.any bad = true
  · rw [if_pos hb]
    refine ⟨fun h => h.elim, fun h => ?_⟩
    obtain ⟨r, hr, b⟩ := List.any_eq_true.mp hb
    have o := h r hr
    unfold bad at b
    simp at b
    unfold on at o
    rw [b.1, b.2.1] at o
    have o' : r.2.2 * z.2.2 = 0 := by rw [← o]; simp
    rcases Int.mul_eq_zero.mp o' with o | o
    · exact absurd o b.2.2
    · exact absurd o hz.ne
  · rw [if_neg hb]
    have key : (∀ r ∈ rows, on r z) ↔ ∀ l ∈ (rows.filter nz2).map lf, on l z := by
      refine ⟨fun h l hl => ?_, fun h r hr => ?_⟩
      · obtain ⟨r, hr, rfl⟩ := List.mem_map.mp hl
        obtain ⟨hr1, hr2⟩ := List.mem_filter.mp hr
        have n : r.1 ≠ 0 ∨ r.2.1 ≠ 0 := by unfold nz2 at hr2; simpa using hr2
        exact (lf_on n z).mpr (h r hr1)
      · by_cases n : nz2 r = true
        · have n' : r.1 ≠ 0 ∨ r.2.1 ≠ 0 := by unfold nz2 at n; simpa using n
          exact (lf_on n' z).mp (h _ (List.mem_map.mpr ⟨r, List.mem_filter.mpr ⟨hr, n⟩, rfl⟩))
        · unfold nz2 at n
          simp at n
          have nb : bad r = false := by
            cases e : bad r with
            | false => rfl
            | true => exact absurd (List.any_eq_true.mpr ⟨r, hr, e⟩) hb
          unfold bad at nb
          simp [n.1, n.2] at nb
          unfold on
          rw [n.1, n.2, nb]
          simp
    have lns : ∀ l ∈ (rows.filter nz2).map lf, Ln l := fun l hl => by
      obtain ⟨r, hr, rfl⟩ := List.mem_map.mp hl
      obtain ⟨hr1, hr2⟩ := List.mem_filter.mp hr
      exact lf_ln (by unfold nz2 at hr2; simpa using hr2)
    rw [key]
    generalize (rows.filter nz2).map lf = ls at *
    cases ls with
    | nil => simp [solL, Mem]
    | cons f ls =>
      unfold solL
      dsimp only
      cases ho : (f :: ls).filter (fun l => !decide (l = f)) with
      | nil =>
        dsimp only
        show on f z ↔ _
        refine ⟨fun h l hl => ?_, fun h => h f (List.mem_cons_self ..)⟩
        have := List.filter_eq_nil_iff.mp ho l hl
        simp at this
        rw [this]; exact h
      | cons o os =>
        dsimp only
        have om : o ∈ (f :: ls).filter (fun l => !decide (l = f)) := by rw [ho]; exact List.mem_cons_self ..
        obtain ⟨om1, om2⟩ := List.mem_filter.mp om
        have one : o ≠ f := by simpa using om2
        have fm : f ∈ f :: ls := List.mem_cons_self ..
        by_cases p : f.1 * o.2.1 = o.1 * f.2.1
        · rw [if_pos p]
          refine ⟨fun h => h.elim, fun h => ?_⟩
          exact one (ln_same (lns f fm) (lns o om1) hz p (h f fm) (h o om1)).symm
        · rw [if_neg p]
          have ci := cross_iff hz p
          by_cases q : (f :: ls).all (fun l => decide (on l (cross f o))) = true
          · rw [if_pos q]
            show z = _ ↔ _
            refine ⟨fun e l hl => ?_, fun h => ci.mp ⟨h f fm, h o om1⟩⟩
            rw [e]
            exact of_decide_eq_true (List.all_eq_true.mp q l hl)
          · rw [if_neg q]
            refine ⟨fun h => h.elim, fun h => ?_⟩
            have e := ci.mp ⟨h f fm, h o om1⟩
            refine q (List.all_eq_true.mpr fun l hl => ?_)
            rw [← e]
            exact decide_eq_true (h l hl)
/-- the form of what is told -/
def KOk : KS → Prop
  | .spot s => Ok s
  | .line l => Ln l
  | _ => True
theorem sol_ok (rows : List T3) : KOk (sol rows) := by
  unfold sol
  split
  · trivial
  · have lns : ∀ l ∈ (rows.filter nz2).map lf, Ln l := fun l hl => by
      obtain ⟨r, hr, rfl⟩ := List.mem_map.mp hl
      obtain ⟨hr1, hr2⟩ := List.mem_filter.mp hr
      exact lf_ln (by unfold nz2 at hr2; simpa using hr2)
    generalize (rows.filter nz2).map lf = ls at *
    cases ls with
    | nil => trivial
    | cons f ls =>
      unfold solL
      dsimp only
      cases (f :: ls).filter (fun l => !decide (l = f)) with
      | nil => exact lns f (List.mem_cons_self ..)
      | cons o os =>
        dsimp only
        split
        · trivial
        · rename_i p
          split
          · exact low_ok (by omega)
          · trivial
/-! ### where two copies meet -/
def minus (a b : T3) : T3 := plus a (neg b)
def gap (a b : Cp) (z : T3) : T3 := minus (ap a z) (ap b z)
def eqs (R U G : T3) : List T3 := [(R.1 * U.2.2 * G.2.2, U.1 * R.2.2 * G.2.2, G.1 * R.2.2 * U.2.2), (R.2.1 * U.2.2 * G.2.2, U.2.1 * R.2.2 * G.2.2, G.2.1 * R.2.2 * U.2.2)]
def meet (a b : Cp) : KS := sol (eqs (minus (gap a b (1, 0, 1)) (gap a b (0, 0, 1))) (minus (gap a b (0, 1, 1)) (gap a b (0, 0, 1))) (neg (gap a b (0, 0, 1))))
theorem minus_ok {a b : T3} (ha : Ok a) (hb : Ok b) : Ok (minus a b) := plus_ok ha (neg_ok hb)
theorem re_minus {a b : T3} (ha : Ok a) (hb : Ok b) : re (minus a b) = re a - re b := by unfold minus; rw [re_plus ha (neg_ok hb), re_neg]; grind
theorem im_minus {a b : T3} (ha : Ok a) (hb : Ok b) : im (minus a b) = im a - im b := by unfold minus; rw [im_plus ha (neg_ok hb), im_neg]; grind
theorem eqs_iff {R U G z : T3} (hR : Ok R) (hU : Ok U) (hG : Ok G) (hz : Ok z) : (∀ r ∈ eqs R U G, on r z) ↔ (re R * re z + re U * im z = re G ∧ im R * re z + im U * im z = im G) := by
  have r0 := cast_ne hR.ne
  have u0 := cast_ne hU.ne
  have g0 := cast_ne hG.ne
  have h : ∀ r1 u1 g1 : Int, on (r1 * U.2.2 * G.2.2, u1 * R.2.2 * G.2.2, g1 * R.2.2 * U.2.2) z ↔ (r1 : Rat) / (R.2.2 : Rat) * re z + (u1 : Rat) / (U.2.2 : Rat) * im z = (g1 : Rat) / (G.2.2 : Rat) := fun r1 u1 g1 => by
    rw [on_iff hz]
    simp only [Rat.intCast_mul]
    refine ⟨fun e => ?_, fun e => ?_⟩ <;> grind
  have e : (∀ r ∈ eqs R U G, on r z) ↔ (on (R.1 * U.2.2 * G.2.2, U.1 * R.2.2 * G.2.2, G.1 * R.2.2 * U.2.2) z ∧ on (R.2.1 * U.2.2 * G.2.2, U.2.1 * R.2.2 * G.2.2, G.2.1 * R.2.2 * U.2.2) z) := by
    unfold eqs; simp
  rw [e, h, h]
  rfl
theorem ok_0 : Ok (0, 0, 1) := ⟨by decide, by decide⟩
theorem ok_1 : Ok (1, 0, 1) := ⟨by decide, by decide⟩
theorem ok_i : Ok (0, 1, 1) := ⟨by decide, by decide⟩
theorem re_i : re (0, 1, 1) = 0 := by unfold re; decide +kernel
theorem im_i : im (0, 1, 1) = 1 := by unfold im; decide +kernel
theorem gap_ok {a b : Cp} {z : T3} (ha : CpOk a) (hb : CpOk b) (hz : Ok z) : Ok (gap a b z) := minus_ok (ap_ok ha hz) (ap_ok hb hz)
theorem re_gap {a b : Cp} {z : T3} (ha : CpOk a) (hb : CpOk b) (hz : Ok z) : re (gap a b z) = re (ap a z) - re (ap b z) := re_minus (ap_ok ha hz) (ap_ok hb hz)
theorem im_gap {a b : Cp} {z : T3} (ha : CpOk a) (hb : CpOk b) (hz : Ok z) : im (gap a b z) = im (ap a z) - im (ap b z) := im_minus (ap_ok ha hz) (ap_ok hb hz)
theorem meet_mem {a b : Cp} {z : T3} (ha : CpOk a) (hb : CpOk b) (hz : Ok z) : Mem (meet a b) z ↔ ap a z = ap b z := by
  unfold meet
  have g0 := gap_ok ha hb ok_0
  have g1 := gap_ok ha hb ok_1
  have gi := gap_ok ha hb ok_i
  rw [sol_mem _ hz, eqs_iff (minus_ok g1 g0) (minus_ok gi g0) (neg_ok g0) hz, re_minus g1 g0, re_minus gi g0, im_minus g1 g0, im_minus gi g0, re_neg, im_neg]
  simp only [re_gap ha hb ok_0, re_gap ha hb ok_1, re_gap ha hb ok_i, im_gap ha hb ok_0, im_gap ha hb ok_1, im_gap ha hb ok_i]
  unfold ap
  simp only [re_car ha.t ha.s ok_0, re_car ha.t ha.s ok_1, re_car ha.t ha.s ok_i, re_car hb.t hb.s ok_0, re_car hb.t hb.s ok_1, re_car hb.t hb.s ok_i, im_car ha.t ha.s ok_0, im_car ha.t ha.s ok_1, im_car ha.t ha.s ok_i, im_car hb.t hb.s ok_0, im_car hb.t hb.s ok_1, im_car hb.t hb.s ok_i, re_0, im_0, re_1, im_1, re_i, im_i]
  have k : car a.t a.s a.m z = car b.t b.s b.m z ↔ (re (car a.t a.s a.m z) = re (car b.t b.s b.m z) ∧ im (car a.t a.s a.m z) = im (car b.t b.s b.m z)) :=
    ⟨fun e => by rw [e]; exact ⟨rfl, rfl⟩, fun ⟨e1, e2⟩ => ext (car_ok ha.t ha.s hz) (car_ok hb.t hb.s hz) e1 e2⟩
  rw [k, re_car ha.t ha.s hz, re_car hb.t hb.s hz, im_car ha.t ha.s hz, im_car hb.t hb.s hz]
  generalize (if a.m = true then (-1 : Rat) else 1) = sa
  generalize (if b.m = true then (-1 : Rat) else 1) = sb
  refine ⟨fun ⟨e1, e2⟩ => ⟨?_, ?_⟩, fun ⟨e1, e2⟩ => ⟨?_, ?_⟩⟩ <;> grind
theorem meet_ok (a b : Cp) : KOk (meet a b) := sol_ok _
theorem all_iff {a b : Cp} (ha : CpOk a) (hb : CpOk b) : meet a b = .all ↔ a = b := by
  refine ⟨fun e => ?_, fun e => ?_⟩
  · have h : ∀ z, Ok z → ap a z = ap b z := fun z hz => (meet_mem ha hb hz).mp (by rw [e]; trivial)
    have e0 := h _ ok_0
    have e1 := h _ ok_1
    have ei := h _ ok_i
    have r0 := congrArg re e0
    have i0 := congrArg im e0
    have r1 := congrArg re e1
    have i1 := congrArg im e1
    have ri := congrArg re ei
    have ii := congrArg im ei
    unfold ap at r0 i0 r1 i1 ri ii
    simp only [re_car ha.t ha.s ok_0, re_car ha.t ha.s ok_1, re_car ha.t ha.s ok_i, re_car hb.t hb.s ok_0, re_car hb.t hb.s ok_1, re_car hb.t hb.s ok_i, im_car ha.t ha.s ok_0, im_car ha.t ha.s ok_1, im_car ha.t ha.s ok_i, im_car hb.t hb.s ok_0, im_car hb.t hb.s ok_1, im_car hb.t hb.s ok_i, re_0, im_0, re_1, im_1, re_i, im_i] at r0 i0 r1 i1 ri ii
    have n := nn_ne ha.t ha.n
    have q : nn a.t = re a.t * re a.t + im a.t * im a.t := rfl
    have tr : re a.t = re b.t := by grind
    have ti : im a.t = im b.t := by grind
    refine cp_ext ha hb tr ti (by grind) (by grind) ?_
    have no : a.m ≠ b.m → False := fun hne => by
      apply n
      rw [q]
      have z : re a.t = 0 ∧ im a.t = 0 := by
        cases hm : a.m <;> cases hm' : b.m
        · exact absurd (hm.trans hm'.symm) hne
        · rw [hm, hm'] at ri ii
          simp at ri ii
          exact ⟨by grind, by grind⟩
        · rw [hm, hm'] at ri ii
          simp at ri ii
          exact ⟨by grind, by grind⟩
        · exact absurd (hm.trans hm'.symm) hne
      rw [z.1, z.2]
      grind
    exact Decidable.byContradiction no
  · have h : ∀ z, Ok z → Mem (meet a b) z := fun z hz => (meet_mem ha hb hz).mpr (by rw [e])
    have ok := meet_ok a b
    generalize meet a b = k at *
    have h0 := h _ ok_0
    have h1 := h _ ok_1
    have hi := h _ ok_i
    cases k with
    | all => rfl
    | none => exact h0.elim
    | spot s =>
      have z0 : ((0, 0, 1) : T3) = s := h0
      have z1 : ((1, 0, 1) : T3) = s := h1
      rw [← z0] at z1
      exact absurd z1 (by decide)
    | line l =>
      exfalso
      have ok : Ln l := ok
      have z0 : on l (0, 0, 1) := h0
      have z1 : on l (1, 0, 1) := h1
      have zi : on l (0, 1, 1) := hi
      unfold on at z0 z1 zi
      simp at z0 z1 zi
      have := ok.s
      omega
/-! ### sizes of what is told -/
def KB (n m : Nat) : KS → Prop
  | .spot s => B n s
  | .line l => B m l
  | _ => True
theorem lf_B {r : T3} {n : Nat} (h : r.1 ≠ 0 ∨ r.2.1 ≠ 0) (b : B n r) : B n (lf r) := by
  obtain ⟨e1, e2, e3⟩ := lf_mul r
  have hs := sgl_ne (c := r.2.2) h
  obtain ⟨b1, b2, b3⟩ := b
  refine ⟨?_, ?_, ?_⟩
  · have := abs_le (a := (lf r).1) hs; rw [← e1] at this; omega
  · have := abs_le (a := (lf r).2.1) hs; rw [← e2] at this; omega
  · have := abs_le (a := (lf r).2.2) hs; rw [← e3] at this; omega
theorem sol_KB {rows : List T3} {n : Nat} (h : ∀ r ∈ rows, B n r) : KB (n + n + 1) n (sol rows) := by
  unfold sol
  split
  · trivial
  · have lns : ∀ l ∈ (rows.filter nz2).map lf, B n l := fun l hl => by
      obtain ⟨r, hr, rfl⟩ := List.mem_map.mp hl
      obtain ⟨hr1, hr2⟩ := List.mem_filter.mp hr
      exact lf_B (by unfold nz2 at hr2; simpa using hr2) (h r hr1)
    generalize (rows.filter nz2).map lf = ls at *
    cases ls with
    | nil => trivial
    | cons f ls =>
      unfold solL
      dsimp only
      have hf := lns f (List.mem_cons_self ..)
      cases ho : (f :: ls).filter (fun l => !decide (l = f)) with
      | nil => exact hf
      | cons o os =>
        dsimp only
        have om : o ∈ (f :: ls).filter (fun l => !decide (l = f)) := by rw [ho]; exact List.mem_cons_self ..
        have hO := lns o (List.mem_filter.mp om).1
        split
        · trivial
        · rename_i p
          split
          · exact low_B (fun z => p (Int.sub_eq_zero.mp z)) (sub_lt (mul_lt hf.2.2 hO.2.1) (mul_lt hO.2.2 hf.2.1)) (sub_lt (mul_lt hf.1 hO.2.2) (mul_lt hO.1 hf.2.2)) (sub_lt (mul_lt hf.1 hO.2.1) (mul_lt hO.1 hf.2.1))
          · trivial
theorem eqs_B {R U G : T3} {n : Nat} (hR : B n R) (hU : B n U) (hG : B n G) : ∀ r ∈ eqs R U G, B (n + n + n) r := by
  intro r hr
  unfold eqs at hr
  simp only [List.mem_cons, List.mem_nil_iff, or_false] at hr
  rcases hr with rfl | rfl
  · exact ⟨mul_lt (mul_lt hR.1 hU.2.2) hG.2.2, mul_lt (mul_lt hU.1 hR.2.2) hG.2.2, mul_lt (mul_lt hG.1 hR.2.2) hU.2.2⟩
  · exact ⟨mul_lt (mul_lt hR.2.1 hU.2.2) hG.2.2, mul_lt (mul_lt hU.2.1 hR.2.2) hG.2.2, mul_lt (mul_lt hG.2.1 hR.2.2) hU.2.2⟩
theorem minus_B {a b : T3} {n m : Nat} (oa : Ok a) (ob : Ok b) (ha : B n a) (hb : B m b) : B (n + m + 1) (minus a b) := plus_B oa (neg_ok ob) ha (neg_B hb)
theorem gap_Bn {a b : Cp} {z : T3} {n m : Nat} (ha : CpOk a) (hb : CpOk b) (hz : Ok z) (ta : B n a.t) (sa : B n a.s) (tb : B m b.t) (sb : B m b.s) (bz : B 1 z) : B (2 * n + 3 + (2 * m + 3) + 1) (gap a b z) :=
  minus_B (ap_ok ha hz) (ap_ok hb hz) ((car_B ha.t ha.s hz ta sa bz).mono (by omega)) ((car_B hb.t hb.s hz tb sb bz).mono (by omega))
instance (n : Nat) (t : T3) : Decidable (B n t) := inferInstanceAs (Decidable (_ ∧ _ ∧ _))
theorem meet_KB {a b : Cp} {n m : Nat} (ha : CpOk a) (hb : CpOk b) (ta : B n a.t) (sa : B n a.s) (tb : B m b.t) (sb : B m b.s) : KB (24 * n + 24 * m + 91) (12 * n + 12 * m + 45) (meet a b) := by
  have z0 : B 1 (0, 0, 1) := by decide
  have z1 : B 1 (1, 0, 1) := by decide
  have zi : B 1 (0, 1, 1) := by decide
  have b0 := gap_Bn ha hb ok_0 ta sa tb sb z0
  have b1 := gap_Bn ha hb ok_1 ta sa tb sb z1
  have bi := gap_Bn ha hb ok_i ta sa tb sb zi
  have g0 := gap_ok ha hb ok_0
  have g1 := gap_ok ha hb ok_1
  have gi := gap_ok ha hb ok_i
  have bR := minus_B g1 g0 b1 b0
  have bU := minus_B gi g0 bi b0
  have bG := (neg_B b0).mono (show 2 * n + 3 + (2 * m + 3) + 1 ≤ 2 * n + 3 + (2 * m + 3) + 1 + (2 * n + 3 + (2 * m + 3) + 1) + 1 by omega)
  have e1 : 24 * n + 24 * m + 91 = (12 * n + 12 * m + 45) + (12 * n + 12 * m + 45) + 1 := by omega
  rw [e1]
  exact sol_KB fun r hr => (eqs_B bR bU bG r hr).mono (by omega)
/-! ### a spot of a line, and others along it -/
def along (l : T3) (k : Int) : T3 := low (l.1 * l.2.2 + k * l.2.1) (l.2.1 * l.2.2 - k * l.1) (l.1 * l.1 + l.2.1 * l.2.1)
theorem ln_sq {l : T3} (h : Ln l) : l.1 * l.1 + l.2.1 * l.2.1 ≠ 0 := sq_ne (a := l) (by have := h.s; unfold Nz; omega)
theorem along_ok {l : T3} (h : Ln l) (k : Int) : Ok (along l k) := low_ok (ln_sq h)
theorem along_on {l : T3} (h : Ln l) (k : Int) : on l (along l k) := by
  rw [on_iff (along_ok h k)]
  have n := cast_ne (ln_sq h)
  unfold along
  rw [low_re (ln_sq h), low_im (ln_sq h)]
  simp only [Rat.intCast_add, Rat.intCast_sub, Rat.intCast_mul] at n ⊢
  grind
theorem along_re {l : T3} (h : Ln l) (k : Int) : re (along l k) = ((l.1 * l.2.2 + k * l.2.1 : Int) : Rat) / ((l.1 * l.1 + l.2.1 * l.2.1 : Int) : Rat) := low_re (ln_sq h)
theorem along_im {l : T3} (h : Ln l) (k : Int) : im (along l k) = ((l.2.1 * l.2.2 - k * l.1 : Int) : Rat) / ((l.1 * l.1 + l.2.1 * l.2.1 : Int) : Rat) := low_im (ln_sq h)
theorem two_on {l m : T3} (hl : Ln l) (hm : Ln m) (h0 : on m (along l 0)) (h1 : on m (along l 1)) : l = m := by
  refine ln_same hl hm (along_ok hl 0) ?_ (along_on hl 0) h0
  rw [on_iff (along_ok hl _), along_re hl, along_im hl] at h0 h1
  have n := cast_ne (ln_sq hl)
  simp only [Rat.intCast_add, Rat.intCast_sub, Rat.intCast_mul] at n h0 h1
  have e : (l.1 : Rat) * (m.2.1 : Rat) = (m.1 : Rat) * (l.2.1 : Rat) := by
    simp at h0 h1
    grind
  rw [← Rat.intCast_mul, ← Rat.intCast_mul] at e
  exact Rat.intCast_inj.mp e
theorem along_ne {l : T3} (h : Ln l) : along l 0 ≠ along l 1 := fun e => by
  have r := congrArg re e
  have i := congrArg im e
  rw [along_re h, along_re h] at r
  rw [along_im h, along_im h] at i
  have n := cast_ne (ln_sq h)
  simp only [Rat.intCast_add, Rat.intCast_sub, Rat.intCast_mul] at n r i
  have e1 : (l.2.1 : Rat) = 0 := by simp at r; grind
  have e2 : (l.1 : Rat) = 0 := by simp at i; grind
  have z1 : l.2.1 = 0 := by
    have : ((l.2.1 : Int) : Rat) = ((0 : Int) : Rat) := by rw [e1]; simp
    exact Rat.intCast_inj.mp this
  have z2 : l.1 = 0 := by
    have : ((l.1 : Int) : Rat) = ((0 : Int) : Rat) := by rw [e2]; simp
    exact Rat.intCast_inj.mp this
  have := h.s
  omega
theorem no_line {l : T3} (h : Ln l) (a : ∀ z, Ok z → on l z) : False := by
  have z0 := a _ ok_0
  have z1 := a _ ok_1
  have zi := a _ ok_i
  unfold on at z0 z1 zi
  simp at z0 z1 zi
  have := h.s
  omega
theorem no_spot {s : T3} (a : ∀ z, Ok z → z = s) : False := by
  have e := (a _ ok_0).trans (a _ ok_1).symm
  exact absurd e (by decide)
theorem ks_ext {k m : KS} (hk : KOk k) (hm : KOk m) (h : ∀ z, Ok z → (Mem k z ↔ Mem m z)) : k = m := by
  cases k with
  | all =>
    cases m with
    | all => rfl
    | none => exact ((h _ ok_0).mp trivial).elim
    | spot s => exact (no_spot fun z hz => (h z hz).mp trivial).elim
    | line l => exact (no_line hm fun z hz => (h z hz).mp trivial).elim
  | none =>
    cases m with
    | all => exact ((h _ ok_0).mpr trivial).elim
    | none => rfl
    | spot s => exact ((h s hm).mpr rfl).elim
    | line l => exact ((h _ (along_ok hm 0)).mpr (along_on hm 0)).elim
  | spot s =>
    cases m with
    | all => exact (no_spot fun z hz => (h z hz).mpr trivial).elim
    | none => exact ((h s hk).mp rfl).elim
    | spot t => exact congrArg KS.spot ((h s hk).mp rfl)
    | line l =>
      have a : along l 0 = s := (h _ (along_ok hm 0)).mpr (along_on hm 0)
      have b : along l 1 = s := (h _ (along_ok hm 1)).mpr (along_on hm 1)
      exact absurd (a.trans b.symm) (along_ne hm)
  | line l =>
    cases m with
    | all => exact (no_line hk fun z hz => (h z hz).mpr trivial).elim
    | none => exact ((h _ (along_ok hk 0)).mp (along_on hk 0)).elim
    | spot s =>
      have a : along l 0 = s := (h _ (along_ok hk 0)).mp (along_on hk 0)
      have b : along l 1 = s := (h _ (along_ok hk 1)).mp (along_on hk 1)
      exact absurd (a.trans b.symm) (along_ne hk)
    | line l' => exact congrArg KS.line (two_on hk hm ((h _ (along_ok hk 0)).mp (along_on hk 0)) ((h _ (along_ok hk 1)).mp (along_on hk 1)))
theorem meet_comm {a b : Cp} (ha : CpOk a) (hb : CpOk b) : meet b a = meet a b := ks_ext (meet_ok b a) (meet_ok a b) fun z hz => by
  rw [meet_mem hb ha hz, meet_mem ha hb hz]; exact ⟨Eq.symm, Eq.symm⟩
end Mth
namespace Mth
/-! ### times of any sign -/
theorem agz_zero (c : Cp) : agz c 0 = still := rfl
theorem agz_one {c : Cp} (h : CpOk c) : agz c 1 = c := ag_one h
theorem agz_neg1 {c : Cp} (h : CpOk c) : agz c (-1) = bk c := ag_one (bk_ok h)
theorem agz_pos (c : Cp) (n : Nat) : agz c (n : Int) = ag c n := by
  unfold agz stp
  rw [if_pos (by omega), Int.natAbs_natCast]
theorem agz_neg (c : Cp) (n : Nat) : agz c (-(n : Int)) = ag (bk c) n := by
  by_cases h0 : n = 0
  · subst h0; rfl
  · unfold agz stp
    rw [if_neg (by omega), Int.natAbs_neg, Int.natAbs_natCast]
theorem agz_succ {c : Cp} (h : CpOk c) (n : Int) : agz c (n + 1) = jn (agz c n) c := by
  by_cases h0 : 0 ≤ n
  · obtain ⟨k, rfl⟩ : ∃ k : Nat, n = (k : Int) := ⟨n.toNat, by omega⟩
    have e : ((k : Int) + 1) = ((k + 1 : Nat) : Int) := by omega
    rw [e, agz_pos, agz_pos]
    rfl
  · obtain ⟨k, rfl⟩ : ∃ k : Nat, n = -((k + 1 : Nat) : Int) := ⟨(-n).toNat - 1, by omega⟩
    have e : (-((k + 1 : Nat) : Int) + 1) = -(k : Int) := by omega
    rw [e, agz_neg, agz_neg]
    show ag (bk c) k = jn (jn (ag (bk c) k) (bk c)) c
    rw [jn_assoc (ag_ok (bk_ok h) k) (bk_ok h) h, bk_jn h, jn_still (ag_ok (bk_ok h) k)]
theorem agz_pred {c : Cp} (h : CpOk c) (n : Int) : agz c (n - 1) = jn (agz c n) (bk c) := by
  have e := agz_succ h (n - 1)
  rw [show n - 1 + 1 = n by omega] at e
  rw [e, jn_assoc (agz_ok h _) h (bk_ok h), jn_bk h, jn_still (agz_ok h _)]
theorem agz_addn {c : Cp} (h : CpOk c) (m : Int) : ∀ k : Nat, agz c (m + (k : Int)) = jn (agz c m) (ag c k)
  | 0 => by
    show agz c (m + 0) = jn (agz c m) still
    rw [Int.add_zero, jn_still (agz_ok h m)]
  | k + 1 => by
    have e : m + ((k + 1 : Nat) : Int) = m + (k : Int) + 1 := by omega
    rw [e, agz_succ h, agz_addn h m k]
    show jn (jn (agz c m) (ag c k)) c = jn (agz c m) (jn (ag c k) c)
    rw [jn_assoc (agz_ok h m) (ag_ok h k) h]
theorem agz_subn {c : Cp} (h : CpOk c) (m : Int) : ∀ k : Nat, agz c (m - (k : Int)) = jn (agz c m) (ag (bk c) k)
  | 0 => by
    show agz c (m - 0) = jn (agz c m) still
    rw [Int.sub_zero, jn_still (agz_ok h m)]
  | k + 1 => by
    have e : m - ((k + 1 : Nat) : Int) = m - (k : Int) - 1 := by omega
    rw [e, agz_pred h, agz_subn h m k]
    show jn (jn (agz c m) (ag (bk c) k)) (bk c) = jn (agz c m) (jn (ag (bk c) k) (bk c))
    rw [jn_assoc (agz_ok h m) (ag_ok (bk_ok h) k) (bk_ok h)]
theorem agz_add {c : Cp} (h : CpOk c) (m n : Int) : agz c (m + n) = jn (agz c m) (agz c n) := by
  by_cases h0 : 0 ≤ n
  · obtain ⟨k, rfl⟩ : ∃ k : Nat, n = (k : Int) := ⟨n.toNat, by omega⟩
    rw [agz_addn h, agz_pos]
  · obtain ⟨k, rfl⟩ : ∃ k : Nat, n = -(k : Int) := ⟨(-n).toNat, by omega⟩
    rw [show m + -(k : Int) = m - (k : Int) by omega, agz_subn h, agz_neg]
theorem agz_two {c : Cp} (h : CpOk c) (n : Int) : agz (agz c n) 2 = agz c (2 * n) := by
  rw [show 2 * n = n + n by omega, agz_add h]
  show jn (jn still (agz c n)) (agz c n) = _
  rw [still_jn (agz_ok h n)]
/-! ### step by step -/
def itn (c : Cp) (z : T3) : Nat → T3
  | 0 => z
  | n + 1 => ap c (itn c z n)
theorem itn_ok {c : Cp} (h : CpOk c) {z : T3} (hz : Ok z) : ∀ n, Ok (itn c z n)
  | 0 => hz
  | n + 1 => ap_ok h (itn_ok h hz n)
theorem ap_ag {c : Cp} (h : CpOk c) {z : T3} (hz : Ok z) : ∀ n, ap (ag c n) z = itn c z n
  | 0 => ap_still hz
  | n + 1 => by
    show ap (jn (ag c n) c) z = ap c (itn c z n)
    rw [jn_ap (ag_ok h n) h hz, ap_ag h hz n]
/-! ### a quarter -/
theorem ag_still : ∀ n, ag still n = still
  | 0 => rfl
  | n + 1 => by
    show jn (ag still n) still = still
    rw [ag_still n, jn_still still_ok]
theorem quarter4 {c : Cp} (h : CpOk c) (ht : c.t = (0, 1, 1)) (hm : c.m = false) : ag c 4 = still := by
  have e : ag c 4 = ag (ag c 2) 2 := ag_mul h 2 2
  rw [e]
  refine at_half (ag_ok h 2) ?_ ?_
  · rw [ag_t, ht, hm]; decide
  · rw [ag_m, hm]; rfl
theorem period4 {c : Cp} (h : CpOk c) (e4 : ag c 4 = still) (k : Nat) : ag c k = ag c (k % 4) := by
  have e : ag c (4 * (k / 4) + k % 4) = jn (ag c (4 * (k / 4))) (ag c (k % 4)) := ag_add h _ _
  rw [Nat.div_add_mod, ag_mul h, e4, ag_still, still_jn (ag_ok h _)] at e
  exact e
theorem quarter100 {c : Cp} (h : CpOk c) (e4 : ag c 4 = still) : agz c 100 = still := by
  show ag c 100 = still
  rw [period4 h e4]
  rfl
theorem quarter99 {c : Cp} (h : CpOk c) (e4 : ag c 4 = still) : agz c (-99) = c := by
  show ag (bk c) 99 = c
  rw [← bk_ag h]
  refine (bk_uniq (ag_ok h 99) h ?_).symm
  show ag c 100 = still
  rw [period4 h e4]
  rfl
theorem back4 {c : Cp} (h : CpOk c) (e4 : ag c 4 = still) : ag (bk c) 4 = still := by
  rw [← bk_ag h, e4, bk_still]
end Mth
namespace Mth
/-! ### arms -/
structure Am where
  pole : T3
  t : T3
  near : Int
  far : Int
  m : Bool
  deriving DecidableEq
structure AmOk (a : Am) : Prop where
  p : Ok a.pole
  t : Ok a.t
  n : Nz a.t
  lo : 0 ≤ a.near
  mi : a.near ≤ a.far
  hi : a.far ≤ 1000
def about (a : Am) : Cp := ⟨a.t, minus a.pole (times a.t (face a.pole a.m)), a.m⟩
theorem about_ok {a : Am} (h : AmOk a) : CpOk (about a) := ⟨h.t, h.n, minus_ok h.p (times_ok h.t (face_ok h.p _))⟩
theorem re_sh {p t : T3} (hp : Ok p) (ht : Ok t) (m : Bool) : re (minus p (times t (face p m))) = re p - (re t * re p - im t * ((if m = true then -1 else 1) * im p)) := by
  rw [re_minus hp (times_ok ht (face_ok hp m)), re_times ht (face_ok hp m), re_face, im_face]
theorem im_sh {p t : T3} (hp : Ok p) (ht : Ok t) (m : Bool) : im (minus p (times t (face p m))) = im p - (re t * ((if m = true then -1 else 1) * im p) + im t * re p) := by
  rw [im_minus hp (times_ok ht (face_ok hp m)), im_times ht (face_ok hp m), re_face, im_face]
theorem about_fix {a : Am} (h : AmOk a) : ap (about a) a.pole = a.pole := by
  have o := minus_ok h.p (times_ok h.t (face_ok h.p a.m))
  refine ext (ap_ok (about_ok h) h.p) h.p ?_ ?_
  · show re (car a.t (minus a.pole (times a.t (face a.pole a.m))) a.m a.pole) = _
    rw [re_car h.t o h.p, re_sh h.p h.t]; grind
  · show im (car a.t (minus a.pole (times a.t (face a.pole a.m))) a.m a.pole) = _
    rw [im_car h.t o h.p, im_sh h.p h.t]; grind
theorem about_of {c : Cp} {z : T3} {n f : Int} (hc : CpOk c) (hz : Ok z) (h : ap c z = z) : about ⟨z, c.t, n, f, c.m⟩ = c := by
  have o := minus_ok hz (times_ok hc.t (face_ok hz c.m))
  have h1 := congrArg re h
  have h2 := congrArg im h
  unfold ap at h1 h2
  rw [re_car hc.t hc.s hz] at h1
  rw [im_car hc.t hc.s hz] at h2
  refine cp_ext (a := about ⟨z, c.t, n, f, c.m⟩) ⟨hc.t, hc.n, o⟩ hc rfl rfl ?_ ?_ rfl
  · show re (minus z (times c.t (face z c.m))) = _
    rw [re_sh hz hc.t]; grind
  · show im (minus z (times c.t (face z c.m))) = _
    rw [im_sh hz hc.t]; grind
/-! ### chains -/
def jall (as : List Am) : Cp := as.foldl (fun c a => jn c (about a)) still
theorem foldl_ok {as : List Am} : ∀ {c : Cp}, CpOk c → (∀ a ∈ as, AmOk a) → CpOk (as.foldl (fun c a => jn c (about a)) c) := by
  induction as with
  | nil => intro c hc _; exact hc
  | cons a as ih => intro c hc h; exact ih (jn_ok hc (about_ok (h a (List.mem_cons_self ..)))) fun b hb => h b (List.mem_cons_of_mem _ hb)
theorem jall_ok {as : List Am} (h : ∀ a ∈ as, AmOk a) : CpOk (jall as) := foldl_ok still_ok h
theorem jall_snoc (as : List Am) (a : Am) : jall (as ++ [a]) = jn (jall as) (about a) := by
  unfold jall; rw [List.foldl_append]; rfl
theorem jall_take {as : List Am} {i : Nat} {a : Am} (h : as[i]? = some a) : jall (as.take (i + 1)) = jn (jall (as.take i)) (about a) := by
  rw [List.take_succ, h]; exact jall_snoc _ _
theorem jall_one {a : Am} (h : AmOk a) : jall [a] = about a := still_jn (about_ok h)
/-! ### the spot nearest to the middle -/
def near0 : KS → Option T3
  | .none => none
  | .all => some (0, 0, 1)
  | .spot s => some s
  | .line l => some (along l 0)
theorem along0 (l : T3) : along l 0 = low (l.1 * l.2.2) (l.2.1 * l.2.2) (l.1 * l.1 + l.2.1 * l.2.1) := by
  unfold along; rw [Int.zero_mul, Int.zero_mul, Int.add_zero, Int.sub_zero]
theorem near0_mem {k : KS} (hk : KOk k) {z : T3} (h : near0 k = some z) : Ok z ∧ Mem k z := by
  cases k with
  | none => cases h
  | all => cases h; exact ⟨ok_0, trivial⟩
  | spot s => cases h; exact ⟨hk, rfl⟩
  | line l => cases h; exact ⟨along_ok hk 0, along_on hk 0⟩
theorem along_perp {l : T3} (h : Ln l) : l.1 * (along l 0).2.1 = l.2.1 * (along l 0).1 := by
  have o := along_ok h 0
  have n := cast_ne (ln_sq h)
  have d := cast_ne o.ne
  have e1 := along_re h 0
  have e2 := along_im h 0
  unfold re at e1
  unfold im at e2
  generalize along l 0 = z at *
  simp only [Rat.intCast_add, Rat.intCast_sub, Rat.intCast_mul] at e1 e2 n
  have : ((l.1 * z.2.1 : Int) : Rat) = ((l.2.1 * z.1 : Int) : Rat) := by
    simp only [Rat.intCast_mul]
    grind
  exact_mod_cast this
def sng (c : Cp) : Option Am := (near0 (meet c still)).map fun z => ⟨z, c.t, 0, 1000, c.m⟩
theorem sng_ok {c : Cp} {a : Am} (hc : CpOk c) (h : sng c = some a) : AmOk a ∧ about a = c ∧ near0 (meet c still) = some a.pole ∧ a.near = 0 ∧ a.far = 1000 ∧ a.t = c.t ∧ a.m = c.m := by
  unfold sng at h
  cases e : near0 (meet c still) with
  | none => rw [e] at h; cases h
  | some z =>
    rw [e] at h
    cases h
    obtain ⟨oz, mz⟩ := near0_mem (meet_ok c still) e
    have fz : ap c z = z := by rw [(meet_mem hc still_ok oz).mp mz, ap_still oz]
    exact ⟨⟨oz, hc.t, hc.n, by show (0 : Int) ≤ 0; decide, by show (0 : Int) ≤ 1000; decide, by show (1000 : Int) ≤ 1000; decide⟩, about_of hc oz fz, rfl, rfl, rfl, rfl, rfl⟩
theorem sng_none {c : Cp} : sng c = none ↔ meet c still = .none := by
  unfold sng
  cases e : meet c still with
  | none => exact ⟨fun _ => rfl, fun _ => rfl⟩
  | all => exact ⟨(fun h => by cases h), (fun h => by cases h)⟩
  | spot s => exact ⟨(fun h => by cases h), (fun h => by cases h)⟩
  | line l => exact ⟨(fun h => by cases h), (fun h => by cases h)⟩
theorem near0_B {k : KS} {n m : Nat} (hk : KOk k) (kb : KB n m k) (hn : n ≤ 2600) (hm : m + m + 1 ≤ 2600) {z : T3} (e : near0 k = some z) : B 2600 z := by
  cases k with
  | none => cases e
  | all => cases e; exact B.mono (n := 3) (by decide) (by decide)
  | spot s => cases e; exact B.mono kb hn
  | line l =>
    cases e
    have kb : B m l := kb
    rw [along0]
    exact (low_B (ln_sq hk) (up_lt (by omega) (mul_lt kb.1 kb.2.2)) (up_lt (by omega) (mul_lt kb.2.1 kb.2.2)) (add_lt (mul_lt kb.1 kb.1) (mul_lt kb.2.1 kb.2.1))).mono hm
/-- a single arm is its own -/
theorem sng_single {c : Cp} {a : Am} (hc : CpOk c) (h : sng c = some a) : sng (jall [a]) = some a := by
  obtain ⟨o, e, _⟩ := sng_ok hc h
  rw [jall_one o, e]; exact h
/-- the level line of a spot -/
def lev (s : T3) : Am := ⟨s, (1, 0, 1), 0, 9, true⟩
theorem lev_ok {s : T3} (h : Ok s) : AmOk (lev s) := ⟨h, ok_1, .inl (show (1 : Int) ≠ 0 by decide), (by show (0 : Int) ≤ 0; decide), (by show (0 : Int) ≤ 9; decide), (by show (9 : Int) ≤ 1000; decide)⟩
theorem lev_meet {s : T3} (h : Ok s) : meet (jall [lev s]) still = .line (lf (0, s.2.2, s.2.1)) := by
  have oa := lev_ok h
  have oc := about_ok oa
  have hn : (0, s.2.2, s.2.1).1 ≠ (0 : Int) ∨ (0, s.2.2, s.2.1).2.1 ≠ (0 : Int) := .inr h.ne
  rw [jall_one oa]
  refine ks_ext (meet_ok _ _) (lf_ln hn) fun z hz => ?_
  rw [meet_mem oc still_ok hz, ap_still hz]
  show _ ↔ on (lf (0, s.2.2, s.2.1)) z
  rw [lf_on hn z, on_iff hz]
  have n := cast_ne h.ne
  have ei : im s = (s.2.1 : Rat) / (s.2.2 : Rat) := rfl
  have e1 : re (ap (about (lev s)) z) = re z := by
    unfold ap; rw [re_car oc.t oc.s hz]; unfold about lev; dsimp only; rw [re_sh h ok_1, re_1, im_1]; grind
  have e2 : im (ap (about (lev s)) z) = 2 * im s - im z := by
    unfold ap; rw [im_car oc.t oc.s hz]; unfold about lev; dsimp only; rw [im_sh h ok_1, re_1, im_1]; grind
  have z0 : (((0 : Int)) : Rat) = 0 := rfl
  dsimp only
  rw [z0]
  constructor
  · intro e
    have := congrArg im e
    rw [e2] at this
    grind
  · intro e
    refine ext (ap_ok oc hz) hz e1 ?_
    rw [e2]
    grind
theorem lev_pole {s : T3} (h : Ok s) {a : Am} (e : sng (jall [lev s]) = some a) : a.pole = low 0 s.2.1 s.2.2 := by
  obtain ⟨_, _, h3, _⟩ := sng_ok (jall_ok fun b hb => by rw [List.mem_singleton.mp hb]; exact lev_ok h) e
  rw [lev_meet h] at h3
  have h3 := Option.some.inj h3
  rw [← h3]
  have hn : (0, s.2.2, s.2.1).1 ≠ (0 : Int) ∨ (0, s.2.2, s.2.1).2.1 ≠ (0 : Int) := .inr h.ne
  have hl := lf_ln hn
  have hm := lf_mul (0, s.2.2, s.2.1)
  have sn := sgl_ne (c := s.2.1) hn
  dsimp only at hm sn
  have l1 : (lf (0, s.2.2, s.2.1)).1 = 0 := by
    rcases Int.mul_eq_zero.mp hm.1.symm with z | z
    · exact absurd z sn
    · exact z
  have on1 := along_on hl 0
  rw [lf_on hn, on_iff (along_ok hl 0)] at on1
  have n := cast_ne h.ne
  refine ext (along_ok hl 0) (low_ok h.ne) ?_ ?_
  · rw [along_re hl, low_re h.ne, l1]
    simp only [Int.zero_mul, Int.add_zero, Rat.intCast_zero, Rat.div_def, Rat.zero_mul]
  · rw [low_im h.ne]
    have z0 : (((0 : Int)) : Rat) = 0 := rfl
    dsimp only at on1
    rw [z0] at on1
    grind
theorem lev_some {s : T3} (h : Ok s) : ∃ a, sng (jall [lev s]) = some a := by
  unfold sng
  rw [lev_meet h]
  exact ⟨_, rfl⟩
end Mth
namespace Mth
/-! ### fractions -/
def val (a : Int × Int) : Rat := (a.1 : Rat) / (a.2 : Rat)
def lessF (a b : Int × Int) : Bool := decide (a.1 * b.2 < b.1 * a.2)
theorem div_lt {a b c d : Rat} (hb : 0 < b) (hd : 0 < d) : a / b < c / d ↔ a * d < c * b := by
  have e1 : a / b * (b * d) = a * d := by grind
  have e2 : c / d * (b * d) = c * b := by grind
  have p : 0 < b * d := Rat.mul_pos hb hd
  rw [← e1, ← e2]
  exact (Rat.mul_lt_mul_right p).symm
theorem cast_pos {a : Int} (h : 0 < a) : (0 : Rat) < (a : Rat) := by exact_mod_cast h
theorem lessF_iff {a b : Int × Int} (ha : 0 < a.2) (hb : 0 < b.2) : lessF a b = decide (val a < val b) := by
  unfold lessF val
  have h := div_lt (a := (a.1 : Rat)) (c := (b.1 : Rat)) (cast_pos ha) (cast_pos hb)
  have e : (a.1 : Rat) * (b.2 : Rat) < (b.1 : Rat) * (a.2 : Rat) ↔ a.1 * b.2 < b.1 * a.2 := by
    rw [← Rat.intCast_mul, ← Rat.intCast_mul]
    exact Rat.intCast_lt_intCast
  rw [decide_eq_decide]
  exact (h.trans e).symm
theorem fr_pos {p q : Int} (hq : q ≠ 0) : 0 < (fr p q).2 := low_pos hq
theorem fr_val {p q : Int} (hq : q ≠ 0) : val (fr p q) = (p : Rat) / (q : Rat) := low_re (y := 0) hq
theorem gr_val {t : T3} (h : Ok t) : val (gr t) = nn t := by
  have := re_gr3 h
  rw [gr3_eq] at this
  exact this
theorem gr_p2 {t : T3} (h : Ok t) : 0 < (gr t).2 := low_pos (mul_ne h.ne h.ne)
theorem gr_congr {s t : T3} (hs : Ok s) (ht : Ok t) (h : nn s = nn t) : gr s = gr t := by
  have e : gr3 s = gr3 t := ext (gr3_ok hs) (gr3_ok ht) (by rw [re_gr3 hs, re_gr3 ht, h]) (by rw [im_gr3 hs, im_gr3 ht])
  rw [gr3_eq, gr3_eq] at e
  have x1 := congrArg (fun z : T3 => z.1) e
  have x2 := congrArg (fun z : T3 => z.2.2) e
  dsimp only at x1 x2
  exact Prod.ext x1 x2
/-! ### zones -/
theorem nn_ap {c : Cp} {z u : T3} (hc : CpOk c) (hz : Ok z) (hu : Ok u) : nn (minus (ap c z) (ap c u)) = nn c.t * nn (minus z u) := by
  unfold nn
  rw [re_minus (ap_ok hc hz) (ap_ok hc hu), im_minus (ap_ok hc hz) (ap_ok hc hu), re_minus hz hu, im_minus hz hu]
  unfold ap
  rw [re_car hc.t hc.s hz, re_car hc.t hc.s hu, im_car hc.t hc.s hz, im_car hc.t hc.s hu]
  cases c.m <;> simp only [if_true, if_false, Bool.false_eq_true] <;> grind
def zfr (c : Cp) (n : Int) : Int × Int := fr (n * n * (gr c.t).2) (gr c.t).1
theorem nn_pos {t : T3} (h : Ok t) (n : Nz t) : 0 < nn t := by
  rw [← gr_val h]
  obtain ⟨p1, p2⟩ := gr_pos h n
  unfold val
  have h := (div_lt (a := 0) (b := 1) (c := ((gr t).1 : Rat)) (by decide) (cast_pos p2)).mpr (by rw [Rat.zero_mul, Rat.mul_one]; exact cast_pos p1)
  have e : (0 : Rat) / 1 = 0 := by grind
  rw [e] at h
  exact h
theorem zfr_p2 {c : Cp} (hc : CpOk c) (n : Int) : 0 < (zfr c n).2 := fr_pos (by have := (gr_pos hc.t hc.n).1; omega)
theorem zfr_val {c : Cp} (hc : CpOk c) (n : Int) : val (zfr c n) * nn c.t = (n : Rat) * (n : Rat) := by
  obtain ⟨p1, p2⟩ := gr_pos hc.t hc.n
  unfold zfr
  rw [fr_val (by omega), ← gr_val hc.t]
  unfold val
  have c1 := cast_ne (show (gr c.t).1 ≠ 0 by omega)
  have c2 := cast_ne (show (gr c.t).2 ≠ 0 by omega)
  simp only [Rat.intCast_mul]
  grind
theorem val1 (n : Int) : val (n, 1) = (n : Rat) := by unfold val; dsimp only; simp only [Rat.intCast_one]; grind
theorem lt_mul {x y g : Rat} (hg : 0 < g) : x < y ↔ g * x < y * g := by
  rw [Rat.mul_comm g x]; exact (Rat.mul_lt_mul_right hg).symm
theorem lt_mul' {x y g : Rat} (hg : 0 < g) : x < y ↔ x * g < g * y := by
  rw [Rat.mul_comm g y]; exact (Rat.mul_lt_mul_right hg).symm
theorem zone1 {c : Cp} {z p : T3} (hc : CpOk c) (hz : Ok z) (hp : Ok p) (n : Int) : lessF (gr (minus z (ap (bk c) p))) (zfr c n) = lessF (gr (minus (ap c z) p)) (n * n, 1) := by
  have hu := ap_ok (bk_ok hc) hp
  have e := nn_ap hc hz hu
  rw [ap_bk hc hp] at e
  have o1 := minus_ok hz hu
  have o2 := minus_ok (ap_ok hc hz) hp
  rw [lessF_iff (gr_p2 o1) (zfr_p2 hc n), lessF_iff (gr_p2 o2) (show (0 : Int) < 1 by decide), gr_val o1, gr_val o2, val1, e]
  rw [decide_eq_decide, lt_mul (nn_pos hc.t hc.n), zfr_val hc, ← Rat.intCast_mul]
theorem zone2 {c : Cp} {z p : T3} (hc : CpOk c) (hz : Ok z) (hp : Ok p) (n : Int) : lessF (zfr c n) (gr (minus z (ap (bk c) p))) = lessF (n * n, 1) (gr (minus (ap c z) p)) := by
  have hu := ap_ok (bk_ok hc) hp
  have e := nn_ap hc hz hu
  rw [ap_bk hc hp] at e
  have o1 := minus_ok hz hu
  have o2 := minus_ok (ap_ok hc hz) hp
  rw [lessF_iff (zfr_p2 hc n) (gr_p2 o1), lessF_iff (show (0 : Int) < 1 by decide) (gr_p2 o2), gr_val o1, gr_val o2, val1, e]
  rw [decide_eq_decide, lt_mul' (nn_pos hc.t hc.n), zfr_val hc, ← Rat.intCast_mul]
def inF (d lo hi : Int × Int) : Bool := !lessF d lo && !lessF hi d
def rch (a : Am) (z : T3) : Bool := inF (gr (minus z a.pole)) (a.near * a.near, 1) (a.far * a.far, 1)
/-- the zone of an arm behind a copy -/
def zctr (c : Cp) (a : Am) : T3 := ap (bk c) a.pole
theorem zone_in {c : Cp} {a : Am} {z : T3} (hc : CpOk c) (ha : AmOk a) (hz : Ok z) : inF (gr (minus z (zctr c a))) (zfr c a.near) (zfr c a.far) = rch a (ap c z) := by
  unfold inF rch zctr inF
  rw [zone1 hc hz ha.p, zone2 hc hz ha.p]
structure Zn where
  ctr : T3
  lo : Int × Int
  hi : Int × Int
def zn (c : Cp) (a : Am) : Zn := ⟨zctr c a, zfr c a.near, zfr c a.far⟩
def zl : Cp → List Am → List Zn
  | _, [] => []
  | c, a :: as => zn c a :: zl (jn c (about a)) as
theorem zl_len : ∀ (c : Cp) (as : List Am), (zl c as).length = as.length
  | _, [] => rfl
  | c, a :: as => by unfold zl; rw [List.length_cons, List.length_cons, zl_len]
theorem zl_at : ∀ {as : List Am} {c : Cp} {i : Nat} {a : Am}, as[i]? = some a → (zl c as)[i]? = some (zn ((as.take i).foldl (fun c a => jn c (about a)) c) a)
  | [], c, i, a, h => by simp at h
  | b :: as, c, 0, a, h => by simp at h; subst h; rfl
  | b :: as, c, i + 1, a, h => by
    have h' : as[i]? = some a := by simpa using h
    have z := zl_at (c := jn c (about b)) h'
    unfold zl
    simpa using z
def zns (as : List Am) : List Zn := zl still as
theorem zns_at {as : List Am} {i : Nat} {a : Am} (h : as[i]? = some a) : (zns as)[i]? = some (zn (jall (as.take i)) a) := zl_at h
theorem zns_len (as : List Am) : (zns as).length = as.length := zl_len _ _
def FB (n : Nat) (f : Int × Int) : Prop := f.1.natAbs < 2 ^ n ∧ f.2.natAbs < 2 ^ n
theorem FB.mono {n m : Nat} {f : Int × Int} (h : FB n f) (e : n ≤ m) : FB m f := ⟨up_lt e h.1, up_lt e h.2⟩
theorem fr_FB {p q : Int} {n : Nat} (hq : q ≠ 0) (h1 : p.natAbs < 2 ^ n) (h2 : q.natAbs < 2 ^ n) : FB n (fr p q) := by
  have b := low_B (y := 0) hq h1 (by show 0 < 2 ^ n; exact Nat.pos_of_ne_zero (by simp)) h2
  exact ⟨b.1, b.2.2⟩
theorem gr_FB {t : T3} {n : Nat} (h : Ok t) (b : B n t) : FB (n + n + 1) (gr t) := fr_FB (mul_ne h.ne h.ne) (add_lt (mul_lt b.1 b.1) (mul_lt b.2.1 b.2.1)) (up_lt (by omega) (mul_lt b.2.2 b.2.2))
theorem nn_jt {c : Cp} {a : Am} (hc : CpOk c) (ha : AmOk a) : nn (jn c (about a)).t = nn c.t * nn a.t := by
  show nn (times a.t (face c.t a.m)) = _
  rw [nn_times ha.t (face_ok hc.t _), nn_face]; grind
end Mth
namespace Mth
/-! ### what an arm reaches -/
theorem nn_sym {a b : T3} (ha : Ok a) (hb : Ok b) : nn (minus a b) = nn (minus b a) := by
  unfold nn
  rw [re_minus ha hb, im_minus ha hb, re_minus hb ha, im_minus hb ha]
  grind
theorem gr_sym {a b : T3} (ha : Ok a) (hb : Ok b) : gr (minus a b) = gr (minus b a) := gr_congr (minus_ok ha hb) (minus_ok hb ha) (nn_sym ha hb)
def ftF (v lo hi : Int × Int) : Bool := decide (lo.1 * v.2 ≤ v.1 * lo.2) && decide (v.1 * hi.2 ≤ hi.1 * v.2)
theorem ft_in (v lo hi : Int × Int) : ftF v lo hi = inF v lo hi := by
  unfold ftF inF lessF
  rw [← decide_not, ← decide_not]
  congr 1 <;> rw [decide_eq_decide, Int.not_lt]
theorem plus_minus {p q : T3} (hp : Ok p) (hq : Ok q) : minus (plus p q) p = q := by
  refine ext (minus_ok (plus_ok hp hq) hp) hq ?_ ?_
  · rw [re_minus (plus_ok hp hq) hp, re_plus hp hq]; grind
  · rw [im_minus (plus_ok hp hq) hp, im_plus hp hq]; grind
theorem rch_1000 {p t : T3} {m : Bool} (hp : Ok p) : rch ⟨p, t, 0, 1000, m⟩ (plus p (600, 800, 1)) = true := by
  unfold rch
  rw [plus_minus hp (show Ok (600, 800, 1) from ⟨by decide, by decide⟩)]
  show inF (gr (600, 800, 1)) (0 * 0, 1) (1000 * 1000, 1) = true
  decide
end Mth
namespace My
open PySem L2 Mth
/-! ### a def of the module and its promise -/
structure D (P : Program) (w : World) (K : PySem.W.Frag) (mg : Str → Option Value) (base : Heap) (x : Str) (k : Nat) (sp : Sp) : Prop where
  ex : ∃ f, FnR P w K mg base CX0 k f sp ∧ PySem.W.keepIn K (.ref f) = true ∧ mg x = some (.ref f)
theorem rOf {P : Program} {w : World} {K : PySem.W.Frag} {mg : Str → Option Value} {base : Heap} {CX : CXT} {k : Nat} {f : Addr} {fd : FuncData} {ps : List Str} {sp : Sp} (F : FnOk P w K mg base CX k f fd ps sp) (b : Binds K fd ps []) : FnR P w K mg base CX k f sp := by
  intro A outer s H us vs Q E hr e0 r h
  have KX : K.In s.heap := e0.mod.kin.keeps fun b o e => (e0.bs b o e).1
  have hl : us.length = ps.length := by rw [← r.length]; exact F.len _ _ _ _ h
  have z := b s us KX (by rw [List.append_nil]; exact hl)
  rw [List.append_nil] at z
  exact F.run A outer s H ⟨us, []⟩ us vs Q E hr e0 z r h
def tCl (sp : Sp) (t : TA) : TE := fun σ H Q => t σ H fun vs H1 => sp vs H1 Q E0
section
variable {X : Cx} {k : Nat} {f : Addr} {sp : Sp} {x : Str} {e : Expr} {es : List Expr} {t : TA} {p pos : Pos}
theorem pcR (F : FnR X.prog X.w X.K X.mg X.base CX0 k f sp) (hr : Room k X.A) (hk : PySem.W.keepIn X.K (.ref f) = true) (hm : X.mg x = some (.ref f)) (ha : PA X (e :: es) t) (hg : Gl X x := by rfl) (hd : (x == ("__debug__" : Str)) = false := by decide)
    (he : starEach (e :: es) X.env = (false, eval e X.env) :: starEach es X.env := by rfl) (hpl : (backTo pos (starEach es X.env)).any (·.1) = false := by rfl) :
    PE X (.Call (.Name x p) (e :: es) [] pos) (tCl sp t) := by
  refine ⟨fun pins s σ H Q I h => ?_⟩
  refine wpAny_Call_Name_kw (ld_glob I hg hm ?_ hd)
  refine PySem.W.callWith_K (h₀ := X.base) I.ok.mod.kin hk (thn (ha.run pos pins s σ H _ I h) fun us s1 ⟨vs, H1, I1, r, q⟩ => ⟨I1.kIn, ?_⟩) he hpl
  exact wpAny_call (run_fnR F hr pass0 I1 r q)
/-- f(e, ..) by the promise of f -/
theorem pc (d : D X.prog X.w X.K X.mg X.base x k sp) (hr : Room k X.A) (ha : PA X (e :: es) t) (hg : Gl X x := by rfl) (hd : (x == ("__debug__" : Str)) = false := by decide)
    (he : starEach (e :: es) X.env = (false, eval e X.env) :: starEach es X.env := by rfl) (hpl : (backTo pos (starEach es X.env)).any (·.1) = false := by rfl) :
    PE X (.Call (.Name x p) (e :: es) [] pos) (tCl sp t) := by
  obtain ⟨f, F, hk, hm⟩ := d.ex
  exact pcR F hr hk hm ha hg hd he hpl
end
section
variable {X : Cx} {k : Nat} {sp : Sp} {x : Str} {p pos : Pos}
/-- f() by the promise of f -/
theorem pc0 (d : D X.prog X.w X.K X.mg X.base x k sp) (hr : Room k X.A) (hg : Gl X x := by rfl) (hd : (x == ("__debug__" : Str)) = false := by decide) : PE X (.Call (.Name x p) [] [] pos) (tCl sp tNil) := by
  obtain ⟨f, F, hk, hm⟩ := d.ex
  refine ⟨fun pins s σ H Q I h => ?_⟩
  refine wpAny_Call_Name_kw (ld_glob I hg hm ?_ hd)
  exact PySem.W.callWith_K0 I.kIn hk (wpAny_call (run_fnR (us := []) (vs := []) F hr pass0 I .nil h))
end
/-! ### operators of own classes -/
def rOwn2 (C : Addr) (sp : Sp) : R2 := fun x y H Q => ∃ a b dx fs dy gs, x = .ref a ∧ y = .ref b ∧ H a = some (.ins C dx fs) ∧ H b = some (.ins C dy gs) ∧ sp [x, y] H Q E0
def rOwn1 (C : Addr) (sp : Sp) : V → Hp → VK → Prop := fun x H Q => ∃ a dx fs, x = .ref a ∧ H a = some (.ins C dx fs) ∧ sp [x] H Q E0
section
variable {X : Cx} {k : Nat} {f C : Addr} {sp : Sp}
theorem back_of {pins : List (Addr × Obj)} {σ : L2.St} {Q : VK} {v : Value} {s' : Shared} (h : EP X pins σ Q v s') : PySem.W.CmpBack (EP X pins σ Q) v s' := by
  have h0 := h
  obtain ⟨z, H', I', rz, q⟩ := h
  cases v <;> first | exact h0 | (exfalso; cases z <;> first | (obtain ⟨t, e⟩ := rz; cases e) | cases rz)
theorem op_own {op : Operator} (F : FnR X.prog X.w X.K X.mg X.base CX0 k f sp) (hr : Room k X.A) (hc : PySem.W.selfFirst X.K C = true)
    (hs : PySem.W.findIn X.K (.ref C) (PySem.dunder op.info.2) = some (some (.ref f))) (hf : PySem.W.isFn X.K (.ref f) = true) : OpR X (binaryOp op) (rOwn2 C sp) := by
  intro pins s σ H x y v u Q I rx ry hq
  obtain ⟨a, b, dx, fs, dy, gs, rfl, rfl, ha, hb', q⟩ := hq
  cases rx
  cases ry
  obtain ⟨mA, J, _⟩ := ins_get I.hok ha
  obtain ⟨mB, J', _⟩ := ins_get I.hok hb'
  obtain ⟨od, J, _⟩ := J.look
  obtain ⟨od', J', _⟩ := J'.look
  obtain ⟨m, hF⟩ := I.fr
  refine PySem.W.binop_K hF I.ok.mod.kin J J'.type hc hs hf ?_
  exact wpAny_mono (wpAny_call (run_fnR (us := [.ref a, .ref b]) (vs := [V.ref a, V.ref b]) F hr pass0 I (.cons rfl (.cons rfl .nil)) q)) (fun v s' h => back_of h) fun _ _ z => z
theorem un_own (F : FnR X.prog X.w X.K X.mg X.base CX0 k f sp) (hr : Room k X.A)
    (hs : PySem.W.findIn X.K (.ref C) "__invert__" = some (some (.ref f))) (hf : PySem.W.isFn X.K (.ref f) = true) : UnR X (unaryOp .Invert) (rOwn1 C sp) := by
  intro pins s σ H x v Q I rx hq
  obtain ⟨a, dx, fs, rfl, ha, q⟩ := hq
  cases rx
  obtain ⟨mA, J, _⟩ := ins_get I.hok ha
  obtain ⟨od, J, _⟩ := J.look
  obtain ⟨m, hF⟩ := I.fr
  refine PySem.W.ksp_inv hF I.ok.mod.kin J hs hf ?_
  exact wpAny_call (run_fnR (us := [.ref a]) (vs := [V.ref a]) F hr pass0 I (.cons rfl .nil) q)
theorem eq_own (F : FnR X.prog X.w X.K X.mg X.base CX0 k f sp) (hr : Room k X.A)
    (hs : PySem.W.findIn X.K (.ref C) "__eq__" = some (some (.ref f))) (hf : PySem.W.isFn X.K (.ref f) = true) : OpR X (compareOp .Eq) (rOwn2 C sp) := by
  intro pins s σ H x y v u Q I rx ry hq
  obtain ⟨a, b, dx, fs, dy, gs, rfl, rfl, ha, hb', q⟩ := hq
  cases rx
  cases ry
  obtain ⟨mA, J, _⟩ := ins_get I.hok ha
  obtain ⟨mB, J', _⟩ := ins_get I.hok hb'
  obtain ⟨od, J, _⟩ := J.look
  obtain ⟨od', J', _⟩ := J'.look
  obtain ⟨m, hF⟩ := I.fr
  show wpAny (model X.prog X.w) X.A (richCompare .Eq (.ref a) (.ref b)) (EP X pins σ Q) X.xe s
  refine PySem.W.cmp_K (op := .Eq) (tb := .ref C) hr.units0 hF I.ok.mod.kin J J'.type (by simp [PySem.W.notFirst]) hs hf ?_
  exact wpAny_mono (wpAny_call (run_fnR (us := [.ref a, .ref b]) (vs := [V.ref a, V.ref b]) F hr pass0 I (.cons rfl (.cons rfl .nil)) q)) (fun v s' h => back_of h) fun _ _ z => z
end
/-! ### // by a number of any sign -/
def CDivX (_ j : Int) : Prop := j ≠ 0 ∧ j.natAbs.log2 < 9000
theorem op_fdivX {X : Cx} : OpR X (binaryOp .FloorDiv) (rI CDivX fun i j => .int (i.fdiv j)) := opI fun i j _ _ _ _ _ hc q =>
  PyProof.Rows.floordiv_int hc.1 q (.inl (PyProof.noPylong_of_log2 hc.2))
theorem divX {i j : Int} {b : Nat} (h : j ≠ 0) (hb : j.natAbs < 2 ^ b) (h0 : 0 < b) (h9 : b ≤ 9000) : CDivX i j := ⟨h, Nat.lt_of_lt_of_le (PySem.Flt.log2_lt_of h0 hb) h9⟩
/-! ### tuples of three ints -/
def v3 (s : T3) : List V := [.int s.1, .int s.2.1, .int s.2.2]
def IsT (K : PySem.W.Frag) (H : Hp) (v : V) (s : T3) : Prop := ∃ p, v = .ref p ∧ SqT K H p (v3 s)
theorem same_T {K : PySem.W.Frag} {H H' : Hp} {a : Addr} {xs : List V} (e : Same H H') (h : SqT K H a xs) : SqT K H' a xs := SqT.ext h e
theorem IsT.same {K : PySem.W.Frag} {H H' : Hp} {v : V} {s : T3} (h : IsT K H v s) (e : Same H H') : IsT K H' v s := by
  obtain ⟨p, rfl, q⟩ := h
  exact ⟨p, rfl, same_T e q⟩
theorem same_new {H : Hp} {p : Addr} (h : H p = none) (o : HO) : Same H (upd H p o) := fun b u q => by rw [upd_ne (ne_of_none q h)]; exact q
theorem IsT.new {K : PySem.W.Frag} {H : Hp} {p : Addr} {a b c : Int} : IsT K (upd H p (.tup [.int a, .int b, .int c])) (.ref p) (a, b, c) := ⟨p, rfl, .inl (.inl upd_same)⟩
theorem yes_of {σ : St} {H : Hp} {A B : Hp → Prop} (h : A H) : tYes σ H (fun b H3 => if b = true then A H3 else B H3) := by
  show if true = true then A H else B H
  rw [if_pos rfl]
  exact h
/-! ### displays of tuples of three written ints -/
def tT3 (K : PySem.W.Frag) (t : T3) : TE := fun _ H Q => ∀ H' p, Same H H' → SqT K H' p (v3 t) → Q (.ref p) H'
def tTups (K : PySem.W.Frag) (ts : List T3) : TA := fun _ H Q => ∀ H' (ps : List Addr), Same H H' → Paired (fun p t => SqT K H' p (v3 t)) ps ts → Q (ps.map V.ref) H'
theorem paT0 {X : Cx} : PA X [] (tTups X.K []) := ⟨fun pos pins s σ H Q I h => (pa_nil (X := X)).run pos pins s σ H Q I (h H [] (Same.refl _) .nil)⟩
theorem paT {X : Cx} {e : Expr} {es : List Expr} {te : TE} {t : T3} {ts : List T3} (he : PE X e te) (hi : ∀ σ H Q, tT3 X.K t σ H Q → te σ H Q) (hr : PA X es (tTups X.K ts))
    (hs : starEach (e :: es) X.env = (false, eval e X.env) :: starEach es X.env := by rfl) : PA X (e :: es) (tTups X.K (t :: ts)) :=
  ⟨fun pos pins s σ H Q I h => (pa_cons he hr hs).run pos pins s σ H Q I (hi σ H _ fun H1 p s1 h1 => fun H2 ps s2 h2 => h H2 (p :: ps) (s1.trans s2) (.cons (same_T s2 h1) h2))⟩
/-! ### all is kept but one list -/
def Keep (d : Addr) (H H' : Hp) : Prop := ∀ b o, b ≠ d → H b = some o → H' b = some o
theorem Keep.of {d : Addr} {H H' : Hp} (s : Same H H') : Keep d H H' := fun b o _ e => s b o e
theorem Keep.trans {d : Addr} {H H1 H2 : Hp} (a : Keep d H H1) (b : Keep d H1 H2) : Keep d H H2 := fun c o n e => b c o n (a c o n e)
theorem keep_upd {d : Addr} {H : Hp} {o : HO} : Keep d H (upd H d o) := fun b u n e => by rw [upd_ne n]; exact e
theorem keep_T {K : PySem.W.Frag} {H H' : Hp} {d p : Addr} {xs ys : List V} (h : SqT K H p xs) (hd : H d = some (.lst ys)) (k : Keep d H H') : SqT K H' p xs := by
  rcases h with (h | ⟨o, h⟩) | h
  · exact .inl (.inl (k _ _ (ne_of h hd (by intro z; cases z)) h))
  · exact .inl (.inr ⟨o, k _ _ (ne_of h hd (by intro z; cases z)) h⟩)
  · exact .inr h
theorem IsT.keep {K : PySem.W.Frag} {H H' : Hp} {v : V} {s : T3} {d : Addr} {ys : List V} (h : IsT K H v s) (hd : H d = some (.lst ys)) (k : Keep d H H') : IsT K H' v s := by
  obtain ⟨p, rfl, q⟩ := h
  exact ⟨p, rfl, keep_T q hd k⟩
/-! ### two ways that meet -/
theorem seq_join {t u : TS} {D : Ends} {σ : St} {H : Hp} (W : St → Hp → Prop) (k : ∀ σ' H', W σ' H' → u D σ' H') (h : ∀ D' : Ends, D'.rt = D.rt → (∀ σ' H', W σ' H' → D'.nx σ' H') → t D' σ H) : tSeq t u D σ H := h { D with nx := u D } rfl k
theorem exp_join {t : TT} {ta tb : TE} {σ : St} {H : Hp} {Q : VK} (W : V → Hp → Prop) (k : ∀ v H', W v H' → Q v H') (h : ∀ Q' : VK, (∀ v H', W v H' → Q' v H') → tIf t ta tb σ H Q') : tIf t ta tb σ H Q := h Q k
theorem small {n : Nat} (h : n ≤ 1000) : n ≤ sizeLine := Nat.le_of_lt (small1000 h)
end My
namespace My
open PySem L2 Mth LamX
/-! ### list.count of flat items -/
section
variable {X : Cx}
def rCount (K : PySem.W.Frag) : V → List V → Hp → VK → Prop := fun x xs H Q => ∃ (a : Addr) (ys : List V) (y : V), x = V.ref a ∧ xs = [y] ∧ SqL K H a ys ∧ flatV y = true ∧ ys.all flatV = true ∧ Q (.int ((ys.countP fun z => eqV z y) : Nat)) H
theorem count_eqU {y : V} : ∀ {ys : List V} {us : List Value}, Vals ys us → ys.all flatV = true → us.countP (eqU y) = ys.countP fun z => eqV z y
  | _, _, .nil, _ => rfl
  | z :: ys, u :: us, .cons r rs, f => by
    rw [List.all_cons, Bool.and_eq_true] at f
    rw [List.countP_cons, List.countP_cons, count_eqU rs f.2, eqU_of r f.1]
theorem mt_count : MtR X "list.count" (rCount X.K) := by
  intro pins s σ H x xs v us Q I rx rxs h
  obtain ⟨a, ys, y, rfl, rfl, hs, fy, fys, q⟩ := h
  cases rx
  cases rxs with
  | cons ry rt =>
    rename_i uy ut
    cases rt
    obtain ⟨its, rv, ⟨⟨cls, dd, data, sl⟩, n, ho, hc, hdn, hd⟩, hlen⟩ := I.list hs
    simp only at hc hd
    subst hc hd
    refine call_meets PySem.F.slot_list_count ⟨_, ho, rfl⟩ PySem.F.entry_list_count (PySem.F.args_list_count_2 _ _)
      (SeqAt.list_countAt a its.toArray n dd sl uy (eqU y)) ⟨ho, fun u' hu' => mem_eqAt ry fy rv fys u' (by simpa using hu'), ?_⟩
    have ec : its.toArray.toList.countP (eqU y) = ys.countP fun z => eqV z y := count_eqU rv fys
    refine ⟨.int ((ys.countP fun z => eqV z y) : Nat), H, I.tok _, ⟨s.toks, ?_⟩, q⟩
    show Value.int ((its.toArray.toList.countP (eqU y) : Nat) : Int) s.toks = _
    rw [ec]
end
/-! ### what is never asked -/
def tNev : TE := fun _ _ _ => False
theorem pe_nev {X : Cx} {e : Expr} : PE X e tNev := ⟨fun _ _ _ _ _ _ h => h.elim⟩
/-! ### the kinds of a caught error -/
def tIs (a : Addr) (i : Nat) (bs : List Bool) : TA := fun σ H Q => σ[i]? = some (some (.ref a)) ∧ Q (bs.map V.bl) H
section
variable {X : Cx} {a D : Addr} {oe : Obj} {pn : List (Addr × Obj)} {i : Nat}
theorem paIs0 : PA (X.suite a ((a, oe) :: pn)) [] (tIs a i []) := ⟨fun pos pins s σ H Q I h => (pa_nil (X := X.suite a ((a, oe) :: pn))).run pos pins s σ H Q I h.2⟩
theorem paIs {x n : Str} {p p1 p2 pos : Pos} {C : Addr} {b : Bool} {bs : List Bool} {es : List Expr} (EC : ExcC X.K D) (hz : Zc (.ref D) none oe) (hf : ∃ vs, oe.data = .fields vs) (hk : PySem.W.kitOne X.K (.ref D) (.ref C) = some b)
    (hm : X.mg x = some (.ref C)) (bi : X.mg "isinstance" = none) (hg : Gl X x) (hgi : Gl X "isinstance") (hd : (x == ("__debug__" : Str)) = false) (hN : X.N[i]? = some n) (hv : Vis X.env.scope n) (hnd : (n == ("__debug__" : Str)) = false) (hnc : (n == ("__classdict__" : Str)) = false)
    (hr : PA (X.suite a ((a, oe) :: pn)) es (tIs a i bs))
    (hs : starEach ((.Call (.Name "isinstance" p) [.Name n p1, .Name x p2] [] pos) :: es) X.env = (false, eval (.Call (.Name "isinstance" p) [.Name n p1, .Name x p2] [] pos) X.env) :: starEach es X.env := by rfl)
    (he : starEach (.Name n p1 :: [.Name x p2]) X.env = (false, eval (.Name n p1) X.env) :: starEach [.Name x p2] X.env := by rfl) :
    PA (X.suite a ((a, oe) :: pn)) ((.Call (.Name "isinstance" p) [.Name n p1, .Name x p2] [] pos) :: es) (tIs a i (b :: bs)) := by
  have h1 : PE (X.suite a ((a, oe) :: pn)) (.Call (.Name "isinstance" p) [.Name n p1, .Name x p2] [] pos) (tCB (rIsE X.K D a) (tCons (tVar i) (tCons (tC (.ref C)) tNil))) :=
    pe_callB (call_isE EC hz hf) hgi bi (by decide +kernel) (pa_cons (pe_var hN hv hnd hnc) (pa_cons (pe_glob (v := .ref C) hg hm rfl hd) pa_nil rfl) he) (by decide) (by decide) rfl rfl
  refine ⟨fun pos' pins s σ H Q I h => (pa_cons h1 hr hs).run pos' pins s σ H Q I ?_⟩
  exact ⟨_, h.1, .ref C, .ref C, b, rfl, fun u r => r, hk, h.1, h.2⟩
end
end My
namespace My
open PySem L2 Mth PyProof.Rows
/-! ### a op b op c op d as a test -/
def tChain3 (r r' r'' : R2) (ta tb tc td : TE) : TE := fun σ H Q => ta σ H fun x H1 => tb σ H1 fun y H2 => r x y H2 fun z H3 => ∃ k, z = .bl k ∧
  (if k = true then tc σ H3 fun w' H4 => r' y w' H4 fun z' H5 => ∃ k', z' = .bl k' ∧ (if k' = true then td σ H5 fun u' H6 => r'' w' u' H6 Q else Q (.bl false) H5) else Q (.bl false) H3)
theorem pt_chain3 {X : Cx} {a b c d : Expr} {ta tb tc td : TE} {pos : Pos} {op op' op'' : CmpOp} {r r' r'' : R2} (ho : OpR X (compareOp op) r) (ho' : OpR X (compareOp op') r') (ho'' : OpR X (compareOp op'') r'') (ha : PE X a ta) (hb : PE X b tb) (hc : PE X c tc) (hd : PE X d td)
    (hm : lastMarks [op, op', op''] [b, c, d] = false := by with_unfolding_all rfl) : PT X (.Compare a [op, op', op''] [b, c, d] pos) (tTest (tChain3 r r' r'' ta tb tc td)) := by
  refine ⟨fun pins s σ H Q I h => ?_⟩
  refine isTrue_chain (thn (ha.run pins s σ H _ I h) fun v s1 ⟨x, H1, I1, r1, q1⟩ => test_link (thn (hb.run pins s1 σ H1 _ I1 q1) fun u s2 ⟨y, H2, I2, r2, q2⟩ =>
    thn (ho pins s2 σ H2 x y v u _ I2 r1 r2 q2) fun e s3 ⟨z, H3, I3, r3, k, ek, q3⟩ => ?_)) hm
  subst ek
  cases r3
  refine wpAny_truthy_bool ?_
  cases k with
  | false =>
    obtain ⟨k', e', q'⟩ := q3
    cases e'
    exact ite_ff ⟨H3, I3, q'⟩
  | true =>
    refine ite_tt (test_link (thn (hc.run pins s3 σ H3 _ I3 q3) fun w' s4 ⟨z', H4, I4, r4, q4⟩ => thn (ho' pins s4 σ H4 y z' u w' _ I4 r2 r4 q4) fun d' s5 ⟨z2, H5, I5, r5, k2, e2, q5⟩ => ?_))
    subst e2
    cases r5
    refine wpAny_truthy_bool ?_
    cases k2 with
    | false =>
      obtain ⟨k', e', q'⟩ := q5
      cases e'
      exact ite_ff ⟨H5, I5, q'⟩
    | true =>
      refine ite_tt (test_last (thn (hd.run pins s5 σ H5 _ I5 q5) fun w2 s6 ⟨z3, H6, I6, r6, q6⟩ => thn (ho'' pins s6 σ H6 z' z3 w' w2 _ I6 r4 r6 q6) fun d3 s7 ⟨z4, H7, I7, r7, k3, e3, q7⟩ => ?_))
      subst e3
      cases r7
      exact wpAny_truthy_bool ⟨H7, I7, q7⟩
/-! ### instances made with no argument, with a starred one -/
section
variable {X : Cx} {k : Nat} {f C : Addr} {sp : Sp} {x : Str} {p pos sp_ : Pos} {e : Expr} {te : TE}
theorem pe_makeR0 (M : Mk X.K C f) (F : FnR X.prog X.w X.K X.mg X.base CX0 k f sp) (hr : Room (k + 1) X.A) (hg : Gl X x) (hm : X.mg x = some (.ref C)) (hdb : (x == ("__debug__" : Str)) = false := by decide) : PE X (.Call (.Name x p) [] [] pos) (StX.tMakeR C sp E0 tNil) := by
  refine ⟨fun pins s σ H Q I h => ?_⟩
  refine wpAny_Call_Name_kw (ld_glob I hg hm ?_ hdb)
  exact PySem.W.callWith_K0 I.kIn M.kp (StX.run_makeR (us := []) M F hr pass0 I .nil h)
def tMakeS (K : PySem.W.Frag) (C : Addr) (sp : Sp) (te : TE) : TE := fun σ H Q => te σ H fun y H1 => ∃ a xs, y = V.ref a ∧ (SqT K H1 a xs ∨ SqL K H1 a xs) ∧ ∀ x dx, H1 x = Option.none → H1 dx = Option.none → dx ≠ x →
  sp (V.ref x :: xs) (upd (upd H1 dx (.own x)) x (.ins C dx [])) (fun v H2 => v = .non ∧ Q (.ref x) H2) E0
theorem pe_makeS (M : Mk X.K C f) (F : FnR X.prog X.w X.K X.mg X.base CX0 k f sp) (hr : Room (k + 1) X.A) (hg : Gl X x) (hm : X.mg x = some (.ref C)) (he : PE X e te) (hdb : (x == ("__debug__" : Str)) = false := by decide)
    (hst : starEach [.Starred e sp_] X.env = [(true, eval e X.env)] := by rfl) : PE X (.Call (.Name x p) [.Starred e sp_] [] pos) (tMakeS X.K C sp te) := by
  refine ⟨fun pins s σ H Q I h => ?_⟩
  refine wpAny_Call_Name_kw (ld_glob I hg hm ?_ hdb)
  refine PySem.W.callWith_S (h₀ := X.base) I.ok.mod.kin M.kp (thn (he.run pins s σ H _ I h) fun v s1 ⟨y, H1, I1, ry, a, xs, ey, hxs, q⟩ => ?_) hst
  subst ey
  obtain rfl : v = Value.ref a := ry
  exact StX.star_any I1 hxs fun us s2 I2 rv => ⟨I2.kIn, StX.run_makeR M F hr pass0 I2 rv q⟩
end
/-! ### properties that tell a field -/
structure MPf (P : Program) (w : World) (K : PySem.W.Frag) (mg : Str → Option Value) (base : Heap) (C : Addr) (x f : Str) : Prop where
  cl : Cls K C
  ex : ∃ g fd p, FnOk P w K mg base CX0 1 g fd ["self"] (getSp C f) ∧ Binds K fd ["self"] [] ∧ PropOf K C x p g
theorem pe_pf {X : Cx} {C : Addr} {x f : Str} {e : Expr} {te : TE} {pos : Pos} (M : MPf X.prog X.w X.K X.mg X.base C x f) (hr : Room 2 X.A) (he : PE X e te) (hab : attributeBase e x X.env (eval e X.env) = eval e X.env := by rfl) : PE X (.Attribute e x pos) (tProp C (getSp C f) [] E0 te) := by
  obtain ⟨g, fd, p, F, b, hp⟩ := M.ex
  exact pe_prop he M.cl hp F hr b .nil pass0 hab
theorem pf_of {C p dx : Addr} {H : Hp} {Q : VK} {fs : List (Str × V)} {f : Str} {z : V} (h : H p = some (.ins C dx fs)) (l : fs.lookup f = some z) (q : Q z H) : ∃ a dx fs, V.ref p = .ref a ∧ H a = some (.ins C dx fs) ∧ getSp C f (.ref a :: []) H Q E0 :=
  ⟨p, dx, fs, rfl, h, p, dx, fs, z, rfl, h, l, q⟩
/-! ### fields -/
theorem putF_len (x : Str) (v : V) : ∀ fs : List (Str × V), (putF x v fs).length ≤ fs.length + 1
  | [] => Nat.le_refl _
  | (y, u) :: fs => by
    unfold putF
    split
    · simp
    · have := putF_len x v fs
      simp only [List.length_cons]
      omega
/-- all is kept but an instance that is being made -/
theorem keepI_T {K : PySem.W.Frag} {H H' : Hp} {d p C dx : Addr} {fs : List (Str × V)} {xs : List V} (h : SqT K H p xs) (hd : H d = some (.ins C dx fs)) (k : Keep d H H') : SqT K H' p xs := by
  rcases h with (h | ⟨o, h⟩) | h
  · exact .inl (.inl (k _ _ (ne_of h hd (by intro z; cases z)) h))
  · exact .inl (.inr ⟨o, k _ _ (ne_of h hd (by intro z; cases z)) h⟩)
  · exact .inr h
/-! ### a def with a star parameter behind its others -/
theorem fun_star {P : Program} {w : World} {K : PySem.W.Frag} {mg : Str → Option Value} {base : Heap} {x qual : Str} {st : Stmt} {f : Addr} {fd : FuncData} {N ps : List Str} {pv : Str} {k : Nat} {sp : Sp} (F : Fun K x qual st f fd) (S : FnScope N (ps ++ [pv]) (defScope st))
    (hb : ∀ (kV doc pm : Value) (an : Option Addr) (cdv ct : Value) (us rest : List Value), us.length = ps.length → bindArgs (PySem.W.fnOf x qual (defArgs st) (defBody st) (defScope st) .none kV doc pm an cdv ct) ⟨us ++ rest, []⟩ = (newTuple rest >>= fun t => pure (ps.zip us ++ [(pv, t)])))
    (hbody : ∀ (cdv : Value) (A : Around) (outer : List Env) (s : Shared) (H : Hp) (vs : List V) (Q : VK) (E : XK), Room k (A.deeper (envOfC qual (defScope st) s.heap.objs.size f cdv)) → sp vs H Q E →
      ∃ t, PSs (cxOf CX0 P w K mg base N qual (defScope st) f cdv A outer s H E).nox (defBody st) t ∧ t { nx := fun _ H' => Q .non H', rt := Q } (start N vs) H) :
    FnR P w K mg base CX0 (k + 1) f (fun vs H Q E => ∃ ws rest, vs = ws ++ rest ∧ ws.length = ps.length ∧ rest.length ≤ sizeLine ∧ ∀ p, H p = Option.none → sp (ws ++ [V.ref p]) (upd H p (.tup rest)) Q E) := by
  obtain ⟨oc, od, kV, doc, pm, an, cdv, ct, osl, rfl, lk, hcd⟩ := F.ex
  refine StX.fn_star lk hcd S StX.cxUp_none (hb kV doc pm an cdv ct) fun A outer s H vs Q E hr hsp => ?_
  obtain ⟨t, h, q⟩ := hbody cdv A outer s H vs Q E hr hsp
  exact ⟨t, h.nox, q⟩
end My
/-! isinstance of a caught error of an own class that has a dict of its own -/
namespace My
open PySem PySem.Spec PySem.W PySem.Calls PyProof.Rows
section
variable {prog : Program} {w : World} {A : Around} {E : Value → Shared → Prop} {s : Shared} {K : PySem.W.Frag} {x D : Addr} {ox : Obj} {od : Option Obj}
theorem findObj_dataO {C : Addr} {name : Str} {a g : Value} (hc : (clsIn K C).isSome = true) (ha : findIn K (.ref C) name = some (some a)) (hg : specialIn K a "__get__" = some (some g)) (ht : takesIn K a = some true) : findObj K C od name = some (.bind g a) := by
  obtain ⟨cd, hc⟩ := Option.isSome_iff_exists.mp hc
  unfold findObj
  rw [hc, Option.bind_some, ha, Option.bind_some]
  simp [hg, ht]
theorem kin_classO {Q : Option Value → Shared → Prop} (C : L2.ExcC K D) (X : K.In s.heap) (I : PySem.W.InstAt s.heap x ox D od) (h : Q (some (.ref D)) { s with toks := s.toks + 1 }) : wpAny (model prog w) A (getAttr? (.ref x) "__class__") Q E s := by
  have hf : findObj K D od "__class__" = some (.bind (.builtin "getset_descriptor.__get__") (.builtin "object.__class__")) := findObj_dataO (by obtain ⟨cd, hc, _⟩ := any_some C.hd; rw [hc]; rfl) C.ha C.hn C.ht
  obtain ⟨hp, g, d, t, os⟩ := s
  have tyL := I.type (M := model prog w)
  have gaL := looks_findIn (M := model prog w) X C.hg
  have gtL := looks_findIn (M := model prog w) X C.hk
  have fdL := looks_find (M := model prog w) X I hf
  have sub : Looks (model prog w) hp (isInstance (.ref x) (.type "BaseException")) true := tyL.andThen (looks_subIn X C.hs)
  have ne : (Value.builtin "BaseException.__getattribute__" == Value.builtin "object.__getattribute__") = false := by decide +kernel
  have ne1 : (onTheHeap (Value.ref D) && Value.builtin "BaseException.__getattribute__" == Value.builtin "object.__getattribute__") = false := by rw [ne]; rfl
  unfold getAttr? getAttrBy? getAttrBy
  refine wpAny_bind (wpAny_mkText (wpAny_bind (wpAny_attempt (wpAny_holding (wpAny_bind (tyL.at (wpAny_bind (gaL.at ?_))))))))
  show wpAny _ _ (if (onTheHeap (Value.ref D) && Value.builtin "BaseException.__getattribute__" == Value.builtin "object.__getattribute__") = true then _ else _) _ _ _
  rw [ne1, if_neg Bool.false_ne_true]
  unfold getAttrByItsOwn hookBefore
  refine wpAny_bind ?_
  rw [if_pos (show onTheHeap (Value.ref D) = true from rfl)]
  refine gtL.at (wpAny_bind (wpAny_attempt (wpAny_holding ?_)))
  unfold callGetattribute
  rw [show (false && onTheHeap (Value.builtin "BaseException.__getattribute__")) = false from rfl, if_neg Bool.false_ne_true]
  unfold boundAndCalled
  rw [PySem.F.excAttr_ValueError.ga.bind (.ref x)]
  refine wpAny_bind (wpAny_pure ?_)
  show wpAny _ _ (call (.builtin "BaseException.__getattribute__") [.ref x, .str "__class__" t]) _ _ _
  refine wpAny_call (codeAny_call_builtin PySem.F.excAttr_ValueError.ga.plain PySem.F.entry_bexc_ga ?_)
  refine @check_slot (model prog w) _ _ ⟨hp, g, d, t + 1, os⟩ "BaseException.__getattribute__" "BaseException" "__getattribute__" (.ref x) [.str "__class__" t] [] _ (by decide +kernel) (by decide +kernel) sub (PySem.F.args_bexc_ga (.ref x) (.str "__class__" t)) ?_
  unfold Builtin.«object.__getattribute__»
  refine wpAny_bind (wpAny_of_eq (a := ((Value.ref x : Value), [Value.str "__class__" t])) (by first | rfl | (simp only [slotArgs]; rfl)) ?_)
  refine wpAny_bind (wpAny_pure (wpAny_bind (tyL.at (wpAny_bind (fdL.at ?_)))))
  show wpAny _ _ (holding [Value.builtin "object.__class__"] (call (.builtin "getset_descriptor.__get__") [.builtin "object.__class__", .ref x, .ref D]) >>= ret) _ _ _
  refine wpAny_bind (wpAny_holding (wpAny_call (class_get (s := ⟨hp, g, d, t + 1, os⟩) (ox := ox) (od := od) X I C.hm ?_)))
  refine wpAny_pure ?_
  show wpAny _ _ (handedOut (.ref D)) _ _ _
  rw [handedOut_of (v := .ref D) rfl]
  first
    | exact wpAny_pure (wpAny_pure h)
    | exact wpAny_pure h
    | exact wpAny_pure (wpAny_bind (wpAny_pure (wpAny_pure h)))
theorem kitx_O (C : L2.ExcC K D) : KitX K (.ref x) (.ref D) (fun h => PySem.W.InstAt h x ox D od) where
  ty := fun _ _ _ I => I.type
  it := fun _ _ X _ => by
    obtain ⟨cdD, hcD, _⟩ := any_some C.hd
    unfold clsIn at hcD
    split at hcD
    · rename_i c' d' cd' sl' ho
      intro A' Q' E' s' k q
      unfold isType loadHead
      exact wpAny_bind (wpAny_loadPart (k _ _ (X _ _ ho)) (wpAny_pure q))
    · cases hcD
  ne := fun h tp dd its n sl X htp => by
    obtain ⟨cdD, hcD, _⟩ := any_some C.hd
    refine Bool.eq_false_iff.mpr fun q => ?_
    have e : D = tp := Value.ref.inj (beq_iff_eq.mp q)
    subst e
    unfold clsIn at hcD
    split at hcD
    · rename_i c' d' cd' sl' ho
      have z := (X _ _ ho).symm.trans htp
      cases z
    · cases hcD
  ca := fun X I k => kin_classO C X I k
end
open L2
/-- isinstance(e, c), e the exception that the suite holds, its dict at dd -/
def rIsV (K : PySem.W.Frag) (D a dd : Addr) : List V → Hp → VK → Prop := fun xs H Q => ∃ (c : V) (cv : Value) (b : Bool) (fs : List (Str × V)), xs = [.ref a, c] ∧ H dd = some (.xd fs) ∧ (∀ u, RelV c u → u = cv) ∧ PySem.W.kitOne K (.ref D) cv = some b ∧ Q (.bl b) H
theorem call_isV {X : Cx} {a D dd : Addr} {oe : Obj} {pn : List (Addr × Obj)} (C : ExcC X.K D) (hz : Zc (.ref D) (some dd) oe) (hf : ∃ vs, oe.data = .fields vs) : CallR (X.suite a ((a, oe) :: pn)) (.builtin "isinstance") (rIsV X.K D a dd) := by
  intro pins s σ H xs us Q I r h
  obtain ⟨c, cv, b, fs, rfl, hd, hcv, e, q⟩ := h
  cases r with
  | cons rx rr =>
    cases rr with
    | cons rt rr =>
      cases rr
      cases rx
      have ec := hcv _ rt
      subst ec
      obtain ⟨hget, _⟩ := I.pin (a, oe) (List.mem_append.mpr (.inl List.mem_cons_self))
      obtain ⟨vs, hv⟩ := hf
      have hx : ObjOk X.prog X.w H s.heap dd (.xd fs) := I.hok dd _ hd
      obtain ⟨mA, ⟨od, es, ep, ho, _⟩, _⟩ := hx
      have J : PySem.W.InstAt s.heap a oe D (some od) := by
        obtain ⟨oc, od', oda, osl⟩ := oe
        obtain ⟨h1, h2⟩ := hz
        dsimp only at h1 h2 hv
        subst h1 h2 hv
        exact ⟨hget, rfl, rfl, ho⟩
      exact PySem.W.kia_one (kitx_O C) I.kIn J e (fun z => nomatch z) fun tk => ⟨.bl b, H, I.kept (t' := tk) fun _ _ z => z, rfl, q⟩
def tIsV (a dd : Addr) (i : Nat) (bs : List Bool) : TA := fun σ H Q => σ[i]? = some (some (.ref a)) ∧ (∃ fs, H dd = some (.xd fs)) ∧ Q (bs.map V.bl) H
section
variable {X : Cx} {a D dd : Addr} {oe : Obj} {pn : List (Addr × Obj)} {i : Nat}
theorem paIsV0 : PA (X.suite a ((a, oe) :: pn)) [] (tIsV a dd i []) := ⟨fun pos pins s σ H Q I h => (pa_nil (X := X.suite a ((a, oe) :: pn))).run pos pins s σ H Q I h.2.2⟩
theorem paIsV {x n : Str} {p p1 p2 pos : Pos} {C : Addr} {b : Bool} {bs : List Bool} {es : List Expr} (EC : ExcC X.K D) (hz : Zc (.ref D) (some dd) oe) (hf : ∃ vs, oe.data = .fields vs) (hk : PySem.W.kitOne X.K (.ref D) (.ref C) = some b)
    (hm : X.mg x = some (.ref C)) (bi : X.mg "isinstance" = none) (hg : Gl X x) (hgi : Gl X "isinstance") (hd : (x == ("__debug__" : Str)) = false) (hN : X.N[i]? = some n) (hv : Vis X.env.scope n) (hnd : (n == ("__debug__" : Str)) = false) (hnc : (n == ("__classdict__" : Str)) = false)
    (hr : PA (X.suite a ((a, oe) :: pn)) es (tIsV a dd i bs))
    (hs : starEach ((.Call (.Name "isinstance" p) [.Name n p1, .Name x p2] [] pos) :: es) X.env = (false, eval (.Call (.Name "isinstance" p) [.Name n p1, .Name x p2] [] pos) X.env) :: starEach es X.env := by rfl)
    (he : starEach (.Name n p1 :: [.Name x p2]) X.env = (false, eval (.Name n p1) X.env) :: starEach [.Name x p2] X.env := by rfl) :
    PA (X.suite a ((a, oe) :: pn)) ((.Call (.Name "isinstance" p) [.Name n p1, .Name x p2] [] pos) :: es) (tIsV a dd i (b :: bs)) := by
  have h1 : PE (X.suite a ((a, oe) :: pn)) (.Call (.Name "isinstance" p) [.Name n p1, .Name x p2] [] pos) (tCB (rIsV X.K D a dd) (tCons (tVar i) (tCons (tC (.ref C)) tNil))) :=
    pe_callB (call_isV EC hz hf) hgi bi (by decide +kernel) (pa_cons (pe_var hN hv hnd hnc) (pa_cons (pe_glob (v := .ref C) hg hm rfl hd) pa_nil rfl) he) (by decide) (by decide) rfl rfl
  refine ⟨fun pos' pins s σ H Q I h => (pa_cons h1 hr hs).run pos' pins s σ H Q I ?_⟩
  obtain ⟨h2, ⟨fs, hx⟩, h3⟩ := h
  exact ⟨_, h2, .ref C, .ref C, b, fs, rfl, hx, fun u r => r, hk, h2, ⟨fs, hx⟩, h3⟩
end
end My
/-! lambdas that stand in a list and are called elsewhere -/
namespace My
open PySem PySem.Spec L2 LamX PyProof.Rows PySem.W PySem.Calls
/-- a lambda as it is written: no parameter, or one (dn) with the default 0 -/
structure Lm where
  params : Arguments
  body : Expr
  scope : Scope
  dn : Option Str
def LamO (q : Str) (m : Lm) (clo : List (Str × Addr)) (dV : Value) (f c' : Addr) : HO :=
  .ext fun h => ∃ doc pm ctv : Value, h.get? f = some (kdv_obj "<lambda>" q m.params (.expr m.body) m.scope clo dV doc pm c' ctv)
def Dfl (H : Hp) (m : Lm) (dV : Value) : Prop := (m.dn = none ∧ dV = .none) ∨ ∃ (a : Str) (t : Addr), m.dn = some a ∧ dV = .ref t ∧ H t = some (.tup [.int 0])
/-- v is the lambda m of the frame with these cells -/
def LamAt (q : Str) (cells : List (Str × Addr)) (m : Lm) (H : Hp) (v : V) : Prop :=
  ∃ (f c' : Addr) (dV : Value), v = .ref f ∧ H f = some (LamO q m (cloFrom cells m.scope.names []) dV f c') ∧ H c' = some (CodeO c' q) ∧ Dfl H m dV
theorem lamO_ne {q : Str} {m : Lm} {clo : List (Str × Addr)} {dV : Value} {f c' : Addr} (ps : Array Value) : LamO q m clo dV f c' ≠ .tbl ps := fun z => by
  unfold LamO at z
  cases z
theorem LamAt.extN {q : Str} {cells : List (Str × Addr)} {m : Lm} {H H' : Hp} {v : V} (h : LamAt q cells m H v) (e : ExtN H H') : LamAt q cells m H' v := by
  obtain ⟨f, c', dV, rfl, h1, h2, h3⟩ := h
  refine ⟨f, c', dV, rfl, e _ _ h1 (fun ps => lamO_ne ps), e _ _ h2 (fun ps => codeO_ne ps), ?_⟩
  rcases h3 with h3 | ⟨a, t, e1, e2, e3⟩
  · exact .inl h3
  · exact .inr ⟨a, t, e1, e2, e _ _ e3 (fun ps z => by cases z)⟩
theorem LamAt.same {q : Str} {cells : List (Str × Addr)} {m : Lm} {H H' : Hp} {v : V} (h : LamAt q cells m H v) (e : Same H H') : LamAt q cells m H' v := h.extN (ExtN.of e)
theorem LamAt.keep {q : Str} {cells : List (Str × Addr)} {m : Lm} {H H' : Hp} {v : V} {d : Addr} {ys : List V} (h : LamAt q cells m H v) (hd : H d = some (.lst ys)) (k : Keep d H H') : LamAt q cells m H' v := by
  obtain ⟨f, c', dV, rfl, h1, h2, h3⟩ := h
  refine ⟨f, c', dV, rfl, k _ _ (ne_of h1 hd (by intro z; unfold LamO at z; cases z)) h1, k _ _ (ne_of h2 hd (by intro z; unfold CodeO at z; cases z)) h2, ?_⟩
  rcases h3 with h3 | ⟨a, t, e1, e2, e3⟩
  · exact .inl h3
  · exact .inr ⟨a, t, e1, e2, k _ _ (ne_of e3 hd (by intro z; cases z)) e3⟩
theorem lamO_ok {P : Program} {w : World} {H : Hp} {h : Heap} {q : Str} {m : Lm} {clo : List (Str × Addr)} {dV doc pm ctv : Value} {f c' : Addr} (e : h.get? f = some (kdv_obj "<lambda>" q m.params (.expr m.body) m.scope clo dV doc pm c' ctv)) :
    ObjOk P w H h f (LamO q m clo dV f c') := ⟨⟨doc, pm, ctv, e⟩, ⟨_, e⟩, fun g1 g2 z k => by
  obtain ⟨d1, d2, d3, z⟩ := z
  exact ⟨d1, d2, d3, k _ z⟩⟩
section
variable {X : Cx} {pins : List (Addr × Obj)} {σ : L2.St} {H : Hp} {s : Shared}
/-- the tail of a lambda's making: it is tracked from now on -/
theorem lam_tail {T : List (Addr × Str)} {c P : Addr} {m : Lm} {pos : Pos} {E : Value → Shared → Prop} {Q : Value → Shared → Prop} {dV : Value} {fl : Nat} (I : Inv X pins σ H s) (TB : TabB X.base X.mg c P) (hcode : X.env.code = .ref c)
    (hm : (P, X.env.qual ++ "<lambda>") ∈ T) (hu : ∀ p ∈ T, p.1 = P → p.2 = X.env.qual ++ "<lambda>") (hT : Tabs T H) (hfree : ∀ y ∈ m.scope.names, y.2 = .free → ∃ c, X.env.cells.lookup y.1 = some c) (hdv : Dfl H m dV)
    (h : ∀ (f : Addr) (H1 : Hp) (s' : Shared), Inv X pins σ H1 s' → ExtN H H1 → Tabs T H1 → H f = none → LamAt (X.env.qual ++ "<lambda>") X.env.cells m H1 (.ref f) → Q (.ref f) s') :
    wpAny (model X.prog X.w) X.A (makeTail "<lambda>" (X.env.qual ++ "<lambda>") m.params (.expr m.body) m.scope X.env dV .none none pos fl) Q E s := by
  obtain ⟨ps, hP, ht, ha⟩ := hT _ hm
  have bP : s.heap.BuiltinsAt X.mg P := TB.bm.keeps I.bk
  have hP' : s.heap.get? P = some { cls := .none, data := .fields ps } := I.hok P _ hP
  have dx : ∀ {H1 : Hp}, ExtN H H1 → Dfl H1 m dV := fun {H1} e => by
    rcases hdv with z | ⟨a, t, e1, e2, e3⟩
    · exact .inl z
    · exact .inr ⟨a, t, e1, e2, e _ _ e3 (fun ps z => by cases z)⟩
  cases hc : codeAmong pos ps.toList with
  | none =>
    refine kdv_makeTail (mg := X.mg) (c := c) (P := P) (ps := ps) (closure_ok hfree) I.ok.glob (I.mod.glob.keeps I.bk) hcode (TB.code.keeps I.bk) hP' ht hc TB.gP bP fun c' ctv doc h' tk hx hge hlt hrec htb => ?_
    obtain ⟨c2, oc, vs, t, e2, hoc, hd, hv⟩ := hrec
    cases e2
    have hsz : s.heap.objs.size ≤ h'.objs.size := Nat.le_trans hge (Nat.le_of_lt hlt)
    have nC : H c' = none := I.hok.fresh hge
    have I1 := inv_table (t' := tk) (more := #[rawInt pos.line, rawInt pos.col, .ref c']) (h' := h') (q := X.env.qual ++ "<lambda>") I hP (fun b o hb e => hx b o hb e) htb hge ⟨oc, vs, t, hoc, hd, hv⟩
    have hE : ExtN H (upd (upd H P (.tbl (ps ++ #[rawInt pos.line, rawInt pos.col, .ref c']))) c' (CodeO c' (X.env.qual ++ "<lambda>"))) := fun b o e n => by
      rw [upd_ne (ne_of_none e nC), upd_ne (fun z => n ps (Option.some.inj (e.symm.trans (by rw [z]; exact hP))))]
      exact e
    have eL : (ps ++ #[rawInt pos.line, rawInt pos.col, .ref c']).toList = ps.toList ++ [rawInt pos.line, rawInt pos.col, .ref c'] := by simp
    have nF : H h'.objs.size = none := I.hok.fresh hsz
    have n1 : h'.objs.size ≠ c' := Nat.ne_of_gt hlt
    have n2 : h'.objs.size ≠ P := Nat.ne_of_gt (Nat.lt_of_lt_of_le (Heap.lt_size hP') hsz)
    have tb : Tabs T (upd (upd H P (.tbl (ps ++ #[rawInt pos.line, rawInt pos.col, .ref c']))) c' (CodeO c' (X.env.qual ++ "<lambda>"))) := fun p hp => by
      by_cases hb : p.1 = P
      · rw [hu p hp hb, hb]
        refine ⟨_, by rw [upd_ne (ne_of_none hP nC), upd_same], by rw [eL]; exact PySem.TriplesOk_snoc _ _ _ _ ht, fun p' cv hcv => ?_⟩
        rw [eL] at hcv
        rcases among_app _ ht hcv with z | z
        · obtain ⟨c0, e1, e2⟩ := ha p' cv z
          exact ⟨c0, e1, hE _ _ e2 codeO_ne⟩
        · exact ⟨c', z, upd_same⟩
      · obtain ⟨ps', a1, a2, a3⟩ := hT p hp
        refine ⟨ps', by rw [upd_ne (ne_of_none a1 nC), upd_ne hb]; exact a1, a2, fun p' cv hcv => ?_⟩
        obtain ⟨c0, e1, e2⟩ := a3 p' cv hcv
        exact ⟨c0, e1, hE _ _ e2 codeO_ne⟩
    have hco : upd (upd H P (.tbl (ps ++ #[rawInt pos.line, rawInt pos.col, .ref c']))) c' (CodeO c' (X.env.qual ++ "<lambda>")) c' = some (CodeO c' (X.env.qual ++ "<lambda>")) := upd_same
    have nF1 : upd (upd H P (.tbl (ps ++ #[rawInt pos.line, rawInt pos.col, .ref c']))) c' (CodeO c' (X.env.qual ++ "<lambda>")) h'.objs.size = none := by rw [upd_ne n1, upd_ne n2]; exact nF
    generalize upd (upd H P (.tbl (ps ++ #[rawInt pos.line, rawInt pos.col, .ref c']))) c' (CodeO c' (X.env.qual ++ "<lambda>")) = H1 at *
    have I2 := I1.laid (a := h'.objs.size) (o := LamO (X.env.qual ++ "<lambda>") m (cloFrom X.env.cells m.scope.names []) dV h'.objs.size c') (t' := tk) (h' := h'.push (kdv_obj "<lambda>" (X.env.qual ++ "<lambda>") m.params (.expr m.body) m.scope (cloFrom X.env.cells m.scope.names []) dV doc ((X.mg "__name__").getD .none) c' ctv))
      (fun b o e => Heap.get?_push_of_some _ e) (Nat.le_refl _) (lamO_ok (Heap.get?_push_size _ rfl))
    have sm := same_new nF1 (LamO (X.env.qual ++ "<lambda>") m (cloFrom X.env.cells m.scope.names []) dV h'.objs.size c')
    exact h _ _ _ I2 (hE.trans (ExtN.of sm)) (tb.ext sm) nF ⟨_, c', dV, rfl, upd_same, sm _ _ hco, dx (hE.trans (ExtN.of sm))⟩
  | some cv =>
    obtain ⟨c', e, hco⟩ := ha pos cv hc
    subst e
    refine kdv_makeTailHit (mg := X.mg) (c := c) (P := P) (ps := ps) (closure_ok hfree) I.ok.glob (I.mod.glob.keeps I.bk) hcode (TB.code.keeps I.bk) hP' ht hc bP fun ctv doc h' tk hx hsz => ?_
    have nF : H h'.objs.size = none := I.hok.fresh hsz
    have I2 := I.laid (a := h'.objs.size) (o := LamO (X.env.qual ++ "<lambda>") m (cloFrom X.env.cells m.scope.names []) dV h'.objs.size c') (t' := tk) (h' := h'.push (kdv_obj "<lambda>" (X.env.qual ++ "<lambda>") m.params (.expr m.body) m.scope (cloFrom X.env.cells m.scope.names []) dV doc ((X.mg "__name__").getD .none) c' ctv))
      (fun b o e => Heap.get?_push_of_some _ (hx b o e)) hsz (lamO_ok (Heap.get?_push_size _ rfl))
    have sm := same_new nF (LamO (X.env.qual ++ "<lambda>") m (cloFrom X.env.cells m.scope.names []) dV h'.objs.size c')
    exact h _ _ _ I2 (ExtN.of sm) (hT.ext sm) nF ⟨_, c', dV, rfl, upd_same, sm _ _ hco, dx (ExtN.of sm)⟩
end
/-- the lambda's names: captured ones and globals; its own parameter is none of the frame's names -/
structure LamSD (sc scope : Scope) (N : List Str) (dn : Option Str) : Prop where
  kind : scope.kind = .function
  co : scope.isCoroutine = false
  gen : scope.isGenerator = false
  own : ∀ y ∈ scope.names, y.2 ≠ .cell ∧ (y.2 = .local → y.1 ∉ N)
  free : ∀ y ∈ scope.names, y.2 = .free → sc.names.lookup y.1 = some .cell ∨ sc.names.lookup y.1 = some .free
  par : ∀ a, dn = some a → scope.names.lookup a = some .local
def lamSDB (sc scope : Scope) (N : List Str) (dn : Option Str) : Bool :=
  decide (scope.kind = .function) && !scope.isCoroutine && !scope.isGenerator && (scope.names.all fun y => !decide (y.2 = .cell) && (!decide (y.2 = .local) || decide (y.1 ∉ N)) && (!decide (y.2 = .free) || decide (sc.names.lookup y.1 = some .cell) || decide (sc.names.lookup y.1 = some .free))) &&
    (match dn with | none => true | some a => decide (scope.names.lookup a = some .local))
theorem lamSD_by {sc scope : Scope} {N : List Str} {dn : Option Str} (h : lamSDB sc scope N dn = true) : LamSD sc scope N dn := by
  unfold lamSDB at h
  simp only [Bool.and_eq_true, Bool.or_eq_true, Bool.not_eq_true', decide_eq_true_eq, decide_eq_false_iff_not, List.all_eq_true] at h
  obtain ⟨⟨⟨⟨h1, h2⟩, h3⟩, h4⟩, h5⟩ := h
  refine ⟨h1, h2, h3, fun y hy => ⟨(h4 y hy).1.1, fun e => ?_⟩, fun y hy e => ?_, fun a e => ?_⟩
  · rcases (h4 y hy).1.2 with z | z
    · exact absurd e z
    · exact z
  · rcases (h4 y hy).2 with (z | z) | z
    · exact absurd e z
    · exact .inl z
    · exact .inr z
  · rw [e] at h5
    exact of_decide_eq_true h5
theorem LamSD.has {X : Cx} {scope : Scope} {N : List Str} {dn : Option Str} (L : LamSD X.env.scope scope N dn) (ok : X.Ok) : ∀ y ∈ scope.names, y.2 = .free → ∃ c, X.env.cells.lookup y.1 = some c := fun y hy e => by
  rcases L.free y hy e with k | k
  · exact ok.has _ (.inl k)
  · exact ok.has _ (.inr k)
structure LmOk (X : Cx) (m : Lm) : Prop where
  S : LamSD X.env.scope m.scope X.N m.dn
  b0 : m.dn = none → ∀ (q : Str) (cl : List (Str × Addr)) (doc pm cv ctv : Value), bindArgs (kdv_fn "<lambda>" q m.params (.expr m.body) m.scope cl .none doc pm cv ctv) ⟨[], []⟩ = pure []
  b1 : ∀ a, m.dn = some a → ∀ (q : Str) (cl : List (Str × Addr)) (t : Addr) (doc pm cv ctv v : Value), ∃ k, bindArgs (kdv_fn "<lambda>" q m.params (.expr m.body) m.scope cl (.ref t) doc pm cv ctv) ⟨[], []⟩ = seqItems? (.ref t) >>= k ∧ k (some #[v]) = pure [(a, v)]
/-- v is a lambda of the frame X, t its reading -/
def LamT (X : Cx) (k : Nat) (t : XK → TE) (H : Hp) (v : V) : Prop :=
  ∃ m : Lm, LmOk X m ∧ (∀ (A : Around) (outer : List Env) (s : Shared) (H : Hp) (E : XK) (f c' : Addr), Room k (A.deeper (lamEnv X m.scope s.heap.objs.size f c')) → PE (lamCx X A outer s H E m.scope f c') m.body (t E)) ∧ LamAt (X.env.qual ++ "<lambda>") X.env.cells m H v
theorem LamT.extN {X : Cx} {k : Nat} {t : XK → TE} {H H' : Hp} {v : V} (h : LamT X k t H v) (e : ExtN H H') : LamT X k t H' v := by
  obtain ⟨m, a, b, c⟩ := h
  exact ⟨m, a, b, c.extN e⟩
theorem LamT.same {X : Cx} {k : Nat} {t : XK → TE} {H H' : Hp} {v : V} (h : LamT X k t H v) (e : Same H H') : LamT X k t H' v := h.extN (ExtN.of e)
theorem LamT.keep {X : Cx} {k : Nat} {t : XK → TE} {H H' : Hp} {v : V} {d : Addr} {ys : List V} (h : LamT X k t H v) (hd : H d = some (.lst ys)) (e : Keep d H H') : LamT X k t H' v := by
  obtain ⟨m, a, b, c⟩ := h
  exact ⟨m, a, b, c.keep hd e⟩
def tLamV (X : Cx) (T : List (Addr × Str)) (k : Nat) (t : XK → TE) : TE := fun _ H Q => Tabs T H ∧ ∀ H1 f, ExtN H H1 → Tabs T H1 → H f = none → LamT X k t H1 (.ref f) → Q (.ref f) H1
section
variable {X : Cx}
/-- lambda: body, as a value -/
theorem pe_lamV0 {k : Nat} {t : XK → TE} {T : List (Addr × Str)} {c P : Addr} {params : Arguments} {body : Expr} {scope : Scope} {pos : Pos} (TB : TabB X.base X.mg c P) (hcode : X.env.code = .ref c) (hmT : (P, X.env.qual ++ "<lambda>") ∈ T) (hu : ∀ p ∈ T, p.1 = P → p.2 = X.env.qual ++ "<lambda>")
    (L : LmOk X ⟨params, body, scope, none⟩) (hdef : defaultsOf params X.env = ([], []))
    (hbody : ∀ (A : Around) (outer : List Env) (s : Shared) (H : Hp) (E : XK) (f c' : Addr), Room k (A.deeper (lamEnv X scope s.heap.objs.size f c')) → PE (lamCx X A outer s H E scope f c') body (t E))
    : PE X (.Lambda params body scope pos) (tLamV X T k t) := by
  refine ⟨fun pins s σ H Q I h => ?_⟩
  obtain ⟨hT, h⟩ := h
  refine PySem.W.kla_eval hdef ?_
  rw [makeFunction_eq]
  simp only [List.zip_nil_right, List.filterMap_nil, List.isEmpty_nil, if_true, pure_bind]
  exact lam_tail (m := ⟨params, body, scope, none⟩) I TB hcode hmT hu hT (L.S.has I.ok) (.inl ⟨rfl, rfl⟩) fun f H1 s' I1 eN T1 hf la => ⟨.ref f, H1, I1, rfl, h H1 f eN T1 hf ⟨_, L, hbody, la⟩⟩
/-- lambda a=0: body, as a value -/
theorem pe_lamV1 {k : Nat} {t : XK → TE} {T : List (Addr × Str)} {c P : Addr} {params : Arguments} {body : Expr} {scope : Scope} {pos pc : Pos} {a : Str} {j : Nat} (TB : TabB X.base X.mg c P) (hcode : X.env.code = .ref c) (hmT : (P, X.env.qual ++ "<lambda>") ∈ T) (hu : ∀ p ∈ T, p.1 = P → p.2 = X.env.qual ++ "<lambda>")
    (L : LmOk X ⟨params, body, scope, some a⟩) (hdef : params.defaults = [.Constant (.int 0) j pc]) (hk0 : params.kw_defaults = [])
    (hbody : ∀ (A : Around) (outer : List Env) (s : Shared) (H : Hp) (E : XK) (f c' : Addr), Room k (A.deeper (lamEnv X scope s.heap.objs.size f c')) → PE (lamCx X A outer s H E scope f c') body (t E))
    : PE X (.Lambda params body scope pos) (tLamV X T k t) := by
  refine ⟨fun pins s σ H Q I h => ?_⟩
  obtain ⟨hT, h⟩ := h
  refine kdv_lam (by rw [hdef]; rfl) hk0 ?_
  rw [hdef]
  refine kdv_all1 (thn ((pe_int (X := X) (i := 0) (j := j) (pos := pc)).run pins s σ H (fun v H' => v = .int 0 ∧ H' = H) I ⟨rfl, rfl⟩) fun u s1 hz => kdv_all0 ?_)
  obtain ⟨v, H1, I1, r1, rfl, rfl⟩ := hz
  rw [makeFunction_eq]
  simp only [List.zip_nil_right, List.filterMap_nil, List.isEmpty_nil, if_true, pure_bind, List.isEmpty_cons, Bool.false_eq_true, if_false]
  refine wpAny_bind (wpAny_newTextTuple ?_)
  have nt : H1 s1.heap.objs.size = none := I1.hok.fresh (Nat.le_refl _)
  have I2 := I1.laid (a := s1.heap.objs.size) (o := .tup [.int 0]) (t' := s1.toks) (h' := s1.heap.push { cls := .type "tuple", data := .seq [u].toArray }) (fun b o e => Heap.get?_push_of_some _ e) (Nat.le_refl _)
    ⟨(by show 1 ≤ sizeLine; decide), [u], .cons r1 .nil, _, Heap.get?_push_size _ rfl, rfl, _, rfl⟩
  have sm := same_new nt (.tup [.int 0])
  exact lam_tail (m := ⟨params, body, scope, some a⟩) I2 TB hcode hmT hu (hT.ext sm) (L.S.has I.ok) (.inr ⟨a, _, rfl, rfl, upd_same⟩) fun f H2 s' I3 eN T1 hf la => ⟨.ref f, H2, I3, rfl, h H2 f ((ExtN.of sm).trans eN) T1 (by
    by_cases e : f = s1.heap.objs.size
    · rw [e]; exact nt
    · rw [upd_ne e] at hf; exact hf) ⟨_, L, hbody, la⟩⟩
end
/-! ### a frame's cells as a part of the base -/
structure LamB (X : Cx) (σ : L2.St) (b : Heap) : Prop where
  ok : X.Ok
  sub : ∀ a o, X.base.get? a = some o → b.get? a = some o
  size : X.base.objs.size ≤ b.objs.size
  cell : ∀ x c, X.env.cells.lookup x = some c → ∃ v, b.IsCell c v
  val : ∀ (i : Nat) (x : Str) (v : V) (c : Addr), X.N[i]? = some x → σ[i]? = some (some v) → (X.env.scope.names.lookup x = some .cell ∨ X.env.scope.names.lookup x = some .free) → X.env.cells.lookup x = some c → ∃ u, RelV v u ∧ b.IsCell c (some u)
  len : σ.length = X.N.length
def bigB (X : Cx) (H : Hp) (h : Heap) : Heap := hideAll h (trk h H ++ frs X.stack)
theorem funs_re {h b b' : Heap} : ∀ {l : List Env}, h.FunFrames b l → (∀ a ∈ frs l, b'.get? a = none) → h.FunFrames b' l
  | [], _, _ => trivial
  | env :: r, ⟨hk, ⟨L, o, hf, hn, ho, hd⟩, hr⟩, q => by
    have mem : ∀ a ∈ frs r, a ∈ frs (env :: r) := fun a ha => by unfold frs; rw [List.filterMap_cons, hf]; exact List.mem_cons_of_mem _ ha
    exact ⟨hk, ⟨L, o, hf, q L (by unfold frs; rw [List.filterMap_cons, hf]; exact List.mem_cons_self), ho, hd⟩, funs_re hr fun a ha => q a (mem a ha)⟩
section
variable {X : Cx} {pins : List (Addr × Obj)} {σ : L2.St} {H : Hp} {s : Shared}
theorem big_get {h : Heap} {a : Addr} {o : Obj} (e : h.get? a = some o) (n : H a = none) (nf : a ∉ frs X.stack) : (bigB X H h).get? a = some o :=
  hideAll_get _ e fun hm => by
    rcases List.mem_append.mp hm with z | z
    · have q : (H a).isSome = true := (List.mem_filter.mp z).2
      rw [n] at q
      cases q
    · exact nf z
theorem of_big {h : Heap} {a : Addr} {o : Obj} (e : (bigB X H h).get? a = some o) : h.get? a = some o ∧ H a = none := by
  have e' : h.get? a = some o := of_hideAll _ e
  refine ⟨e', ?_⟩
  cases q : H a with
  | none => rfl
  | some x =>
    have hm : a ∈ trk h H ++ frs X.stack := List.mem_append.mpr (.inl (List.mem_filter.mpr ⟨List.mem_range.mpr (Heap.lt_size e'), by simp [q]⟩))
    have z : (bigB X H h).get? a = none := hideAll_none _ hm
    rw [z] at e
    cases e
theorem big_sub (I : Inv X pins σ H s) : ∀ a o, X.base.get? a = some o → (bigB X H s.heap).get? a = some o := fun a o e => by
  obtain ⟨h1, h2⟩ := I.bs a o e
  refine big_get h1 h2 fun z => ?_
  rcases List.mem_cons.mp (I.stkSub a z) with z | z
  · have l1 := Heap.lt_size e
    have l2 := Nat.le_trans I.ok.bsz I.ok.above
    rw [z] at l1
    exact Nat.lt_irrefl _ (Nat.lt_of_lt_of_le l1 l2)
  · exact I.ok.nofr e z
theorem big_mod (I : Inv X pins σ H s) : Mod X.K X.mg (bigB X H s.heap) := by
  have k := big_sub I
  obtain ⟨mb, h1, h2⟩ := I.mod.blt
  exact ⟨I.mod.kin.keeps k, I.mod.glob.keeps k, ⟨mb, h1.keeps k, h2⟩, I.mod.nolimit.keeps k⟩
theorem big_env0 (I : Inv X pins σ H s) : Env0 X.prog X.w X.K X.mg (bigB X H s.heap) X.A X.stack s H :=
  ⟨I.ok.frames, big_mod I, fun a o e => of_big e, by unfold bigB; rw [hideAll_size]; exact Nat.le_refl _, funs_re I.stack fun a ha => hideAll_none _ (List.mem_append.mpr (.inr ha)), I.stkFree, I.hok, I.bare⟩
theorem lamB_of (I : Inv X pins σ H s) (hfn : ∀ x, X.fn x = true) : LamB X σ (bigB X H s.heap) := by
  have nf : ∀ x c, X.env.cells.lookup x = some c → c ∉ frs X.stack := fun x c e z => by
    rcases List.mem_cons.mp (I.stkSub c z) with z | z
    · exact I.cne x c e z
    · obtain ⟨_, o, ho, _⟩ := I.ok.funs.mem z
      have l1 := Heap.lt_size ho
      have l2 := I.ok.cab x c (hfn x) e
      exact Nat.lt_irrefl _ (Nat.lt_of_lt_of_le l1 l2)
  have up : ∀ x c v, X.env.cells.lookup x = some c → s.heap.IsCell c v → (bigB X H s.heap).IsCell c v := fun x c v e ⟨o, ho, hd⟩ => ⟨o, big_get ho (I.freeC x c e) (nf x c e), hd⟩
  refine ⟨I.ok, big_sub I, ?_, fun x c e => ?_, fun i x v c e1 e2 e3 e4 => ?_, I.len⟩
  · unfold bigB
    rw [hideAll_size]
    exact Nat.le_trans I.ok.bsz I.sz
  · obtain ⟨v, z⟩ := I.cell x c e
    exact ⟨v, up x c v e z⟩
  · obtain ⟨m, _, hl⟩ := I.loc
    obtain ⟨u, r, q⟩ := hl i x v e1 e2 (.inr e3)
    refine ⟨u, r, ?_⟩
    rcases q with ⟨k, _⟩ | ⟨_, c2, k2, z⟩
    · have k : X.env.scope.names.lookup x = some .local := k
      rcases e3 with e3 | e3 <;> rw [e3] at k <;> cases k
    · rw [e4] at k2
      cases k2
      exact up x c _ e4 z
theorem lam_startB {A : Around} {outer : List Env} {E : XK} {scope : Scope} {dn : Option Str} {f c' : Addr} {b h₁ : Heap} {tk : Nat} {HZ : Hp} {s1 : Shared} {bs : List (Str × Value)} (B : LamB X σ b) (L : LamSD X.env.scope scope X.N dn) (e0 : Env0 X.prog X.w X.K X.mg b A outer s1 HZ) (hd : A.handled = none)
    (hns : h₁.Ns s1.heap.objs.size fun y => bs.reverse.lookup y) (kp : ∀ b o, s1.heap.get? b = some o → h₁.get? b = some o) :
    Inv (lamCx X A outer s1 HZ E scope f c') [] σ HZ { s1 with heap := h₁, toks := tk } := by
  have hfree := L.has B.ok
  have cm : ∀ {y c}, (cloFrom X.env.cells scope.names []).lookup y = some c → X.env.cells.lookup y = some c := fun {y c} e => by
    rcases cloFrom_mem (PySem.mem_of_lookup e) with hm | ⟨h1, h2⟩
    · cases hm
    · obtain ⟨c1, hc⟩ := hfree _ h1 rfl
      have hc : X.env.cells.lookup y = some c1 := hc
      have e2 : c = c1 := by
        rw [h2, hc] <;> rfl
      rw [e2]
      exact hc
  have look : ∀ {y}, scope.names.lookup y = some .free → ∃ c, (cloFrom X.env.cells scope.names []).lookup y = some c := fun {y} hl => mem_lookup (cloFrom_has (cells := X.env.cells) (acc := []) (PySem.mem_of_lookup hl))
  have cellK : ∀ {c : Addr} {v : Option Value}, b.IsCell c v → h₁.IsCell c v := fun {c v} ⟨o, ho, hd⟩ => ⟨o, kp _ _ (e0.bs c o ho).1, hd⟩
  have noA : ∀ b : Addr, b ∉ (lamCx X A outer s1 HZ E scope f c').ex := fun b z => absurd (show b ∈ ([] : List Addr) from z) (by simp)
  have fb : ∀ a, b.get? a = none → X.base.get? a = none := fun a n => by
    cases e : X.base.get? a with
    | none => rfl
    | some o => rw [B.sub a o e] at n; cases n
  refine ⟨⟨B.ok.mod, L.kind, rfl, rfl, Nat.le_refl _, fun y z c e1 e2 => B.ok.inj y z c (cm e1) (cm e2), fun y hy => ?_, fun y c z _ => ?_, fun _ => hd, Around.frames_deeper e0.frames, .inr ⟨rfl, rfl⟩, fun b z => absurd z (noA b), fun a o e => e0.bs a o (B.sub a o e), Nat.le_trans B.size e0.bsz, fun b _ _ => noA b,
      fun b z => absurd z (noA b), funs_re e0.funs fun a ha => fb a (e0.funs.mem ha).1, e0.frf⟩,
    rfl, e0.bare, Un.kept kp, ⟨_, hns, fun i y v e1 e2 e3 => ?_⟩, fun y c e => ?_, e0.hok.fresh (Nat.le_refl _), fun y c e => ?_, fun q hq => absurd (show q ∈ ([] : List (Addr × Obj)) ++ [] from hq) (by simp), e0.hok.kept kp, B.len⟩
  · have hy : scope.names.lookup y = some .cell ∨ scope.names.lookup y = some .free := hy
    rcases hy with hy | hy
    · exact absurd rfl (L.own _ (PySem.mem_of_lookup hy)).1
    · exact look hy
  · have z : false = true := z
    cases z
  · have e1 : X.N[i]? = some y := e1
    have e3 : Vis scope y := e3
    rcases e3 with k | k | k
    · exact absurd (List.mem_of_getElem? e1) ((L.own _ (PySem.mem_of_lookup k)).2 rfl)
    · exact absurd rfl (L.own _ (PySem.mem_of_lookup k)).1
    · obtain ⟨c2, h2⟩ := look k
      obtain ⟨u, r, z⟩ := B.val i y v c2 e1 e2 (L.free _ (PySem.mem_of_lookup k) rfl) (cm h2)
      exact ⟨u, r, .inr ⟨.inr k, c2, h2, cellK z⟩⟩
  · obtain ⟨v, z⟩ := B.cell y c (cm e)
    exact ⟨v, cellK z⟩
  · obtain ⟨v, o, ho, _⟩ := B.cell y c (cm e)
    exact (e0.bs c o ho).2
/-- x(), in a def that got the lambda m; b: a base with the cells of m's frame -/
theorem pe_actB {CXg : CXT} {Eg : XK} {Ng : List Str} {qg : Str} {sg : Scope} {g : Addr} {cdg : Value} {m : Lm} {k i : Nat} {a : Str} {pn : List (Addr × Obj)} {xe : Value → Shared → Prop} {W : WX} {E : XK} {tb : TE} {p1 p2 : Pos} {b : Heap} {AZ : Around} {outZ : List Env} {s0 : Shared} {H0 : Hp}
    (B : LamB X σ b) (L : LmOk X m) (tk : Takes ((cxOf CXg X.prog X.w X.K X.mg b Ng qg sg g cdg AZ outZ s0 H0 Eg).tr pn xe) W) (hW : ∀ cls d σ' H', E cls d H' → W cls d σ' H') (hr : Room (k + 1) (AZ.deeper (envOfC qg sg s0.heap.objs.size g cdg)))
    (hbody : ∀ (A : Around) (outer : List Env) (s : Shared) (H : Hp) (f c' : Addr), Room k (A.deeper (lamEnv X m.scope s.heap.objs.size f c')) → PE (lamCx X A outer s H E m.scope f c') m.body tb)
    (hN : Ng[i]? = some a) (hv : Vis sg a) (hd : (a == ("__debug__" : Str)) = false := by decide) (hcd : (a == ("__classdict__" : Str)) = false := by decide) :
    PE ((cxOf CXg X.prog X.w X.K X.mg b Ng qg sg g cdg AZ outZ s0 H0 Eg).tr pn xe) (.Call (.Name a p1) [] [] p2)
      (fun σZ HZ Q => ∃ v, σZ[i]? = some (some v) ∧ LamAt (X.env.qual ++ "<lambda>") X.env.cells m HZ v ∧ tb σ HZ Q) := by
  refine ⟨fun pinsZ sZ σZ HZ Q IZ h => ?_⟩
  obtain ⟨v, hs, ⟨f, c', dV, rfl, hf, hc, hdv⟩, ht⟩ := h
  refine wpAny_Call_Name_kw (thn ((pe_var (pos := p1) (i := i) hN hv hd hcd).run pinsZ sZ σZ HZ (fun v H1 => v = .ref f ∧ H1 = HZ) IZ ⟨.ref f, hs, rfl, rfl⟩) fun u s1 ⟨v, H1, I1, r1, q1⟩ => ?_)
  obtain ⟨ev, eH⟩ := q1
  subst ev
  rw [eH] at I1
  obtain rfl : u = Value.ref f := r1
  obtain ⟨⟨doc, pm, ctv, of1⟩, _, _⟩ := I1.hok f _ hf
  refine PySem.W.callWith_F0 ⟨_, _, _, _, of1⟩ ?_
  obtain ⟨⟨oc, vs, t, hoc, hdc, hvc⟩, _, _⟩ := I1.hok c' _ hc
  have bd : ∃ bs : List (Str × Value), BindsTo s1 (kdv_fn "<lambda>" (X.env.qual ++ "<lambda>") m.params (.expr m.body) m.scope (cloFrom X.env.cells m.scope.names []) dV doc pm (.ref c') ctv) ⟨[], []⟩ bs ∧ ∀ y ∈ bs, m.scope.names.lookup y.1 = some .local := by
    rcases hdv with ⟨e1, rfl⟩ | ⟨a', tt, e1, rfl, e3⟩
    · exact ⟨[], .of_eq (L.b0 e1 _ _ _ _ _ _), fun y hy => by cases hy⟩
    · obtain ⟨_, its, rv, o, ho, _, n, hn⟩ := I1.hok tt _ e3
      obtain ⟨v0, rfl⟩ : ∃ v0, its = [v0] := by
        cases rv with
        | cons _ r => cases r; exact ⟨_, rfl⟩
      obtain ⟨kk, h1, h2⟩ := L.b1 a' e1 (X.env.qual ++ "<lambda>") (cloFrom X.env.cells m.scope.names []) tt doc pm (.ref c') ctv v0
      exact ⟨[(a', v0)], BindsTo.of_defaults (T := tt) rfl ho hn h1 h2, fun y hy => by rw [List.mem_singleton.mp hy]; exact L.S.par a' e1⟩
  obtain ⟨bs, hb, hl⟩ := bd
  have rc : codeAny (model X.prog X.w) (AZ.deeper (envOfC qg sg s0.heap.objs.size g cdg)) (.call (.ref f) ⟨[], []⟩) (CR (L2.CX X.prog X.w) (envOfC qg sg s0.heap.objs.size g cdg :: outZ) X.prog X.w HZ s1 Q E) s1 := by
    refine PySem.W.kla_callFunE hr.depth of1 rfl L.S.co L.S.gen rfl ⟨c', oc, vs, t, rfl, hoc, hdc, hvc⟩ (hb _ _ _ _ ?_)
    refine wpAny_newFunctionEnv (fun y hy => (L.S.own y hy).1) hl (fun h₁ hns hsb => ⟨I1.nolimit.fresh _ hsb, ?_⟩) L.S.kind
    show codeAny _ _ (.expr m.body (lamEnv X m.scope s1.heap.objs.size f c')) _ _
    have kp : ∀ b o, s1.heap.get? b = some o → h₁.get? b = some o := fun b o e => hsb.extBut b o (Nat.ne_of_lt (Heap.lt_size e)) (Heap.get?_push_of_some _ e)
    have J : Inv (lamCx X (AZ.deeper (envOfC qg sg s0.heap.objs.size g cdg)) (envOfC qg sg s0.heap.objs.size g cdg :: outZ) s1 HZ E m.scope f c') [] σ HZ { s1 with heap := h₁, toks := s1.toks + bs.length } :=
      lam_startB B L.S I1.env0 hr.hd hns kp
    refine PySem.W.kla_codeExpr (wpAny_mono ((hbody _ _ s1 HZ f c' (hr.deeper _)).run [] _ _ HZ Q J ht) (fun v s' hq => ?_) fun e s' hq => hq)
    obtain ⟨w', H', J', rv, q⟩ := hq
    exact ⟨w', H', J'.os, J'.bare, J'.base, J'.hok, rv, q⟩
  have hx : Passes (L2.CX X.prog X.w) ((cxOf CXg X.prog X.w X.K X.mg b Ng qg sg g cdg AZ outZ s0 H0 Eg).tr pn xe) E := passes_call tk hW
  refine wpAny_call (codeAny_mono rc fun r s' hq => ?_)
  cases r with
  | error e => exact hx pinsZ σZ HZ s1 e s' I1 hq
  | ok fl =>
    cases fl with
    | ret u => exact I1.after hq
    | next => exact False.elim hq
    | brk => exact False.elim hq
    | cont => exact False.elim hq
/-- the def that calls what it got, over a base with the cells -/
def sp_errB (X : Cx) (k : Nat) (σ : L2.St) (TT : (XK → Hp → VK → Prop) → Hp → VK → Prop) : Sp := fun vs H Q _ => ∃ v t, vs = [v] ∧ LamT X k t H v ∧ TT (fun E H' Q' => (∀ m, LamAt (X.env.qual ++ "<lambda>") X.env.cells m H v → LamAt (X.env.qual ++ "<lambda>") X.env.cells m H' v) ∧ t E σ H' Q') H Q
theorem errB {TT : (XK → Hp → VK → Prop) → Hp → VK → Prop} {x a : Str} {g : Addr} {k : Nat} {pg : Arguments} {bg : List Stmt} {sg : Scope} {dV kV doc pm cdv ct oc : Value} {an od : Option Addr} {osl : Array (Option Value)} {Ng : List Str} {b : Heap}
    (lk : X.K.lookup g = some ⟨oc, od, .func (PySem.W.fnOf x x pg bg sg dV kV doc pm an cdv ct), osl⟩) (hcg : PySem.W.codeIn X.K cdv x = true) (hb : L2.Binds X.K (PySem.W.fnOf x x pg bg sg dV kV doc pm an cdv ct) [a] []) (Sg : FnScope Ng [a] sg) (hNg : Ng[0]? = some a) (hva : Vis sg a)
    (hG : ∀ (A : Around) (outer : List Env), GivesTo { X with base := b, A := A, stack := outer } Ng x sg g cdv bg a (X.env.qual ++ "<lambda>") TT) (B : LamB X σ b)
    (hd : (a == ("__debug__" : Str)) = false := by decide) (hcd : (a == ("__classdict__" : Str)) = false := by decide) :
    FnR X.prog X.w X.K X.mg b C8.CX0 (k + 2) g (sp_errB X k σ TT) := by
  intro A outer s H us vs Q E hr e0 r h
  obtain ⟨v, t, rfl, ⟨m, L, hbody, la⟩, h⟩ := h
  obtain ⟨f, c', dV, rfl, hf, hc, hdv⟩ := id la
  cases r with
  | cons rx rr =>
    cases rr
    cases rx
    have e00 : Env0 X.prog X.w X.K X.mg b A outer s H := e0
    have kin : X.K.In s.heap := e0.mod.kin.keeps fun b o e => (e0.bs b o e).1
    refine codeAny_mono (run_ofS (CX := C8.CX0) (N := Ng) (ps := [a]) (us := [.ref f]) (vs := [.ref f]) (k := k + 1) (Q := Q) (E := C8.E0) lk hcg Sg hr e0 (hb s [.ref f] kin rfl) (.cons rfl .nil) rfl fun hr' => ?_) fun r s' hq => ?_
    · obtain ⟨t', ht', hq'⟩ := hG A outer f c' s H Q (fun E H' Q' => (∀ m, LamAt (X.env.qual ++ "<lambda>") X.env.cells m H (.ref f) → LamAt (X.env.qual ++ "<lambda>") X.env.cells m H' (.ref f)) ∧ t E σ H' Q') (fun W pn xe E p1 p2 tk hW => ⟨fun pins s' σ' H' Q' I' h' => (pe_actB (X := X) (i := 0) B L tk hW hr' (fun A outer s H f c' hr2 => hbody A outer s H E f c' hr2) hNg hva hd hcd).run pins s' σ' H' Q' I' ⟨_, h'.1, h'.2.2.1 m la, h'.2.2.2⟩⟩) hc h
      exact ⟨t', ht'.nox, hq'⟩
    · cases r with
      | error e => exact (show False from hq).elim
      | ok fl => exact hq
/-- x(e, ..) by a promise over the base with the cells -/
theorem pe_big {x : Str} {g : Addr} {k : Nat} {e : Expr} {es : List Expr} {ta : TA} {sp : L2.St → Sp} {p pos : Pos} (hg : Gl X x) (hm : X.mg x = some (.ref g)) (hk : PySem.W.keepIn X.K (.ref g) = true) (hfn : ∀ x, X.fn x = true) (ha : PA X (e :: es) ta)
    (hF : ∀ σ b, LamB X σ b → FnR X.prog X.w X.K X.mg b C8.CX0 k g (sp σ)) (hr : Room k X.A) (hd : (x == ("__debug__" : Str)) = false := by decide)
    (he : starEach (e :: es) X.env = (false, eval e X.env) :: starEach es X.env := by rfl) (hpl : (backTo pos (starEach es X.env)).any (·.1) = false := by rfl) :
    PE X (.Call (.Name x p) (e :: es) [] pos) (fun σ H Q => ta σ H fun vs H1 => sp σ vs H1 Q C8.E0) := by
  refine ⟨fun pins s σ H Q I h => ?_⟩
  refine wpAny_Call_Name_kw (ld_glob I hg hm ?_ hd)
  refine PySem.W.callWith_K (h₀ := X.base) I.ok.mod.kin hk (thn (ha.run pos pins s σ H _ I h) fun us s1 ⟨vs, H1, I1, r, q⟩ => ⟨I1.kIn, ?_⟩) he hpl
  refine wpAny_call (codeAny_mono (hF σ _ (lamB_of I1 hfn) X.A X.stack s1 H1 us vs Q C8.E0 hr (big_env0 I1) r q) fun r s' hq => ?_)
  cases r with
  | error e => exact (show False from hq).elim
  | ok fl =>
    cases fl with
    | ret u => exact I1.after hq
    | next => exact False.elim hq
    | brk => exact False.elim hq
    | cont => exact False.elim hq
end
end My
namespace My
open PySem L2 Mth
def topS (i : Nat) : Stmt := PySem.Challenge.pw_copyarms_k15_arms_and_their_poles.main.body.getD i (.Pass ⟨0, 0, 0, 0⟩)
end My
namespace My
open PySem L2 Mth
abbrev s_carried : Stmt := topS 38
theorem sc_carried : FnScope ["turn", "shift", "mirrored", "spot"] ["turn", "shift", "mirrored", "spot"] (defScope s_carried) := ⟨rfl, rfl, rfl, by decide +kernel, rfl, by decide +kernel, by decide +kernel⟩
abbrev s_common_divisor : Stmt := topS 26
theorem sc_common_divisor : FnScope ["one", "other"] ["one", "other"] (defScope s_common_divisor) := ⟨rfl, rfl, rfl, by decide +kernel, rfl, by decide +kernel, by decide +kernel⟩
abbrev s_faced : Stmt := topS 37
theorem sc_faced : FnScope ["number", "mirrored", "x", "y", "d"] ["number", "mirrored"] (defScope s_faced) := ⟨rfl, rfl, rfl, by decide +kernel, rfl, by decide +kernel, by decide +kernel⟩
abbrev s_inverse : Stmt := topS 36
theorem sc_inverse : FnScope ["number", "x", "y", "d"] ["number"] (defScope s_inverse) := ⟨rfl, rfl, rfl, by decide +kernel, rfl, by decide +kernel, by decide +kernel⟩
abbrev s_negative : Stmt := topS 33
theorem sc_negative : FnScope ["number", "x", "y", "d"] ["number"] (defScope s_negative) := ⟨rfl, rfl, rfl, by decide +kernel, rfl, by decide +kernel, by decide +kernel⟩
abbrev s_plus : Stmt := topS 32
theorem sc_plus : FnScope ["one", "other", "x", "y", "d", "u", "v", "e"] ["one", "other"] (defScope s_plus) := ⟨rfl, rfl, rfl, by decide +kernel, rfl, by decide +kernel, by decide +kernel⟩
abbrev s_product : Stmt := topS 35
theorem sc_product : FnScope ["one", "other", "x", "y", "d", "u", "v", "e"] ["one", "other"] (defScope s_product) := ⟨rfl, rfl, rfl, by decide +kernel, rfl, by decide +kernel, by decide +kernel⟩
abbrev s_spot_at : Stmt := topS 30
theorem sc_spot_at : FnScope ["x", "y", "d", "divisor"] ["x", "y", "d"] (defScope s_spot_at) := ⟨rfl, rfl, rfl, by decide +kernel, rfl, by decide +kernel, by decide +kernel⟩
section
variable {P : Program} {w : World} {K : PySem.W.Frag} {mg : Str → Option Value} {base : Heap}
/-- a def with keyword-only parameters, out of which nothing is raised -/
theorem ok0 {x qual : Str} {params : Arguments} {body : List Stmt} {scope : Scope} {dvs : List V} {kws : List (Str × V)} {f : Addr} {fd : FuncData} {N ps : List Str} {k : Nat} {sp : Sp} (F : FunD K x qual params body scope dvs kws f fd) (S : FnScope N ps scope) (len : ∀ vs H Q E, sp vs H Q E → vs.length = ps.length)
    (hbody : ∀ (cdv : Value) (A : Around) (outer : List Env) (s : Shared) (H : Hp) (vs : List V) (Q : VK) (E : XK), Room k (A.deeper (PyProof.Rows.envOfC qual scope s.heap.objs.size f cdv)) → sp vs H Q E →
      ∃ t, PSs (cxOf CX0 P w K mg base N qual scope f cdv A outer s H E).nox body t ∧ t { nx := fun _ H' => Q .non H', rt := Q } (start N vs) H) : FnOk P w K mg base CX0 (k + 1) f fd ps sp :=
  F.ok S len fun cdv A outer s H vs Q E hr hsp => by
    obtain ⟨t, h, q⟩ := hbody cdv A outer s H vs Q E hr hsp
    exact ⟨t, h.nox, q⟩
/-- the greatest common divisor -/
def sp_gcd : Sp := fun vs H Q _ => ∃ a b : Int, vs = [.int a, .int b] ∧ Q (.int ((Int.gcd a b : Nat) : Int)) H
theorem ok_common_divisor {f : Addr} {fd : FuncData} (b_abs : mg "abs" = none) (F : Fun K "common_divisor" "common_divisor" s_common_divisor f fd) : FnOk P w K mg base CX0 1 f fd ["one", "other"] sp_gcd := by
  refine F.ok sc_common_divisor (fun vs H Q E h => ?_) (fun cdv A outer s H vs Q E hr h => ?_)
  · obtain ⟨a, b, rfl, _⟩ := h
    rfl
  obtain ⟨a, b, rfl, q⟩ := h
  refine ⟨_, (pss_cons (ps_while PassesOwn.never (pt_cmpR (op_ne) (pv 1) pe_int (nomark _)) (pss_one (ps_par (i := 0) (j := 1) (by rfl) sc_common_divisor.nd rfl rfl (by decide) rfl rfl (pa_cons (pv 1) (pa_cons (pe_op op_modN (pv 0) (pv 1)) pa_nil)) (by rfl))))
    (pss_one (ps_ret (pe_callB call_abs (by rfl) b_abs (by decide +kernel) (pa_cons (pv 0) pa_nil))))), ?_⟩
  refine while_by (fun σ H' => H' = H ∧ ∃ x y : Int, σ = [some (.int x), some (.int y)] ∧ Int.gcd x y = Int.gcd a b) (fun σ _ => match σ with | [_, some (.int y)] => y.natAbs | _ => 0) ⟨rfl, a, b, rfl, rfl⟩ ?_ ?_
  · rintro σ H' ⟨rfl, x, y, rfl, e⟩
    refine ⟨_, rfl, rfl, _, rfl, ?_⟩
    by_cases c : y = 0
    · subst c
      refine if_neg (by decide) |>.mpr ?_
      refine ⟨_, rfl, _, rfl, ?_⟩
      rw [← e, gcd_0] at q
      exact q
    · refine (if_pos (show (!decide (V.int y = V.int 0)) = true by rw [decide_eq_false (fun z => c (V.int.inj z))]; rfl)).mpr ?_
      refine ⟨_, rfl, _, rfl, _, rfl, _, _, rfl, rfl, c, _, _, rfl, ⟨rfl, _, _, rfl, ?_⟩, ?_⟩
      · rw [gcd_fmod]; exact e
      · exact fmod_small c
  · rintro σ H' Q1 Q2 hq ⟨v, h1, h2, k, h3, h4⟩
    exact ⟨v, h1, h2, k, h3, hq _ _ h4⟩
/-- (x, y, d) in lowest terms -/
def sp_low (K : PySem.W.Frag) : Sp := fun vs H Q _ => ∃ x y d : Int, vs = [.int x, .int y, .int d] ∧ d ≠ 0 ∧ d.natAbs < 2 ^ 8500 ∧ ∀ H' r, Same H H' → IsT K H' r (low x y d) → Q r H'
theorem g3_lt {x y d : Int} (hd : d ≠ 0) {n : Nat} (h : d.natAbs < 2 ^ n) : (sg x y d).natAbs < 2 ^ n := by
  obtain ⟨u, hu⟩ := @sg_dd x y d
  have hu0 : u ≠ 0 := fun z => by rw [z, Int.mul_zero] at hu; exact hd hu
  have e : (sg x y d).natAbs * u.natAbs = d.natAbs := by rw [← Int.natAbs_mul, ← hu]
  have : 1 ≤ u.natAbs := by omega
  have : (sg x y d).natAbs * 1 ≤ (sg x y d).natAbs * u.natAbs := Nat.mul_le_mul_left _ this
  omega
theorem ok_spot_at {f : Addr} {fd : FuncData} (d_common_divisor : D P w K mg base "common_divisor" 1 sp_gcd) (F : Fun K "spot_at" "spot_at" s_spot_at f fd) : FnOk P w K mg base CX0 2 f fd ["x", "y", "d"] (sp_low K) := by
  refine F.ok sc_spot_at (fun vs H Q E h => ?_) (fun cdv A outer s H vs Q E hr h => ?_)
  · obtain ⟨x, y, d, rfl, _⟩ := h
    rfl
  obtain ⟨x, y, d, rfl, hd, hB, q⟩ := h
  refine ⟨_, (pss_cons (ps_set (i := 3) sc_spot_at.nd rfl (by first | exact Or.inl rfl | exact Or.inr rfl) (pc d_common_divisor (hr.mono (by decide)) (pa_cons (pc d_common_divisor (hr.mono (by decide)) (pa_cons (pv 0) (pa_cons (pv 1) pa_nil))) (pa_cons (pv 2) pa_nil))))
    (pss_cons (ps_if (pt_cmpR (op_lt) (pv 2) pe_int (nomark _)) (pss_one (ps_set (i := 3) sc_spot_at.nd rfl (by first | exact Or.inl rfl | exact Or.inr rfl) (pe_un un_neg (pv 3)))) pss_nil)
    (pss_one (ps_ret (pe_tup (pa_cons (pe_op op_fdivX (pv 0) (pv 3)) (pa_cons (pe_op op_fdivX (pv 1) (pv 3)) (pa_cons (pe_op op_fdivX (pv 2) (pv 3)) pa_nil)))))))), ?_⟩
  refine ⟨_, rfl, _, rfl, _, _, rfl, _, rfl, _, _, rfl, ?_⟩
  refine ⟨_, rfl, _, _, rfl, rfl, _, rfl, ?_⟩
  have hc : CDivX x (sg x y d) ∧ CDivX y (sg x y d) ∧ CDivX d (sg x y d) := ⟨divX (sg_ne hd) (g3_lt hd hB) (by decide) (by decide), divX (sg_ne hd) (g3_lt hd hB) (by decide) (by decide), divX (sg_ne hd) (g3_lt hd hB) (by decide) (by decide)⟩
  refine ite2 (fun c => ?_) (fun c => ?_)
  · have es : sg x y d = -(g3 x y d) := if_pos (of_decide_eq_true c)
    refine ⟨_, rfl, _, rfl, ?_⟩
    rw [es] at hc
    refine ⟨_, rfl, _, rfl, _, _, rfl, rfl, hc.1, _, rfl, _, rfl, _, _, rfl, rfl, hc.2.1, _, rfl, _, rfl, _, _, rfl, rfl, hc.2.2, (by show 3 ≤ sizeLine; decide), fun p hp => ?_⟩
    refine q _ _ (same_new hp _) ?_
    unfold low
    rw [es]
    exact IsT.new
  · have es : sg x y d = g3 x y d := if_neg (of_decide_eq_false (Bool.eq_false_iff.mpr c))
    rw [es] at hc
    refine ⟨_, rfl, _, rfl, _, _, rfl, rfl, hc.1, _, rfl, _, rfl, _, _, rfl, rfl, hc.2.1, _, rfl, _, rfl, _, _, rfl, rfl, hc.2.2, (by show 3 ≤ sizeLine; decide), fun p hp => ?_⟩
    refine q _ _ (same_new hp _) ?_
    unfold low
    rw [es]
    exact IsT.new
/-- two parts of numbers of bounded size -/
def sp_two (K : PySem.W.Frag) (g : T3 → T3 → T3) : Sp := fun vs H Q _ => ∃ va vb a b, vs = [va, vb] ∧ IsT K H va a ∧ IsT K H vb b ∧ Ok a ∧ Ok b ∧ B 4000 a ∧ B 4000 b ∧ ∀ H' r, Same H H' → IsT K H' r (g a b) → Q r H'
theorem mulW {i j : Int} {a b : Nat} (ha : i.natAbs < 2 ^ (a + 1)) (hb : j.natAbs < 2 ^ (b + 1)) (h : a + b + 2 ≤ 1000000 := by decide) : CMulW i j := wide_mul ha hb (by omega) (by omega) (by omega)
theorem ok_plus {f : Addr} {fd : FuncData} (d_spot_at : D P w K mg base "spot_at" 2 (sp_low K)) (F : Fun K "plus" "plus" s_plus f fd) : FnOk P w K mg base CX0 3 f fd ["one", "other"] (sp_two K plus) := by
  refine F.ok sc_plus (fun vs H Q E h => ?_) (fun cdv A outer s H vs Q E hr h => ?_)
  · obtain ⟨va, vb, a, b, rfl, _⟩ := h
    rfl
  obtain ⟨va, vb, ⟨x, y, d⟩, ⟨u, v, e⟩, rfl, ⟨pa, rfl, ta⟩, ⟨pb, rfl, tb⟩, oa, ob, ⟨a1, a2, a3⟩, ⟨b1, b2, b3⟩, q⟩ := h
  refine ⟨_, (pss_cons (ps_asg (pv 0) (pg_tup rfl (pgs_cons (pg_name (i := 2) sc_plus.nd rfl (by first | exact Or.inl rfl | exact Or.inr rfl)) (pgs_cons (pg_name (i := 3) sc_plus.nd rfl (by first | exact Or.inl rfl | exact Or.inr rfl)) (pgs_cons (pg_name (i := 4) sc_plus.nd rfl (by first | exact Or.inl rfl | exact Or.inr rfl)) pgs_nil)))))
    (pss_cons (ps_asg (pv 1) (pg_tup rfl (pgs_cons (pg_name (i := 5) sc_plus.nd rfl (by first | exact Or.inl rfl | exact Or.inr rfl)) (pgs_cons (pg_name (i := 6) sc_plus.nd rfl (by first | exact Or.inl rfl | exact Or.inr rfl)) (pgs_cons (pg_name (i := 7) sc_plus.nd rfl (by first | exact Or.inl rfl | exact Or.inr rfl)) pgs_nil)))))
    (pss_one (ps_ret (pc d_spot_at (hr.mono (by decide)) (pa_cons (pe_op op_add (pe_op op_mulW (pv 2) (pv 7)) (pe_op op_mulW (pv 5) (pv 4))) (pa_cons (pe_op op_add (pe_op op_mulW (pv 3) (pv 7)) (pe_op op_mulW (pv 6) (pv 4))) (pa_cons (pe_op op_mulW (pv 4) (pv 7)) pa_nil)))))))), ?_⟩
  refine ⟨_, rfl, _, _, rfl, ta, rfl, _, _, rfl, _, _, rfl, _, _, rfl, rfl, ?_⟩
  refine ⟨_, rfl, _, _, rfl, tb, rfl, _, _, rfl, _, _, rfl, _, _, rfl, rfl, ?_⟩
  refine ⟨_, rfl, _, rfl, _, _, rfl, rfl, mulW a1 b3, _, rfl, _, rfl, _, _, rfl, rfl, mulW b1 a3, _, _, rfl, rfl, ?_⟩
  refine ⟨_, rfl, _, rfl, _, _, rfl, rfl, mulW a2 b3, _, rfl, _, rfl, _, _, rfl, rfl, mulW b2 a3, _, _, rfl, rfl, ?_⟩
  refine ⟨_, rfl, _, rfl, _, _, rfl, rfl, mulW a3 b3, ?_⟩
  exact ⟨_, _, _, rfl, mul_ne oa.ne ob.ne, up_lt (by decide) (mul_lt a3 b3), q⟩
theorem ok_product {f : Addr} {fd : FuncData} (d_spot_at : D P w K mg base "spot_at" 2 (sp_low K)) (F : Fun K "product" "product" s_product f fd) : FnOk P w K mg base CX0 3 f fd ["one", "other"] (sp_two K times) := by
  refine F.ok sc_product (fun vs H Q E h => ?_) (fun cdv A outer s H vs Q E hr h => ?_)
  · obtain ⟨va, vb, a, b, rfl, _⟩ := h
    rfl
  obtain ⟨va, vb, ⟨x, y, d⟩, ⟨u, v, e⟩, rfl, ⟨pa, rfl, ta⟩, ⟨pb, rfl, tb⟩, oa, ob, ⟨a1, a2, a3⟩, ⟨b1, b2, b3⟩, q⟩ := h
  refine ⟨_, (pss_cons (ps_asg (pv 0) (pg_tup rfl (pgs_cons (pg_name (i := 2) sc_product.nd rfl (by first | exact Or.inl rfl | exact Or.inr rfl)) (pgs_cons (pg_name (i := 3) sc_product.nd rfl (by first | exact Or.inl rfl | exact Or.inr rfl)) (pgs_cons (pg_name (i := 4) sc_product.nd rfl (by first | exact Or.inl rfl | exact Or.inr rfl)) pgs_nil)))))
    (pss_cons (ps_asg (pv 1) (pg_tup rfl (pgs_cons (pg_name (i := 5) sc_product.nd rfl (by first | exact Or.inl rfl | exact Or.inr rfl)) (pgs_cons (pg_name (i := 6) sc_product.nd rfl (by first | exact Or.inl rfl | exact Or.inr rfl)) (pgs_cons (pg_name (i := 7) sc_product.nd rfl (by first | exact Or.inl rfl | exact Or.inr rfl)) pgs_nil)))))
    (pss_one (ps_ret (pc d_spot_at (hr.mono (by decide)) (pa_cons (pe_op op_sub (pe_op op_mulW (pv 2) (pv 5)) (pe_op op_mulW (pv 3) (pv 6))) (pa_cons (pe_op op_add (pe_op op_mulW (pv 2) (pv 6)) (pe_op op_mulW (pv 3) (pv 5))) (pa_cons (pe_op op_mulW (pv 4) (pv 7)) pa_nil)))))))), ?_⟩
  refine ⟨_, rfl, _, _, rfl, ta, rfl, _, _, rfl, _, _, rfl, _, _, rfl, rfl, ?_⟩
  refine ⟨_, rfl, _, _, rfl, tb, rfl, _, _, rfl, _, _, rfl, _, _, rfl, rfl, ?_⟩
  refine ⟨_, rfl, _, rfl, _, _, rfl, rfl, mulW a1 b1, _, rfl, _, rfl, _, _, rfl, rfl, mulW a2 b2, _, _, rfl, rfl, ?_⟩
  refine ⟨_, rfl, _, rfl, _, _, rfl, rfl, mulW a1 b2, _, rfl, _, rfl, _, _, rfl, rfl, mulW a2 b1, _, _, rfl, rfl, ?_⟩
  refine ⟨_, rfl, _, rfl, _, _, rfl, rfl, mulW a3 b3, ?_⟩
  exact ⟨_, _, _, rfl, mul_ne oa.ne ob.ne, up_lt (by decide) (mul_lt a3 b3), q⟩
def sp_one (K : PySem.W.Frag) (g : T3 → T3) : Sp := fun vs H Q _ => ∃ va a, vs = [va] ∧ IsT K H va a ∧ ∀ H' r, Same H H' → IsT K H' r (g a) → Q r H'
theorem ok_negative {f : Addr} {fd : FuncData} (F : Fun K "negative" "negative" s_negative f fd) : FnOk P w K mg base CX0 1 f fd ["number"] (sp_one K neg) := by
  refine F.ok sc_negative (fun vs H Q E h => ?_) (fun cdv A outer s H vs Q E hr h => ?_)
  · obtain ⟨va, a, rfl, _⟩ := h
    rfl
  obtain ⟨va, ⟨x, y, d⟩, rfl, ⟨pa, rfl, ta⟩, q⟩ := h
  refine ⟨_, (pss_cons (ps_asg (pv 0) (pg_tup rfl (pgs_cons (pg_name (i := 1) sc_negative.nd rfl (by first | exact Or.inl rfl | exact Or.inr rfl)) (pgs_cons (pg_name (i := 2) sc_negative.nd rfl (by first | exact Or.inl rfl | exact Or.inr rfl)) (pgs_cons (pg_name (i := 3) sc_negative.nd rfl (by first | exact Or.inl rfl | exact Or.inr rfl)) pgs_nil)))))
    (pss_one (ps_ret (pe_tup (pa_cons (pe_un un_neg (pv 1)) (pa_cons (pe_un un_neg (pv 2)) (pa_cons (pv 3) pa_nil))))))), ?_⟩
  refine ⟨_, rfl, _, _, rfl, ta, rfl, _, _, rfl, _, _, rfl, _, _, rfl, rfl, ?_⟩
  exact ⟨_, rfl, _, rfl, _, rfl, _, rfl, _, rfl, (by show 3 ≤ sizeLine; decide), fun p hp => q _ _ (same_new hp _) IsT.new⟩
def sp_inv (K : PySem.W.Frag) : Sp := fun vs H Q _ => ∃ va a, vs = [va] ∧ IsT K H va a ∧ Nz a ∧ B 4000 a ∧ ∀ H' r, Same H H' → IsT K H' r (inv a) → Q r H'
theorem ok_inverse {f : Addr} {fd : FuncData} (d_spot_at : D P w K mg base "spot_at" 2 (sp_low K)) (F : Fun K "inverse" "inverse" s_inverse f fd) : FnOk P w K mg base CX0 3 f fd ["number"] (sp_inv K) := by
  refine F.ok sc_inverse (fun vs H Q E h => ?_) (fun cdv A outer s H vs Q E hr h => ?_)
  · obtain ⟨va, a, rfl, _⟩ := h
    rfl
  obtain ⟨va, ⟨x, y, d⟩, rfl, ⟨pa, rfl, ta⟩, na, ⟨a1, a2, a3⟩, q⟩ := h
  refine ⟨_, (pss_cons (ps_asg (pv 0) (pg_tup rfl (pgs_cons (pg_name (i := 1) sc_inverse.nd rfl (by first | exact Or.inl rfl | exact Or.inr rfl)) (pgs_cons (pg_name (i := 2) sc_inverse.nd rfl (by first | exact Or.inl rfl | exact Or.inr rfl)) (pgs_cons (pg_name (i := 3) sc_inverse.nd rfl (by first | exact Or.inl rfl | exact Or.inr rfl)) pgs_nil)))))
    (pss_one (ps_ret (pc d_spot_at (hr.mono (by decide)) (pa_cons (pe_op op_mulW (pv 1) (pv 3)) (pa_cons (pe_op op_mulW (pe_un un_neg (pv 2)) (pv 3)) (pa_cons (pe_op op_add (pe_op op_mulW (pv 1) (pv 1)) (pe_op op_mulW (pv 2) (pv 2))) pa_nil))))))), ?_⟩
  refine ⟨_, rfl, _, _, rfl, ta, rfl, _, _, rfl, _, _, rfl, _, _, rfl, rfl, ?_⟩
  refine ⟨_, rfl, _, rfl, _, _, rfl, rfl, mulW a1 a3, _, rfl, _, rfl, _, rfl, _, _, rfl, rfl, mulW (neg_lt a2) a3, ?_⟩
  refine ⟨_, rfl, _, rfl, _, _, rfl, rfl, mulW a1 a1, _, rfl, _, rfl, _, _, rfl, rfl, mulW a2 a2, _, _, rfl, rfl, ?_⟩
  exact ⟨_, _, _, rfl, sq_ne na, up_lt (by decide) (add_lt (mul_lt a1 a1) (mul_lt a2 a2)), q⟩
def sp_face (K : PySem.W.Frag) : Sp := fun vs H Q _ => ∃ va a m, vs = [va, .bl m] ∧ IsT K H va a ∧ ∀ H' r, Same H H' → IsT K H' r (face a m) → Q r H'
theorem ok_faced {f : Addr} {fd : FuncData} (F : Fun K "faced" "faced" s_faced f fd) : FnOk P w K mg base CX0 1 f fd ["number", "mirrored"] (sp_face K) := by
  refine F.ok sc_faced (fun vs H Q E h => ?_) (fun cdv A outer s H vs Q E hr h => ?_)
  · obtain ⟨va, a, m, rfl, _⟩ := h
    rfl
  obtain ⟨va, ⟨x, y, d⟩, m, rfl, ⟨pa, rfl, ta⟩, q⟩ := h
  refine ⟨_, (pss_cons (ps_asg (pv 0) (pg_tup rfl (pgs_cons (pg_name (i := 2) sc_faced.nd rfl (by first | exact Or.inl rfl | exact Or.inr rfl)) (pgs_cons (pg_name (i := 3) sc_faced.nd rfl (by first | exact Or.inl rfl | exact Or.inr rfl)) (pgs_cons (pg_name (i := 4) sc_faced.nd rfl (by first | exact Or.inl rfl | exact Or.inr rfl)) pgs_nil)))))
    (pss_one (ps_ret (pe_ifExp (pt_val (pv 1)) (pe_tup (pa_cons (pv 2) (pa_cons (pe_un un_neg (pv 3)) (pa_cons (pv 4) pa_nil)))) (pv 0))))), ?_⟩
  refine ⟨_, rfl, _, _, rfl, ta, rfl, _, _, rfl, _, _, rfl, _, _, rfl, rfl, ?_⟩
  refine ⟨_, rfl, _, rfl, ?_⟩
  cases m with
  | true => exact iteT ⟨_, rfl, _, rfl, _, rfl, _, rfl, (by show 3 ≤ sizeLine; decide), fun p hp => q _ _ (same_new hp _) IsT.new⟩
  | false => exact iteF ⟨_, rfl, q _ _ (Same.refl _) ⟨pa, rfl, ta⟩⟩
/-- where a copy carries a spot -/
def sp_car (K : PySem.W.Frag) : Sp := fun vs H Q _ => ∃ vt vs' m vz t s z, vs = [vt, vs', .bl m, vz] ∧ IsT K H vt t ∧ IsT K H vs' s ∧ IsT K H vz z ∧ Ok t ∧ Ok s ∧ Ok z ∧ B 1900 t ∧ B 4000 s ∧ B 1900 z ∧ ∀ H' r, Same H H' → IsT K H' r (car t s m z) → Q r H'
theorem ok_carried {f : Addr} {fd : FuncData} (d_plus : D P w K mg base "plus" 3 (sp_two K plus)) (d_product : D P w K mg base "product" 3 (sp_two K times)) (d_faced : D P w K mg base "faced" 1 (sp_face K)) (F : Fun K "carried" "carried" s_carried f fd) : FnOk P w K mg base CX0 4 f fd ["turn", "shift", "mirrored", "spot"] (sp_car K) := by
  refine F.ok sc_carried (fun vs H Q E h => ?_) (fun cdv A outer s H vs Q E hr h => ?_)
  · obtain ⟨vt, vs', m, vz, t, s', z, rfl, _⟩ := h
    rfl
  obtain ⟨vt, vs', m, vz, t, s', z, rfl, it, is, iz, ot, os, oz, bt, bs, bz, q⟩ := h
  refine ⟨_, (pss_one (ps_ret (pc d_plus (hr.mono (by decide)) (pa_cons (pc d_product (hr.mono (by decide)) (pa_cons (pv 0) (pa_cons (pc d_faced (hr.mono (by decide)) (pa_cons (pv 3) (pa_cons (pv 2) pa_nil))) pa_nil))) (pa_cons (pv 1) pa_nil))))), ?_⟩
  refine ⟨_, rfl, _, rfl, _, rfl, _, _, _, rfl, iz, fun H1 r1 s1 i1 => ?_⟩
  refine ⟨_, _, _, _, rfl, it.same s1, i1, ot, face_ok oz m, bt.mono (by decide), (face_B bz m).mono (by decide), fun H2 r2 s2 i2 => ?_⟩
  refine ⟨_, rfl, _, _, _, _, rfl, i2, is.same (s1.trans s2), times_ok ot (face_ok oz m), os, (times_B ot (face_ok oz m) bt (face_B bz m)).mono (by decide), bs, fun H3 r3 s3 i3 => ?_⟩
  exact q _ _ (s1.trans (s2.trans s3)) i3
def sp_fr (K : PySem.W.Frag) : Sp := fun vs H Q _ => ∃ p q' : Int, vs = [.int p, .int q'] ∧ q' ≠ 0 ∧ q'.natAbs < 2 ^ 8500 ∧ ∀ H' a, Same H H' → SqT K H' a [.int (fr p q').1, .int (fr p q').2] → Q (.ref a) H'
theorem g3_0 (p q : Int) : g3 p 0 q = ((Int.gcd p q : Nat) : Int) := by
  unfold g3
  rw [Int.gcd_zero_right]
  unfold Int.gcd
  rw [Int.natAbs_natCast]
def BC (n : Nat) (c : Cp) : Prop := B n c.t ∧ B n c.s
end
end My

namespace My
open PySem L2 Mth
abbrev s_fraction : Stmt := topS 31
theorem sc_fraction : FnScope ["p", "q", "divisor"] ["p", "q"] (defScope s_fraction) := ⟨rfl, rfl, rfl, by decide +kernel, rfl, by decide +kernel, by decide +kernel⟩
section
variable {P : Program} {w : World} {K : PySem.W.Frag} {mg : Str → Option Value} {base : Heap}
theorem ok_fraction {f : Addr} {fd : FuncData} (d_common_divisor : D P w K mg base "common_divisor" 1 sp_gcd) (F : Fun K "fraction" "fraction" s_fraction f fd) : FnOk P w K mg base CX0 2 f fd ["p", "q"] (sp_fr K) := by
  refine F.ok sc_fraction (fun vs H Q E h => ?_) (fun cdv A outer s H vs Q E hr h => ?_)
  · obtain ⟨x, d, rfl, _⟩ := h
    rfl
  obtain ⟨x, d, rfl, hd, hB, q⟩ := h
  refine ⟨_, (pss_cons (ps_set (i := 2) sc_fraction.nd rfl (by first | exact Or.inl rfl | exact Or.inr rfl) (pc d_common_divisor (hr.mono (by decide)) (pa_cons (pv 0) (pa_cons (pv 1) pa_nil))))
    (pss_cons (ps_if (pt_cmpR (op_lt) (pv 1) pe_int (nomark _)) (pss_one (ps_set (i := 2) sc_fraction.nd rfl (by first | exact Or.inl rfl | exact Or.inr rfl) (pe_un un_neg (pv 2)))) pss_nil)
    (pss_one (ps_ret (pe_tup (pa_cons (pe_op op_fdivX (pv 0) (pv 2)) (pa_cons (pe_op op_fdivX (pv 1) (pv 2)) pa_nil))))))), ?_⟩
  refine ⟨_, rfl, _, rfl, _, _, rfl, ?_⟩
  refine ⟨_, rfl, _, _, rfl, rfl, _, rfl, ?_⟩
  have hc : CDivX x (sg x 0 d) ∧ CDivX d (sg x 0 d) := ⟨divX (sg_ne hd) (g3_lt hd hB) (by decide) (by decide), divX (sg_ne hd) (g3_lt hd hB) (by decide) (by decide)⟩
  have fin : ∀ H' a, Same H H' → SqT K H' a [.int (x.fdiv (sg x 0 d)), .int (d.fdiv (sg x 0 d))] → Q (.ref a) H' := q
  refine ite2 (fun c => ?_) (fun c => ?_)
  · have es : sg x 0 d = -((Int.gcd x d : Nat) : Int) := by rw [← g3_0]; exact if_pos (of_decide_eq_true c)
    refine ⟨_, rfl, _, rfl, ?_⟩
    rw [es] at hc fin
    refine ⟨_, rfl, _, rfl, _, _, rfl, rfl, hc.1, _, rfl, _, rfl, _, _, rfl, rfl, hc.2, (by show 2 ≤ sizeLine; decide), fun p hp => ?_⟩
    exact fin _ _ (same_new hp _) (.inl (.inl upd_same))
  · have es : sg x 0 d = ((Int.gcd x d : Nat) : Int) := by rw [← g3_0]; exact if_neg (of_decide_eq_false (Bool.eq_false_iff.mpr c))
    rw [es] at hc fin
    refine ⟨_, rfl, _, rfl, _, _, rfl, rfl, hc.1, _, rfl, _, rfl, _, _, rfl, rfl, hc.2, (by show 2 ≤ sizeLine; decide), fun p hp => ?_⟩
    exact fin _ _ (same_new hp _) (.inl (.inl upd_same))
end
end My

namespace My
open PySem L2 Mth
abbrev s_check_spot : Stmt := topS 28
theorem sc_check_spot : FnScope ["value"] ["value"] (defScope s_check_spot) := ⟨rfl, rfl, rfl, by decide +kernel, rfl, by decide +kernel, by decide +kernel⟩
abbrev s_check_turn : Stmt := topS 29
theorem sc_check_turn : FnScope ["value"] ["value"] (defScope s_check_turn) := ⟨rfl, rfl, rfl, by decide +kernel, rfl, by decide +kernel, by decide +kernel⟩
abbrev s_is_spot : Stmt := topS 27
theorem sc_is_spot : FnScope ["value", "number", "x", "y", "d"] ["value"] (defScope s_is_spot) := ⟨rfl, rfl, rfl, by decide +kernel, rfl, by decide +kernel, by decide +kernel⟩
abbrev s_is_whole : Stmt := topS 25
theorem sc_is_whole : FnScope ["value"] ["value"] (defScope s_is_whole) := ⟨rfl, rfl, rfl, by decide +kernel, rfl, by decide +kernel, by decide +kernel⟩
section
variable {P : Program} {w : World} {K : PySem.W.Frag} {mg : Str → Option Value} {base : Heap}
theorem ty_T {K : PySem.W.Frag} {H : Hp} {a : Addr} {xs : List V} (h : SqT K H a xs) : TyX K H (.ref a) (.type "tuple") := by
  rcases h with (h | ⟨o, h⟩) | ⟨o, its, n, h, c, _⟩
  · exact .base (.tup h)
  · exact .fTuple h
  · exact .kTuple h c
def sp_whole : Sp := fun vs H Q _ => ∃ i : Int, vs = [.int i] ∧ Q (.bl true) H
theorem ok_is_whole {f : Addr} {fd : FuncData} (b_isinstance : mg "isinstance" = none) (b_int : mg "int" = none) (b_bool : mg "bool" = none) (F : Fun K "is_whole" "is_whole" s_is_whole f fd) : FnOk P w K mg base CX0 1 f fd ["value"] sp_whole := by
  refine F.ok sc_is_whole (fun vs H Q E h => ?_) (fun cdv A outer s H vs Q E hr h => ?_)
  · obtain ⟨i, rfl, _⟩ := h
    rfl
  obtain ⟨i, rfl, q⟩ := h
  refine ⟨_, (pss_one (ps_ret (pe_and (pe_callB (r := rIsi K) call_isi (by rfl) b_isinstance (by decide +kernel) (pa_cons (pv 0) (pa_cons (pe_bltn (v := .ty "int") (by rfl) b_int (by decide +kernel) rfl) pa_nil))) (pe_one (pe_not (pe_callB (r := rIsi K) call_isi (by rfl) b_isinstance (by decide +kernel) (pa_cons (pv 0) (pa_cons (pe_bltn (v := .ty "bool") (by rfl) b_bool (by decide +kernel) rfl) pa_nil)))))))), ?_⟩
  refine ⟨_, rfl, _, _, _, _, _, rfl, .ty _, .base (.int i), kit_ty (by decide +kernel), true, rfl, iteT ?_⟩
  exact ⟨_, rfl, _, _, _, _, _, rfl, .ty _, .base (.int i), kit_ty (by decide +kernel), false, rfl, q⟩
/-- what is a spot is one -/
def sp_isspot (K : PySem.W.Frag) : Sp := fun vs H Q _ => ∃ va a, vs = [va] ∧ IsT K H va a ∧ Ok a ∧ ∀ H', Same H H' → Q (.bl true) H'
theorem v3_at {a : T3} {i : Nat} {x : V} (h : (v3 a)[i]? = some x) : ∃ z : Int, x = .int z := by
  unfold v3 at h
  match i, h with
  | 0, h => exact ⟨_, (Option.some.inj h).symm⟩
  | 1, h => exact ⟨_, (Option.some.inj h).symm⟩
  | 2, h => exact ⟨_, (Option.some.inj h).symm⟩
  | (n + 3), h => simp at h
theorem ok_is_spot {f : Addr} {fd : FuncData} (b_isinstance : mg "isinstance" = none) (b_tuple : mg "tuple" = none) (b_len : mg "len" = none) (b_all : mg "all" = none) (d_common_divisor : D P w K mg base "common_divisor" 1 sp_gcd) (d_is_whole : D P w K mg base "is_whole" 1 sp_whole)
    (F : Fun K "is_spot" "is_spot" s_is_spot f fd) : FnOk P w K mg base CX0 2 f fd ["value"] (sp_isspot K) := by
  refine F.ok sc_is_spot (fun vs H Q E h => ?_) (fun cdv A outer s H vs Q E hr h => ?_)
  · obtain ⟨va, a, rfl, _⟩ := h
    rfl
  obtain ⟨va, a, rfl, ⟨p, rfl, ta⟩, oa, q⟩ := h
  refine ⟨_, (pss_cons (ps_if (PW.pt (pw_or (pt_not (pt_val (pe_callB (r := rIsi K) call_isi (by rfl) b_isinstance (by decide +kernel) (pa_cons (pv 0) (pa_cons (pe_bltn (v := .ty "tuple") (by rfl) b_tuple (by decide +kernel) rfl) pa_nil))))) (pw_or1 (pt_cmpR (op_ne) (pe_callB call_len_seq (by rfl) b_len PySem.boot_len (pa_cons (pv 0) pa_nil)) pe_int (nomark _))))) (pss_one (ps_ret pe_bl)) pss_nil)
    (pss_cons (ps_if (pt_not (pt_val (pe_callB (cr_all rfl) (by rfl) b_all (by decide +kernel) (pa_cons (pe_lc (own := [("number", 1)]) (g := gName 1) (tt := tYes) (by rfl) sc_is_spot.nd (pi_tup (pv 0)) (blkOk_by (own := [("number", 1)]) (N := ["value", "number", "x", "y", "d"]) (sc := defScope s_is_spot) (by decide +kernel)) (fun _ _ _ _ _ => (pg_name (i := 1) sc_is_spot.nd rfl (by first | exact Or.inl rfl | exact Or.inr rfl))) (fun _ _ _ _ _ => pts_nil) (fun _ _ _ _ _ => (pc d_is_whole (hr.mono (by decide)) (pa_cons (pv 1) pa_nil)))) pa_nil)))) (pss_one (ps_ret pe_bl)) pss_nil)
    (pss_cons (ps_asg (pv 0) (pg_tup rfl (pgs_cons (pg_name (i := 2) sc_is_spot.nd rfl (by first | exact Or.inl rfl | exact Or.inr rfl)) (pgs_cons (pg_name (i := 3) sc_is_spot.nd rfl (by first | exact Or.inl rfl | exact Or.inr rfl)) (pgs_cons (pg_name (i := 4) sc_is_spot.nd rfl (by first | exact Or.inl rfl | exact Or.inr rfl)) pgs_nil)))))
    (pss_one (ps_ret (pe_and (pe_cmpR (op_ge) (pv 4) pe_int (nomark _)) (pe_one (pe_cmpR (op_eq) (pc d_common_divisor (hr.mono (by decide)) (pa_cons (pc d_common_divisor (hr.mono (by decide)) (pa_cons (pv 2) (pa_cons (pv 3) pa_nil))) (pa_cons (pv 4) pa_nil))) pe_int (nomark _))))))))), ?_⟩
  refine ⟨_, rfl, _, _, _, _, _, rfl, .ty _, ty_T ta, kit_ty (by decide +kernel), true, rfl, ?_⟩
  refine iteF ?_
  refine ⟨_, rfl, _, _, rfl, .inr ta, rfl, _, rfl, iteF ?_⟩
  refine ⟨_, rfl, _, rfl, ⟨_, ta⟩, fun L hL => lc_tup (K := K) (a := p) (xs := v3 a) (fun i H' => ∃ acc : List V, H' = upd H L (.lst acc) ∧ acc = (List.replicate i true).map V.bl) ⟨[], rfl, rfl⟩ ?_ ?_ ?_⟩
  · rintro i H' hi ⟨acc, rfl, _⟩
    exact same_T (same_new hL _) ta
  · rintro i x H' hx ⟨acc, rfl, ea⟩
    obtain ⟨z, rfl⟩ := v3_at hx
    refine ⟨rfl, ?_⟩
    refine yes_of ?_
    refine ⟨_, rfl, z, rfl, acc, upd_same, ?_, ?_⟩
    · have := (List.getElem?_eq_some_iff.mp hx).1
      rw [ea, List.length_map, List.length_replicate]
      exact small1000 (by have : (v3 a).length = 3 := rfl; omega)
    · refine ⟨acc ++ [.bl true], upd_upd, ?_⟩
      rw [ea, List.replicate_succ', List.map_append]
      rfl
  · rintro H' ⟨acc, rfl, ea⟩
    refine ⟨_, [true, true, true], rfl, .inl (.inl ?_), ?_⟩
    · rw [ea]; exact upd_same
    refine ⟨_, rfl, iteF ?_⟩
    have s1 := same_new hL (.lst acc)
    refine ⟨_, rfl, _, _, rfl, same_T s1 ta, rfl, _, _, rfl, _, _, rfl, _, _, rfl, rfl, ?_⟩
    refine ⟨_, rfl, _, _, rfl, rfl, true, congrArg V.bl (decide_eq_true (show (1 : Int) ≤ a.2.2 from oa.1)), iteT ?_⟩
    refine ⟨_, rfl, _, rfl, _, _, rfl, _, rfl, _, _, rfl, rfl, ?_⟩
    have e : V.int ((Int.gcd ((Int.gcd a.1 a.2.1 : Nat) : Int) a.2.2 : Nat) : Int) = V.int 1 := congrArg V.int oa.2
    have z := q _ s1
    show Q (.bl (decide (V.int ((Int.gcd ((Int.gcd a.1 a.2.1 : Nat) : Int) a.2.2 : Nat) : Int) = V.int 1))) _
    rw [decide_eq_true e]
    exact z
def sp_check (K : PySem.W.Frag) : Sp := fun vs H Q _ => ∃ va a, vs = [va] ∧ IsT K H va a ∧ Ok a ∧ ∀ H', Same H H' → Q .non H'
theorem ok_check_spot {f : Addr} {fd : FuncData} (d_is_spot : D P w K mg base "is_spot" 2 (sp_isspot K)) (F : Fun K "check_spot" "check_spot" s_check_spot f fd) : FnOk P w K mg base CX0 3 f fd ["value"] (sp_check K) := by
  refine F.ok sc_check_spot (fun vs H Q E h => ?_) (fun cdv A outer s H vs Q E hr h => ?_)
  · obtain ⟨va, a, rfl, _⟩ := h
    rfl
  obtain ⟨va, a, rfl, ia, oa, q⟩ := h
  refine ⟨_, (pss_one (ps_if (pt_not (pt_val (pc d_is_spot (hr.mono (by decide)) (pa_cons (pv 0) pa_nil)))) (pss_one ps_never) pss_nil)), ?_⟩
  exact ⟨_, rfl, _, _, rfl, ia, oa, fun H1 s1 => ⟨_, rfl, iteF (q _ s1)⟩⟩
def d3 (s : T3) : PyData := .tuple [.int s.1, .int s.2.1, .int s.2.2]
theorem Dp3 {K : PySem.W.Frag} {H : Hp} {p : Addr} {s : T3} (h : SqT K H p (v3 s)) : Dp K H (.ref p) (d3 s) := .tup h (.cons (.int _) (.cons (.int _) (.cons (.int _) .nil)))
theorem shaped3 (s : T3) : SeqAt.shaped (d3 s) = true := rfl
theorem eqv3 (s t : T3) : PyData.eqv (d3 s) (d3 t) = decide (s = t) := by
  obtain ⟨a, b, c⟩ := s
  obtain ⟨u, v, w⟩ := t
  show ((a == u) && ((b == v) && ((c == w) && true))) = decide ((a, b, c) = (u, v, w))
  by_cases h1 : a = u
  · by_cases h2 : b = v
    · by_cases h3 : c = w
      · subst h1 h2 h3; simp
      · rw [decide_eq_false (fun z => h3 (by injection z with _ z; injection z))]; simp [h3]
    · rw [decide_eq_false (fun z => h2 (by injection z with _ z; injection z))]; simp [h2]
  · rw [decide_eq_false (fun z => h1 (by injection z))]; simp [h1]
def sp_checkT (K : PySem.W.Frag) : Sp := fun vs H Q _ => ∃ va a, vs = [va] ∧ IsT K H va a ∧ Ok a ∧ Nz a ∧ ∀ H', Same H H' → Q .non H'
theorem ok_check_turn {f aM : Addr} {fd : FuncData} (d_is_spot : D P w K mg base "is_spot" 2 (sp_isspot K)) (m_MIDDLE : mg "MIDDLE" = some (.ref aM)) (t_MIDDLE : ∀ H, SqT K H aM (v3 (0, 0, 1))) (F : Fun K "check_turn" "check_turn" s_check_turn f fd) : FnOk P w K mg base CX0 3 f fd ["value"] (sp_checkT K) := by
  refine F.ok sc_check_turn (fun vs H Q E h => ?_) (fun cdv A outer s H vs Q E hr h => ?_)
  · obtain ⟨va, a, rfl, _⟩ := h
    rfl
  obtain ⟨va, a, rfl, ⟨p, rfl, ta⟩, oa, na, q⟩ := h
  refine ⟨_, (pss_one (ps_if (PW.pt (pw_or (pt_not (pt_val (pc d_is_spot (hr.mono (by decide)) (pa_cons (pv 0) pa_nil)))) (pw_or1 (pt_cmpR (op_eqD hr.units) (pv 0) (pe_glob (v := .ref aM) (by rfl) m_MIDDLE rfl) (nomark _))))) (pss_one ps_never) pss_nil)), ?_⟩
  refine ⟨_, rfl, _, _, rfl, ⟨p, rfl, ta⟩, oa, fun H1 s1 => ⟨_, rfl, iteF ?_⟩⟩
  refine ⟨_, rfl, _, _, Dp3 (same_T s1 ta), Dp3 (t_MIDDLE H1), shaped3 _, shaped3 _, _, rfl, ?_⟩
  rw [eqv3, decide_eq_false (fun z => by rw [z] at na; rcases na with n | n <;> exact n rfl)]
  exact iteF (q _ s1)
end
end My

namespace My
open PySem L2 Mth
abbrev s_minus : Stmt := topS 34
theorem sc_minus : FnScope ["one", "other"] ["one", "other"] (defScope s_minus) := ⟨rfl, rfl, rfl, by decide +kernel, rfl, by decide +kernel, by decide +kernel⟩
section
variable {P : Program} {w : World} {K : PySem.W.Frag} {mg : Str → Option Value} {base : Heap}
theorem dI (a b : Int) : decide (V.int a = V.int b) = decide (a = b) := by
  by_cases h : a = b
  · rw [h]; simp
  · rw [decide_eq_false h, decide_eq_false (fun z => h (V.int.inj z))]
theorem ok_minus {f : Addr} {fd : FuncData} (d_plus : D P w K mg base "plus" 3 (sp_two K plus)) (d_negative : D P w K mg base "negative" 1 (sp_one K neg)) (F : Fun K "minus" "minus" s_minus f fd) : FnOk P w K mg base CX0 4 f fd ["one", "other"] (sp_two K minus) := by
  refine F.ok sc_minus (fun vs H Q E h => ?_) (fun cdv A outer s H vs Q E hr h => ?_)
  · obtain ⟨va, vb, a, b, rfl, _⟩ := h
    rfl
  obtain ⟨va, vb, a, b, rfl, ia, ib, oa, ob, ba, bb, q⟩ := h
  refine ⟨_, (pss_one (ps_ret (pc d_plus (hr.mono (by decide)) (pa_cons (pv 0) (pa_cons (pc d_negative (hr.mono (by decide)) (pa_cons (pv 1) pa_nil)) pa_nil))))), ?_⟩
  refine ⟨_, rfl, _, rfl, _, b, rfl, ib, fun H1 r1 s1 i1 => ?_⟩
  exact ⟨_, _, a, _, rfl, ia.same s1, i1, oa, neg_ok ob, ba, neg_B bb, fun H2 r2 s2 i2 => q _ _ (s1.trans s2) i2⟩
end
end My

namespace My
open PySem L2 Mth
abbrev s_Copy___init__ : Stmt := inClass (topS 40) 0
theorem sc_Copy___init__ : FnScope ["self", "turn", "shift", "mirrored"] ["self", "turn", "shift", "mirrored"] (defScope s_Copy___init__) := ⟨rfl, rfl, rfl, by decide +kernel, rfl, by decide +kernel, by decide +kernel⟩
section
variable {P : Program} {w : World} {K : PySem.W.Frag} {mg : Str → Option Value} {base : Heap}
def cf (a b : Addr) (m : Bool) : List (Str × V) := [("factor", .ref a), ("offset", .ref b), ("flips", .bl m)]
theorem cf_put {a b : Addr} {m : Bool} : putF "flips" (.bl m) (putF "offset" (.ref b) (putF "factor" (.ref a) [])) = cf a b m := by
  have h1 : ¬ (("factor" : Str) = "offset") := by decide +kernel
  have h2 : ¬ (("factor" : Str) = "flips") := by decide +kernel
  have h3 : ¬ (("offset" : Str) = "flips") := by decide +kernel
  simp only [putF, if_neg h1, if_neg h2, if_neg h3]
  rfl
theorem cf_f {a b : Addr} {m : Bool} : (cf a b m).lookup ("factor" : Str) = some (.ref a) := by
  unfold cf
  simp only [List.lookup, beq_self_eq_true]
theorem cf_o {a b : Addr} {m : Bool} : (cf a b m).lookup ("offset" : Str) = some (.ref b) := by
  unfold cf
  simp only [List.lookup, beq_self_eq_true, show (("offset" : Str) == "factor") = false by decide +kernel]
theorem cf_m {a b : Addr} {m : Bool} : (cf a b m).lookup ("flips" : Str) = some (.bl m) := by
  unfold cf
  simp only [List.lookup, beq_self_eq_true, show (("flips" : Str) == "factor") = false by decide +kernel, show (("flips" : Str) == "offset") = false by decide +kernel]
structure CTxt (K : PySem.W.Frag) (C : Addr) : Prop where
  cl : Cls K C
  nF : NoAttr K C "factor"
  nO : NoAttr K C "offset"
  nL : NoAttr K C "flips"
  ha : PySem.W.findIn K (.ref C) "__class__" = some (some (.builtin "object.__class__"))
  hn : PySem.W.specialIn K (.builtin "object.__class__") "__get__" = some (some (.builtin "getset_descriptor.__get__"))
  htk : PySem.W.takesIn K (.builtin "object.__class__") = some true
  hm : PySem.W.mroIn K C (.type "object") = some true
/-- a copy as an object -/
def IsC (K : PySem.W.Frag) (C : Addr) (H : Hp) (v : V) (c : Cp) : Prop := ∃ p dx a b, v = .ref p ∧ H p = some (.ins C dx (cf a b c.m)) ∧ SqT K H a (v3 c.t) ∧ SqT K H b (v3 c.s)
theorem IsC.same {C : Addr} {H H' : Hp} {v : V} {c : Cp} (h : IsC K C H v c) (e : Same H H') : IsC K C H' v c := by
  obtain ⟨p, dx, a, b, rfl, h1, h2, h3⟩ := h
  exact ⟨p, dx, a, b, rfl, e _ _ h1, same_T e h2, same_T e h3⟩
def sp_init (K : PySem.W.Frag) (C : Addr) : Sp := fun vs H Q _ => ∃ (H0 : Hp) (p dx : Addr) (vt vs' : V) (m : Bool) (t s : T3), vs = [.ref p, vt, vs', .bl m] ∧ Same H0 H ∧ H0 p = none ∧ H p = some (.ins C dx []) ∧ IsT K H0 vt t ∧ IsT K H0 vs' s ∧ Ok t ∧ Nz t ∧ Ok s ∧
  ∀ H', Same H0 H' → IsC K C H' (.ref p) ⟨t, s, m⟩ → Q .non H'
theorem ok_init {f C : Addr} {fd : FuncData} {kws : List (Str × V)} (T : CTxt K C) (d_check_turn : D P w K mg base "check_turn" 3 (sp_checkT K)) (d_check_spot : D P w K mg base "check_spot" 3 (sp_check K))
    (F : FunD K "__init__" "Copy.__init__" (defArgs s_Copy___init__) (defBody s_Copy___init__) (defScope s_Copy___init__) [] kws f fd) : FnOk P w K mg base CX0 4 f fd ["self", "turn", "shift", "mirrored"] (sp_init K C) := by
  refine ok0 F sc_Copy___init__ (fun vs H Q E h => ?_) (fun cdv A outer s H vs Q E hr h => ?_)
  · obtain ⟨H0, p, dx, vt, vs', m, t, s, rfl, _⟩ := h
    rfl
  obtain ⟨H0, p, dx, vt, vs', m, t, s', rfl, s0, p0, hp, it, is, ot, nt, os, q⟩ := h
  refine ⟨_, (pss_cons (ps_expr (pc d_check_turn (hr.mono (by decide)) (pa_cons (pv 1) pa_nil)))
    (pss_cons (ps_expr (pc d_check_spot (hr.mono (by decide)) (pa_cons (pv 2) pa_nil)))
    (pss_cons (ps_fld (pv 0) (pv 1) rfl)
    (pss_cons (ps_fld (pv 0) (pv 2) rfl)
    (pss_one (ps_fld (pv 0) (pv 3) rfl)))))), ?_⟩
  refine ⟨_, rfl, _, _, rfl, it.same s0, ot, nt, fun H1 s1 => ?_⟩
  refine ⟨_, rfl, _, _, rfl, is.same (s0.trans s1), os, fun H2 s2 => ?_⟩
  obtain ⟨a, rfl, ta⟩ := it
  obtain ⟨b, rfl, tb⟩ := is
  have hp2 : H2 p = some (.ins C dx []) := s2 _ _ (s1 _ _ hp)
  refine ⟨_, rfl, _, rfl, p, C, dx, _, rfl, hp2, T.cl, T.nF, (by show 0 < 1000; decide), ?_⟩
  refine ⟨_, rfl, _, rfl, p, C, dx, _, rfl, upd_same, T.cl, T.nO, (by show 1 < 1000; decide), ?_⟩
  refine ⟨_, rfl, _, rfl, p, C, dx, _, rfl, upd_same, T.cl, T.nL, (by show _ < 1000; simp only [putF]; rw [if_neg (show ¬ (("factor" : Str) = "offset") by decide +kernel)]; exact (by decide : 2 < 1000)), ?_⟩
  have sm : Same H0 (upd (upd (upd H2 p (.ins C dx (putF "factor" (.ref a) []))) p (.ins C dx (putF "offset" (.ref b) (putF "factor" (.ref a) [])))) p (.ins C dx (putF "flips" (.bl m) (putF "offset" (.ref b) (putF "factor" (.ref a) []))))) := fun c o e => by
    have nc : c ≠ p := fun z => by rw [z, p0] at e; cases e
    rw [upd_ne nc, upd_ne nc, upd_ne nc]
    exact s2 _ _ (s1 _ _ (s0 _ _ e))
  exact q _ sm ⟨p, dx, a, b, rfl, by rw [upd_same, cf_put], same_T sm ta, same_T sm tb⟩
/-- the class as its users see it -/
structure CopyI (P : Program) (w : World) (K : PySem.W.Frag) (mg : Str → Option Value) (base : Heap) (C f : Addr) (fd : FuncData) (mv : List Value) (ds : List Value) : Prop where
  tx : CTxt K C
  mkC : Mk K C f
  ok : FnOk P w K mg base CX0 4 f fd ["self", "turn", "shift", "mirrored"] (sp_init K C)
  mgC : mg "Copy" = some (.ref C)
  bv : Vals [.bl false] ds
  bd : Binds K fd ["self", "turn", "shift", "mirrored"] ds
  kb : KBn K fd ["self", "turn", "shift", "mirrored"] 3 ["mirrored"] (fun us ws => us ++ ws) (fun vs zs => vs ++ zs)
theorem mk_of {C : Addr} {H : Hp} {Q : VK} {vt vs : V} {m : Bool} {t s : T3} (it : IsT K H vt t) (is : IsT K H vs s) (ot : Ok t) (nt : Nz t) (os : Ok s) (q : ∀ H' r, Same H H' → IsC K C H' r ⟨t, s, m⟩ → Q r H') :
    ∀ x dx, H x = none → H dx = none → dx ≠ x → sp_init K C [.ref x, vt, vs, .bl m] (upd (upd H dx (.own x)) x (.ins C dx [])) (fun v H2 => v = .non ∧ Q (.ref x) H2) E0 := by
  intro x dx hx hd _
  refine ⟨H, x, dx, vt, vs, m, t, s, rfl, fun c o e => ?_, hx, upd_same, it, is, ot, nt, os, fun H' s' i => ⟨rfl, q _ _ s' i⟩⟩
  rw [upd_ne (ne_of_none e hx), upd_ne (ne_of_none e hd)]
  exact e
theorem own2_of {C : Addr} {H : Hp} {Q : VK} {sp : Sp} {x y : V} {a b : Cp} (ix : IsC K C H x a) (iy : IsC K C H y b) (q : sp [x, y] H Q E0) : rOwn2 C sp x y H Q := by
  obtain ⟨p, dx, _, _, rfl, h1, _⟩ := ix
  obtain ⟨p', dx', _, _, rfl, h1', _⟩ := iy
  exact ⟨p, p', dx, _, dx', _, rfl, rfl, h1, h1', q⟩
theorem own1_of {C : Addr} {H : Hp} {Q : VK} {sp : Sp} {x : V} {a : Cp} (ix : IsC K C H x a) (q : sp [x] H Q E0) : rOwn1 C sp x H Q := by
  obtain ⟨p, dx, _, _, rfl, h1, _⟩ := ix
  exact ⟨p, dx, _, rfl, h1, q⟩
/-! ### the properties -/
def sp_get (K : PySem.W.Frag) (C : Addr) (g : Cp → Hp → V → Prop) : Sp := fun vs H Q _ => ∃ vc c, vs = [vc] ∧ IsC K C H vc c ∧ ∀ r, g c H r → Q r H
def sp_growth (K : PySem.W.Frag) (C : Addr) : Sp := fun vs H Q _ => ∃ vc c, vs = [vc] ∧ IsC K C H vc c ∧ CpOk c ∧ B 4000 c.t ∧ ∀ H' a, Same H H' → SqT K H' a [.int (gr c.t).1, .int (gr c.t).2] → Q (.ref a) H'
def sp_ap (K : PySem.W.Frag) (C : Addr) : Sp := fun vs H Q _ => ∃ vc c vz z, vs = [vc, vz] ∧ IsC K C H vc c ∧ CpOk c ∧ BC 1900 c ∧ IsT K H vz z ∧ Ok z ∧ B 1900 z ∧ ∀ H' r, Same H H' → IsT K H' r (ap c z) → Q r H'
def sp_jn (K : PySem.W.Frag) (C : Addr) : Sp := fun vs H Q _ => ∃ va a vb b, vs = [va, vb] ∧ IsC K C H va a ∧ IsC K C H vb b ∧ CpOk a ∧ CpOk b ∧ BC 1900 a ∧ BC 1900 b ∧ ∀ H' r, Same H H' → IsC K C H' r (jn a b) → Q r H'
theorem neB (a b : Bool) : V.bl (!decide (V.bl a = V.bl b)) = V.bl (a != b) := by cases a <;> cases b <;> rfl
def sp_bk (K : PySem.W.Frag) (C : Addr) : Sp := fun vs H Q _ => ∃ va a, vs = [va] ∧ IsC K C H va a ∧ CpOk a ∧ BC 1900 a ∧ ∀ H' r, Same H H' → IsC K C H' r (bk a) → Q r H'
def ceq (a b : Cp) : Bool := decide (a.t = b.t) && (decide (a.s = b.s) && decide (a.m = b.m))
theorem ceq_iff {a b : Cp} : ceq a b = true ↔ a = b := by
  obtain ⟨a1, a2, a3⟩ := a
  obtain ⟨b1, b2, b3⟩ := b
  unfold ceq
  simp
def sp_ceq (K : PySem.W.Frag) (C : Addr) : Sp := fun vs H Q _ => ∃ va a vb b, vs = [va, vb] ∧ IsC K C H va a ∧ IsC K C H vb b ∧ Q (.bl (ceq a b)) H
end
end My

namespace My
open PySem L2 Mth
abbrev s_Copy___call__ : Stmt := inClass (topS 40) 5
theorem sc_Copy___call__ : FnScope ["self", "spot"] ["self", "spot"] (defScope s_Copy___call__) := ⟨rfl, rfl, rfl, by decide +kernel, rfl, by decide +kernel, by decide +kernel⟩
section
variable {P : Program} {w : World} {K : PySem.W.Frag} {mg : Str → Option Value} {base : Heap}
theorem ok_call {f C : Addr} {fd : FuncData} (T : CTxt K C) (d_check_spot : D P w K mg base "check_spot" 3 (sp_check K)) (d_carried : D P w K mg base "carried" 4 (sp_car K)) (F : Fun K "__call__" "Copy.__call__" s_Copy___call__ f fd) : FnOk P w K mg base CX0 5 f fd ["self", "spot"] (sp_ap K C) := by
  refine F.ok sc_Copy___call__ (fun vs H Q E h => ?_) (fun cdv A outer s H vs Q E hr h => ?_)
  · obtain ⟨vc, c, vz, z, rfl, _⟩ := h
    rfl
  obtain ⟨vc, c, vz, z, rfl, ⟨p, dx, a, b, rfl, h1, h2, h3⟩, ok, bc, iz, oz, bz, q⟩ := h
  refine ⟨_, (pss_cons (ps_expr (pc d_check_spot (hr.mono (by decide)) (pa_cons (pv 1) pa_nil)))
    (pss_one (ps_ret (pc d_carried (hr.mono (by decide)) (pa_cons (pe_fld (pv 0) rfl) (pa_cons (pe_fld (pv 0) rfl) (pa_cons (pe_fld (pv 0) rfl) (pa_cons (pv 1) pa_nil)))))))), ?_⟩
  refine ⟨_, rfl, _, _, rfl, iz, oz, fun H1 s1 => ?_⟩
  refine ⟨_, rfl, p, C, dx, _, _, rfl, s1 _ _ h1, T.cl, T.nF, cf_f, _, rfl, p, C, dx, _, _, rfl, s1 _ _ h1, T.cl, T.nO, cf_o, _, rfl, p, C, dx, _, _, rfl, s1 _ _ h1, T.cl, T.nL, cf_m, _, rfl, ?_⟩
  exact ⟨_, _, _, _, _, _, _, rfl, ⟨_, rfl, same_T s1 h2⟩, ⟨_, rfl, same_T s1 h3⟩, iz.same s1, ok.t, ok.s, oz, bc.1, bc.2.mono (by decide), bz, fun H2 r s2 i => q _ _ (s1.trans s2) i⟩
end
end My

namespace My
open PySem L2 Mth
abbrev s_Copy_turn : Stmt := inClass (topS 40) 1
theorem sc_Copy_turn : FnScope ["self"] ["self"] (defScope s_Copy_turn) := ⟨rfl, rfl, rfl, by decide +kernel, rfl, by decide +kernel, by decide +kernel⟩
section
variable {P : Program} {w : World} {K : PySem.W.Frag} {mg : Str → Option Value} {base : Heap}
theorem ok_turn {f C : Addr} {fd : FuncData} (T : CTxt K C) (F : Fun K "turn" "Copy.turn" s_Copy_turn f fd) : FnOk P w K mg base CX0 1 f fd ["self"] (sp_get K C fun c H r => IsT K H r c.t) := by
  refine F.ok sc_Copy_turn (fun vs H Q E h => ?_) (fun cdv A outer s H vs Q E hr h => ?_)
  · obtain ⟨vc, c, rfl, _⟩ := h
    rfl
  obtain ⟨vc, c, rfl, ⟨p, dx, a, b, rfl, h1, h2, h3⟩, q⟩ := h
  refine ⟨_, (pss_one (ps_ret (pe_fld (pv 0) rfl))), ?_⟩
  exact ⟨_, rfl, p, C, dx, _, _, rfl, h1, T.cl, T.nF, cf_f, q _ ⟨_, rfl, h2⟩⟩
end
end My

namespace My
open PySem L2 Mth
abbrev s_Copy_shift : Stmt := inClass (topS 40) 2
theorem sc_Copy_shift : FnScope ["self"] ["self"] (defScope s_Copy_shift) := ⟨rfl, rfl, rfl, by decide +kernel, rfl, by decide +kernel, by decide +kernel⟩
section
variable {P : Program} {w : World} {K : PySem.W.Frag} {mg : Str → Option Value} {base : Heap}
theorem ok_shift {f C : Addr} {fd : FuncData} (T : CTxt K C) (F : Fun K "shift" "Copy.shift" s_Copy_shift f fd) : FnOk P w K mg base CX0 1 f fd ["self"] (sp_get K C fun c H r => IsT K H r c.s) := by
  refine F.ok sc_Copy_shift (fun vs H Q E h => ?_) (fun cdv A outer s H vs Q E hr h => ?_)
  · obtain ⟨vc, c, rfl, _⟩ := h
    rfl
  obtain ⟨vc, c, rfl, ⟨p, dx, a, b, rfl, h1, h2, h3⟩, q⟩ := h
  refine ⟨_, (pss_one (ps_ret (pe_fld (pv 0) rfl))), ?_⟩
  exact ⟨_, rfl, p, C, dx, _, _, rfl, h1, T.cl, T.nO, cf_o, q _ ⟨_, rfl, h3⟩⟩
end
end My

namespace My
open PySem L2 Mth
abbrev s_Copy_mirrored : Stmt := inClass (topS 40) 3
theorem sc_Copy_mirrored : FnScope ["self"] ["self"] (defScope s_Copy_mirrored) := ⟨rfl, rfl, rfl, by decide +kernel, rfl, by decide +kernel, by decide +kernel⟩
section
variable {P : Program} {w : World} {K : PySem.W.Frag} {mg : Str → Option Value} {base : Heap}
theorem ok_mirrored {f C : Addr} {fd : FuncData} (T : CTxt K C) (F : Fun K "mirrored" "Copy.mirrored" s_Copy_mirrored f fd) : FnOk P w K mg base CX0 1 f fd ["self"] (sp_get K C fun c H r => r = .bl c.m) := by
  refine F.ok sc_Copy_mirrored (fun vs H Q E h => ?_) (fun cdv A outer s H vs Q E hr h => ?_)
  · obtain ⟨vc, c, rfl, _⟩ := h
    rfl
  obtain ⟨vc, c, rfl, ⟨p, dx, a, b, rfl, h1, h2, h3⟩, q⟩ := h
  refine ⟨_, (pss_one (ps_ret (pe_fld (pv 0) rfl))), ?_⟩
  exact ⟨_, rfl, p, C, dx, _, _, rfl, h1, T.cl, T.nL, cf_m, q _ rfl⟩
end
end My

namespace My
open PySem L2 Mth
abbrev s_Copy___eq__ : Stmt := inClass (topS 40) 8
theorem sc_Copy___eq__ : FnScope ["self", "other"] ["self", "other"] (defScope s_Copy___eq__) := ⟨rfl, rfl, rfl, by decide +kernel, rfl, by decide +kernel, by decide +kernel⟩
section
variable {P : Program} {w : World} {K : PySem.W.Frag} {mg : Str → Option Value} {base : Heap}
theorem ok_eq {f C : Addr} {fd : FuncData} (T : CTxt K C) (mgC : mg "Copy" = some (.ref C)) (b_isinstance : mg "isinstance" = none) (F : Fun K "__eq__" "Copy.__eq__" s_Copy___eq__ f fd) : FnOk P w K mg base CX0 1 f fd ["self", "other"] (sp_ceq K C) := by
  refine F.ok sc_Copy___eq__ (fun vs H Q E h => ?_) (fun cdv A outer s H vs Q E hr h => ?_)
  · obtain ⟨va, a, vb, b, rfl, _⟩ := h
    rfl
  obtain ⟨va, a, vb, b, rfl, ⟨p, dx, u, v, rfl, h1, h2, h3⟩, ⟨p', dx', u', v', rfl, k1, k2, k3⟩, q⟩ := h
  refine ⟨_, (pss_one (ps_ret (pe_and (pe_callB (r := rIsi K) call_isi (by rfl) b_isinstance (by decide +kernel) (pa_cons (pv 1) (pa_cons (pe_glob (v := .ref C) (by rfl) mgC rfl) pa_nil))) (pe_and (pe_cmpR (op_eqD hr.units) (pe_fld (pv 0) rfl) (pe_fld (pv 1) rfl) (nomark _)) (pe_and (pe_cmpR (op_eqD hr.units) (pe_fld (pv 0) rfl) (pe_fld (pv 1) rfl) (nomark _)) (pe_one (pe_cmpR (op_eq) (pe_fld (pv 0) rfl) (pe_fld (pv 1) rfl) (nomark _)))))))), ?_⟩
  refine ⟨_, rfl, _, _, _, _, true, rfl, .own C, .base (.ins k1 T.cl T.ha T.hn T.htk T.hm), ?_, true, rfl, iteT ?_⟩
  · unfold PySem.W.kitOne; simp
  refine ⟨_, rfl, p, C, dx, _, _, rfl, h1, T.cl, T.nF, cf_f, _, rfl, p', C, dx', _, _, rfl, k1, T.cl, T.nF, cf_f, _, _, Dp3 h2, Dp3 k2, shaped3 _, shaped3 _, _, rfl, ?_⟩
  rw [eqv3]
  unfold ceq at q
  cases c1 : decide (a.t = b.t) with
  | false =>
    rw [c1] at q
    exact iteF q
  | true =>
    rw [c1] at q
    refine iteT ?_
    refine ⟨_, rfl, p, C, dx, _, _, rfl, h1, T.cl, T.nO, cf_o, _, rfl, p', C, dx', _, _, rfl, k1, T.cl, T.nO, cf_o, _, _, Dp3 h3, Dp3 k3, shaped3 _, shaped3 _, _, rfl, ?_⟩
    rw [eqv3]
    cases c2 : decide (a.s = b.s) with
    | false =>
      rw [c2] at q
      exact iteF q
    | true =>
      rw [c2] at q
      refine iteT ?_
      refine ⟨_, rfl, p, C, dx, _, _, rfl, h1, T.cl, T.nL, cf_m, _, rfl, p', C, dx', _, _, rfl, k1, T.cl, T.nL, cf_m, rfl, ?_⟩
      have e : decide (V.bl a.m = V.bl b.m) = decide (a.m = b.m) := by cases a.m <;> cases b.m <;> rfl
      show Q (.bl (decide (V.bl a.m = V.bl b.m))) H
      rw [e]
      exact q
end
end My

namespace My
open PySem L2 Mth
abbrev s_law_below : Stmt := topS 51
theorem sc_law_below : FnScope ["_law_d", "_law_limit", "_law_result"] ["_law_d", "_law_limit"] (defScope s_law_below) := ⟨rfl, rfl, rfl, by decide +kernel, rfl, by decide +kernel, by decide +kernel⟩
abbrev s_law_random : Stmt := topS 50
theorem sc_law_random : FnScope ["_law_script", "_law_salt", "_law_seed", "_law_cell"] ["_law_script", "_law_salt"] (defScope s_law_random) := ⟨rfl, rfl, rfl, by decide +kernel, rfl, by decide +kernel, by decide +kernel⟩
section
variable {P : Program} {w : World} {K : PySem.W.Frag} {mg : Str → Option Value} {base : Heap}
/-! ### the source of numbers -/
structure Src where
  seed : Int
  cur : Int
  rest : List Int
structure SrcOk (s : Src) : Prop where
  s0 : 0 ≤ s.seed
  s1 : s.seed < 2147483647
  c0 : 0 ≤ s.cur
  r0 : ∀ r ∈ s.rest, 0 ≤ r
  len : s.rest.length ≤ 63
def encD (s : Src) : List V := .int s.seed :: .int s.cur :: s.rest.map V.int
theorem natAbs_pow18 : ((10 : Int) ^ (18 : Int).toNat) = 1000000000000000000 := by decide
theorem getInt {ns : List Int} {i : Nat} {y : V} (h : (ns.map V.int)[i]? = some y) : ∃ u, y = V.int u ∧ ns[i]? = some u := by
  rw [List.getElem?_map] at h
  cases e : ns[i]? with
  | none => rw [e] at h; cases h
  | some u => rw [e] at h; exact ⟨u, (Option.some.inj h).symm, rfl⟩
theorem take_more {α : Type} {l : List α} {i : Nat} {x : α} (h : l[i]? = some x) : l.take (i + 1) = l.take i ++ [x] := by
  rw [List.take_succ, h]
  rfl
def sp_random (K : PySem.W.Frag) : Sp := fun vs H Q _ => ∃ (a : Addr) (ns : List Int) (salt : Int), vs = [.ref a, .int salt] ∧ SqL K H a (ns.map V.int) ∧ ns.length ≤ 63 ∧ 0 ≤ salt ∧ salt < 2147483647 ∧
  ∀ H' d st, Same H H' → H' d = some (.lst (encD st)) → SrcOk st → Q (.ref d) H'
theorem ok_law_random {f : Addr} {fd : FuncData} (b_abs : mg "abs" = none) (F : Fun K "_law_random" "_law_random" s_law_random f fd) : FnOk P w K mg base CX0 1 f fd ["_law_script", "_law_salt"] (sp_random K) := by
  refine F.ok sc_law_random (fun vs H Q E h => ?_) (fun cdv A outer s H vs Q E hr h => ?_)
  · obtain ⟨a, ns, salt, rfl, _⟩ := h
    rfl
  obtain ⟨a, ns, salt, rfl, hS, h63, h0, h1, q⟩ := h
  refine ⟨_, (pss_cons (ps_set (i := 2) sc_law_random.nd rfl (by first | exact Or.inl rfl | exact Or.inr rfl) (pv 1))
    (pss_cons (ps_for PassesOwn.never rfl (pi_list (pv 0)) (pg_name (i := 3) sc_law_random.nd rfl (by first | exact Or.inl rfl | exact Or.inr rfl)) (pss_one (ps_set (i := 2) sc_law_random.nd rfl (by first | exact Or.inl rfl | exact Or.inr rfl) (pe_op op_modN (pe_op op_add (pe_op op_mulW (pv 2) pe_int) (pe_callB call_abs (by rfl) b_abs (by decide +kernel) (pa_cons (pv 3) pa_nil))) pe_int))))
    (pss_one (ps_ret (pe_op op_cat (pe_lst (pa_cons (pv 2) (pa_cons pe_int pa_nil))) (pe_lc (own := [("_law_cell", 3)]) (g := gName 3) (by rfl) sc_law_random.nd (pi_list (pv 0)) (blkOk_by (own := [("_law_cell", 3)]) (N := ["_law_script", "_law_salt", "_law_seed", "_law_cell"]) (sc := defScope s_law_random) (by decide +kernel)) (fun _ _ _ _ _ => (pg_name (i := 3) sc_law_random.nd rfl (by first | exact Or.inl rfl | exact Or.inr rfl))) (fun _ _ _ _ _ => (pts_one (pt_cmpR (op_ge) (pv 3) (pe_op op_pow pe_int pe_int) (nomark _)))) (fun _ _ _ _ _ => (pv 3)))))))), ?_⟩
  refine ⟨_, rfl, ?_⟩
  refine ⟨_, rfl, _, rfl, ⟨_, hS⟩, for_list (K := K) (a := a) (xs := ns.map V.int) (fun i σ H' => H' = H ∧ ∃ (z : Int) (v : Option V), σ = [some (.ref a), some (.int salt), some (.int z), v] ∧ 0 ≤ z ∧ z < 2147483647) ⟨rfl, salt, none, rfl, h0, h1⟩ ?_ ?_ ?_⟩
  · rintro i σ H' _ ⟨rfl, _⟩
    exact hS
  · rintro i y σ H' hi ⟨rfl, z, v, rfl, z0, z1⟩
    obtain ⟨u, rfl, hu⟩ := getInt hi
    refine ⟨_, rfl, _, _, rfl, rfl, mulW (a := 31) (b := 31) (show z.natAbs < 2 ^ 32 by omega) (by decide), _, rfl, _, rfl, _, _, rfl, rfl, _, _, rfl, rfl, (show (2147483647 : Int) ≠ 0 by decide), ?_⟩
    exact ⟨rfl, _, _, rfl, Int.fmod_nonneg_of_pos _ (by decide), Int.fmod_lt_of_pos _ (by decide)⟩
  · rintro σ H' ⟨rfl, z, v, rfl, z0, z1⟩
    refine ⟨_, rfl, (by show 2 ≤ sizeLine; decide), fun p hp => ?_⟩
    have g1 := same_new hp (.lst [.int z, .int 0])
    refine ⟨_, rfl, a, rfl, ⟨_, g1.seq hS⟩, fun L hL => lc_list (K := K) (a := a) (xs := ns.map V.int) (fun i H1 => ∃ acc : List Int, H1 = upd (upd H' p (.lst [.int z, .int 0])) L (.lst (acc.map V.int)) ∧ acc.length ≤ i ∧ ∀ r ∈ acc, 0 ≤ r) ⟨[], rfl, Nat.le_refl _, fun r hr => by cases hr⟩ ?_ ?_ ?_⟩
    · rintro i H1 hi ⟨acc, rfl, _⟩
      exact (same_new hL _).seq (g1.seq hS)
    · rintro i y H1 hi ⟨acc, rfl, hl, ha⟩
      obtain ⟨u, rfl, hu⟩ := getInt hi
      have hi63 : i < ns.length := (List.getElem?_eq_some_iff.mp hu).1
      refine ⟨rfl, ?_⟩
      refine ⟨_, rfl, _, _, rfl, rfl, ⟨by decide, by decide, by decide⟩, _, _, rfl, rfl, _, rfl, ?_⟩
      refine ite2 (fun c => ?_) (fun c => ?_)
      · refine ⟨_, rfl, acc.map V.int, upd_same, ?_, acc ++ [u], ?_, ?_, ?_⟩
        · rw [List.length_map]; exact small1000 (by omega)
        · rw [upd_upd, List.map_append]; rfl
        · rw [List.length_append, List.length_singleton]; omega
        · intro r hr
          rcases List.mem_append.mp hr with h | h
          · exact ha r h
          · have c' : (10 : Int) ^ (18 : Int).toNat ≤ u := of_decide_eq_true c
            rw [natAbs_pow18] at c'
            have := List.mem_singleton.mp h
            omega
      · exact ⟨acc, rfl, by omega, ha⟩
    · rintro H1 ⟨acc, rfl, hl, ha⟩
      rw [List.length_map] at hl
      have npL : p ≠ L := fun z => by rw [← z, upd_same] at hL; cases hL
      refine ⟨p, L, _, _, rfl, rfl, by rw [upd_ne npL]; exact upd_same, upd_same, ?_, fun r hr => ?_⟩
      · rw [List.length_map]; exact small (by show 2 + _ ≤ 1000; omega)
      · have g2 := same_new hL (.lst (acc.map V.int))
        exact q _ _ ⟨z, 0, acc⟩ (g1.trans (g2.trans (same_new hr _))) upd_same ⟨z0, z1, Int.le_refl 0, ha, by show acc.length ≤ 63; omega⟩
/-- the next number -/
def sp_below : Sp := fun vs H Q _ => ∃ (d : Addr) (n : Int) (st : Src), vs = [.ref d, .int n] ∧ 0 < n ∧ n < 1000000 ∧ H d = some (.lst (encD st)) ∧ SrcOk st ∧
  ∀ st' r, SrcOk st' → 0 ≤ r → r < n → Q (.int r) (upd H d (.lst (encD st')))
theorem div_nn {a b : Int} (ha : 0 ≤ a) (hb : 0 < b) : 0 ≤ a.fdiv b := by
  rw [Int.fdiv_eq_ediv_of_nonneg a (by omega)]
  exact Int.ediv_nonneg ha (by omega)
theorem dX {i j : Int} (h : 0 < j) (h9 : j < 1000000) : CDivX i j := divX (b := 20) (by omega) (by omega) (by decide) (by decide)
theorem at0 {a b : V} {r : List V} : atI (a :: b :: r) 0 = some a := atI_nat (j := 0) rfl
theorem at1 {a b : V} {r : List V} : atI (a :: b :: r) 1 = some b := atI_nat (j := 1) rfl
theorem ix0 {a b : V} {r : List V} : ixN (a :: b :: r).length 0 = some 0 := by
  unfold ixN
  rw [if_pos (by decide), if_pos (by simp only [List.length_cons]; omega)]
  rfl
theorem ix1 {a b : V} {r : List V} : ixN (a :: b :: r).length 1 = some 1 := by
  unfold ixN
  rw [if_pos (by decide), if_pos (by simp only [List.length_cons]; omega)]
  rfl
theorem ok_law_below {f : Addr} {fd : FuncData} (b_len : mg "len" = none) (F : Fun K "_law_below" "_law_below" s_law_below f fd) : FnOk P w K mg base CX0 1 f fd ["_law_d", "_law_limit"] sp_below := by
  refine F.ok sc_law_below (fun vs H Q E h => ?_) (fun cdv A outer s H vs Q E hr h => ?_)
  · obtain ⟨d, n, st, rfl, _⟩ := h
    rfl
  obtain ⟨d, n, ⟨seed, cur, rest⟩, rfl, n0, n1, hd, ⟨s0, s1, c0, r0, hl⟩, q⟩ := h
  dsimp only at s0 s1 c0 r0 hl
  refine ⟨_, (pss_cons (ps_if (PW.pt (pw_and (pt_cmpR (op_eq) (pe_ix ix_list (pv 0) pe_int (fun _ _ => rfl)) pe_int (nomark _)) (pw_and1 (pt_cmpR (op_gt) (pe_callB call_len_seq (by rfl) b_len PySem.boot_len (pa_cons (pv 0) pa_nil)) pe_int (nomark _))))) (pss_one (ps_asg (pe_bm PySem.F.plainAttrs_list PySem.F.slot_list_pop PySem.F.type_list_pop mt_popAt (pv 0) (pa_cons pe_int pa_nil)) (pg_sub (pv 0) pe_int set_list))) pss_nil)
    (pss_cons (ps_if (pt_cmpR (op_gt) (pe_ix ix_list (pv 0) pe_int (fun _ _ => rfl)) pe_int (nomark _)) (pss_cons (ps_set (i := 2) sc_law_below.nd rfl (by first | exact Or.inl rfl | exact Or.inr rfl) (pe_op op_modN (pe_ix ix_list (pv 0) pe_int (fun _ _ => rfl)) (pv 1)))
    (pss_cons (ps_asg (pe_op op_fdivX (pe_ix ix_list (pv 0) pe_int (fun _ _ => rfl)) (pv 1)) (pg_sub (pv 0) pe_int set_list))
    (pss_one (ps_ret (pv 2))))) pss_nil)
    (pss_cons (ps_asg (pe_op op_modN (pe_op op_add (pe_op op_mulW (pe_ix ix_list (pv 0) pe_int (fun _ _ => rfl)) pe_int) pe_int) pe_int) (pg_sub (pv 0) pe_int set_list))
    (pss_one (ps_ret (pe_op op_modN (pe_op op_fdivX (pe_ix ix_list (pv 0) pe_int (fun _ _ => rfl)) pe_int) (pv 1))))))), ?_⟩
  have tail : ∀ (cur : Int) (rest : List Int) (H1 : Hp), 0 ≤ cur → (∀ r ∈ rest, 0 ≤ r) → rest.length ≤ 63 → (∀ o, upd H1 d o = upd H d o) → H1 d = some (.lst (encD ⟨seed, cur, rest⟩)) →
      (tSeq (tIfS (tTest (tOp (rI0 fun i j => .bl (decide (j < i))) (tOp (rIxL K) (tVar 0) (tC (.int 1))) (tC (.int 0))))
        (tSeq (tAsg (tOp (rI (fun _ j => j ≠ 0) fun i j => .int (i.fmod j)) (tOp (rIxL K) (tVar 0) (tC (.int 1))) (tVar 1)) (gName 2))
          (tSeq (tAsg (tOp (rI CDivX fun i j => .int (i.fdiv j)) (tOp (rIxL K) (tVar 0) (tC (.int 1))) (tVar 1)) (gSub (tVar 0) (tC (.int 1)) rSetL)) (tRet (tVar 2)))) tNext)
        (tSeq (tAsg (tOp (rI (fun _ j => j ≠ 0) fun i j => .int (i.fmod j)) (tOp (rI0 fun i j => .int (i + j)) (tOp (rI CMulW fun i j => .int (i * j)) (tOp (rIxL K) (tVar 0) (tC (.int 0))) (tC (.int 48271))) (tC (.int 11))) (tC (.int 2147483647))) (gSub (tVar 0) (tC (.int 0)) rSetL))
          (tRet (tOp (rI (fun _ j => j ≠ 0) fun i j => .int (i.fmod j)) (tOp (rI CDivX fun i j => .int (i.fdiv j)) (tOp (rIxL K) (tVar 0) (tC (.int 0))) (tC (.int 64))) (tVar 1))))) { nx := fun _ H' => Q .non H', rt := Q } [some (.ref d), some (.int n), none] H1 := by
    intro cur rest H1 c0 r0 hl hu h1
    refine ⟨_, rfl, _, _, _, _, rfl, rfl, .inl (.inl h1), at1, _, _, rfl, rfl, _, rfl, ?_⟩
    refine ite2 (fun c => ?_) (fun c => ?_)
    · refine ⟨_, rfl, _, _, _, _, rfl, rfl, .inl (.inl h1), at1, _, rfl, _, _, rfl, rfl, (show n ≠ 0 by omega), ?_⟩
      refine ⟨_, rfl, _, _, _, _, rfl, rfl, .inl (.inl h1), at1, _, rfl, _, _, rfl, rfl, dX n0 n1, ?_⟩
      refine ⟨_, rfl, _, _, _, _, rfl, rfl, h1, ix1, ?_⟩
      refine ⟨_, rfl, ?_⟩
      have z := q ⟨seed, cur.fdiv n, rest⟩ (cur.fmod n) ⟨s0, s1, div_nn c0 n0, r0, hl⟩ (Int.fmod_nonneg_of_pos _ n0) (Int.fmod_lt_of_pos _ n0)
      rw [← hu] at z
      exact z
    · refine ⟨_, rfl, _, _, _, _, rfl, rfl, .inl (.inl h1), at0, _, _, rfl, rfl, mulW (a := 31) (b := 31) (show seed.natAbs < 2 ^ 32 by omega) (by decide), _, _, rfl, rfl, _, _, rfl, rfl, (show (2147483647 : Int) ≠ 0 by decide), ?_⟩
      refine ⟨_, rfl, _, _, _, _, rfl, rfl, h1, ix0, ?_⟩
      have m0 := Int.fmod_nonneg_of_pos (a := seed * 48271 + 11) (b := 2147483647) (by decide)
      have m1 := Int.fmod_lt_of_pos (a := seed * 48271 + 11) (b := 2147483647) (by decide)
      have z := q ⟨(seed * 48271 + 11).fmod 2147483647, cur, rest⟩ ((((seed * 48271 + 11).fmod 2147483647).fdiv 64).fmod n) ⟨m0, m1, c0, r0, hl⟩ (Int.fmod_nonneg_of_pos _ n0) (Int.fmod_lt_of_pos _ n0)
      rw [← hu] at z
      refine ⟨_, rfl, _, _, _, _, rfl, rfl, .inl (.inl upd_same), at0, _, _, rfl, rfl, dX (by decide) (by decide), _, rfl, _, _, rfl, rfl, (show n ≠ 0 by omega), ?_⟩
      exact z
  refine ⟨_, rfl, _, _, _, _, rfl, rfl, .inl (.inl hd), at1, rfl, _, rfl, ?_⟩
  refine ite2 (fun c => ?_) (fun c => ?_)
  · refine ⟨_, rfl, _, _, rfl, .inl (.inl (.inl hd)), _, _, rfl, rfl, _, rfl, ?_⟩
    refine ite2 (fun c2 => ?_) (fun c2 => ?_)
    · cases rest with
      | nil =>
        exfalso
        have := of_decide_eq_true c2
        simp [encD] at this
      | cons r rs =>
        refine ⟨_, rfl, .inl ⟨rfl, _, .inl (.inl hd)⟩, _, _, _, 2, _, rfl, rfl, hd, by decide, by decide, ?_, rfl, ?_⟩
        · show seqIndex? 2 (encD ⟨seed, cur, r :: rs⟩).length = some 2
          refine (ixN_seq (n := (encD ⟨seed, cur, r :: rs⟩).length) (i := 2) (j := 2) ?_).1
          unfold ixN
          rw [if_pos (by decide), if_pos (by simp [encD]; omega)]
          rfl
        refine ⟨_, rfl, _, _, _, _, rfl, rfl, upd_same, ix1, ?_⟩
        refine tail r rs _ (r0 r (List.mem_cons_self ..)) (fun x hx => r0 x (List.mem_cons_of_mem _ hx)) (by simp only [List.length_cons] at hl; omega) (fun o => ?_) ?_
        · rw [upd_upd, upd_upd]
        · rw [upd_same]
          rfl
    · exact tail cur rest H c0 r0 hl (fun o => rfl) hd
  · exact tail cur rest H c0 r0 hl (fun o => rfl) hd
end
end My

namespace My
open PySem L2 Mth
abbrev s_law_common : Stmt := topS 53
theorem sc_law_common : FnScope ["_law_one", "_law_other"] ["_law_one", "_law_other"] (defScope s_law_common) := ⟨rfl, rfl, rfl, by decide +kernel, rfl, by decide +kernel, by decide +kernel⟩
abbrev s_law_lowest : Stmt := topS 54
theorem sc_law_lowest : FnScope ["_law_x", "_law_y", "_law_q", "_law_common_now"] ["_law_x", "_law_y", "_law_q"] (defScope s_law_lowest) := ⟨rfl, rfl, rfl, by decide +kernel, rfl, by decide +kernel, by decide +kernel⟩
abbrev s_law_spot : Stmt := topS 55
theorem sc_law_spot : FnScope ["_law_d", "_law_below_here"] ["_law_d"] (defScope s_law_spot) := ⟨rfl, rfl, rfl, by decide +kernel, rfl, by decide +kernel, by decide +kernel⟩
abbrev s_law_turn : Stmt := topS 56
theorem sc_law_turn : FnScope ["_law_d", "_law_some"] ["_law_d"] (defScope s_law_turn) := ⟨rfl, rfl, rfl, by decide +kernel, rfl, by decide +kernel, by decide +kernel⟩
section
variable {P : Program} {w : World} {K : PySem.W.Frag} {mg : Str → Option Value} {base : Heap}
theorem ok_law_common {f : Addr} {fd : FuncData} (b_abs : mg "abs" = none) (F : Fun K "_law_common" "_law_common" s_law_common f fd) : FnOk P w K mg base CX0 1 f fd ["_law_one", "_law_other"] sp_gcd := by
  refine F.ok sc_law_common (fun vs H Q E h => ?_) (fun cdv A outer s H vs Q E hr h => ?_)
  · obtain ⟨a, b, rfl, _⟩ := h
    rfl
  obtain ⟨a, b, rfl, q⟩ := h
  refine ⟨_, (pss_cons (ps_par (i := 0) (j := 1) (by rfl) sc_law_common.nd rfl rfl (by decide) rfl rfl (pa_cons (pe_callB call_abs (by rfl) b_abs (by decide +kernel) (pa_cons (pv 0) pa_nil)) (pa_cons (pe_callB call_abs (by rfl) b_abs (by decide +kernel) (pa_cons (pv 1) pa_nil)) pa_nil)) (by rfl))
    (pss_cons (ps_while PassesOwn.never (pt_cmpR (op_gt) (pv 1) pe_int (nomark _)) (pss_one (ps_par (i := 0) (j := 1) (by rfl) sc_law_common.nd rfl rfl (by decide) rfl rfl (pa_cons (pv 1) (pa_cons (pe_op op_modN (pv 0) (pv 1)) pa_nil)) (by rfl))))
    (pss_one (ps_ret (pv 0))))), ?_⟩
  refine ⟨_, rfl, _, rfl, _, rfl, _, rfl, _, _, rfl, ?_⟩
  refine while_by (fun σ H' => H' = H ∧ ∃ x y : Int, σ = [some (.int x), some (.int y)] ∧ 0 ≤ x ∧ 0 ≤ y ∧ Int.gcd x y = Int.gcd a b) (fun σ _ => match σ with | [_, some (.int y)] => y.natAbs | _ => 0) ⟨rfl, _, _, rfl, ?_, ?_, ?_⟩ ?_ ?_
  · split <;> omega
  · split <;> omega
  · have e : ∀ z : Int, (if z < 0 then -z else z) = ((z.natAbs : Nat) : Int) := fun z => by split <;> omega
    rw [e, e]
    unfold Int.gcd
    rw [Int.natAbs_natCast, Int.natAbs_natCast]
  · rintro σ H' ⟨rfl, x, y, rfl, x0, y0, e⟩
    refine ⟨_, rfl, _, _, rfl, rfl, _, rfl, ?_⟩
    refine ite2 (fun c => ?_) (fun c => ?_)
    · have c' : 0 < y := of_decide_eq_true c
      refine ⟨_, rfl, _, rfl, _, rfl, _, _, rfl, rfl, (show y ≠ 0 by omega), _, _, rfl, ⟨rfl, _, _, rfl, y0, Int.fmod_nonneg_of_pos _ c', ?_⟩, ?_⟩
      · rw [gcd_fmod]; exact e
      · exact fmod_small (by omega)
    · have c' : ¬ 0 < y := of_decide_eq_false (Bool.eq_false_iff.mpr c)
      have y1 : y = 0 := by omega
      subst y1
      refine ⟨_, rfl, ?_⟩
      rw [← e, Int.gcd_zero_right] at q
      have ex : ((x.natAbs : Nat) : Int) = x := by omega
      rw [ex] at q
      exact q
  · rintro σ H' Q1 Q2 hq ⟨v, h1, i, j, h2, h3, k, h4, h5⟩
    exact ⟨v, h1, i, j, h2, h3, k, h4, hq _ _ h5⟩
theorem ok_law_lowest {f : Addr} {fd : FuncData} (d_law_common : D P w K mg base "_law_common" 1 sp_gcd) (F : Fun K "_law_lowest" "_law_lowest" s_law_lowest f fd) : FnOk P w K mg base CX0 2 f fd ["_law_x", "_law_y", "_law_q"] (sp_low K) := by
  refine F.ok sc_law_lowest (fun vs H Q E h => ?_) (fun cdv A outer s H vs Q E hr h => ?_)
  · obtain ⟨x, y, d, rfl, _⟩ := h
    rfl
  obtain ⟨x, y, d, rfl, hd, hB, q⟩ := h
  refine ⟨_, (pss_cons (ps_set (i := 3) sc_law_lowest.nd rfl (by first | exact Or.inl rfl | exact Or.inr rfl) (pc d_law_common (hr.mono (by decide)) (pa_cons (pc d_law_common (hr.mono (by decide)) (pa_cons (pv 0) (pa_cons (pv 1) pa_nil))) (pa_cons (pv 2) pa_nil))))
    (pss_cons (ps_set (i := 3) sc_law_lowest.nd rfl (by first | exact Or.inl rfl | exact Or.inr rfl) (pe_ifExp (pt_cmpR (op_gt) (pv 2) pe_int (nomark _)) (pv 3) (pe_op op_sub pe_int (pv 3))))
    (pss_one (ps_ret (pe_tup (pa_cons (pe_op op_fdivX (pv 0) (pv 3)) (pa_cons (pe_op op_fdivX (pv 1) (pv 3)) (pa_cons (pe_op op_fdivX (pv 2) (pv 3)) pa_nil)))))))), ?_⟩
  refine ⟨_, rfl, _, rfl, _, _, rfl, _, rfl, _, _, rfl, ?_⟩
  refine ⟨_, rfl, _, _, rfl, rfl, _, rfl, ?_⟩
  have hc : CDivX x (sg x y d) ∧ CDivX y (sg x y d) ∧ CDivX d (sg x y d) := ⟨divX (sg_ne hd) (g3_lt hd hB) (by decide) (by decide), divX (sg_ne hd) (g3_lt hd hB) (by decide) (by decide), divX (sg_ne hd) (g3_lt hd hB) (by decide) (by decide)⟩
  refine ite2 (fun c => ?_) (fun c => ?_)
  · have es : sg x y d = g3 x y d := if_neg (by have := of_decide_eq_true c; omega)
    rw [es] at hc
    refine ⟨_, rfl, ?_⟩
    refine ⟨_, rfl, _, rfl, _, _, rfl, rfl, hc.1, _, rfl, _, rfl, _, _, rfl, rfl, hc.2.1, _, rfl, _, rfl, _, _, rfl, rfl, hc.2.2, (by show 3 ≤ sizeLine; decide), fun p hp => ?_⟩
    refine q _ _ (same_new hp _) ?_
    unfold low
    rw [es]
    exact IsT.new
  · have es : sg x y d = 0 - g3 x y d := by
      rw [Int.zero_sub]
      exact if_pos (by have := of_decide_eq_false (Bool.eq_false_iff.mpr c); omega)
    rw [es] at hc
    refine ⟨_, rfl, _, _, rfl, rfl, ?_⟩
    refine ⟨_, rfl, _, rfl, _, _, rfl, rfl, hc.1, _, rfl, _, rfl, _, _, rfl, rfl, hc.2.1, _, rfl, _, rfl, _, _, rfl, rfl, hc.2.2, (by show 3 ≤ sizeLine; decide), fun p hp => ?_⟩
    refine q _ _ (same_new hp _) ?_
    unfold low
    rw [es]
    exact IsT.new
/-! ### draws -/
structure TurnIn (t : T3) : Prop where
  ok : Ok t
  nz : Nz t
  bd : B 3 t
  mem : t ∈ turns13
structure SpotIn (t : T3) : Prop where
  ok : Ok t
  bd : B 3 t
def sp_draw (g : Hp → V → Prop) : Sp := fun vs H Q _ => ∃ (d : Addr) (st : Src), vs = [.ref d] ∧ H d = some (.lst (encD st)) ∧ SrcOk st ∧
  ∀ H' st' r, Keep d H H' → H' d = some (.lst (encD st')) → SrcOk st' → g H' r → Q r H'
instance (t : T3) : Decidable (Ok t) := inferInstanceAs (Decidable (_ ∧ _))
instance (t : T3) : Decidable (Nz t) := inferInstanceAs (Decidable (_ ∨ _))
theorem turns_in : ∀ t ∈ turns13, TurnIn t := by
  have h : ∀ t ∈ turns13, Ok t ∧ Nz t ∧ B 3 t := by decide +kernel
  exact fun t ht => ⟨(h t ht).1, (h t ht).2.1, (h t ht).2.2, ht⟩
theorem paired_at {ps : List Addr} {ts : List T3} {R : Addr → T3 → Prop} (h : Paired R ps ts) : ∀ {i : Nat}, i < ts.length → ∃ p t, ps[i]? = some p ∧ t ∈ ts ∧ R p t := by
  induction h with
  | nil => intro i hi; cases hi
  | cons r _ ih =>
    intro i hi
    cases i with
    | zero => exact ⟨_, _, rfl, List.mem_cons_self .., r⟩
    | succ i =>
      obtain ⟨p, t, h1, h2, h3⟩ := ih (i := i) (by simpa using hi)
      exact ⟨p, t, by simpa using h1, List.mem_cons_of_mem _ h2, h3⟩
theorem paired_app {R : Addr → T3 → Prop} : ∀ {ps qs : List Addr} {ts us : List T3}, Paired R ps ts → Paired R qs us → Paired R (ps ++ qs) (ts ++ us)
  | _, _, _, _, .nil, k => k
  | _, _, _, _, .cons r t, k => .cons r (paired_app t k)
theorem paired_imp {R S : Addr → T3 → Prop} (h : ∀ p t, R p t → S p t) : ∀ {ps : List Addr} {ts : List T3}, Paired R ps ts → Paired S ps ts
  | _, _, .nil => .nil
  | _, _, .cons r t => .cons (h _ _ r) (paired_imp h t)
theorem at_map {ps : List Addr} {i : Nat} {p : Addr} {z : Int} (h : ps[i]? = some p) (hz : z = (i : Int)) : atI (ps.map V.ref) z = some (.ref p) := by
  rw [hz]
  exact atI_nat (by rw [List.getElem?_map, h]; rfl)
theorem ok_law_turn {f : Addr} {fd : FuncData} (d_law_below : D P w K mg base "_law_below" 1 sp_below) (F : Fun K "_law_turn" "_law_turn" s_law_turn f fd) : FnOk P w K mg base CX0 2 f fd ["_law_d"] (sp_draw fun H r => ∃ t, IsT K H r t ∧ TurnIn t) := by
  refine F.ok sc_law_turn (fun vs H Q E h => ?_) (fun cdv A outer s H vs Q E hr h => ?_)
  · obtain ⟨d, st, rfl, _⟩ := h
    rfl
  obtain ⟨d, st, rfl, hd, ok, q⟩ := h
  refine ⟨_, (pss_cons (ps_set (i := 1) sc_law_turn.nd rfl (by first | exact Or.inl rfl | exact Or.inr rfl) (pe_lst (paT (t := (1, 0, 1)) (pe_tup (pa_cons pe_int (pa_cons pe_int (pa_cons pe_int pa_nil)))) (fun σ H Q h => ⟨(by show 3 ≤ sizeLine; decide), fun p hp => h _ _ (same_new hp _) (.inl (.inl upd_same))⟩) (paT (t := (-1, 0, 1)) (pe_tup (pa_cons (pe_op op_sub pe_int pe_int) (pa_cons pe_int (pa_cons pe_int pa_nil)))) (fun σ H Q h => ⟨_, _, rfl, rfl, (by show 3 ≤ sizeLine; decide), fun p hp => h _ _ (same_new hp _) (.inl (.inl upd_same))⟩) (paT (t := (0, 1, 1)) (pe_tup (pa_cons pe_int (pa_cons pe_int (pa_cons pe_int pa_nil)))) (fun σ H Q h => ⟨(by show 3 ≤ sizeLine; decide), fun p hp => h _ _ (same_new hp _) (.inl (.inl upd_same))⟩) (paT (t := (0, -1, 1)) (pe_tup (pa_cons pe_int (pa_cons (pe_op op_sub pe_int pe_int) (pa_cons pe_int pa_nil)))) (fun σ H Q h => ⟨_, _, rfl, rfl, (by show 3 ≤ sizeLine; decide), fun p hp => h _ _ (same_new hp _) (.inl (.inl upd_same))⟩) (paT (t := (2, 0, 1)) (pe_tup (pa_cons pe_int (pa_cons pe_int (pa_cons pe_int pa_nil)))) (fun σ H Q h => ⟨(by show 3 ≤ sizeLine; decide), fun p hp => h _ _ (same_new hp _) (.inl (.inl upd_same))⟩) (paT (t := (1, 0, 2)) (pe_tup (pa_cons pe_int (pa_cons pe_int (pa_cons pe_int pa_nil)))) (fun σ H Q h => ⟨(by show 3 ≤ sizeLine; decide), fun p hp => h _ _ (same_new hp _) (.inl (.inl upd_same))⟩) (paT (t := (1, 1, 1)) (pe_tup (pa_cons pe_int (pa_cons pe_int (pa_cons pe_int pa_nil)))) (fun σ H Q h => ⟨(by show 3 ≤ sizeLine; decide), fun p hp => h _ _ (same_new hp _) (.inl (.inl upd_same))⟩) (paT (t := (3, 4, 5)) (pe_tup (pa_cons pe_int (pa_cons pe_int (pa_cons pe_int pa_nil)))) (fun σ H Q h => ⟨(by show 3 ≤ sizeLine; decide), fun p hp => h _ _ (same_new hp _) (.inl (.inl upd_same))⟩) paT0))))))))))
    (pss_cons (ps_set (i := 1) sc_law_turn.nd rfl (by first | exact Or.inl rfl | exact Or.inr rfl) (pe_op op_cat (pv 1) (pe_lst (paT (t := (0, 2, 1)) (pe_tup (pa_cons pe_int (pa_cons pe_int (pa_cons pe_int pa_nil)))) (fun σ H Q h => ⟨(by show 3 ≤ sizeLine; decide), fun p hp => h _ _ (same_new hp _) (.inl (.inl upd_same))⟩) (paT (t := (-1, 0, 3)) (pe_tup (pa_cons (pe_op op_sub pe_int pe_int) (pa_cons pe_int (pa_cons pe_int pa_nil)))) (fun σ H Q h => ⟨_, _, rfl, rfl, (by show 3 ≤ sizeLine; decide), fun p hp => h _ _ (same_new hp _) (.inl (.inl upd_same))⟩) (paT (t := (1, -1, 2)) (pe_tup (pa_cons pe_int (pa_cons (pe_op op_sub pe_int pe_int) (pa_cons pe_int pa_nil)))) (fun σ H Q h => ⟨_, _, rfl, rfl, (by show 3 ≤ sizeLine; decide), fun p hp => h _ _ (same_new hp _) (.inl (.inl upd_same))⟩) (paT (t := (2, 1, 1)) (pe_tup (pa_cons pe_int (pa_cons pe_int (pa_cons pe_int pa_nil)))) (fun σ H Q h => ⟨(by show 3 ≤ sizeLine; decide), fun p hp => h _ _ (same_new hp _) (.inl (.inl upd_same))⟩) (paT (t := (-4, 3, 5)) (pe_tup (pa_cons (pe_op op_sub pe_int pe_int) (pa_cons pe_int (pa_cons pe_int pa_nil)))) (fun σ H Q h => ⟨_, _, rfl, rfl, (by show 3 ≤ sizeLine; decide), fun p hp => h _ _ (same_new hp _) (.inl (.inl upd_same))⟩) paT0))))))))
    (pss_one (ps_ret (pe_ix ix_list (pv 1) (pc d_law_below (hr.mono (by decide)) (pa_cons (pv 0) (pa_cons pe_int pa_nil))) (fun _ _ => rfl)))))), ?_⟩
  intro H1 ps s1 h1
  have l1 : (ps.map V.ref).length = 8 := by rw [List.length_map, Paired.length h1]; rfl
  refine ⟨by rw [l1]; decide, fun a ha => ?_⟩
  refine ⟨_, rfl, ?_⟩
  intro H2 qs s2 h2
  have l2 : (qs.map V.ref).length = 5 := by rw [List.length_map, Paired.length h2]; rfl
  refine ⟨by rw [l2]; decide, fun b hb => ?_⟩
  have sa := same_new ha (.lst (ps.map V.ref))
  have sb := same_new hb (.lst (qs.map V.ref))
  refine ⟨a, b, _, _, rfl, rfl, sb _ _ (s2 _ _ upd_same), upd_same, by rw [l1, l2]; decide, fun c hc => ?_⟩
  have sc := same_new hc (.lst (ps.map V.ref ++ qs.map V.ref))
  have sAll := s1.trans (sa.trans (s2.trans (sb.trans sc)))
  refine ⟨_, rfl, _, rfl, d, _, st, rfl, by decide, by decide, sAll _ _ hd, ok, fun st' r ok' r0 r1 => ?_⟩
  have hcd : c ≠ d := fun z => by
    have := sb _ _ (s2 _ _ (sa _ _ (s1 _ _ hd)))
    rw [← z, hc] at this
    cases this
  have pr : Paired (fun p t => SqT K (upd (upd (upd H2 b (.lst (qs.map V.ref))) c (.lst (ps.map V.ref ++ qs.map V.ref))) d (.lst (encD st'))) p (v3 t)) (ps ++ qs) turns13 :=
    paired_app (paired_imp (fun p t z => keep_T (same_T (sa.trans (s2.trans (sb.trans sc))) z) (sAll _ _ hd) keep_upd) h1) (paired_imp (fun p t z => keep_T (same_T (sb.trans sc) z) (sAll _ _ hd) keep_upd) h2)
  obtain ⟨p, t, e1, e2, e3⟩ := paired_at pr (i := r.toNat) (by show r.toNat < 13; omega)
  refine ⟨c, _, _, _, rfl, rfl, .inl (.inl ?_), at_map (ps := ps ++ qs) e1 (by omega), ?_⟩
  · rw [upd_ne hcd, upd_same, List.map_append]
  · exact q _ st' _ ((Keep.of sAll).trans keep_upd) upd_same ok' ⟨t, ⟨p, rfl, e3⟩, turns_in t e2⟩
theorem ok_law_spot {f : Addr} {fd : FuncData} (d_law_below : D P w K mg base "_law_below" 1 sp_below) (d_law_lowest : D P w K mg base "_law_lowest" 2 (sp_low K)) (F : Fun K "_law_spot" "_law_spot" s_law_spot f fd) : FnOk P w K mg base CX0 3 f fd ["_law_d"] (sp_draw fun H r => ∃ t, IsT K H r t ∧ SpotIn t) := by
  refine F.ok sc_law_spot (fun vs H Q E h => ?_) (fun cdv A outer s H vs Q E hr h => ?_)
  · obtain ⟨d, st, rfl, _⟩ := h
    rfl
  obtain ⟨d, st, rfl, hd, ok, q⟩ := h
  refine ⟨_, (pss_cons (ps_set (i := 1) sc_law_spot.nd rfl (by first | exact Or.inl rfl | exact Or.inr rfl) (pe_ix ix_list (pe_lst (pa_cons pe_int (pa_cons pe_int (pa_cons pe_int (pa_cons pe_int (pa_cons pe_int (pa_cons pe_int pa_nil))))))) (pc d_law_below (hr.mono (by decide)) (pa_cons (pv 0) (pa_cons pe_int pa_nil))) (fun _ _ => rfl)))
    (pss_one (ps_ret (pc d_law_lowest (hr.mono (by decide)) (pa_cons (pe_op op_sub (pc d_law_below (hr.mono (by decide)) (pa_cons (pv 0) (pa_cons pe_int pa_nil))) pe_int) (pa_cons (pe_op op_sub (pc d_law_below (hr.mono (by decide)) (pa_cons (pv 0) (pa_cons pe_int pa_nil))) pe_int) (pa_cons (pv 1) pa_nil))))))), ?_⟩
  refine ⟨(by show 6 ≤ sizeLine; decide), fun a ha => ?_⟩
  have sa := same_new ha (.lst [.int 1, .int 1, .int 1, .int 2, .int 3, .int 4])
  refine ⟨_, rfl, d, _, st, rfl, by decide, by decide, sa _ _ hd, ok, fun st1 r ok1 r0 r1 => ?_⟩
  have had : a ≠ d := fun z => by rw [← z, ha] at hd; cases hd
  obtain ⟨c, hc, c1, c4⟩ : ∃ c : Int, atI [V.int 1, .int 1, .int 1, .int 2, .int 3, .int 4] r = some (.int c) ∧ 1 ≤ c ∧ c ≤ 4 := by
    have : r = 0 ∨ r = 1 ∨ r = 2 ∨ r = 3 ∨ r = 4 ∨ r = 5 := by omega
    rcases this with rfl | rfl | rfl | rfl | rfl | rfl
    · exact ⟨1, by rfl, by decide, by decide⟩
    · exact ⟨1, by rfl, by decide, by decide⟩
    · exact ⟨1, by rfl, by decide, by decide⟩
    · exact ⟨2, by rfl, by decide, by decide⟩
    · exact ⟨3, by rfl, by decide, by decide⟩
    · exact ⟨4, by rfl, by decide, by decide⟩
  refine ⟨a, _, _, _, rfl, rfl, .inl (.inl (by rw [upd_ne had]; exact upd_same)), hc, ?_⟩
  refine ⟨_, rfl, d, _, st1, rfl, by decide, by decide, upd_same, ok1, fun st2 x ok2 x0 x1 => ?_⟩
  refine ⟨_, _, rfl, rfl, _, rfl, d, _, st2, rfl, by decide, by decide, upd_same, ok2, fun st3 y ok3 y0 y1 => ?_⟩
  refine ⟨_, _, rfl, rfl, _, rfl, _, _, _, rfl, (by omega), (show c.natAbs < 2 ^ 8500 from Nat.lt_of_lt_of_le (show c.natAbs < 2 ^ 3 by omega) (pw (by decide))), fun H' r' s' i => ?_⟩
  refine q _ st3 _ ((Keep.of sa).trans (keep_upd.trans (keep_upd.trans (keep_upd.trans (Keep.of s'))))) (s' _ _ upd_same) ok3 ⟨_, i, low_ok (by omega), low_B (by omega) ?_ ?_ ?_⟩ <;> show _ < 8 <;> omega
end
end My

namespace My
open PySem L2 Mth

section
variable {P : Program} {w : World} {K : PySem.W.Frag} {mg : Str → Option Value} {base : Heap}
/-- a copy as it is told: (turn, shift, mirrored) -/
def IsD (K : PySem.W.Frag) (H : Hp) (v : V) (c : Cp) : Prop := ∃ p a b, v = .ref p ∧ SqT K H p [.ref a, .ref b, .bl c.m] ∧ SqT K H a (v3 c.t) ∧ SqT K H b (v3 c.s)
theorem IsD.same {H H' : Hp} {v : V} {c : Cp} (h : IsD K H v c) (e : Same H H') : IsD K H' v c := by
  obtain ⟨p, a, b, rfl, h1, h2, h3⟩ := h
  exact ⟨p, a, b, rfl, same_T e h1, same_T e h2, same_T e h3⟩
theorem IsD.keep {H H' : Hp} {v : V} {c : Cp} {d : Addr} {ys : List V} (h : IsD K H v c) (hd : H d = some (.lst ys)) (e : Keep d H H') : IsD K H' v c := by
  obtain ⟨p, a, b, rfl, h1, h2, h3⟩ := h
  exact ⟨p, a, b, rfl, keep_T h1 hd e, keep_T h2 hd e, keep_T h3 hd e⟩
structure CopyIn (c : Cp) : Prop where
  ok : CpOk c
  bd : BC 3 c
  mem : c.t ∈ turns13
def sp_lcar (K : PySem.W.Frag) : Sp := fun vs H Q _ => ∃ vc c vz z, vs = [vc, vz] ∧ IsD K H vc c ∧ CpOk c ∧ BC 1900 c ∧ IsT K H vz z ∧ Ok z ∧ B 1900 z ∧ ∀ H' r, Same H H' → IsT K H' r (ap c z) → Q r H'
/-! ### equal at every level -/
theorem DpAll.get {H : Hp} : ∀ {xs : List V} {ds : List PyData}, DpAll K H xs ds → xs.length = ds.length ∧ ∀ (i : Nat) x, xs[i]? = some x → ∃ d, ds[i]? = some d ∧ Dp K H x d
  | _, _, .nil => ⟨rfl, fun i x h => by simp at h⟩
  | _, _, .cons h t => by
    obtain ⟨e, g⟩ := DpAll.get t
    refine ⟨by rw [List.length_cons, List.length_cons, e], fun i x hx => ?_⟩
    cases i with
    | zero => exact ⟨_, rfl, by simp at hx; rw [← hx]; exact h⟩
    | succ i => exact g i x (by simpa using hx)
mutual
theorem Dp.same {H H' : Hp} (s : Same H H') : ∀ {v : V} {d : PyData}, Dp K H v d → Dp K H' v d
  | _, _, .non => .non
  | _, _, .bl b => .bl b
  | _, _, .int i => .int i
  | _, _, .str x => .str x
  | _, _, .lst h t => .lst (s.seq h) (DpAll.same s t)
  | _, _, .tup h t => .tup (same_T s h) (DpAll.same s t)
theorem DpAll.same {H H' : Hp} (s : Same H H') : ∀ {vs : List V} {ds : List PyData}, DpAll K H vs ds → DpAll K H' vs ds
  | _, _, .nil => .nil
  | _, _, .cons h t => .cons (Dp.same s h) (DpAll.same s t)
end
/-- how deep -/
def Deep : Nat → PyData → Prop
  | 0, _ => False
  | n + 1, .list ds => ds.length ≤ 1000 ∧ ∀ d ∈ ds, Deep n d
  | n + 1, .tuple ds => ds.length ≤ 1000 ∧ ∀ d ∈ ds, Deep n d
  | _ + 1, .dict _ => False
  | _ + 1, _ => True
def sp_equal (K : PySem.W.Frag) (n : Nat) : Sp := fun vs H Q _ => ∃ va vb d, vs = [va, vb] ∧ Dp K H va d ∧ Dp K H vb d ∧ Deep n d ∧ ∀ H', Same H H' → Q (.bl true) H'
theorem ty_L {H : Hp} {a : Addr} {xs : List V} (h : SqL K H a xs) : TyX K H (.ref a) (.type "list") := by
  rcases h with (h | ⟨o, h⟩) | ⟨o, its, n, h, c, _⟩
  · exact .base (.lst h)
  · exact .base (.frz h)
  · exact .kList h c
end
end My

namespace My
open PySem L2 Mth
section
variable {K : PySem.W.Frag}
theorem IsC.keep {C : Addr} {H H' : Hp} {v : V} {c : Cp} {d : Addr} {ys : List V} (h : IsC K C H v c) (hd : H d = some (.lst ys)) (e : Keep d H H') : IsC K C H' v c := by
  obtain ⟨p, dx, a, b, rfl, h1, h2, h3⟩ := h
  exact ⟨p, dx, a, b, rfl, e _ _ (ne_of h1 hd (by intro z; cases z)) h1, keep_T h2 hd e, keep_T h3 hd e⟩
def sp_copyOf (K : PySem.W.Frag) (C : Addr) : Sp := fun vs H Q _ => ∃ vc c, vs = [vc] ∧ IsD K H vc c ∧ CpOk c ∧ ∀ H' r, Same H H' → IsC K C H' r c → Q r H'
end
end My

namespace My
open PySem L2 Mth
section
variable {K : PySem.W.Frag}
theorem asg_of {te : TE} {g : TG} {u : TS} {D : Ends} {σ : L2.St} {H : Hp} (h : te σ H fun x H1 => g x σ H1 (u D)) : tSeq (tAsg te g) u D σ H := h
theorem gn_of {i : Nat} {v : V} {σ : L2.St} {H : Hp} {Q : L2.St → Hp → Prop} (h : Q (σ.set i (some v)) H) : gName i v σ H Q := h
theorem nil_of {σ : L2.St} {H : Hp} {Q : List V → Hp → Prop} (h : Q [] H) : tNil σ H Q := h
theorem te_join {t : TE} {σ : L2.St} {H : Hp} {Q : VK} (W : V → Hp → Prop) (k : ∀ v H', W v H' → Q v H') (h : ∀ Q' : VK, (∀ v H', W v H' → Q' v H') → t σ H Q') : t σ H Q := h Q k
theorem seq_assoc {A B C : TS} {D : Ends} {σ : L2.St} {H : Hp} (h : tSeq (tSeq A B) C D σ H) : tSeq A (tSeq B C) D σ H := h
end
end My

namespace My
open PySem L2 Mth
section
variable {K : PySem.W.Frag}
theorem t3_of {H : Hp} {Q : VK} {t : T3} (q : ∀ H' r, Same H H' → IsT K H' r t → Q r H') : ∀ p, H p = none → Q (.ref p) (upd H p (.tup (v3 t))) := fun p hp => q _ _ (same_new hp _) ⟨p, rfl, .inl (.inl upd_same)⟩
theorem eqv2 (a b : Int) : PyData.eqv (.tuple [.int a, .int b]) (.tuple [.int a, .int b]) = true := by
  show ((a == a) && ((b == b) && true)) = true
  simp
theorem Dp2 {H : Hp} {p : Addr} {a b : Int} (h : SqT K H p [.int a, .int b]) : Dp K H (.ref p) (.tuple [.int a, .int b]) := .tup h (.cons (.int _) (.cons (.int _) .nil))
theorem IsT.dp {H : Hp} {v : V} {t : T3} (h : IsT K H v t) : Dp K H v (d3 t) := by
  obtain ⟨p, rfl, q⟩ := h
  exact Dp3 q
theorem deep3 (n : Nat) (t : T3) : Deep (n + 2) (d3 t) := by
  refine ⟨(by show 3 ≤ 1000; decide), fun d hd => ?_⟩
  simp only [List.mem_cons, List.mem_nil_iff, or_false] at hd
  rcases hd with rfl | rfl | rfl <;> trivial
theorem deep2 (n : Nat) (a b : Int) : Deep (n + 2) (.tuple [.int a, .int b]) := by
  refine ⟨(by show 2 ≤ 1000; decide), fun d hd => ?_⟩
  simp only [List.mem_cons, List.mem_nil_iff, or_false] at hd
  rcases hd with rfl | rfl <;> trivial
/-- equal at every level, of two spots -/
theorem eq3_of {H : Hp} {Q : VK} {va vb : V} {a b : T3} {n : Nat} (ia : IsT K H va a) (ib : IsT K H vb b) (e : a = b) (q : ∀ H', Same H H' → Q (.bl true) H') : sp_equal K (n + 2) [va, vb] H Q E0 := by
  subst e
  exact ⟨va, vb, d3 a, rfl, ia.dp, ib.dp, deep3 n a, q⟩
end
end My

namespace My
open PySem L2 Mth
open PyProof.Rows PySem.Spec
section
variable {P : Program} {w : World} {K : PySem.W.Frag} {mg : Str → Option Value} {base : Heap}
/-! ### the class's operations as its users see them -/
structure MRs (P : Program) (w : World) (K : PySem.W.Frag) (mg : Str → Option Value) (base : Heap) (C : Addr) : Prop where
  sf : PySem.W.selfFirst K C = true
  ex : ∃ f, FnR P w K mg base CX0 6 f (sp_jn K C) ∧ PySem.W.findIn K (.ref C) "__rshift__" = some (some (.ref f)) ∧ PySem.W.isFn K (.ref f) = true
structure MIv (P : Program) (w : World) (K : PySem.W.Frag) (mg : Str → Option Value) (base : Heap) (C : Addr) : Prop where
  ex : ∃ f, FnR P w K mg base CX0 6 f (sp_bk K C) ∧ PySem.W.findIn K (.ref C) "__invert__" = some (some (.ref f)) ∧ PySem.W.isFn K (.ref f) = true
structure MEq (P : Program) (w : World) (K : PySem.W.Frag) (mg : Str → Option Value) (base : Heap) (C : Addr) : Prop where
  ex : ∃ f, FnR P w K mg base CX0 1 f (sp_ceq K C) ∧ PySem.W.findIn K (.ref C) "__eq__" = some (some (.ref f)) ∧ PySem.W.isFn K (.ref f) = true
structure MCa (P : Program) (w : World) (K : PySem.W.Frag) (mg : Str → Option Value) (base : Heap) (C : Addr) : Prop where
  ex : ∃ f, FnR P w K mg base CX0 5 f (sp_ap K C) ∧ StX.CallO K C f
structure MPt (P : Program) (w : World) (K : PySem.W.Frag) (mg : Str → Option Value) (base : Heap) (C : Addr) : Prop where
  cl : Cls K C
  ex : ∃ f fd p, FnOk P w K mg base CX0 1 f fd ["self"] (sp_get K C fun c H r => IsT K H r c.t) ∧ Binds K fd ["self"] [] ∧ PropOf K C "turn" p f
structure MPs (P : Program) (w : World) (K : PySem.W.Frag) (mg : Str → Option Value) (base : Heap) (C : Addr) : Prop where
  cl : Cls K C
  ex : ∃ f fd p, FnOk P w K mg base CX0 1 f fd ["self"] (sp_get K C fun c H r => IsT K H r c.s) ∧ Binds K fd ["self"] [] ∧ PropOf K C "shift" p f
structure MPm (P : Program) (w : World) (K : PySem.W.Frag) (mg : Str → Option Value) (base : Heap) (C : Addr) : Prop where
  cl : Cls K C
  ex : ∃ f fd p, FnOk P w K mg base CX0 1 f fd ["self"] (sp_get K C fun c H r => r = .bl c.m) ∧ Binds K fd ["self"] [] ∧ PropOf K C "mirrored" p f
structure MPg (P : Program) (w : World) (K : PySem.W.Frag) (mg : Str → Option Value) (base : Heap) (C : Addr) : Prop where
  cl : Cls K C
  ex : ∃ f fd p, FnOk P w K mg base CX0 3 f fd ["self"] (sp_growth K C) ∧ Binds K fd ["self"] [] ∧ PropOf K C "growth" p f
section
variable {X : Cx} {C : Addr} {fe e : Expr} {es : List Expr} {te tf : TE} {t : TA} {pos : Pos}
theorem op_rsh (M : MRs X.prog X.w X.K X.mg X.base C) (hr : Room 6 X.A) : OpR X (binaryOp .RShift) (rOwn2 C (sp_jn X.K C)) := by
  obtain ⟨f, F, h1, h2⟩ := M.ex
  exact op_own (op := .RShift) F hr M.sf h1 h2
theorem un_inv' (M : MIv X.prog X.w X.K X.mg X.base C) (hr : Room 6 X.A) : UnR X (unaryOp .Invert) (rOwn1 C (sp_bk X.K C)) := by
  obtain ⟨f, F, h1, h2⟩ := M.ex
  exact un_own F hr h1 h2
theorem op_ceq (M : MEq X.prog X.w X.K X.mg X.base C) (hr : Room 1 X.A) : OpR X (compareOp .Eq) (rOwn2 C (sp_ceq X.K C)) := by
  obtain ⟨f, F, h1, h2⟩ := M.ex
  exact eq_own F hr h1 h2
def tAp (K : PySem.W.Frag) (C : Addr) (tf : TE) (t : TA) : TE := fun σ H Q => tf σ H fun y H1 => ∃ a, y = V.ref a ∧ t σ H1 fun vs H2 => (∃ dx fs, H2 a = some (.ins C dx fs)) ∧ sp_ap K C (V.ref a :: vs) H2 Q E0
theorem pe_ap (M : MCa X.prog X.w X.K X.mg X.base C) (hr : Room 5 X.A) (hf : PE X fe tf) (ha : PA X (e :: es) t)
    (ht : eval (.Call fe (e :: es) [] pos) X.env = (do callWith pos (← eval fe X.env) [] (backTo pos (starEach (e :: es) X.env)) (backToKw pos (keywordEach [] X.env))) := by rfl)
    (he : starEach (e :: es) X.env = (false, eval e X.env) :: starEach es X.env := by rfl) (hpl : (backTo pos (starEach es X.env)).any (·.1) = false := by rfl) : PE X (.Call fe (e :: es) [] pos) (tAp X.K C tf t) := by
  obtain ⟨g, F, c⟩ := M.ex
  refine ⟨fun pins s σ H Q I h => ?_⟩
  refine Call_ (thn (hf.run pins s σ H _ I h) fun u s1 ⟨y, H1, I1, ry, a, ey, q⟩ => ?_) ht
  subst ey
  obtain rfl : u = Value.ref a := ry
  refine StX.callO_with (thn (ha.run pos pins s1 σ H1 _ I1 q) fun us s2 ⟨vs, H2, I2, r, hi, q2⟩ => ?_) he hpl
  have hi' : StX.InsC X H2 a C := .inr hi
  obtain ⟨ox, od, J, hd⟩ := StX.insC_at I2 hi'
  exact ⟨⟨C, ox, od, J, hd⟩, StX.run_callO c F hr pass0 I2 hi' r q2⟩
theorem pe_turn (M : MPt X.prog X.w X.K X.mg X.base C) (hr : Room 2 X.A) (he : PE X e te) (hab : attributeBase e "turn" X.env (eval e X.env) = eval e X.env := by rfl) : PE X (.Attribute e "turn" pos) (tProp C (sp_get X.K C fun c H r => IsT X.K H r c.t) [] E0 te) := by
  obtain ⟨f, fd, p, F, b, hp⟩ := M.ex
  exact pe_prop he M.cl hp F hr b .nil pass0 hab
theorem pe_shift (M : MPs X.prog X.w X.K X.mg X.base C) (hr : Room 2 X.A) (he : PE X e te) (hab : attributeBase e "shift" X.env (eval e X.env) = eval e X.env := by rfl) : PE X (.Attribute e "shift" pos) (tProp C (sp_get X.K C fun c H r => IsT X.K H r c.s) [] E0 te) := by
  obtain ⟨f, fd, p, F, b, hp⟩ := M.ex
  exact pe_prop he M.cl hp F hr b .nil pass0 hab
theorem pe_mirr (M : MPm X.prog X.w X.K X.mg X.base C) (hr : Room 2 X.A) (he : PE X e te) (hab : attributeBase e "mirrored" X.env (eval e X.env) = eval e X.env := by rfl) : PE X (.Attribute e "mirrored" pos) (tProp C (sp_get X.K C fun c _ r => r = .bl c.m) [] E0 te) := by
  obtain ⟨f, fd, p, F, b, hp⟩ := M.ex
  exact pe_prop he M.cl hp F hr b .nil pass0 hab
theorem pe_grow (M : MPg X.prog X.w X.K X.mg X.base C) (hr : Room 4 X.A) (he : PE X e te) (hab : attributeBase e "growth" X.env (eval e X.env) = eval e X.env := by rfl) : PE X (.Attribute e "growth" pos) (tProp C (sp_growth X.K C) [] E0 te) := by
  obtain ⟨f, fd, p, F, b, hp⟩ := M.ex
  exact pe_prop he M.cl hp F hr b .nil pass0 hab
end
/-! ### readings of these, from what is known of the objects -/
theorem prop_of {C : Addr} {H : Hp} {Q : VK} {sp : Sp} {v : V} {c : Cp} (i : IsC K C H v c) (q : sp [v] H Q E0) : ∃ a dx fs, v = .ref a ∧ H a = some (.ins C dx fs) ∧ sp (.ref a :: []) H Q E0 := by
  obtain ⟨p, dx, a, b, rfl, h1, _⟩ := i
  exact ⟨p, dx, _, rfl, h1, q⟩
theorem ap_of {C : Addr} {H2 : Hp} {Q : VK} {vz : V} {a : Addr} {c : Cp} {z : T3} (i : IsC K C H2 (.ref a) c) (ok : CpOk c) (bc : BC 1900 c) (iz : IsT K H2 vz z) (oz : Ok z) (bz : B 1900 z) (q : ∀ H' r, Same H2 H' → IsT K H' r (ap c z) → Q r H') :
    (∃ dx fs, H2 a = some (.ins C dx fs)) ∧ sp_ap K C [.ref a, vz] H2 Q E0 := by
  have i' := i
  obtain ⟨p, dx, _, _, e, h1, _⟩ := i
  cases e
  exact ⟨⟨dx, _, h1⟩, _, c, _, z, rfl, i', ok, bc, iz, oz, bz, q⟩
theorem jn_of {C : Addr} {H : Hp} {Q : VK} {x y : V} {a b : Cp} (ix : IsC K C H x a) (iy : IsC K C H y b) (oa : CpOk a) (ob : CpOk b) (ba : BC 1900 a) (bb : BC 1900 b) (q : ∀ H' r, Same H H' → IsC K C H' r (jn a b) → Q r H') : rOwn2 C (sp_jn K C) x y H Q :=
  own2_of ix iy ⟨_, a, _, b, rfl, ix, iy, oa, ob, ba, bb, q⟩
theorem bk_of {C : Addr} {H : Hp} {Q : VK} {x : V} {a : Cp} (ix : IsC K C H x a) (oa : CpOk a) (ba : BC 1900 a) (q : ∀ H' r, Same H H' → IsC K C H' r (bk a) → Q r H') : rOwn1 C (sp_bk K C) x H Q :=
  own1_of ix ⟨_, a, rfl, ix, oa, ba, q⟩
theorem ceq_of {C : Addr} {H : Hp} {Q : VK} {x y : V} {a b : Cp} (ix : IsC K C H x a) (iy : IsC K C H y b) (e : a = b) (q : Q (.bl true) H) : rOwn2 C (sp_ceq K C) x y H Q :=
  own2_of ix iy ⟨_, a, _, b, rfl, ix, iy, by rw [ceq_iff.mpr e]; exact q⟩
/-- a copy made, whatever is wanted of it -/
theorem mk_of2 {C : Addr} {H : Hp} {Qf : Addr → VK} {vt vs : V} {m : Bool} {t s : T3} (it : IsT K H vt t) (is : IsT K H vs s) (ot : Ok t) (nt : Nz t) (os : Ok s) (q : ∀ H' x, Same H H' → IsC K C H' (.ref x) ⟨t, s, m⟩ → Qf x .non H') :
    ∀ x dx, H x = none → H dx = none → dx ≠ x → sp_init K C [.ref x, vt, vs, .bl m] (upd (upd H dx (.own x)) x (.ins C dx [])) (Qf x) E0 := by
  intro x dx hx hd _
  refine ⟨H, x, dx, vt, vs, m, t, s, rfl, fun c o e => ?_, hx, upd_same, it, is, ot, nt, os, fun H' s' i => q _ _ s' i⟩
  rw [upd_ne (ne_of_none e hx), upd_ne (ne_of_none e hd)]
  exact e
theorem BC.mono {n m : Nat} {c : Cp} (b : BC n c) (h : n ≤ m) : BC m c := ⟨b.1.mono h, b.2.mono h⟩
theorem bk_BC {n : Nat} {c : Cp} (ok : CpOk c) (b : BC n c) : BC (3 * n + 2) (bk c) :=
  ⟨(face_B (inv_B ok.n b.1) _).mono (by omega), (face_B (neg_B (times_B (inv_ok ok.n) ok.s (inv_B ok.n b.1) b.2)) _).mono (by omega)⟩
theorem jn_BC {n m : Nat} {a b : Cp} (oa : CpOk a) (ob : CpOk b) (ba : BC n a) (bb : BC m b) : BC (n + 2 * m + 2) (jn a b) :=
  ⟨(times_B ob.t (face_ok oa.t _) bb.1 (face_B ba.1 _)).mono (by omega), (car_B ob.t ob.s oa.s bb.1 bb.2 ba.2).mono (by omega)⟩
theorem ap_B {n m : Nat} {c : Cp} {z : T3} (ok : CpOk c) (oz : Ok z) (b : BC n c) (bz : B m z) : B (2 * n + m + 2) (ap c z) := (car_B ok.t ok.s oz b.1 b.2 bz).mono (by omega)
theorem still_BC : BC 3 still := by unfold BC; exact ⟨by decide, by decide⟩
theorem gr3_B {t : T3} (o : Ok t) (b : B 3 t) : B 4000 (gr3 t) :=
  B.mono (n := 7) (low_B (mul_ne o.ne o.ne) (add_lt (mul_lt b.1 b.1) (mul_lt b.2.1 b.2.1)) (by decide) (up_lt (by decide) (mul_lt b.2.2 b.2.2))) (by decide)
end
end My

namespace My
open PySem L2 Mth
section
variable {P : Program} {w : World} {K : PySem.W.Frag} {mg : Str → Option Value} {base : Heap}
theorem bind_init {f : Addr} {fd : FuncData} (F : FunD K "__init__" "Copy.__init__" (defArgs s_Copy___init__) (defBody s_Copy___init__) (defScope s_Copy___init__) [] [("mirrored", .bl false)] f fd) :
    (∃ ds, Vals [.bl false] ds ∧ Binds K fd ["self", "turn", "shift", "mirrored"] ds) ∧ ∃ mv : List Value, KBn K fd ["self", "turn", "shift", "mirrored"] 3 ["mirrored"] (fun us ws => us ++ ws) (fun vs zs => vs ++ zs) := by
  refine ⟨F.binds0 (ps := ["self", "turn", "shift", "mirrored"]) 3 (by intro z; cases z) rfl fun D doc pm an cdv ct us ks h1 h2 => ?_, ?_⟩
  · match us, ks, h1, h2 with
    | [x, y, z], [k], _, _ => exact ⟨_, _, _, _, _, _, rfl, rfl, rfl⟩
  · refine F.kbinds0 (ps := ["self", "turn", "shift", "mirrored"]) 3 ["mirrored"] [] (fun us _ ws => us ++ ws) (by intro z; cases z) (fun q hq => by cases hq) (fun r1 _ r3 => r1.append r3) fun D doc pm an cdv ct us mv ws h1 h2 h3 => ?_
    match us, mv, ws, h1, h2, h3 with
    | [x, y, z], [], [k], _, _, _ => rfl
end
end My

namespace My
open PySem L2 Mth
section
theorem pimp {α β : Type} {R S : α → β → Prop} (h : ∀ p t, R p t → S p t) : ∀ {ps : List α} {ts : List β}, Paired R ps ts → Paired S ps ts
  | _, _, .nil => .nil
  | _, _, .cons r t => .cons (h _ _ r) (pimp h t)
theorem papp {α β : Type} {R : α → β → Prop} : ∀ {ps qs : List α} {ts us : List β}, Paired R ps ts → Paired R qs us → Paired R (ps ++ qs) (ts ++ us)
  | _, _, _, _, .nil, k => k
  | _, _, _, _, .cons r t, k => .cons r (papp t k)
theorem pget {α β : Type} {R : α → β → Prop} : ∀ {ps : List α} {ts : List β}, Paired R ps ts → ∀ {i : Nat} {p : α}, ps[i]? = some p → ∃ t, ts[i]? = some t ∧ R p t
  | _, _, .nil, i, p, h => by simp at h
  | _, _, .cons r t, 0, p, h => ⟨_, rfl, by simp at h; rw [← h]; exact r⟩
  | _, _, .cons r t, i + 1, p, h => by
    obtain ⟨u, h1, h2⟩ := pget t (i := i) (p := p) (by simpa using h)
    exact ⟨u, by simpa using h1, h2⟩
theorem prev {α β : Type} {R : α → β → Prop} {l : List α} {m : List β} (h : Paired R l m) : Paired R l.reverse m.reverse := by
  induction h with
  | nil => exact .nil
  | cons r _ ih => rw [List.reverse_cons, List.reverse_cons]; exact papp ih (.cons r .nil)
theorem pdrop {α β : Type} {R : α → β → Prop} {l : List α} {m : List β} (h : Paired R l m) : ∀ n, Paired R (l.drop n) (m.drop n) := by
  induction h with
  | nil => intro n; rw [List.drop_nil, List.drop_nil]; exact .nil
  | cons r t ih =>
    intro n
    cases n with
    | zero => exact .cons r t
    | succ n => exact ih n
theorem ptake {α β : Type} {R : α → β → Prop} {l : List α} {m : List β} (h : Paired R l m) : ∀ n, Paired R (l.take n) (m.take n) := by
  induction h with
  | nil => intro n; rw [List.take_nil, List.take_nil]; exact .nil
  | cons r t ih =>
    intro n
    cases n with
    | zero => exact .nil
    | succ n => exact .cons r (ih n)
end
end My

namespace My
open PySem L2 Mth
section
variable {K : PySem.W.Frag}
/-- a list of told copies, and of copies -/
def AllD (K : PySem.W.Frag) (H : Hp) (vs : List V) (cs : List Cp) : Prop := Paired (fun v c => IsD K H v c) vs cs
def AllC (K : PySem.W.Frag) (C : Addr) (H : Hp) (vs : List V) (cs : List Cp) : Prop := Paired (fun v c => IsC K C H v c) vs cs
theorem AllD.same {H H' : Hp} {vs : List V} {cs : List Cp} (h : AllD K H vs cs) (s : Same H H') : AllD K H' vs cs := pimp (fun _ _ i => i.same s) h
theorem AllC.same {C : Addr} {H H' : Hp} {vs : List V} {cs : List Cp} (h : AllC K C H vs cs) (s : Same H H') : AllC K C H' vs cs := pimp (fun _ _ i => i.same s) h
theorem AllD.keep {H H' : Hp} {vs : List V} {cs : List Cp} {d : Addr} {ys : List V} (h : AllD K H vs cs) (hd : H d = some (.lst ys)) (k : Keep d H H') : AllD K H' vs cs := pimp (fun _ _ i => i.keep hd k) h
theorem AllC.keep {C : Addr} {H H' : Hp} {vs : List V} {cs : List Cp} {d : Addr} {ys : List V} (h : AllC K C H vs cs) (hd : H d = some (.lst ys)) (k : Keep d H H') : AllC K C H' vs cs := pimp (fun _ _ i => i.keep hd k) h
theorem keep_new {d p : Addr} {H : Hp} {o : HO} (h : H p = none) : Keep d H (upd H p o) := Keep.of (same_new h o)
/-- the tolds that a comprehension over range(n) draws: the heap behind it -/
structure Drawn (K : PySem.W.Frag) (d L : Addr) (H H' : Hp) (n : Nat) : Prop where
  ex : ∃ st vs cs, Keep d H H' ∧ H' d = some (.lst (encD st)) ∧ SrcOk st ∧ H' L = some (.lst vs) ∧ vs.length = n ∧ AllD K H' vs cs ∧ ∀ c ∈ cs, CopyIn c
theorem drawn_start {d L : Addr} {H : Hp} {st : Src} (hd : H d = some (.lst (encD st))) (ok : SrcOk st) (hL : H L = none) : Drawn K d L H (upd H L (.lst [])) 0 :=
  ⟨st, [], [], keep_new hL, (same_new hL _) _ _ hd, ok, upd_same, rfl, .nil, fun c hc => by cases hc⟩
theorem drawn_more {d L : Addr} {H H1 H2 : Hp} {n : Nat} {st st2 : Src} {v : V} {c : Cp} {vs : List V} {cs : List Cp} (hL : H L = none) (hdL : L ≠ d) (k1 : Keep d H H1) (hd1 : H1 d = some (.lst (encD st))) (h1 : H1 L = some (.lst vs)) (hn : vs.length = n) (a : AllD K H1 vs cs) (g : ∀ c ∈ cs, CopyIn c)
    (k2 : Keep d H1 H2) (hd2 : H2 d = some (.lst (encD st2))) (ok2 : SrcOk st2) (i : IsD K H2 v c) (ic : CopyIn c) : Drawn K d L H (upd H2 L (.lst (vs ++ [v]))) (n + 1) := by
  have h2 : H2 L = some (.lst vs) := k2 _ _ hdL h1
  have a2 : AllD K H2 vs cs := a.keep hd1 k2
  refine ⟨st2, vs ++ [v], cs ++ [c], fun b o nb e => ?_, ?_, ok2, upd_same, by rw [List.length_append, hn]; rfl, papp (a2.keep h2 keep_upd) (.cons (i.keep h2 keep_upd) .nil), fun x hx => ?_⟩
  · rw [upd_ne (ne_of_none e hL)]
    exact k2 _ _ nb (k1 _ _ nb e)
  · rw [upd_ne (Ne.symm hdL)]; exact hd2
  · rcases List.mem_append.mp hx with h | h
    · exact g x h
    · rw [List.mem_singleton.mp h]; exact ic
/-- the copies of tolds, by a comprehension: the heap behind it -/
structure Copied (K : PySem.W.Frag) (C L : Addr) (H H' : Hp) (cs : List Cp) : Prop where
  ex : ∃ ws, Same H H' ∧ H' L = some (.lst ws) ∧ AllC K C H' ws cs
theorem copied_start {C L : Addr} {H : Hp} (hL : H L = none) : Copied K C L H (upd H L (.lst [])) [] := ⟨[], same_new hL _, upd_same, .nil⟩
theorem copied_more {C L : Addr} {H H1 H2 : Hp} {cs : List Cp} {c : Cp} {w : V} {ws : List V} (hL : H L = none) (s1 : Same H H1) (h1 : H1 L = some (.lst ws)) (a : AllC K C H1 ws cs) (s2 : Same H1 H2) (i : IsC K C H2 w c) : Copied K C L H (upd H2 L (.lst (ws ++ [w]))) (cs ++ [c]) := by
  have h2 := s2 _ _ h1
  refine ⟨ws ++ [w], fun b o e => ?_, upd_same, papp ((a.same s2).keep h2 keep_upd) (.cons (i.keep h2 keep_upd) .nil)⟩
  rw [upd_ne (ne_of_none e hL)]
  exact s2 _ _ (s1 _ _ e)
end
end My

namespace My
open PySem L2 Mth
section
variable {K : PySem.W.Frag} {α : Type}
theorem tk_filter {β : Type} (p : β → Bool) {l : List β} {i : Nat} {x : β} (h : l[i]? = some x) : (l.take (i + 1)).filter p = (l.take i).filter p ++ (if p x = true then [x] else []) := by
  rw [take_more h, List.filter_append]
  congr 1
  by_cases c : p x = true
  · rw [if_pos c]; simp [c]
  · rw [if_neg c]; simp [c]
theorem tk_map {β γ : Type} (f : β → γ) {l : List β} {i : Nat} {x : β} (h : l[i]? = some x) : (l.take (i + 1)).map f = (l.take i).map f ++ [f x] := by
  rw [take_more h, List.map_append]; rfl
/-! ### what a comprehension draws, of any kind -/
def KeepsI (I : Hp → V → α → Prop) : Prop := ∀ (H H' : Hp) (v : V) (x : α) (e : Addr) (ys : List V), I H v x → H e = some (.lst ys) → Keep e H H' → I H' v x
def DrawnG (I : Hp → V → α → Prop) (G : α → Prop) (d L : Addr) (H H' : Hp) (n : Nat) : Prop := ∃ st vs xs, Keep d H H' ∧ H' d = some (.lst (encD st)) ∧ SrcOk st ∧ H' L = some (.lst vs) ∧ vs.length = n ∧ Paired (I H') vs xs ∧ ∀ x ∈ xs, G x
theorem drawnG_start {I : Hp → V → α → Prop} {G : α → Prop} {d L : Addr} {H : Hp} {st : Src} (hd : H d = some (.lst (encD st))) (ok : SrcOk st) (hL : H L = none) : DrawnG I G d L H (upd H L (.lst [])) 0 :=
  ⟨st, [], [], Keep.of (same_new hL _), (same_new hL _) _ _ hd, ok, upd_same, rfl, .nil, fun c hc => by cases hc⟩
theorem drawnG_more {I : Hp → V → α → Prop} {G : α → Prop} (kI : KeepsI I) {d L : Addr} {H H1 H2 : Hp} {n : Nat} {st st2 : Src} {v : V} {x : α} {vs : List V} {xs : List α} (hL : H L = none) (hdL : L ≠ d) (k1 : Keep d H H1) (hd1 : H1 d = some (.lst (encD st))) (h1 : H1 L = some (.lst vs)) (hn : vs.length = n) (a : Paired (I H1) vs xs) (g : ∀ x ∈ xs, G x)
    (k2 : Keep d H1 H2) (hd2 : H2 d = some (.lst (encD st2))) (ok2 : SrcOk st2) (i : I H2 v x) (ix : G x) : DrawnG I G d L H (upd H2 L (.lst (vs ++ [v]))) (n + 1) := by
  have h2 : H2 L = some (.lst vs) := k2 _ _ hdL h1
  refine ⟨st2, vs ++ [v], xs ++ [x], fun b o nb e => ?_, ?_, ok2, upd_same, by rw [List.length_append, hn]; rfl, papp (pimp (fun p t q => kI _ _ _ _ _ _ (kI _ _ _ _ _ _ q hd1 k2) h2 keep_upd) a) (.cons (kI _ _ _ _ _ _ i h2 keep_upd) .nil), fun y hy => ?_⟩
  · rw [upd_ne (ne_of_none e hL)]
    exact k2 _ _ nb (k1 _ _ nb e)
  · rw [upd_ne (Ne.symm hdL)]; exact hd2
  · rcases List.mem_append.mp hy with h | h
    · exact g y h
    · rw [List.mem_singleton.mp h]; exact ix
theorem keepsT : KeepsI (IsT K) := fun _ _ _ _ _ _ i hd k => i.keep hd k
theorem turn4' : ∀ t ∈ [((1, 0, 1) : T3), (-1, 0, 1), (0, 1, 1), (3, 4, 5)], TurnIn t := fun t ht => turns_in t (by
  have h : ∀ t ∈ [((1, 0, 1) : T3), (-1, 0, 1), (0, 1, 1), (3, 4, 5)], t ∈ turns13 := by decide +kernel
  exact h t ht)
end
end My

namespace My
open PySem L2 Mth
section
variable {K : PySem.W.Frag}
/-- a fraction -/
def IsF (K : PySem.W.Frag) (H : Hp) (v : V) (f : Int × Int) : Prop := ∃ p, v = .ref p ∧ SqT K H p [.int f.1, .int f.2]
theorem IsF.same {H H' : Hp} {v : V} {f : Int × Int} (h : IsF K H v f) (e : Same H H') : IsF K H' v f := by
  obtain ⟨p, rfl, q⟩ := h
  exact ⟨p, rfl, same_T e q⟩
theorem IsF.keep {H H' : Hp} {v : V} {f : Int × Int} {d : Addr} {ys : List V} (h : IsF K H v f) (hd : H d = some (.lst ys)) (k : Keep d H H') : IsF K H' v f := by
  obtain ⟨p, rfl, q⟩ := h
  exact ⟨p, rfl, keep_T q hd k⟩
theorem IsF.new {H : Hp} {p : Addr} {a b : Int} : IsF K (upd H p (.tup [.int a, .int b])) (.ref p) (a, b) := ⟨p, rfl, .inl (.inl upd_same)⟩
def dF (f : Int × Int) : PyData := .tuple [.int f.1, .int f.2]
theorem IsF.dp {H : Hp} {v : V} {f : Int × Int} (h : IsF K H v f) : Dp K H v (dF f) := by
  obtain ⟨p, rfl, q⟩ := h
  exact .tup q (.cons (.int _) (.cons (.int _) .nil))
theorem shapedF (f : Int × Int) : SeqAt.shaped (dF f) = true := rfl
theorem deepF (n : Nat) (f : Int × Int) : Deep (n + 2) (dF f) := by
  refine ⟨(by show 2 ≤ 1000; decide), fun d hd => ?_⟩
  simp only [List.mem_cons, List.mem_nil_iff, or_false] at hd
  rcases hd with rfl | rfl <;> trivial
end
end My

namespace My
open PySem L2 Mth
abbrev s_Arm___init__ : Stmt := inClass (topS 46) 0
theorem sc_Arm___init__ : FnScope ["self", "pole", "turn", "near", "far", "mirrored"] ["self", "pole", "turn", "near", "far", "mirrored"] (defScope s_Arm___init__) := ⟨rfl, rfl, rfl, by decide +kernel, rfl, by decide +kernel, by decide +kernel⟩
abbrev s_check_reach : Stmt := topS 47
theorem sc_check_reach : FnScope ["near", "far"] ["near", "far"] (defScope s_check_reach) := ⟨rfl, rfl, rfl, by decide +kernel, rfl, by decide +kernel, by decide +kernel⟩
abbrev s_copy_around : Stmt := topS 48
theorem sc_copy_around : FnScope ["pole", "turn", "mirrored", "shift"] ["pole", "turn", "mirrored"] (defScope s_copy_around) := ⟨rfl, rfl, rfl, by decide +kernel, rfl, by decide +kernel, by decide +kernel⟩
section
variable {P : Program} {w : World} {K : PySem.W.Frag} {mg : Str → Option Value} {base : Heap}
/-! ### arms -/
def sp_reach : Sp := fun vs H Q _ => ∃ n f : Int, vs = [.int n, .int f] ∧ 0 ≤ n ∧ n ≤ f ∧ f ≤ 1000 ∧ Q .non H
theorem ok_check_reach {f : Addr} {fd : FuncData} {tk : Tok} (m_MOST_REACH : mg "MOST_REACH" = some (.int 1000 tk)) (d_is_whole : D P w K mg base "is_whole" 1 sp_whole) (F : Fun K "check_reach" "check_reach" s_check_reach f fd) : FnOk P w K mg base CX0 2 f fd ["near", "far"] sp_reach := by
  refine F.ok sc_check_reach (fun vs H Q E h => ?_) (fun cdv A outer s H vs Q E hr h => ?_)
  · obtain ⟨n, g, rfl, _⟩ := h
    rfl
  obtain ⟨n, g, rfl, h0, h1, h2, q⟩ := h
  refine ⟨_, (pss_one (ps_if (PW.pt (pw_or (pt_not (pt_val (pc d_is_whole (hr.mono (by decide)) (pa_cons (pv 0) pa_nil)))) (pw_or (pt_not (pt_val (pc d_is_whole (hr.mono (by decide)) (pa_cons (pv 1) pa_nil)))) (pw_or1 (pt_not (pt_chain3 op_le op_le op_le pe_int (pv 0) (pv 1) (pe_glob (v := .int 1000) (by rfl) m_MOST_REACH ⟨_, rfl⟩))))))) (pss_one ps_never) pss_nil)), ?_⟩
  refine ⟨_, rfl, n, rfl, _, rfl, iteF ?_⟩
  refine ⟨_, rfl, g, rfl, _, rfl, iteF ?_⟩
  refine ⟨_, rfl, _, _, rfl, rfl, true, congrArg V.bl (decide_eq_true h0), iteT ?_⟩
  refine ⟨_, rfl, _, _, rfl, rfl, true, congrArg V.bl (decide_eq_true h1), iteT ?_⟩
  exact ⟨_, _, rfl, rfl, true, congrArg V.bl (decide_eq_true h2), iteF q⟩
def sp_around (K : PySem.W.Frag) (C : Addr) : Sp := fun vs H Q _ => ∃ vp vt m p t, vs = [vp, vt, .bl m] ∧ IsT K H vp p ∧ IsT K H vt t ∧ Ok p ∧ Ok t ∧ Nz t ∧ B 2600 p ∧ B 1000 t ∧ ∀ H' r, Same H H' → IsC K C H' r ⟨t, minus p (times t (face p m)), m⟩ → Q r H'
theorem ok_copy_around {f C fI : Addr} {fd fdI : FuncData} {mv ds : List Value} (TC : CopyI P w K mg base C fI fdI mv ds) (d_minus : D P w K mg base "minus" 4 (sp_two K minus)) (d_product : D P w K mg base "product" 3 (sp_two K times)) (d_faced : D P w K mg base "faced" 1 (sp_face K))
    (F : Fun K "copy_around" "copy_around" s_copy_around f fd) : FnOk P w K mg base CX0 6 f fd ["pole", "turn", "mirrored"] (sp_around K C) := by
  refine F.ok sc_copy_around (fun vs H Q E h => ?_) (fun cdv A outer s H vs Q E hr h => ?_)
  · obtain ⟨vp, vt, m, p, t, rfl, _⟩ := h
    rfl
  obtain ⟨vp, vt, m, p, t, rfl, ip, it, op, ot, nt, bp, bt, q⟩ := h
  refine ⟨_, (pss_cons (ps_set (i := 3) sc_copy_around.nd rfl (by first | exact Or.inl rfl | exact Or.inr rfl) (pc d_minus (hr.mono (by decide)) (pa_cons (pv 0) (pa_cons (pc d_product (hr.mono (by decide)) (pa_cons (pv 1) (pa_cons (pc d_faced (hr.mono (by decide)) (pa_cons (pv 0) (pa_cons (pv 2) pa_nil))) pa_nil))) pa_nil))))
    (pss_one (ps_ret (pe_makeK TC.mkC TC.ok (hr.mono (by decide)) (by rfl) TC.mgC TC.kb pass0 (pa_cons (pv 1) (pa_cons (pv 3) pa_nil)) (pk_cons (pv 2) pk_nil))))), ?_⟩
  refine ⟨_, rfl, _, rfl, _, rfl, _, rfl, _, _, _, rfl, ip, fun H1 r1 s1 i1 => ?_⟩
  refine ⟨_, _, _, _, rfl, it.same s1, i1, ot, face_ok op _, bt.mono (by decide), (face_B bp _).mono (by decide), fun H2 r2 s2 i2 => ?_⟩
  refine ⟨_, _, _, _, rfl, ip.same (s1.trans s2), i2, op, times_ok ot (face_ok op _), bp.mono (by decide), (times_B ot (face_ok op _) bt (face_B bp _)).mono (by decide), fun H3 r3 s3 i3 => ?_⟩
  have s13 := s1.trans (s2.trans s3)
  refine ⟨_, rfl, _, rfl, _, rfl, rfl, rfl, ?_⟩
  exact mk_of (it.same s13) i3 ot nt (minus_ok op (times_ok ot (face_ok op _))) fun H4 r4 s4 i4 => q _ _ (s13.trans s4) i4
def af (a0 : Addr) (a1 : Addr) (a2 : Int) (a3 : Int) (a4 : Bool) (a5 : Addr) : List (Str × V) := [("centre", .ref a0), ("factor", .ref a1), ("least", .int a2), ("most", .int a3), ("flips", .bl a4), ("pen", .ref a5)]
theorem af_put {a0 : Addr} {a1 : Addr} {a2 : Int} {a3 : Int} {a4 : Bool} {a5 : Addr} : putF "pen" (.ref a5) (putF "flips" (.bl a4) (putF "most" (.int a3) (putF "least" (.int a2) (putF "factor" (.ref a1) (putF "centre" (.ref a0) ([])))))) = af a0 a1 a2 a3 a4 a5 := by
  have h0_1 : ¬ (("centre" : Str) = "factor") := by decide +kernel
  have h0_2 : ¬ (("centre" : Str) = "least") := by decide +kernel
  have h0_3 : ¬ (("centre" : Str) = "most") := by decide +kernel
  have h0_4 : ¬ (("centre" : Str) = "flips") := by decide +kernel
  have h0_5 : ¬ (("centre" : Str) = "pen") := by decide +kernel
  have h1_2 : ¬ (("factor" : Str) = "least") := by decide +kernel
  have h1_3 : ¬ (("factor" : Str) = "most") := by decide +kernel
  have h1_4 : ¬ (("factor" : Str) = "flips") := by decide +kernel
  have h1_5 : ¬ (("factor" : Str) = "pen") := by decide +kernel
  have h2_3 : ¬ (("least" : Str) = "most") := by decide +kernel
  have h2_4 : ¬ (("least" : Str) = "flips") := by decide +kernel
  have h2_5 : ¬ (("least" : Str) = "pen") := by decide +kernel
  have h3_4 : ¬ (("most" : Str) = "flips") := by decide +kernel
  have h3_5 : ¬ (("most" : Str) = "pen") := by decide +kernel
  have h4_5 : ¬ (("flips" : Str) = "pen") := by decide +kernel
  simp only [putF, if_neg h0_1, if_neg h0_2, if_neg h0_3, if_neg h0_4, if_neg h0_5, if_neg h1_2, if_neg h1_3, if_neg h1_4, if_neg h1_5, if_neg h2_3, if_neg h2_4, if_neg h2_5, if_neg h3_4, if_neg h3_5, if_neg h4_5]
  rfl
theorem af_centre {a0 : Addr} {a1 : Addr} {a2 : Int} {a3 : Int} {a4 : Bool} {a5 : Addr} : (af a0 a1 a2 a3 a4 a5).lookup ("centre" : Str) = some (.ref a0) := by
  unfold af
  simp only [List.lookup, beq_self_eq_true]
theorem af_factor {a0 : Addr} {a1 : Addr} {a2 : Int} {a3 : Int} {a4 : Bool} {a5 : Addr} : (af a0 a1 a2 a3 a4 a5).lookup ("factor" : Str) = some (.ref a1) := by
  unfold af
  simp only [List.lookup, beq_self_eq_true, show (("factor" : Str) == "centre") = false by decide +kernel]
theorem af_least {a0 : Addr} {a1 : Addr} {a2 : Int} {a3 : Int} {a4 : Bool} {a5 : Addr} : (af a0 a1 a2 a3 a4 a5).lookup ("least" : Str) = some (.int a2) := by
  unfold af
  simp only [List.lookup, beq_self_eq_true, show (("least" : Str) == "centre") = false by decide +kernel, show (("least" : Str) == "factor") = false by decide +kernel]
theorem af_most {a0 : Addr} {a1 : Addr} {a2 : Int} {a3 : Int} {a4 : Bool} {a5 : Addr} : (af a0 a1 a2 a3 a4 a5).lookup ("most" : Str) = some (.int a3) := by
  unfold af
  simp only [List.lookup, beq_self_eq_true, show (("most" : Str) == "centre") = false by decide +kernel, show (("most" : Str) == "factor") = false by decide +kernel, show (("most" : Str) == "least") = false by decide +kernel]
theorem af_flips {a0 : Addr} {a1 : Addr} {a2 : Int} {a3 : Int} {a4 : Bool} {a5 : Addr} : (af a0 a1 a2 a3 a4 a5).lookup ("flips" : Str) = some (.bl a4) := by
  unfold af
  simp only [List.lookup, beq_self_eq_true, show (("flips" : Str) == "centre") = false by decide +kernel, show (("flips" : Str) == "factor") = false by decide +kernel, show (("flips" : Str) == "least") = false by decide +kernel, show (("flips" : Str) == "most") = false by decide +kernel]
theorem af_pen {a0 : Addr} {a1 : Addr} {a2 : Int} {a3 : Int} {a4 : Bool} {a5 : Addr} : (af a0 a1 a2 a3 a4 a5).lookup ("pen" : Str) = some (.ref a5) := by
  unfold af
  simp only [List.lookup, beq_self_eq_true, show (("pen" : Str) == "centre") = false by decide +kernel, show (("pen" : Str) == "factor") = false by decide +kernel, show (("pen" : Str) == "least") = false by decide +kernel, show (("pen" : Str) == "most") = false by decide +kernel, show (("pen" : Str) == "flips") = false by decide +kernel]
structure ATxt (K : PySem.W.Frag) (C : Addr) : Prop where
  cl : Cls K C
  nC : NoAttr K C "centre"
  nF : NoAttr K C "factor"
  nE : NoAttr K C "least"
  nM : NoAttr K C "most"
  nL : NoAttr K C "flips"
  nP : NoAttr K C "pen"
  ha : PySem.W.findIn K (.ref C) "__class__" = some (some (.builtin "object.__class__"))
  hn : PySem.W.specialIn K (.builtin "object.__class__") "__get__" = some (some (.builtin "getset_descriptor.__get__"))
  htk : PySem.W.takesIn K (.builtin "object.__class__") = some true
  hm : PySem.W.mroIn K C (.type "object") = some true
/-- an arm as an object -/
def IsA (K : PySem.W.Frag) (C CA : Addr) (H : Hp) (v : V) (a : Am) : Prop := ∃ p dx u z c, v = .ref p ∧ H p = some (.ins CA dx (af u z a.near a.far a.m c)) ∧ SqT K H u (v3 a.pole) ∧ SqT K H z (v3 a.t) ∧ IsC K C H (.ref c) (about a)
theorem IsA.same {C CA : Addr} {H H' : Hp} {v : V} {a : Am} (h : IsA K C CA H v a) (e : Same H H') : IsA K C CA H' v a := by
  obtain ⟨p, dx, u, z, c, rfl, h1, h2, h3, h4⟩ := h
  exact ⟨p, dx, u, z, c, rfl, e _ _ h1, same_T e h2, same_T e h3, h4.same e⟩
theorem IsC.keepI {C CD p dx : Addr} {fs : List (Str × V)} {H H' : Hp} {v : V} {c : Cp} (h : IsC K C H v c) (hd : H p = some (.ins CD dx fs)) (hl : fs.length ≠ 3) (e : Keep p H H') : IsC K C H' v c := by
  obtain ⟨q, dy, a, b, rfl, h1, h2, h3⟩ := h
  have n : q ≠ p := fun z => by
    rw [z, hd] at h1
    injection h1 with h1
    injection h1 with _ _ h1
    exact hl (by rw [h1]; rfl)
  exact ⟨q, dy, a, b, rfl, e _ _ n h1, keepI_T h2 hd e, keepI_T h3 hd e⟩
def sp_ainit (K : PySem.W.Frag) (C CA : Addr) : Sp := fun vs H Q _ => ∃ (H0 : Hp) (p dx : Addr) (vp vt : V) (n f : Int) (m : Bool) (z t : T3), vs = [.ref p, vp, vt, .int n, .int f, .bl m] ∧ Same H0 H ∧ H0 p = none ∧ H p = some (.ins CA dx []) ∧ IsT K H0 vp z ∧ IsT K H0 vt t ∧ AmOk ⟨z, t, n, f, m⟩ ∧ B 2600 z ∧ B 1000 t ∧
  ∀ H', Same H0 H' → IsA K C CA H' (.ref p) ⟨z, t, n, f, m⟩ → Q .non H'
theorem ok_ainit {f C CA : Addr} {fd : FuncData} {kws : List (Str × V)} (T : ATxt K CA) (d_check_turn : D P w K mg base "check_turn" 3 (sp_checkT K)) (d_check_spot : D P w K mg base "check_spot" 3 (sp_check K)) (d_check_reach : D P w K mg base "check_reach" 2 sp_reach) (d_copy_around : D P w K mg base "copy_around" 6 (sp_around K C))
    (F : FunD K "__init__" "Arm.__init__" (defArgs s_Arm___init__) (defBody s_Arm___init__) (defScope s_Arm___init__) [] kws f fd) : FnOk P w K mg base CX0 7 f fd ["self", "pole", "turn", "near", "far", "mirrored"] (sp_ainit K C CA) := by
  refine ok0 F sc_Arm___init__ (fun vs H Q E h => ?_) (fun cdv A outer s H vs Q E hr h => ?_)
  · obtain ⟨H0, p, dx, vp, vt, n, g, m, z, t, rfl, _⟩ := h
    rfl
  obtain ⟨H0, p, dx, vp, vt, n, g, m, z, t, rfl, s0, p0, hp, iz, it, ok, bz, bt, q⟩ := h
  refine ⟨_, (pss_cons (ps_expr (pc d_check_spot (hr.mono (by decide)) (pa_cons (pv 1) pa_nil)))
    (pss_cons (ps_expr (pc d_check_turn (hr.mono (by decide)) (pa_cons (pv 2) pa_nil)))
    (pss_cons (ps_expr (pc d_check_reach (hr.mono (by decide)) (pa_cons (pv 3) (pa_cons (pv 4) pa_nil))))
    (pss_cons (ps_fld (pv 0) (pv 1) rfl)
    (pss_cons (ps_fld (pv 0) (pv 2) rfl)
    (pss_cons (ps_fld (pv 0) (pv 3) rfl)
    (pss_cons (ps_fld (pv 0) (pv 4) rfl)
    (pss_cons (ps_fld (pv 0) (pv 5) rfl)
    (pss_one (ps_fld (pv 0) (pc d_copy_around (hr.mono (by decide)) (pa_cons (pv 1) (pa_cons (pv 2) (pa_cons (pv 5) pa_nil)))) rfl)))))))))), ?_⟩
  refine ⟨_, rfl, _, _, rfl, iz.same s0, ok.p, fun H1 s1 => ?_⟩
  refine ⟨_, rfl, _, _, rfl, it.same (s0.trans s1), ok.t, ok.n, fun H2 s2 => ?_⟩
  have s02 := s0.trans (s1.trans s2)
  obtain ⟨a, rfl, ta⟩ := iz
  obtain ⟨b, rfl, tb⟩ := it
  have hp2 : H2 p = some (.ins CA dx []) := s2 _ _ (s1 _ _ hp)
  refine ⟨_, rfl, _, rfl, n, g, rfl, ok.lo, ok.mi, ok.hi, ?_⟩
  have l1 := putF_len "centre" (.ref a) []
  have l2 := putF_len "factor" (.ref b) (putF "centre" (.ref a) [])
  have l3 := putF_len "least" (.int n) (putF "factor" (.ref b) (putF "centre" (.ref a) []))
  have l4 := putF_len "most" (.int g) (putF "least" (.int n) (putF "factor" (.ref b) (putF "centre" (.ref a) [])))
  have l5 := putF_len "flips" (.bl m) (putF "most" (.int g) (putF "least" (.int n) (putF "factor" (.ref b) (putF "centre" (.ref a) []))))
  have l0 : ([] : List (Str × V)).length = 0 := rfl
  refine ⟨_, rfl, _, rfl, p, CA, dx, _, rfl, hp2, T.cl, T.nC, (by show 0 < 1000; decide), ?_⟩
  refine ⟨_, rfl, _, rfl, p, CA, dx, _, rfl, upd_same, T.cl, T.nF, (by omega), ?_⟩
  refine ⟨_, rfl, _, rfl, p, CA, dx, _, rfl, upd_same, T.cl, T.nE, (by omega), ?_⟩
  refine ⟨_, rfl, _, rfl, p, CA, dx, _, rfl, upd_same, T.cl, T.nM, (by omega), ?_⟩
  refine ⟨_, rfl, _, rfl, p, CA, dx, _, rfl, upd_same, T.cl, T.nL, (by omega), ?_⟩
  have k7 : Keep p H2 (upd (upd (upd (upd (upd H2 p (.ins CA dx (putF "centre" (.ref a) []))) p (.ins CA dx (putF "factor" (.ref b) (putF "centre" (.ref a) [])))) p (.ins CA dx (putF "least" (.int n) (putF "factor" (.ref b) (putF "centre" (.ref a) []))))) p (.ins CA dx (putF "most" (.int g) (putF "least" (.int n) (putF "factor" (.ref b) (putF "centre" (.ref a) [])))))) p (.ins CA dx (putF "flips" (.bl m) (putF "most" (.int g) (putF "least" (.int n) (putF "factor" (.ref b) (putF "centre" (.ref a) []))))))) :=
    keep_upd.trans (keep_upd.trans (keep_upd.trans (keep_upd.trans keep_upd)))
  have ta2 := keepI_T (same_T s02 ta) hp2 k7
  have tb2 := keepI_T (same_T s02 tb) hp2 k7
  refine ⟨_, rfl, _, rfl, _, rfl, _, _, m, z, t, rfl, ⟨_, rfl, ta2⟩, ⟨_, rfl, tb2⟩, ok.p, ok.t, ok.n, bz, bt, fun H8 r8 s8 i8 => ?_⟩
  have hp8 := s8 _ _ (upd_same (a := p))
  refine ⟨_, rfl, p, CA, dx, _, rfl, hp8, T.cl, T.nP, (by omega), ?_⟩
  obtain ⟨c, _, _, _, ec, _⟩ := id i8
  subst ec
  have k9 := keep_upd (d := p) (H := H8) (o := .ins CA dx (putF "pen" (.ref c) (putF "flips" (.bl m) (putF "most" (.int g) (putF "least" (.int n) (putF "factor" (.ref b) (putF "centre" (.ref a) [])))))))
  refine q _ (fun y o e => ?_) ⟨p, dx, a, b, c, rfl, by rw [upd_same, af_put], keepI_T (same_T s8 ta2) hp8 k9, keepI_T (same_T s8 tb2) hp8 k9, i8.keepI hp8 (fun e => ?_) k9⟩
  · have nc : y ≠ p := fun z => by rw [z, p0] at e; cases e
    rw [upd_ne nc]
    exact s8 _ _ (k7 _ _ nc (s02 _ _ e))
  · have h0 : ¬ (("centre" : Str) = "factor") := by decide +kernel
    have h1 : ¬ (("centre" : Str) = "least") := by decide +kernel
    have h2 : ¬ (("centre" : Str) = "most") := by decide +kernel
    have h3 : ¬ (("centre" : Str) = "flips") := by decide +kernel
    have h4 : ¬ (("factor" : Str) = "least") := by decide +kernel
    have h5 : ¬ (("factor" : Str) = "most") := by decide +kernel
    have h6 : ¬ (("factor" : Str) = "flips") := by decide +kernel
    have h7 : ¬ (("least" : Str) = "most") := by decide +kernel
    have h8 : ¬ (("least" : Str) = "flips") := by decide +kernel
    have h9 : ¬ (("most" : Str) = "flips") := by decide +kernel
    simp only [putF, if_neg h0, if_neg h1, if_neg h2, if_neg h3, if_neg h4, if_neg h5, if_neg h6, if_neg h7, if_neg h8, if_neg h9, List.length_cons, List.length_nil] at e
    omega
/-- the class as its users see it -/
structure ArmI (P : Program) (w : World) (K : PySem.W.Frag) (mg : Str → Option Value) (base : Heap) (C CA f : Addr) (fd : FuncData) (mv ds : List Value) : Prop where
  tx : ATxt K CA
  mkC : Mk K CA f
  ok : FnOk P w K mg base CX0 7 f fd ["self", "pole", "turn", "near", "far", "mirrored"] (sp_ainit K C CA)
  mgC : mg "Arm" = some (.ref CA)
  bv : Vals [.bl false] ds
  bd : Binds K fd ["self", "pole", "turn", "near", "far", "mirrored"] ds
  kb : KBn K fd ["self", "pole", "turn", "near", "far", "mirrored"] 5 ["mirrored"] (fun us ws => us ++ ws) (fun vs zs => vs ++ zs)
theorem mka_of {C CA : Addr} {H : Hp} {Q : VK} {vp vt : V} {m : Bool} {n f : Int} {z t : T3} (iz : IsT K H vp z) (it : IsT K H vt t) (ok : AmOk ⟨z, t, n, f, m⟩) (bz : B 2600 z) (bt : B 1000 t) (q : ∀ H' r, Same H H' → IsA K C CA H' r ⟨z, t, n, f, m⟩ → Q r H') :
    ∀ x dx, H x = none → H dx = none → dx ≠ x → sp_ainit K C CA [.ref x, vp, vt, .int n, .int f, .bl m] (upd (upd H dx (.own x)) x (.ins CA dx [])) (fun v H2 => v = .non ∧ Q (.ref x) H2) E0 := by
  intro x dx hx hd _
  refine ⟨H, x, dx, vp, vt, n, f, m, z, t, rfl, fun c o e => ?_, hx, upd_same, iz, it, ok, bz, bt, fun H' s' i => ⟨rfl, q _ _ s' i⟩⟩
  rw [upd_ne (ne_of_none e hx), upd_ne (ne_of_none e hd)]
  exact e
theorem mka_of2 {C CA : Addr} {H : Hp} {Qf : Addr → VK} {vp vt : V} {m : Bool} {n f : Int} {z t : T3} (iz : IsT K H vp z) (it : IsT K H vt t) (ok : AmOk ⟨z, t, n, f, m⟩) (bz : B 2600 z) (bt : B 1000 t) (q : ∀ H' x, Same H H' → IsA K C CA H' (.ref x) ⟨z, t, n, f, m⟩ → Qf x .non H') :
    ∀ x dx, H x = none → H dx = none → dx ≠ x → sp_ainit K C CA [.ref x, vp, vt, .int n, .int f, .bl m] (upd (upd H dx (.own x)) x (.ins CA dx [])) (Qf x) E0 := by
  intro x dx hx hd _
  refine ⟨H, x, dx, vp, vt, n, f, m, z, t, rfl, fun c o e => ?_, hx, upd_same, iz, it, ok, bz, bt, fun H' s' i => q _ _ s' i⟩
  rw [upd_ne (ne_of_none e hx), upd_ne (ne_of_none e hd)]
  exact e
theorem bind_ainit {f : Addr} {fd : FuncData} (F : FunD K "__init__" "Arm.__init__" (defArgs s_Arm___init__) (defBody s_Arm___init__) (defScope s_Arm___init__) [] [("mirrored", .bl false)] f fd) :
    (∃ ds, Vals [.bl false] ds ∧ Binds K fd ["self", "pole", "turn", "near", "far", "mirrored"] ds) ∧ ∃ mv : List Value, KBn K fd ["self", "pole", "turn", "near", "far", "mirrored"] 5 ["mirrored"] (fun us ws => us ++ ws) (fun vs zs => vs ++ zs) := by
  refine ⟨F.binds0 (ps := ["self", "pole", "turn", "near", "far", "mirrored"]) 5 (by intro z; cases z) rfl fun D doc pm an cdv ct us ks h1 h2 => ?_, ?_⟩
  · match us, ks, h1, h2 with
    | [x, y, z, u, v], [k], _, _ => exact ⟨_, _, _, _, _, _, rfl, rfl, rfl⟩
  · refine F.kbinds0 (ps := ["self", "pole", "turn", "near", "far", "mirrored"]) 5 ["mirrored"] [] (fun us _ ws => us ++ ws) (by intro z; cases z) (fun q hq => by cases hq) (fun r1 _ r3 => r1.append r3) fun D doc pm an cdv ct us mv ws h1 h2 h3 => ?_
    match us, mv, ws, h1, h2, h3 with
    | [x, y, z, u, v], [], [k], _, _, _ => rfl
theorem about_BC {n : Nat} {a : Am} (ok : AmOk a) (bp : B n a.pole) (bt : B n a.t) : BC (3 * n + 2) (about a) :=
  ⟨bt.mono (by omega), (minus_B ok.p (times_ok ok.t (face_ok ok.p _)) bp (times_B ok.t (face_ok ok.p _) bt (face_B bp _))).mono (by omega)⟩
end
end My

namespace My
open PySem L2 Mth
abbrev s_Arm___eq__ : Stmt := inClass (topS 46) 7
theorem sc_Arm___eq__ : FnScope ["self", "other"] ["self", "other"] (defScope s_Arm___eq__) := ⟨rfl, rfl, rfl, by decide +kernel, rfl, by decide +kernel, by decide +kernel⟩
section
variable {P : Program} {w : World} {K : PySem.W.Frag} {mg : Str → Option Value} {base : Heap}
def aeq (a b : Am) : Bool := decide (a.pole = b.pole) && (decide (a.t = b.t) && (decide (V.int a.near = V.int b.near) && (decide (V.int a.far = V.int b.far) && decide (V.bl a.m = V.bl b.m))))
theorem aeq_self (a : Am) : aeq a a = true := by unfold aeq; simp
theorem aeq_iff {a b : Am} : aeq a b = true ↔ a = b := by
  refine ⟨fun h => ?_, fun h => by rw [h]; exact aeq_self b⟩
  obtain ⟨a1, a2, a3, a4, a5⟩ := a
  obtain ⟨b1, b2, b3, b4, b5⟩ := b
  unfold aeq at h
  simp only [Bool.and_eq_true, decide_eq_true_eq] at h
  obtain ⟨h1, h2, h3, h4, h5⟩ := h
  cases V.int.inj h3
  cases V.int.inj h4
  cases V.bl.inj h5
  subst h1 h2
  rfl
def sp_aeq (K : PySem.W.Frag) (C CA : Addr) : Sp := fun vs H Q _ => ∃ va a vb b, vs = [va, vb] ∧ IsA K C CA H va a ∧ IsA K C CA H vb b ∧ Q (.bl (aeq a b)) H
theorem ok_aeq {f C CA : Addr} {fd : FuncData} (T : ATxt K CA) (mgA : mg "Arm" = some (.ref CA)) (b_isinstance : mg "isinstance" = none) (F : Fun K "__eq__" "Arm.__eq__" s_Arm___eq__ f fd) : FnOk P w K mg base CX0 1 f fd ["self", "other"] (sp_aeq K C CA) := by
  refine F.ok sc_Arm___eq__ (fun vs H Q E h => ?_) (fun cdv A outer s H vs Q E hr h => ?_)
  · obtain ⟨va, a, vb, b, rfl, _⟩ := h
    rfl
  obtain ⟨va, a, vb, b, rfl, ⟨p, dx, u, v, c, rfl, h1, h2, h3, _⟩, ⟨p', dx', u', v', c', rfl, k1, k2, k3, _⟩, q⟩ := h
  refine ⟨_, (pss_one (ps_ret (pe_and (pe_callB (r := rIsi K) call_isi (by rfl) b_isinstance (by decide +kernel) (pa_cons (pv 1) (pa_cons (pe_glob (v := .ref CA) (by rfl) mgA rfl) pa_nil))) (pe_and (pe_cmpR (op_eqD hr.units) (pe_fld (pv 0) rfl) (pe_fld (pv 1) rfl) (nomark _)) (pe_and (pe_cmpR (op_eqD hr.units) (pe_fld (pv 0) rfl) (pe_fld (pv 1) rfl) (nomark _)) (pe_and (pe_cmpR (op_eq) (pe_fld (pv 0) rfl) (pe_fld (pv 1) rfl) (nomark _)) (pe_and (pe_cmpR (op_eq) (pe_fld (pv 0) rfl) (pe_fld (pv 1) rfl) (nomark _)) (pe_one (pe_cmpR (op_eq) (pe_fld (pv 0) rfl) (pe_fld (pv 1) rfl) (nomark _)))))))))), ?_⟩
  refine ⟨_, rfl, _, _, _, _, true, rfl, .own CA, .base (.ins k1 T.cl T.ha T.hn T.htk T.hm), ?_, true, rfl, iteT ?_⟩
  · unfold PySem.W.kitOne; simp
  refine ⟨_, rfl, p, CA, dx, _, _, rfl, h1, T.cl, T.nC, af_centre, _, rfl, p', CA, dx', _, _, rfl, k1, T.cl, T.nC, af_centre, _, _, Dp3 h2, Dp3 k2, shaped3 _, shaped3 _, _, rfl, ?_⟩
  rw [eqv3]
  unfold aeq at q
  cases c1 : decide (a.pole = b.pole) with
  | false => rw [c1] at q; exact iteF q
  | true =>
    rw [c1] at q
    refine iteT ?_
    refine ⟨_, rfl, p, CA, dx, _, _, rfl, h1, T.cl, T.nF, af_factor, _, rfl, p', CA, dx', _, _, rfl, k1, T.cl, T.nF, af_factor, _, _, Dp3 h3, Dp3 k3, shaped3 _, shaped3 _, _, rfl, ?_⟩
    rw [eqv3]
    cases c2 : decide (a.t = b.t) with
    | false => rw [c2] at q; exact iteF q
    | true =>
      rw [c2] at q
      refine iteT ?_
      refine ⟨_, rfl, p, CA, dx, _, _, rfl, h1, T.cl, T.nE, af_least, _, rfl, p', CA, dx', _, _, rfl, k1, T.cl, T.nE, af_least, rfl, _, rfl, ?_⟩
      cases c3 : decide (V.int a.near = V.int b.near) with
      | false => rw [c3] at q; exact iteF q
      | true =>
        rw [c3] at q
        refine iteT ?_
        refine ⟨_, rfl, p, CA, dx, _, _, rfl, h1, T.cl, T.nM, af_most, _, rfl, p', CA, dx', _, _, rfl, k1, T.cl, T.nM, af_most, rfl, _, rfl, ?_⟩
        cases c4 : decide (V.int a.far = V.int b.far) with
        | false => rw [c4] at q; exact iteF q
        | true =>
          rw [c4] at q
          refine iteT ?_
          exact ⟨_, rfl, p, CA, dx, _, _, rfl, h1, T.cl, T.nL, af_flips, _, rfl, p', CA, dx', _, _, rfl, k1, T.cl, T.nL, af_flips, rfl, q⟩
structure MAe (P : Program) (w : World) (K : PySem.W.Frag) (mg : Str → Option Value) (base : Heap) (C CA : Addr) : Prop where
  ex : ∃ f, FnR P w K mg base CX0 1 f (sp_aeq K C CA) ∧ PySem.W.findIn K (.ref CA) "__eq__" = some (some (.ref f)) ∧ PySem.W.isFn K (.ref f) = true
theorem op_aeq {X : Cx} {C CA : Addr} (M : MAe X.prog X.w X.K X.mg X.base C CA) (hr : Room 1 X.A) : OpR X (compareOp .Eq) (rOwn2 CA (sp_aeq X.K C CA)) := by
  obtain ⟨f, F, h1, h2⟩ := M.ex
  exact eq_own F hr h1 h2
theorem aeq_of {C CA : Addr} {H : Hp} {Q : VK} {x y : V} {a b : Am} (ix : IsA K C CA H x a) (iy : IsA K C CA H y b) (q : Q (.bl (aeq a b)) H) : rOwn2 CA (sp_aeq K C CA) x y H Q := by
  have jx := ix
  have jy := iy
  obtain ⟨p, dx, _, _, _, rfl, h1, _⟩ := ix
  obtain ⟨p', dx', _, _, _, rfl, h1', _⟩ := iy
  exact ⟨p, p', dx, _, dx', _, rfl, rfl, h1, h1', _, a, _, b, rfl, jx, jy, q⟩
end
end My

namespace My
open PySem L2 Mth
abbrev s_is_from_to : Stmt := topS 43
theorem sc_is_from_to : FnScope ["value", "least", "most", "p", "q"] ["value", "least", "most"] (defScope s_is_from_to) := ⟨rfl, rfl, rfl, by decide +kernel, rfl, by decide +kernel, by decide +kernel⟩
abbrev s_square_between : Stmt := topS 42
theorem sc_square_between : FnScope ["one", "other", "x", "y", "d"] ["one", "other"] (defScope s_square_between) := ⟨rfl, rfl, rfl, by decide +kernel, rfl, by decide +kernel, by decide +kernel⟩
section
variable {P : Program} {w : World} {K : PySem.W.Frag} {mg : Str → Option Value} {base : Heap}
/-! ### squares of distances -/
def sp_sqb (K : PySem.W.Frag) : Sp := fun vs H Q _ => ∃ va vb a b, vs = [va, vb] ∧ IsT K H va a ∧ IsT K H vb b ∧ Ok a ∧ Ok b ∧ B 1900 a ∧ B 1900 b ∧ ∀ H' r, Same H H' → IsF K H' r (gr (minus a b)) → Q r H'
theorem ok_square_between {f : Addr} {fd : FuncData} (d_minus : D P w K mg base "minus" 4 (sp_two K minus)) (d_fraction : D P w K mg base "fraction" 2 (sp_fr K)) (F : Fun K "square_between" "square_between" s_square_between f fd) : FnOk P w K mg base CX0 5 f fd ["one", "other"] (sp_sqb K) := by
  refine F.ok sc_square_between (fun vs H Q E h => ?_) (fun cdv A outer s H vs Q E hr h => ?_)
  · obtain ⟨va, vb, a, b, rfl, _⟩ := h
    rfl
  obtain ⟨va, vb, a, b, rfl, ia, ib, oa, ob, ba, bb, q⟩ := h
  refine ⟨_, (pss_cons (ps_asg (pc d_minus (hr.mono (by decide)) (pa_cons (pv 0) (pa_cons (pv 1) pa_nil))) (pg_tup rfl (pgs_cons (pg_name (i := 2) sc_square_between.nd rfl (by first | exact Or.inl rfl | exact Or.inr rfl)) (pgs_cons (pg_name (i := 3) sc_square_between.nd rfl (by first | exact Or.inl rfl | exact Or.inr rfl)) (pgs_cons (pg_name (i := 4) sc_square_between.nd rfl (by first | exact Or.inl rfl | exact Or.inr rfl)) pgs_nil)))))
    (pss_one (ps_ret (pc d_fraction (hr.mono (by decide)) (pa_cons (pe_op op_add (pe_op op_mulW (pv 2) (pv 2)) (pe_op op_mulW (pv 3) (pv 3))) (pa_cons (pe_op op_mulW (pv 4) (pv 4)) pa_nil)))))), ?_⟩
  refine ⟨_, rfl, _, rfl, _, _, _, _, rfl, ia, ib, oa, ob, ba.mono (by decide), bb.mono (by decide), fun H1 r1 s1 i1 => ?_⟩
  have om := minus_ok oa ob
  have bm : B 3801 (minus a b) := minus_B oa ob ba bb
  generalize minus a b = z at *
  obtain ⟨x, y, d⟩ := z
  obtain ⟨a1, a2, a3⟩ := bm
  obtain ⟨p1, rfl, t1⟩ := i1
  refine ⟨p1, _, rfl, t1, rfl, _, _, rfl, _, _, rfl, _, _, rfl, rfl, ?_⟩
  refine ⟨_, rfl, _, rfl, _, _, rfl, rfl, mulW a1 a1, _, rfl, _, rfl, _, _, rfl, rfl, mulW a2 a2, _, _, rfl, rfl, ?_⟩
  refine ⟨_, rfl, _, rfl, _, _, rfl, rfl, mulW a3 a3, ?_⟩
  exact ⟨_, _, rfl, mul_ne om.ne om.ne, up_lt (by decide) (mul_lt a3 a3), fun H2 g s2 t2 => q _ _ (s1.trans s2) ⟨g, rfl, t2⟩⟩
def sp_ft (K : PySem.W.Frag) : Sp := fun vs H Q _ => ∃ v l m fv fl fm, vs = [v, l, m] ∧ IsF K H v fv ∧ IsF K H l fl ∧ IsF K H m fm ∧ FB 16001 fv ∧ FB 16001 fl ∧ FB 16001 fm ∧ Q (.bl (inF fv fl fm)) H
theorem ok_is_from_to {f : Addr} {fd : FuncData} (F : Fun K "is_from_to" "is_from_to" s_is_from_to f fd) : FnOk P w K mg base CX0 1 f fd ["value", "least", "most"] (sp_ft K) := by
  refine F.ok sc_is_from_to (fun vs H Q E h => ?_) (fun cdv A outer s H vs Q E hr h => ?_)
  · obtain ⟨v, l, m, fv, fl, fm, rfl, _⟩ := h
    rfl
  obtain ⟨v, l, m, fv, fl, fm, rfl, ⟨p1, rfl, tv⟩, ⟨p2, rfl, tl⟩, ⟨p3, rfl, tm⟩, bv, bl, bm, q⟩ := h
  refine ⟨_, (pss_cons (ps_asg (pv 0) (pg_tup rfl (pgs_cons (pg_name (i := 3) sc_is_from_to.nd rfl (by first | exact Or.inl rfl | exact Or.inr rfl)) (pgs_cons (pg_name (i := 4) sc_is_from_to.nd rfl (by first | exact Or.inl rfl | exact Or.inr rfl)) pgs_nil))))
    (pss_one (ps_ret (pe_and (pe_cmpR (op_le) (pe_op op_mulW (pe_ix (r := rIxT K) ix_tup (pv 1) pe_int (fun _ _ => rfl)) (pv 4)) (pe_op op_mulW (pv 3) (pe_ix (r := rIxT K) ix_tup (pv 1) pe_int (fun _ _ => rfl))) (nomark _)) (pe_one (pe_cmpR (op_le) (pe_op op_mulW (pv 3) (pe_ix (r := rIxT K) ix_tup (pv 2) pe_int (fun _ _ => rfl))) (pe_op op_mulW (pe_ix (r := rIxT K) ix_tup (pv 2) pe_int (fun _ _ => rfl)) (pv 4)) (nomark _))))))), ?_⟩
  rw [← ft_in] at q
  unfold ftF at q
  refine ⟨_, rfl, p1, _, rfl, tv, rfl, _, _, rfl, _, _, rfl, rfl, ?_⟩
  refine ⟨_, rfl, p2, _, 0, _, rfl, rfl, tl, rfl, _, rfl, _, _, rfl, rfl, mulW bl.1 bv.2, _, rfl, _, rfl, p2, _, 1, _, rfl, rfl, tl, rfl, _, _, rfl, rfl, mulW bv.1 bl.2, _, _, rfl, rfl, _, rfl, ?_⟩
  cases c : decide (fl.1 * fv.2 ≤ fv.1 * fl.2) with
  | false =>
    rw [c] at q
    exact iteF q
  | true =>
    rw [c] at q
    refine iteT ?_
    exact ⟨_, rfl, _, rfl, p3, _, 1, _, rfl, rfl, tm, rfl, _, _, rfl, rfl, mulW bv.1 bm.2, _, rfl, p3, _, 0, _, rfl, rfl, tm, rfl, _, rfl, _, _, rfl, rfl, mulW bm.1 bv.2, _, _, rfl, rfl, q⟩
end
end My

namespace My
open PySem L2 Mth
abbrev s_Arm_reaches : Stmt := inClass (topS 46) 8
theorem sc_Arm_reaches : FnScope ["self", "spot", "square"] ["self", "spot"] (defScope s_Arm_reaches) := ⟨rfl, rfl, rfl, by decide +kernel, rfl, by decide +kernel, by decide +kernel⟩
section
variable {P : Program} {w : World} {K : PySem.W.Frag} {mg : Str → Option Value} {base : Heap}
/-! ### what an arm reaches -/
def sp_reaches (K : PySem.W.Frag) (C CA : Addr) : Sp := fun vs H Q _ => ∃ va a vz z, vs = [va, vz] ∧ IsA K C CA H va a ∧ AmOk a ∧ B 1000 a.pole ∧ IsT K H vz z ∧ Ok z ∧ B 1900 z ∧ ∀ H', Same H H' → Q (.bl (rch a z)) H'
theorem nn10' {n : Int} (h0 : 0 ≤ n) (h1 : n ≤ 1000) : CMulW n n := mulW (a := 9) (b := 9) (show n.natAbs < 2 ^ 10 by omega) (show n.natAbs < 2 ^ 10 by omega)
theorem near_FB' {n : Int} (h0 : 0 ≤ n) (h1 : n ≤ 1000) : FB 16001 (n * n, 1) := ⟨up_lt (n := 20) (by decide) (mul_lt (n := 10) (m := 10) (show n.natAbs < 2 ^ 10 by omega) (show n.natAbs < 2 ^ 10 by omega)), up_lt (n := 1) (by decide) (show (1 : Int).natAbs < 2 ^ 1 by decide)⟩
theorem ok_reaches {f C CA : Addr} {fd : FuncData} (T : ATxt K CA) (d_check_spot : D P w K mg base "check_spot" 3 (sp_check K)) (d_square_between : D P w K mg base "square_between" 5 (sp_sqb K)) (d_is_from_to : D P w K mg base "is_from_to" 1 (sp_ft K)) (F : Fun K "reaches" "Arm.reaches" s_Arm_reaches f fd) :
    FnOk P w K mg base CX0 6 f fd ["self", "spot"] (sp_reaches K C CA) := by
  refine F.ok sc_Arm_reaches (fun vs H Q E h => ?_) (fun cdv A outer s H vs Q E hr h => ?_)
  · obtain ⟨va, a, vz, z, rfl, _⟩ := h
    rfl
  obtain ⟨va, a, vz, z, rfl, ⟨p, dx, u, t, c, rfl, h1, h2, h3, h4⟩, ok, bp, iz, oz, bz, q⟩ := h
  refine ⟨_, (pss_cons (ps_expr (pc d_check_spot (hr.mono (by decide)) (pa_cons (pv 1) pa_nil)))
    (pss_cons (ps_set (i := 2) sc_Arm_reaches.nd rfl (by first | exact Or.inl rfl | exact Or.inr rfl) (pc d_square_between (hr.mono (by decide)) (pa_cons (pe_fld (pv 0) rfl) (pa_cons (pv 1) pa_nil))))
    (pss_one (ps_ret (pc d_is_from_to (hr.mono (by decide)) (pa_cons (pv 2) (pa_cons (pe_tup (pa_cons (pe_op op_mulW (pe_fld (pv 0) rfl) (pe_fld (pv 0) rfl)) (pa_cons pe_int pa_nil))) (pa_cons (pe_tup (pa_cons (pe_op op_mulW (pe_fld (pv 0) rfl) (pe_fld (pv 0) rfl)) (pa_cons pe_int pa_nil))) pa_nil)))))))), ?_⟩
  refine ⟨_, rfl, _, _, rfl, iz, oz, fun H1 s1 => ?_⟩
  refine ⟨_, rfl, p, CA, dx, _, _, rfl, s1 _ _ h1, T.cl, T.nC, af_centre, _, rfl, _, _, _, _, rfl, ⟨u, rfl, same_T s1 h2⟩, iz.same s1, ok.p, oz, bp.mono (by decide), bz, fun H2 r2 s2 i2 => ?_⟩
  have s12 := s1.trans s2
  have om := minus_ok ok.p oz
  have bm : B 2901 (minus a.pole z) := minus_B ok.p oz bp bz
  have gb : FB 16001 (gr (minus a.pole z)) := (gr_FB om bm).mono (by decide)
  have lo := ok.lo
  have mi := ok.mi
  have hi := ok.hi
  refine ⟨_, rfl, _, rfl, p, CA, dx, _, _, rfl, s12 _ _ h1, T.cl, T.nE, af_least, _, rfl, p, CA, dx, _, _, rfl, s12 _ _ h1, T.cl, T.nE, af_least, _, _, rfl, rfl, nn10' lo (by omega), (by show 2 ≤ sizeLine; decide), fun p3 hp3 => ?_⟩
  have s3 := same_new hp3 (.tup [.int (a.near * a.near), .int 1])
  have s13 := s12.trans s3
  refine ⟨_, rfl, p, CA, dx, _, _, rfl, s13 _ _ h1, T.cl, T.nM, af_most, _, rfl, p, CA, dx, _, _, rfl, s13 _ _ h1, T.cl, T.nM, af_most, _, _, rfl, rfl, nn10' (by omega) hi, (by show 2 ≤ sizeLine; decide), fun p4 hp4 => ?_⟩
  have s4 := same_new hp4 (.tup [.int (a.far * a.far), .int 1])
  refine ⟨_, _, _, _, (a.near * a.near, 1), (a.far * a.far, 1), rfl, i2.same (s3.trans s4), IsF.same IsF.new s4, IsF.new, gb, near_FB' lo (by omega), near_FB' (by omega) hi, ?_⟩
  have e : inF (gr (minus a.pole z)) (a.near * a.near, 1) (a.far * a.far, 1) = rch a z := by unfold rch; rw [gr_sym ok.p oz]
  rw [e]
  exact q _ (s13.trans s4)
structure MAr (P : Program) (w : World) (K : PySem.W.Frag) (mg : Str → Option Value) (base : Heap) (C CA : Addr) : Prop where
  cl : Cls K CA
  ex : ∃ f fd, FnOk P w K mg base CX0 6 f fd ["self", "spot"] (sp_reaches K C CA) ∧ Binds K fd ["self", "spot"] [] ∧ Meth K CA "reaches" f
open PyProof.Rows PySem.Spec in
theorem pe_reaches {X : Cx} {C CA : Addr} {o e : Expr} {to : TE} {t : TA} {apos pos : Pos} {pl : Sem Bool} (M : MAr X.prog X.w X.K X.mg X.base C CA) (hr : Room 6 X.A) (ho : PE X o to) (ha : PA X [e] t)
    (hs1 : starEach [e] X.env = (false, eval e X.env) :: starEach [] X.env := by rfl) (hs2 : (backTo pos (starEach [] X.env)).any (·.1) = false := by rfl)
    (ht : eval (.Call (.Attribute o "reaches" apos) [e] [] pos) X.env = (do
      let ov ← eval o X.env
      standAt apos.atName
      let (g, first) ← holding [ov] (getMethod ov "reaches" pl)
      callWith pos g first (backTo pos (starEach [e] X.env)) (backToKw pos (keywordEach [] X.env))) := by rfl) :
    PE X (.Call (.Attribute o "reaches" apos) [e] [] pos) (tMeth CA "reaches" (sp_reaches X.K C CA) [] E0 to t) := by
  obtain ⟨f, fd, F, b, m⟩ := M.ex
  exact pe_meth ho M.cl m F hr b .nil pass0 ha hs1 hs2 ht
end
end My

namespace My
open PySem L2 Mth LamX
section
variable {P : Program} {w : World} {K : PySem.W.Frag} {mg : Str → Option Value} {base : Heap}
def NotW (v : V) : Prop := v = .non ∨ (∃ b, v = .bl b) ∨ ∃ s, v = .str s
/-- is_whole of an int, a bool, None, a text -/
def sp_wholeA : Sp := fun vs H Q _ => ∃ v, vs = [v] ∧ ((∃ i, v = .int i ∧ Q (.bl true) H) ∨ (NotW v ∧ Q (.bl false) H))
theorem ok_is_wholeA {f : Addr} {fd : FuncData} (b_isinstance : mg "isinstance" = none) (b_int : mg "int" = none) (b_bool : mg "bool" = none) (F : Fun K "is_whole" "is_whole" s_is_whole f fd) : FnOk P w K mg base CX0 1 f fd ["value"] sp_wholeA := by
  refine F.ok sc_is_whole (fun vs H Q E h => ?_) (fun cdv A outer s H vs Q E hr h => ?_)
  · obtain ⟨v, rfl, _⟩ := h
    rfl
  obtain ⟨v, rfl, h⟩ := h
  refine ⟨_, (pss_one (ps_ret (pe_and (pe_callB (r := rIsi K) call_isi (by rfl) b_isinstance (by decide +kernel) (pa_cons (pv 0) (pa_cons (pe_bltn (v := .ty "int") (by rfl) b_int (by decide +kernel) rfl) pa_nil))) (pe_one (pe_not (pe_callB (r := rIsi K) call_isi (by rfl) b_isinstance (by decide +kernel) (pa_cons (pv 0) (pa_cons (pe_bltn (v := .ty "bool") (by rfl) b_bool (by decide +kernel) rfl) pa_nil)))))))), ?_⟩
  rcases h with ⟨i, rfl, q⟩ | ⟨rfl | ⟨b, rfl⟩ | ⟨x, rfl⟩, q⟩
  · refine ⟨_, rfl, _, _, _, _, _, rfl, .ty _, .base (.int i), kit_ty (by decide +kernel), true, rfl, iteT ?_⟩
    exact ⟨_, rfl, _, _, _, _, _, rfl, .ty _, .base (.int i), kit_ty (by decide +kernel), false, rfl, q⟩
  · exact ⟨_, rfl, _, _, _, _, _, rfl, .ty _, .base .non, kit_ty (by decide +kernel), false, rfl, iteF q⟩
  · refine ⟨_, rfl, _, _, _, _, _, rfl, .ty _, .base (.bl b), kit_ty (by decide +kernel), true, rfl, iteT ?_⟩
    exact ⟨_, rfl, _, _, _, _, _, rfl, .ty _, .base (.bl b), kit_ty (by decide +kernel), true, rfl, q⟩
  · exact ⟨_, rfl, _, _, _, _, _, rfl, .ty _, .base (.str x), kit_ty (by decide +kernel), false, rfl, iteF q⟩
/-- an own class over ValueError, to be raised -/
structure ExX (K : PySem.W.Frag) (mg : Str → Option Value) (x : Str) (C : Addr) : Prop where
  q : PySem.W.excIn K C [.type "ValueError", .type "Exception", .type "BaseException", .type "object"] "ValueError.__new__" = true
  k : PySem.W.keepIn K (.ref C) = true
  b : PySem.W.subIn K (.ref C) (.type "BaseException") = some true
  t : PySem.W.typeIn K (.ref C) = some (.type "type")
  g : mg x = some (.ref C)
end
end My

namespace My
open PySem L2 Mth LamX

section
variable {P : Program} {w : World} {K : PySem.W.Frag} {mg : Str → Option Value} {base : Heap}
/-! ### what is no spot -/
theorem D.or {x : Str} {k : Nat} {sp1 sp2 : Sp} (d1 : D P w K mg base x k sp1) (d2 : D P w K mg base x k sp2) : D P w K mg base x k (fun vs H Q E => sp1 vs H Q E ∨ sp2 vs H Q E) := by
  obtain ⟨f, F1, hk, hm⟩ := d1.ex
  obtain ⟨g, F2, _, hm'⟩ := d2.ex
  rw [hm] at hm'
  cases hm'
  exact ⟨f, fun A outer s H us vs Q E hr e0 r h => h.elim (F1 A outer s H us vs Q E hr e0 r) (F2 A outer s H us vs Q E hr e0 r), hk, hm⟩
inductive BadS : List V → Prop
  | len {xs : List V} (h : xs.length ≠ 3) (hl : xs.length ≤ 100) : BadS xs
  | num {x y d : Int} (h : ¬ (1 ≤ d ∧ g3 x y d = 1)) : BadS [.int x, .int y, .int d]
  | kind {a b c : V} (h : ∀ x ∈ [a, b, c], (∃ i, x = .int i) ∨ NotW x) (e : ∃ x ∈ [a, b, c], NotW x) : BadS [a, b, c]
def sp_isspotX (K : PySem.W.Frag) : Sp := fun vs H Q _ => ∃ p xs, vs = [.ref p] ∧ SqT K H p xs ∧ BadS xs ∧ ∀ H', Same H H' → Q (.bl false) H'
def wh (x : V) : Bool := match x with
  | .int _ => true
  | _ => false
theorem ok_is_spotX {f : Addr} {fd : FuncData} (b_isinstance : mg "isinstance" = none) (b_tuple : mg "tuple" = none) (b_len : mg "len" = none) (b_all : mg "all" = none) (d_common_divisor : D P w K mg base "common_divisor" 1 sp_gcd) (d_is_whole : D P w K mg base "is_whole" 1 sp_wholeA)
    (F : Fun K "is_spot" "is_spot" s_is_spot f fd) : FnOk P w K mg base CX0 2 f fd ["value"] (sp_isspotX K) := by
  refine F.ok sc_is_spot (fun vs H Q E h => ?_) (fun cdv A outer s H vs Q E hr h => ?_)
  · obtain ⟨p, xs, rfl, _⟩ := h
    rfl
  obtain ⟨p, xs, rfl, ta, bad, q⟩ := h
  refine ⟨_, (pss_cons (ps_if (PW.pt (pw_or (pt_not (pt_val (pe_callB (r := rIsi K) call_isi (by rfl) b_isinstance (by decide +kernel) (pa_cons (pv 0) (pa_cons (pe_bltn (v := .ty "tuple") (by rfl) b_tuple (by decide +kernel) rfl) pa_nil))))) (pw_or1 (pt_cmpR (op_ne) (pe_callB call_len_seq (by rfl) b_len PySem.boot_len (pa_cons (pv 0) pa_nil)) pe_int (nomark _))))) (pss_one (ps_ret pe_bl)) pss_nil)
    (pss_cons (ps_if (pt_not (pt_val (pe_callB (cr_all rfl) (by rfl) b_all (by decide +kernel) (pa_cons (pe_lc (own := [("number", 1)]) (g := gName 1) (tt := tYes) (by rfl) sc_is_spot.nd (pi_tup (pv 0)) (blkOk_by (own := [("number", 1)]) (N := ["value", "number", "x", "y", "d"]) (sc := defScope s_is_spot) (by decide +kernel)) (fun _ _ _ _ _ => (pg_name (i := 1) sc_is_spot.nd rfl (by first | exact Or.inl rfl | exact Or.inr rfl))) (fun _ _ _ _ _ => pts_nil) (fun _ _ _ _ _ => (pc d_is_whole (hr.mono (by decide)) (pa_cons (pv 1) pa_nil)))) pa_nil)))) (pss_one (ps_ret pe_bl)) pss_nil)
    (pss_cons (ps_asg (pv 0) (pg_tup rfl (pgs_cons (pg_name (i := 2) sc_is_spot.nd rfl (by first | exact Or.inl rfl | exact Or.inr rfl)) (pgs_cons (pg_name (i := 3) sc_is_spot.nd rfl (by first | exact Or.inl rfl | exact Or.inr rfl)) (pgs_cons (pg_name (i := 4) sc_is_spot.nd rfl (by first | exact Or.inl rfl | exact Or.inr rfl)) pgs_nil)))))
    (pss_one (ps_ret (pe_and (pe_cmpR (op_ge) (pv 4) pe_int (nomark _)) (pe_one (pe_cmpR (op_eq) (pc d_common_divisor (hr.mono (by decide)) (pa_cons (pc d_common_divisor (hr.mono (by decide)) (pa_cons (pv 2) (pa_cons (pv 3) pa_nil))) (pa_cons (pv 4) pa_nil))) pe_int (nomark _))))))))), ?_⟩
  refine ⟨_, rfl, _, _, _, _, _, rfl, .ty _, ty_T ta, kit_ty (by decide +kernel), true, rfl, ?_⟩
  refine iteF ?_
  refine ⟨_, rfl, _, _, rfl, .inr ta, rfl, _, rfl, ?_⟩
  by_cases hl : ¬ xs.length = 3
  · rw [decide_eq_false (fun z => hl (by have := V.int.inj z; omega))]
    exact iteT (q _ (Same.refl _))
  have hl : xs.length = 3 := Decidable.not_not.mp hl
  rw [show V.int (xs.length : Int) = V.int 3 by rw [hl]; rfl, decide_eq_true rfl]
  refine iteF ?_
  have items : ∀ x ∈ xs, (∃ i, x = .int i) ∨ NotW x := fun x hx => by
    cases bad with
    | len h => exact absurd hl h
    | num h =>
      simp only [List.mem_cons, List.mem_nil_iff, or_false] at hx
      rcases hx with rfl | rfl | rfl <;> exact .inl ⟨_, rfl⟩
    | kind h e => exact h x hx
  refine ⟨_, rfl, _, rfl, ⟨_, ta⟩, fun L hL => lc_tup (K := K) (a := p) (xs := xs) (fun i H' => ∃ acc : List V, H' = upd H L (.lst acc) ∧ acc = ((xs.take i).map wh).map V.bl) ⟨[], rfl, rfl⟩ ?_ ?_ ?_⟩
  · rintro i H' hi ⟨acc, rfl, _⟩
    exact same_T (same_new hL _) ta
  · rintro i x H' hx ⟨acc, rfl, ea⟩
    refine ⟨rfl, ?_⟩
    refine yes_of ?_
    have fin : ∃ acc', upd H L (.lst acc) L = some (.lst acc') ∧ acc'.length < sizeLine ∧ ∃ acc'', upd (upd H L (.lst acc)) L (.lst (acc' ++ [.bl (wh x)])) = upd H L (.lst acc'') ∧ acc'' = ((xs.take (i + 1)).map wh).map V.bl := by
      refine ⟨acc, upd_same, ?_, acc ++ [.bl (wh x)], upd_upd, ?_⟩
      · rw [ea, List.length_map, List.length_map, List.length_take]; exact small1000 (by omega)
      · rw [tk_map wh hx, List.map_append, ea]; rfl
    rcases items x (List.mem_of_getElem? hx) with ⟨i', rfl⟩ | nw
    · exact ⟨_, rfl, _, rfl, .inl ⟨i', rfl, fin⟩⟩
    · have ew : wh x = false := by rcases nw with rfl | ⟨b, rfl⟩ | ⟨t, rfl⟩ <;> rfl
      rw [ew] at fin
      exact ⟨_, rfl, _, rfl, .inr ⟨nw, fin⟩⟩
  · rintro H' ⟨acc, rfl, ea⟩
    rw [List.take_length] at ea
    refine ⟨_, xs.map wh, rfl, .inl (.inl ?_), ?_⟩
    · rw [ea]; exact upd_same
    refine ⟨_, rfl, ?_⟩
    have s1 := same_new hL (.lst acc)
    cases bad with
    | len h => exact absurd hl h
    | kind h e =>
      obtain ⟨x, hx, nw⟩ := e
      have ew : wh x = false := by rcases nw with rfl | ⟨b, rfl⟩ | ⟨t, rfl⟩ <;> rfl
      rw [show (([_, _, _] : List V).map wh).all id = false from List.all_eq_false.mpr ⟨wh x, List.mem_map.mpr ⟨x, hx, rfl⟩, by rw [ew]; decide⟩]
      exact iteT (q _ s1)
    | @num x y d h =>
      refine iteF ?_
      refine ⟨_, rfl, _, _, rfl, same_T s1 ta, rfl, _, _, rfl, _, _, rfl, _, _, rfl, rfl, ?_⟩
      refine ⟨_, rfl, _, _, rfl, rfl, _, rfl, ?_⟩
      by_cases hd : (1 : Int) ≤ d
      · rw [decide_eq_true hd]
        refine iteT ?_
        refine ⟨_, rfl, _, rfl, _, _, rfl, _, rfl, _, _, rfl, rfl, ?_⟩
        have e : ¬ V.int ((Int.gcd ((Int.gcd x y : Nat) : Int) d : Nat) : Int) = V.int 1 := fun z => h ⟨hd, V.int.inj z⟩
        show Q (.bl (decide (V.int ((Int.gcd ((Int.gcd x y : Nat) : Int) d : Nat) : Int) = V.int 1))) _
        rw [decide_eq_false e]
        exact q _ s1
      · rw [decide_eq_false hd]
        exact iteF (q _ s1)
/-- a def that may raise -/
structure DX (P : Program) (w : World) (K : PySem.W.Frag) (mg : Str → Option Value) (base : Heap) (x : Str) (k : Nat) (sp : Sp) : Prop where
  ex : ∃ f, FnR P w K mg base (L2.CX P w) k f sp ∧ PySem.W.keepIn K (.ref f) = true ∧ mg x = some (.ref f)
def tClX (sp : Sp) (E : XK) (t : TA) : TE := fun σ H Q => t σ H fun vs H1 => sp vs H1 Q E
theorem pcX {X : Cx} {k : Nat} {sp : Sp} {x : Str} {e : Expr} {es : List Expr} {t : TA} {p pos : Pos} {E : XK} (d : DX X.prog X.w X.K X.mg X.base x k sp) (hr : Room k X.A) (hx : Passes (L2.CX X.prog X.w) X E) (ha : PA X (e :: es) t) (hg : Gl X x := by rfl) (hd : (x == ("__debug__" : Str)) = false := by decide)
    (he : starEach (e :: es) X.env = (false, eval e X.env) :: starEach es X.env := by rfl) (hpl : (backTo pos (starEach es X.env)).any (·.1) = false := by rfl) :
    PE X (.Call (.Name x p) (e :: es) [] pos) (tClX sp E t) := by
  obtain ⟨f, F, hk, hm⟩ := d.ex
  refine ⟨fun pins s σ H Q I h => ?_⟩
  refine wpAny_Call_Name_kw (ld_glob I hg hm ?_ hd)
  refine PySem.W.callWith_K (h₀ := X.base) I.ok.mod.kin hk (thn (ha.run pos pins s σ H _ I h) fun us s1 ⟨vs, H1, I1, r, q⟩ => ⟨I1.kIn, ?_⟩) he hpl
  exact wpAny_call (run_fnR F hr hx I1 r q)
theorem rOfX {k : Nat} {f : Addr} {fd : FuncData} {ps : List Str} {sp : Sp} (F : FnOk P w K mg base (L2.CX P w) k f fd ps sp) (b : Binds K fd ps []) : FnR P w K mg base (L2.CX P w) k f sp := rOf F b
def sp_isspotB (K : PySem.W.Frag) : Sp := fun vs H Q E => sp_isspot K vs H Q E ∨ sp_isspotX K vs H Q E
def sp_checkB (K : PySem.W.Frag) (CT : Addr) : Sp := fun vs H Q E => ∃ v, vs = [v] ∧ ((∃ a, IsT K H v a ∧ Ok a ∧ ∀ H', Same H H' → Q .non H') ∨ ∃ p xs, v = .ref p ∧ SqT K H p xs ∧ BadS xs ∧ ∀ H', Same H H' → E (.ref CT) none H')
theorem ok_check_spotB {f CT : Addr} {fd : FuncData} (XS : ExX K mg "InvalidSpot" CT) (d_is_spotB : D P w K mg base "is_spot" 2 (sp_isspotB K)) (F : Fun K "check_spot" "check_spot" s_check_spot f fd) : FnOk P w K mg base (L2.CX P w) 3 f fd ["value"] (sp_checkB K CT) := by
  refine F.okX sc_check_spot (fun vs H Q E h => ?_) (fun cdv A outer s H vs Q E hr h => ?_)
  · obtain ⟨v, rfl, _⟩ := h
    rfl
  obtain ⟨v, rfl, h⟩ := h
  refine ⟨_, (pss_one (ps_if (pt_not (pt_val (pc d_is_spotB (hr.mono (by decide)) (pa_cons (pv 0) pa_nil)))) (pss_one (ps_raise rfl (takes_of rfl rfl rfl rfl) (pmk_own PySem.F.excBase_ValueError XS.q XS.g XS.k (raises_own XS.b XS.t) (by rfl)))) pss_nil)), ?_⟩
  rcases h with ⟨a, ia, oa, q⟩ | ⟨p, xs, rfl, ta, bad, q⟩
  · exact ⟨_, rfl, .inl ⟨_, _, rfl, ia, oa, fun H1 s1 => ⟨_, rfl, iteF (q _ s1)⟩⟩⟩
  · exact ⟨_, rfl, .inr ⟨_, _, rfl, ta, bad, fun H1 s1 => ⟨_, rfl, iteT (q _ s1)⟩⟩⟩
end
end My

namespace My
open PySem L2 Mth LamX
section
variable {K : PySem.W.Frag}
/-! ### what stays when a lambda is made; the pairs that tell of an error -/
theorem extN_T {H H' : Hp} {p : Addr} {xs : List V} (h : SqT K H p xs) (e : ExtN H H') : SqT K H' p xs := by
  rcases h with (h | ⟨o, h⟩) | h
  · exact .inl (.inl (e _ _ h (fun ps z => by cases z)))
  · exact .inl (.inr ⟨o, e _ _ h (fun ps z => by cases z)⟩)
  · exact .inr h
theorem extN_L {H H' : Hp} {p : Addr} {xs : List V} (h : H p = some (.lst xs)) (e : ExtN H H') : H' p = some (.lst xs) := e _ _ h (fun ps z => by cases z)
theorem IsT.extN {H H' : Hp} {v : V} {t : T3} (h : IsT K H v t) (e : ExtN H H') : IsT K H' v t := by
  obtain ⟨p, rfl, q⟩ := h
  exact ⟨p, rfl, extN_T q e⟩
theorem TabS.keep {H H' : Hp} {P d : Addr} {q : Str} {ys : List V} (t : TabS H P q) (hd : H d = some (.lst ys)) (k : Keep d H H') : TabS H' P q := by
  obtain ⟨ps, h1, h2, h3⟩ := t
  refine ⟨ps, k _ _ (ne_of h1 hd (by intro z; cases z)) h1, h2, fun pos cv hc => ?_⟩
  obtain ⟨c, e1, e2⟩ := h3 pos cv hc
  exact ⟨c, e1, k _ _ (ne_of e2 hd (by intro z; cases z)) e2⟩
def dErr (n : Str) : PyData := .tuple [.str n, .int 0]
theorem shapedE {n : Str} (h : PyData.strOk n = true) : SeqAt.shaped (dErr n) = true := by
  show ((PyData.strOk n && (true && true)) && decide (_ ≤ 64)) = true
  rw [h]
  rfl
theorem eqvE (n : Str) : PyData.eqv (dErr n) (dErr n) = true := by simp [dErr, PyData.eqv, PyData.eqvAll]
end
end My

namespace My
open PySem L2 Mth LamX

section
variable {P : Program} {w : World} {K : PySem.W.Frag} {mg : Str → Option Value} {base : Heap}
/-! ### copies that cannot be made -/
def BadT (K : PySem.W.Frag) (H : Hp) (v : V) : Prop := (∃ p xs, v = .ref p ∧ SqT K H p xs ∧ BadS xs) ∨ IsT K H v (0, 0, 1)
theorem BadT.same {H H' : Hp} {v : V} (h : BadT K H v) (s : Same H H') : BadT K H' v := by
  rcases h with ⟨p, xs, e, h1, h2⟩ | h
  · exact .inl ⟨p, xs, e, same_T s h1, h2⟩
  · exact .inr (h.same s)
def sp_checkTB (K : PySem.W.Frag) (CT : Addr) : Sp := fun vs H Q E => ∃ v, vs = [v] ∧ ((∃ a, IsT K H v a ∧ Ok a ∧ Nz a ∧ ∀ H', Same H H' → Q .non H') ∨ (BadT K H v ∧ ∀ H', Same H H' → E (.ref CT) none H'))
theorem ok_check_turnB {f CT aM : Addr} {fd : FuncData} (XT : ExX K mg "InvalidTurn" CT) (d_is_spotB : D P w K mg base "is_spot" 2 (sp_isspotB K)) (m_MIDDLE : mg "MIDDLE" = some (.ref aM)) (t_MIDDLE : ∀ H, SqT K H aM (v3 (0, 0, 1))) (F : Fun K "check_turn" "check_turn" s_check_turn f fd) :
    FnOk P w K mg base (L2.CX P w) 3 f fd ["value"] (sp_checkTB K CT) := by
  refine F.okX sc_check_turn (fun vs H Q E h => ?_) (fun cdv A outer s H vs Q E hr h => ?_)
  · obtain ⟨v, rfl, _⟩ := h
    rfl
  obtain ⟨v, rfl, h⟩ := h
  refine ⟨_, (pss_one (ps_if (PW.pt (pw_or (pt_not (pt_val (pc d_is_spotB (hr.mono (by decide)) (pa_cons (pv 0) pa_nil)))) (pw_or1 (pt_cmpR (r := rEqD K) (op_eqD hr.units) (pv 0) (pe_glob (v := .ref aM) (by rfl) m_MIDDLE rfl) (nomark _))))) (pss_one (ps_raise rfl (takes_of rfl rfl rfl rfl) (pmk_own PySem.F.excBase_ValueError XT.q XT.g XT.k (raises_own XT.b XT.t) (by rfl)))) pss_nil)), ?_⟩
  rcases h with ⟨a, ⟨p, rfl, ta⟩, oa, na, q⟩ | ⟨⟨p, xs, rfl, h1, h2⟩ | ⟨p, rfl, ta⟩, q⟩
  · refine ⟨_, rfl, .inl ⟨_, _, rfl, ⟨p, rfl, ta⟩, oa, fun H1 s1 => ⟨_, rfl, iteF ?_⟩⟩⟩
    refine ⟨_, rfl, _, _, Dp3 (same_T s1 ta), Dp3 (t_MIDDLE H1), shaped3 _, shaped3 _, _, rfl, ?_⟩
    rw [eqv3, decide_eq_false (fun z => by rw [z] at na; rcases na with n | n <;> exact n rfl)]
    exact iteF (q _ s1)
  · exact ⟨_, rfl, .inr ⟨_, _, rfl, h1, h2, fun H1 s1 => ⟨_, rfl, iteT (q _ s1)⟩⟩⟩
  · refine ⟨_, rfl, .inl ⟨_, _, rfl, ⟨p, rfl, ta⟩, ok_0, fun H1 s1 => ⟨_, rfl, iteF ?_⟩⟩⟩
    refine ⟨_, rfl, _, _, Dp3 (same_T s1 ta), Dp3 (t_MIDDLE H1), shaped3 _, shaped3 _, _, rfl, ?_⟩
    rw [eqv3, decide_eq_true rfl]
    exact iteT (q _ s1)
def sp_initX (K : PySem.W.Frag) (CS CT : Addr) : Sp := fun vs H Q E => ∃ vp vt vs' vm, vs = [vp, vt, vs', vm] ∧ ((BadT K H vt ∧ ∀ H', Same H H' → E (.ref CT) none H') ∨
  ((∃ t, IsT K H vt t ∧ Ok t ∧ Nz t) ∧ (∃ q xs, vs' = .ref q ∧ SqT K H q xs ∧ BadS xs) ∧ ∀ H', Same H H' → E (.ref CS) none H'))
theorem ok_initX {f CS CT : Addr} {fd : FuncData} {kws : List (Str × V)} (d_check_turnB : DX P w K mg base "check_turn" 3 (sp_checkTB K CT)) (d_check_spotB : DX P w K mg base "check_spot" 3 (sp_checkB K CS))
    (F : FunD K "__init__" "Copy.__init__" (defArgs s_Copy___init__) (defBody s_Copy___init__) (defScope s_Copy___init__) [] kws f fd) : FnOk P w K mg base (L2.CX P w) 4 f fd ["self", "turn", "shift", "mirrored"] (sp_initX K CS CT) := by
  refine F.ok sc_Copy___init__ (fun vs H Q E h => ?_) (fun cdv A outer s H vs Q E hr h => ?_)
  · obtain ⟨vp, vt, vs', vm, rfl, _⟩ := h
    rfl
  obtain ⟨vp, vt, vs', vm, rfl, h⟩ := h
  refine ⟨_, (pss_cons (ps_expr (pcX d_check_turnB (hr.mono (by decide)) (passes_call (takes_of rfl rfl rfl rfl) (fun _ _ _ _ h => h)) (pa_cons (pv 1) pa_nil)))
    (pss_cons (ps_expr (pcX d_check_spotB (hr.mono (by decide)) (passes_call (takes_of rfl rfl rfl rfl) (fun _ _ _ _ h => h)) (pa_cons (pv 2) pa_nil)))
    pss_never)), ?_⟩
  rcases h with ⟨bad, q⟩ | ⟨⟨t, it, ot, nt⟩, ⟨qa, xs, rfl, h1, h2⟩, q⟩
  · exact ⟨_, rfl, _, rfl, .inr ⟨bad, q⟩⟩
  · refine ⟨_, rfl, _, rfl, .inl ⟨t, it, ot, nt, fun H1 s1 => ?_⟩⟩
    exact ⟨_, rfl, _, rfl, .inr ⟨_, _, rfl, same_T s1 h1, h2, fun H2 s2 => q _ (s1.trans s2)⟩⟩
structure CopyX (P : Program) (w : World) (K : PySem.W.Frag) (mg : Str → Option Value) (base : Heap) (C f CS CT : Addr) (fd : FuncData) (ds : List Value) : Prop where
  mkC : Mk K C f
  ok : FnOk P w K mg base (L2.CX P w) 4 f fd ["self", "turn", "shift", "mirrored"] (sp_initX K CS CT)
  mgC : mg "Copy" = some (.ref C)
  bv : Vals [.bl false] ds
  bd : Binds K fd ["self", "turn", "shift", "mirrored"] ds
  kb : KBn K fd ["self", "turn", "shift", "mirrored"] 3 ["mirrored"] (fun us ws => us ++ ws) (fun vs zs => vs ++ zs)
theorem mkcx_t {C CS CT : Addr} {H : Hp} {Qf : Addr → VK} {E : XK} {vt vs vm : V} (bad : BadT K H vt) (q : ∀ H', Same H H' → E (.ref CT) none H') :
    ∀ x dx, H x = none → H dx = none → dx ≠ x → sp_initX K CS CT [.ref x, vt, vs, vm] (upd (upd H dx (.own x)) x (.ins C dx [])) (Qf x) E := by
  intro x dx hx hd _
  have sm : Same H (upd (upd H dx (.own x)) x (.ins C dx [])) := fun c o e => by
    rw [upd_ne (ne_of_none e hx), upd_ne (ne_of_none e hd)]
    exact e
  exact ⟨_, _, _, _, rfl, .inl ⟨bad.same sm, fun H' s' => q _ (sm.trans s')⟩⟩
theorem mkcx_s {C CS CT : Addr} {H : Hp} {Qf : Addr → VK} {E : XK} {vt vm : V} {t : T3} {p : Addr} {xs : List V} (it : IsT K H vt t) (ot : Ok t) (nt : Nz t) (h : SqT K H p xs) (bad : BadS xs) (q : ∀ H', Same H H' → E (.ref CS) none H') :
    ∀ x dx, H x = none → H dx = none → dx ≠ x → sp_initX K CS CT [.ref x, vt, .ref p, vm] (upd (upd H dx (.own x)) x (.ins C dx [])) (Qf x) E := by
  intro x dx hx hd _
  have sm : Same H (upd (upd H dx (.own x)) x (.ins C dx [])) := fun c o e => by
    rw [upd_ne (ne_of_none e hx), upd_ne (ne_of_none e hd)]
    exact e
  exact ⟨_, _, _, _, rfl, .inr ⟨⟨t, it.same sm, ot, nt⟩, ⟨p, xs, rfl, same_T sm h, bad⟩, fun H' s' => q _ (sm.trans s')⟩⟩
def sp_apX (K : PySem.W.Frag) (C CS : Addr) : Sp := fun vs H Q E => ∃ vc q xs, vs = [vc, .ref q] ∧ SqT K H q xs ∧ BadS xs ∧ ∀ H', Same H H' → E (.ref CS) none H'
theorem ok_callX {f C CS : Addr} {fd : FuncData} (d_check_spotB : DX P w K mg base "check_spot" 3 (sp_checkB K CS)) (F : Fun K "__call__" "Copy.__call__" s_Copy___call__ f fd) : FnOk P w K mg base (L2.CX P w) 5 f fd ["self", "spot"] (sp_apX K C CS) := by
  refine F.okX sc_Copy___call__ (fun vs H Q E h => ?_) (fun cdv A outer s H vs Q E hr h => ?_)
  · obtain ⟨vc, qa, xs, rfl, _⟩ := h
    rfl
  obtain ⟨vc, qa, xs, rfl, h1, h2, q⟩ := h
  refine ⟨_, (pss_cons (ps_expr (pcX d_check_spotB (hr.mono (by decide)) (passes_call (takes_of rfl rfl rfl rfl) (fun _ _ _ _ h => h)) (pa_cons (pv 1) pa_nil)))
    pss_never), ?_⟩
  exact ⟨_, rfl, _, rfl, .inr ⟨_, _, rfl, h1, h2, q⟩⟩
structure MCaX (P : Program) (w : World) (K : PySem.W.Frag) (mg : Str → Option Value) (base : Heap) (C CS : Addr) : Prop where
  ex : ∃ f, FnR P w K mg base (L2.CX P w) 5 f (sp_apX K C CS) ∧ StX.CallO K C f
def tApX (K : PySem.W.Frag) (C CS : Addr) (E : XK) (tf : TE) (t : TA) : TE := fun σ H Q => tf σ H fun y H1 => ∃ a, y = V.ref a ∧ t σ H1 fun vs H2 => (∃ dx fs, H2 a = some (.ins C dx fs)) ∧ sp_apX K C CS (V.ref a :: vs) H2 Q E
open PyProof.Rows PySem.Spec in
theorem pe_apX {X : Cx} {C CS : Addr} {fe e : Expr} {es : List Expr} {tf : TE} {t : TA} {pos : Pos} {E : XK} (M : MCaX X.prog X.w X.K X.mg X.base C CS) (hr : Room 5 X.A) (hx : Passes (L2.CX X.prog X.w) X E) (hf : PE X fe tf) (ha : PA X (e :: es) t)
    (ht : eval (.Call fe (e :: es) [] pos) X.env = (do callWith pos (← eval fe X.env) [] (backTo pos (starEach (e :: es) X.env)) (backToKw pos (keywordEach [] X.env))) := by rfl)
    (he : starEach (e :: es) X.env = (false, eval e X.env) :: starEach es X.env := by rfl) (hpl : (backTo pos (starEach es X.env)).any (·.1) = false := by rfl) : PE X (.Call fe (e :: es) [] pos) (tApX X.K C CS E tf t) := by
  obtain ⟨g, F, c⟩ := M.ex
  refine ⟨fun pins s σ H Q I h => ?_⟩
  refine Call_ (thn (hf.run pins s σ H _ I h) fun u s1 ⟨y, H1, I1, ry, a, ey, q⟩ => ?_) ht
  subst ey
  obtain rfl : u = Value.ref a := ry
  refine StX.callO_with (thn (ha.run pos pins s1 σ H1 _ I1 q) fun us s2 ⟨vs, H2, I2, r, hi, q2⟩ => ?_) he hpl
  have hi' : StX.InsC X H2 a C := .inr hi
  obtain ⟨ox, od, J, hd⟩ := StX.insC_at I2 hi'
  exact ⟨⟨C, ox, od, J, hd⟩, StX.run_callO c F hr hx I2 hi' r q2⟩
/-! ### a copy and an int are not equal -/
def sp_ceqI (K : PySem.W.Frag) (C : Addr) : Sp := fun vs H Q _ => ∃ va a i, vs = [va, .int i] ∧ IsC K C H va a ∧ Q (.bl false) H
theorem ok_eqI {f C : Addr} {fd : FuncData} (kI : PySem.W.kitOne K (.type "int") (.ref C) = some false) (mgC : mg "Copy" = some (.ref C)) (b_isinstance : mg "isinstance" = none) (F : Fun K "__eq__" "Copy.__eq__" s_Copy___eq__ f fd) : FnOk P w K mg base CX0 1 f fd ["self", "other"] (sp_ceqI K C) := by
  refine F.ok sc_Copy___eq__ (fun vs H Q E h => ?_) (fun cdv A outer s H vs Q E hr h => ?_)
  · obtain ⟨va, a, i, rfl, _⟩ := h
    rfl
  obtain ⟨va, a, i, rfl, ic, q⟩ := h
  refine ⟨_, (pss_one (ps_ret (pe_and (pe_callB (r := rIsi K) call_isi (by rfl) b_isinstance (by decide +kernel) (pa_cons (pv 1) (pa_cons (pe_glob (v := .ref C) (by rfl) mgC rfl) pa_nil))) (pe_and (pe_cmpR (op_eqD hr.units) (pe_fld (pv 0) rfl) (pe_fld (pv 1) rfl) (nomark _)) (pe_and (pe_cmpR (op_eqD hr.units) (pe_fld (pv 0) rfl) (pe_fld (pv 1) rfl) (nomark _)) (pe_one (pe_cmpR (op_eq) (pe_fld (pv 0) rfl) (pe_fld (pv 1) rfl) (nomark _)))))))), ?_⟩
  refine ⟨_, rfl, _, _, _, _, false, rfl, .own C, .base (.int _), ?_, false, rfl, iteF q⟩
  exact kI
structure MEqI (P : Program) (w : World) (K : PySem.W.Frag) (mg : Str → Option Value) (base : Heap) (C : Addr) : Prop where
  nf : PySem.W.notFirst K C (.type "int") = true
  ex : ∃ f, FnR P w K mg base CX0 1 f (sp_ceqI K C) ∧ PySem.W.findIn K (.ref C) "__eq__" = some (some (.ref f)) ∧ PySem.W.isFn K (.ref f) = true
def rOwnI (C : Addr) (sp : Sp) : R2 := fun x y H Q => ∃ a dx fs i, x = .ref a ∧ y = .int i ∧ H a = some (.ins C dx fs) ∧ sp [.ref a, .int i] H Q E0
theorem op_ceqI {X : Cx} {C : Addr} (M : MEqI X.prog X.w X.K X.mg X.base C) (hr : Room 1 X.A) : OpR X (compareOp .Eq) (rOwnI C (sp_ceqI X.K C)) := by
  obtain ⟨f, F, h1, h2⟩ := M.ex
  intro pins s σ H x y v u Q I rx ry hq
  obtain ⟨a, dx, fs, i, rfl, rfl, ha, q⟩ := hq
  cases rx
  obtain ⟨t, rfl⟩ := ry
  obtain ⟨mA, J, _⟩ := ins_get I.hok ha
  obtain ⟨od, J, _⟩ := J.look
  obtain ⟨m, hF⟩ := I.fr
  show wpAny (model X.prog X.w) X.A (richCompare .Eq (.ref a) (.int i t)) (EP X pins σ Q) X.xe s
  refine PySem.W.cmp_K (op := .Eq) (tb := .type "int") hr.units0 hF I.ok.mod.kin J .now M.nf h1 h2 ?_
  exact wpAny_mono (wpAny_call (run_fnR (us := [.ref a, .int i t]) (vs := [V.ref a, V.int i]) F hr pass0 I (.cons rfl (.cons ⟨t, rfl⟩ .nil)) q)) (fun v s' h => back_of h) fun _ _ z => z
theorem ceqI_of {C : Addr} {H : Hp} {Q : VK} {x : V} {a : Cp} {i : Int} (ix : IsC K C H x a) (q : Q (.bl false) H) : rOwnI C (sp_ceqI K C) x (.int i) H Q := by
  obtain ⟨p, dx, _, _, rfl, h1, _⟩ := id ix
  exact ⟨p, dx, _, i, rfl, rfl, h1, _, a, i, rfl, ix, q⟩
end
end My

namespace My
open PySem L2 Mth LamX

section
variable {P : Program} {w : World} {K : PySem.W.Frag} {mg : Str → Option Value} {base : Heap}
/-! ### arms that cannot be made -/
inductive BadR : V → V → Prop
  | n {a b : V} (h : NotW a) : BadR a b
  | f {n : Int} {b : V} (h : NotW b) : BadR (.int n) b
  | r {n f : Int} (h : ¬ (0 ≤ n ∧ n ≤ f ∧ f ≤ 1000)) : BadR (.int n) (.int f)
def sp_reachX (C6 : Addr) : Sp := fun vs H Q E => ∃ a b, vs = [a, b] ∧ BadR a b ∧ E (.ref C6) none H
theorem ok_check_reachX {f C6 : Addr} {fd : FuncData} {tk : Tok} (m_MOST_REACH : mg "MOST_REACH" = some (.int 1000 tk)) (XR : ExX K mg "InvalidReach" C6) (d_is_whole : D P w K mg base "is_whole" 1 sp_wholeA) (F : Fun K "check_reach" "check_reach" s_check_reach f fd) : FnOk P w K mg base (L2.CX P w) 2 f fd ["near", "far"] (sp_reachX C6) := by
  refine F.okX sc_check_reach (fun vs H Q E h => ?_) (fun cdv A outer s H vs Q E hr h => ?_)
  · obtain ⟨a, b, rfl, _⟩ := h
    rfl
  obtain ⟨a, b, rfl, bad, q⟩ := h
  refine ⟨_, (pss_one (ps_if (PW.pt (pw_or (pt_not (pt_val (pc d_is_whole (hr.mono (by decide)) (pa_cons (pv 0) pa_nil)))) (pw_or (pt_not (pt_val (pc d_is_whole (hr.mono (by decide)) (pa_cons (pv 1) pa_nil)))) (pw_or1 (pt_not (pt_chain3 op_le op_le op_le pe_int (pv 0) (pv 1) (pe_glob (v := .int 1000) (by rfl) m_MOST_REACH ⟨_, rfl⟩))))))) (pss_one (ps_raise rfl (takes_of rfl rfl rfl rfl) (pmk_own PySem.F.excBase_ValueError XR.q XR.g XR.k (raises_own XR.b XR.t) (by rfl)))) pss_nil)), ?_⟩
  cases bad with
  | n h => exact ⟨_, rfl, _, rfl, .inr ⟨h, _, rfl, iteT q⟩⟩
  | @f n _ h =>
    refine ⟨_, rfl, _, rfl, .inl ⟨n, rfl, _, rfl, iteF ?_⟩⟩
    exact ⟨_, rfl, _, rfl, .inr ⟨h, _, rfl, iteT q⟩⟩
  | @r n g h =>
    refine ⟨_, rfl, _, rfl, .inl ⟨n, rfl, _, rfl, iteF ?_⟩⟩
    refine ⟨_, rfl, _, rfl, .inl ⟨g, rfl, _, rfl, iteF ?_⟩⟩
    refine ⟨_, rfl, _, _, rfl, rfl, _, rfl, ?_⟩
    by_cases h0 : 0 ≤ n
    · rw [decide_eq_true h0]
      refine iteT ?_
      refine ⟨_, rfl, _, _, rfl, rfl, _, rfl, ?_⟩
      by_cases h1 : n ≤ g
      · rw [decide_eq_true h1]
        refine iteT ?_
        refine ⟨_, _, rfl, rfl, _, rfl, ?_⟩
        rw [decide_eq_false (fun z => h ⟨h0, h1, z⟩)]
        exact iteT q
      · rw [decide_eq_false h1]
        exact iteF ⟨_, rfl, iteT q⟩
    · rw [decide_eq_false h0]
      exact iteF ⟨_, rfl, iteT q⟩
def sp_ainitX (K : PySem.W.Frag) (CS CT C6 : Addr) : Sp := fun vs H Q E => ∃ v0 vp vt vn vf vm, vs = [v0, vp, vt, vn, vf, vm] ∧ (((∃ p xs, vp = .ref p ∧ SqT K H p xs ∧ BadS xs) ∧ ∀ H', Same H H' → E (.ref CS) none H') ∨
  (∃ z, IsT K H vp z ∧ Ok z ∧ ((BadT K H vt ∧ ∀ H', Same H H' → E (.ref CT) none H') ∨ ((∃ t, IsT K H vt t ∧ Ok t ∧ Nz t) ∧ BadR vn vf ∧ ∀ H', Same H H' → E (.ref C6) none H'))))
theorem ok_ainitX {f CS CT C6 : Addr} {fd : FuncData} {kws : List (Str × V)} (d_check_spotB : DX P w K mg base "check_spot" 3 (sp_checkB K CS)) (d_check_turnB : DX P w K mg base "check_turn" 3 (sp_checkTB K CT)) (d_check_reachX : DX P w K mg base "check_reach" 2 (sp_reachX C6))
    (F : FunD K "__init__" "Arm.__init__" (defArgs s_Arm___init__) (defBody s_Arm___init__) (defScope s_Arm___init__) [] kws f fd) : FnOk P w K mg base (L2.CX P w) 7 f fd ["self", "pole", "turn", "near", "far", "mirrored"] (sp_ainitX K CS CT C6) := by
  refine F.ok sc_Arm___init__ (fun vs H Q E h => ?_) (fun cdv A outer s H vs Q E hr h => ?_)
  · obtain ⟨v0, vp, vt, vn, vf, vm, rfl, _⟩ := h
    rfl
  obtain ⟨v0, vp, vt, vn, vf, vm, rfl, h⟩ := h
  refine ⟨_, (pss_cons (ps_expr (pcX d_check_spotB (hr.mono (by decide)) (passes_call (takes_of rfl rfl rfl rfl) (fun _ _ _ _ h => h)) (pa_cons (pv 1) pa_nil)))
    (pss_cons (ps_expr (pcX d_check_turnB (hr.mono (by decide)) (passes_call (takes_of rfl rfl rfl rfl) (fun _ _ _ _ h => h)) (pa_cons (pv 2) pa_nil)))
    (pss_cons (ps_expr (pcX d_check_reachX (hr.mono (by decide)) (passes_call (takes_of rfl rfl rfl rfl) (fun _ _ _ _ h => h)) (pa_cons (pv 3) (pa_cons (pv 4) pa_nil))))
    pss_never))), ?_⟩
  rcases h with ⟨⟨p, xs, rfl, h1, h2⟩, q⟩ | ⟨z, iz, oz, h⟩
  · exact ⟨_, rfl, _, rfl, .inr ⟨_, _, rfl, h1, h2, q⟩⟩
  · refine ⟨_, rfl, _, rfl, .inl ⟨z, iz, oz, fun H1 s1 => ?_⟩⟩
    rcases h with ⟨bad, q⟩ | ⟨⟨t, it, ot, nt⟩, bad, q⟩
    · exact ⟨_, rfl, _, rfl, .inr ⟨bad.same s1, fun H2 s2 => q _ (s1.trans s2)⟩⟩
    · refine ⟨_, rfl, _, rfl, .inl ⟨t, it.same s1, ot, nt, fun H2 s2 => ?_⟩⟩
      exact ⟨_, rfl, _, rfl, _, _, rfl, bad, q _ (s1.trans s2)⟩
structure ArmX (P : Program) (w : World) (K : PySem.W.Frag) (mg : Str → Option Value) (base : Heap) (CA f CS CT C6 : Addr) (fd : FuncData) (ds : List Value) : Prop where
  mkC : Mk K CA f
  ok : FnOk P w K mg base (L2.CX P w) 7 f fd ["self", "pole", "turn", "near", "far", "mirrored"] (sp_ainitX K CS CT C6)
  mgC : mg "Arm" = some (.ref CA)
  bv : Vals [.bl false] ds
  bd : Binds K fd ["self", "pole", "turn", "near", "far", "mirrored"] ds
theorem mkax_of {CA CS CT C6 : Addr} {H : Hp} {Qf : Addr → VK} {E : XK} {vp vt vn vf vm : V} (h : ∀ v0 H2, Same H H2 → sp_ainitX K CS CT C6 [v0, vp, vt, vn, vf, vm] H2 (Qf 0) E) :
    ∀ x dx, H x = none → H dx = none → dx ≠ x → sp_ainitX K CS CT C6 [.ref x, vp, vt, vn, vf, vm] (upd (upd H dx (.own x)) x (.ins CA dx [])) (Qf x) E := by
  intro x dx hx hd _
  have sm : Same H (upd (upd H dx (.own x)) x (.ins CA dx [])) := fun c o e => by
    rw [upd_ne (ne_of_none e hx), upd_ne (ne_of_none e hd)]
    exact e
  exact h (.ref x) _ sm
def sp_reachesX (K : PySem.W.Frag) (CS : Addr) : Sp := fun vs H Q E => ∃ va q xs, vs = [va, .ref q] ∧ SqT K H q xs ∧ BadS xs ∧ ∀ H', Same H H' → E (.ref CS) none H'
theorem ok_reachesX {f CS : Addr} {fd : FuncData} (d_check_spotB : DX P w K mg base "check_spot" 3 (sp_checkB K CS)) (F : Fun K "reaches" "Arm.reaches" s_Arm_reaches f fd) : FnOk P w K mg base (L2.CX P w) 6 f fd ["self", "spot"] (sp_reachesX K CS) := by
  refine F.okX sc_Arm_reaches (fun vs H Q E h => ?_) (fun cdv A outer s H vs Q E hr h => ?_)
  · obtain ⟨va, qa, xs, rfl, _⟩ := h
    rfl
  obtain ⟨va, qa, xs, rfl, h1, h2, q⟩ := h
  refine ⟨_, (pss_cons (ps_expr (pcX d_check_spotB (hr.mono (by decide)) (passes_call (takes_of rfl rfl rfl rfl) (fun _ _ _ _ h => h)) (pa_cons (pv 1) pa_nil)))
    pss_never), ?_⟩
  exact ⟨_, rfl, _, rfl, .inr ⟨_, _, rfl, h1, h2, q⟩⟩
structure MArX (P : Program) (w : World) (K : PySem.W.Frag) (mg : Str → Option Value) (base : Heap) (CA CS : Addr) : Prop where
  cl : Cls K CA
  ex : ∃ f fd, FnOk P w K mg base (L2.CX P w) 6 f fd ["self", "spot"] (sp_reachesX K CS) ∧ Binds K fd ["self", "spot"] [] ∧ Meth K CA "reaches" f
open PyProof.Rows PySem.Spec in
theorem pe_reachesX {X : Cx} {CA CS : Addr} {o e : Expr} {to : TE} {t : TA} {apos pos : Pos} {pl : Sem Bool} {E : XK} (M : MArX X.prog X.w X.K X.mg X.base CA CS) (hr : Room 6 X.A) (hx : Passes (L2.CX X.prog X.w) X E) (ho : PE X o to) (ha : PA X [e] t)
    (hs1 : starEach [e] X.env = (false, eval e X.env) :: starEach [] X.env := by rfl) (hs2 : (backTo pos (starEach [] X.env)).any (·.1) = false := by rfl)
    (ht : eval (.Call (.Attribute o "reaches" apos) [e] [] pos) X.env = (do
      let ov ← eval o X.env
      standAt apos.atName
      let (g, first) ← holding [ov] (getMethod ov "reaches" pl)
      callWith pos g first (backTo pos (starEach [e] X.env)) (backToKw pos (keywordEach [] X.env))) := by rfl) :
    PE X (.Call (.Attribute o "reaches" apos) [e] [] pos) (tMeth CA "reaches" (sp_reachesX X.K CS) [] E to t) := by
  obtain ⟨f, fd, F, b, m⟩ := M.ex
  exact pe_meth ho M.cl m F hr b .nil hx ha hs1 hs2 ht
/-! ### an arm and a copy are not equal -/
def sp_aeqC (K : PySem.W.Frag) (C CA : Addr) : Sp := fun vs H Q _ => ∃ va a vc c, vs = [va, vc] ∧ IsA K C CA H va a ∧ IsC K C H vc c ∧ Q (.bl false) H
theorem ok_aeqC {f C CA : Addr} {fd : FuncData} (TC : CTxt K C) (kI : PySem.W.kitOne K (.ref C) (.ref CA) = some false) (mgA : mg "Arm" = some (.ref CA)) (b_isinstance : mg "isinstance" = none) (F : Fun K "__eq__" "Arm.__eq__" s_Arm___eq__ f fd) : FnOk P w K mg base CX0 1 f fd ["self", "other"] (sp_aeqC K C CA) := by
  refine F.ok sc_Arm___eq__ (fun vs H Q E h => ?_) (fun cdv A outer s H vs Q E hr h => ?_)
  · obtain ⟨va, a, vc, c, rfl, _⟩ := h
    rfl
  obtain ⟨va, a, vc, c, rfl, ia, ⟨p', dx', u', v', rfl, k1, k2, k3⟩, q⟩ := h
  refine ⟨_, (pss_one (ps_ret (pe_and (pe_callB (r := rIsi K) call_isi (by rfl) b_isinstance (by decide +kernel) (pa_cons (pv 1) (pa_cons (pe_glob (v := .ref CA) (by rfl) mgA rfl) pa_nil))) (pe_and (pe_cmpR (op_eqD hr.units) (pe_fld (pv 0) rfl) (pe_fld (pv 1) rfl) (nomark _)) (pe_and (pe_cmpR (op_eqD hr.units) (pe_fld (pv 0) rfl) (pe_fld (pv 1) rfl) (nomark _)) (pe_and (pe_cmpR (op_eq) (pe_fld (pv 0) rfl) (pe_fld (pv 1) rfl) (nomark _)) (pe_and (pe_cmpR (op_eq) (pe_fld (pv 0) rfl) (pe_fld (pv 1) rfl) (nomark _)) (pe_one (pe_cmpR (op_eq) (pe_fld (pv 0) rfl) (pe_fld (pv 1) rfl) (nomark _)))))))))), ?_⟩
  refine ⟨_, rfl, _, _, _, _, false, rfl, .own CA, .base (.ins k1 TC.cl TC.ha TC.hn TC.htk TC.hm), ?_, false, rfl, iteF q⟩
  exact kI
structure MAeC (P : Program) (w : World) (K : PySem.W.Frag) (mg : Str → Option Value) (base : Heap) (C CA : Addr) : Prop where
  nf : PySem.W.notFirst K CA (.ref C) = true
  ex : ∃ f, FnR P w K mg base CX0 1 f (sp_aeqC K C CA) ∧ PySem.W.findIn K (.ref CA) "__eq__" = some (some (.ref f)) ∧ PySem.W.isFn K (.ref f) = true
def rOwnC (C CA : Addr) (sp : Sp) : R2 := fun x y H Q => ∃ a dx fs b dy gs, x = .ref a ∧ y = .ref b ∧ H a = some (.ins CA dx fs) ∧ H b = some (.ins C dy gs) ∧ sp [.ref a, .ref b] H Q E0
theorem op_aeqC {X : Cx} {C CA : Addr} (M : MAeC X.prog X.w X.K X.mg X.base C CA) (hr : Room 1 X.A) : OpR X (compareOp .Eq) (rOwnC C CA (sp_aeqC X.K C CA)) := by
  obtain ⟨f, F, h1, h2⟩ := M.ex
  intro pins s σ H x y v u Q I rx ry hq
  obtain ⟨a, dx, fs, b, dy, gs, rfl, rfl, ha, hb, q⟩ := hq
  cases rx
  cases ry
  obtain ⟨mA, J, _⟩ := ins_get I.hok ha
  obtain ⟨mB, J', _⟩ := ins_get I.hok hb
  obtain ⟨od, J, _⟩ := J.look
  obtain ⟨od', J', _⟩ := J'.look
  obtain ⟨m, hF⟩ := I.fr
  show wpAny (model X.prog X.w) X.A (richCompare .Eq (.ref a) (.ref b)) (EP X pins σ Q) X.xe s
  refine PySem.W.cmp_K (op := .Eq) (tb := .ref C) hr.units0 hF I.ok.mod.kin J J'.type M.nf h1 h2 ?_
  exact wpAny_mono (wpAny_call (run_fnR (us := [.ref a, .ref b]) (vs := [V.ref a, V.ref b]) F hr pass0 I (.cons rfl (.cons rfl .nil)) q)) (fun v s' h => back_of h) fun _ _ z => z
theorem aeqC_of {C CA : Addr} {H : Hp} {Q : VK} {x y : V} {a : Am} {c : Cp} (ix : IsA K C CA H x a) (iy : IsC K C H y c) (q : Q (.bl false) H) : rOwnC C CA (sp_aeqC K C CA) x y H Q := by
  obtain ⟨p, dx, _, _, _, rfl, h1, _⟩ := id ix
  obtain ⟨p', dy, _, _, rfl, k1, _⟩ := id iy
  exact ⟨p, dx, _, p', dy, _, rfl, rfl, h1, k1, _, a, _, c, rfl, ix, iy, q⟩
end
end My

namespace My
open PySem L2 Mth LamX
abbrev s_law_error_of : Stmt := topS 70
theorem sc_law_error_of : FnScope ["_law_call", "e", "_law_kinds", "_law_names", "_law_name"] ["_law_call"] (defScope s_law_error_of) := ⟨rfl, rfl, rfl, by decide +kernel, rfl, by decide +kernel, by decide +kernel⟩
def eCls : List Str := ["InvalidSpot", "InvalidTurn", "InvalidTimes", "TooFew", "InvalidStroke", "OpenStroke", "InvalidReach", "OutOfReach", "TooMany", "InvalidSize", "InvalidBox", "Contradiction", "BadText", "BadRow", "UnknownName", "InvalidName", "InvalidCode", "UnknownArm", "NotFree", "InvalidOperation"]
def eNms : List Str := ["spot", "turn", "times", "few", "stroke", "open", "reach", "out", "many", "size", "box", "contra", "text", "row", "unknown", "name", "code", "arm", "free", "operation"]
/-- the errors at the places Is of the list, none with a value of its own -/
structure Errs (K : PySem.W.Frag) (mg : Str → Option Value) (CB : Addr) (Cs : Nat → Addr) (Is : List Nat) : Prop where
  mg : ∀ j x, eCls[j]? = some x → mg x = some (.ref (Cs j))
  ec : ∀ n, n ∈ Is → ExcC K (Cs n)
  kit : ∀ n j, n ∈ Is → j < 20 → PySem.W.kitOne K (.ref (Cs n)) (.ref (Cs j)) = some (decide (j = n))
  val : ∀ n, n ∈ Is → PySem.W.kitOne K (.ref (Cs n)) (.type "ValueError") = some true
  exm : ∀ n, n ∈ Is → PySem.W.exmOne K (.ref (Cs n)) (.ref CB) = some true
  pln : ∀ n, n ∈ Is → n ∈ [0, 1, 2, 3, 5, 6, 8, 9, 10, 11, 14, 15, 17, 18]
abbrev errSuite : List Stmt := match defBody s_law_error_of with
  | .Try _ [.ExceptHandler _ _ b _] _ _ _ :: _ => b
  | _ => []
theorem kinds_step {a : Addr} {bs cs : List Bool} {l : Addr} {H : Hp} {D : Ends} {x0 x3 x4 : Option V} (h : H l = some (.lst (cs.map V.bl))) (hn : cs.length + bs.length ≤ 20)
    (k : ∀ H2 p, Same H H2 → H2 p = some (.lst ((cs ++ bs).map V.bl)) → D.nx [x0, some (.ref a), some (.ref p), x3, x4] H2) :
    tAsg (tOp rCat (tVar 2) (tLst (tIs a 1 bs))) (gName 2) D [x0, some (.ref a), some (.ref l), x3, x4] H := by
  refine ⟨_, rfl, rfl, ?_, fun l2 hl2 => ?_⟩
  · exact small (by rw [List.length_map]; omega)
  have s2 := same_new hl2 (.lst (bs.map V.bl))
  refine ⟨l, l2, _, _, rfl, rfl, s2 _ _ h, upd_same, small (by rw [List.length_map, List.length_map]; omega), fun p hp => ?_⟩
  refine k _ p (s2.trans (same_new hp _)) ?_
  rw [List.map_append]
  exact upd_same
def tw (n : Nat) : List Bool := (List.range 20).map fun j => decide (j = n)
theorem tw_flat (n : Nat) : ((tw n).map V.bl).all flatV = true := by
  rw [List.all_eq_true]
  intro x hx
  obtain ⟨b, _, rfl⟩ := List.mem_map.mp hx
  rfl
theorem tw_count : ∀ n, n ∈ [0, 1, 2, 3, 5, 6, 8, 9, 10, 11, 14, 15, 17, 18] → ((tw n).map V.bl).countP (fun z => eqV z (.bl true)) = 1 := by decide +kernel
theorem tw_at : ∀ n, n ∈ [0, 1, 2, 3, 5, 6, 8, 9, 10, 11, 14, 15, 17, 18] → ((tw n).map V.bl)[n]? = some (.bl true) := by
  decide +kernel
theorem nm_at : ∀ n, n ∈ [0, 1, 2, 3, 5, 6, 8, 9, 10, 11, 14, 15, 17, 18] → atI (eNms.map V.str) ((n : Nat) : Int) = some (.str (eNms.getD n Str.empty)) := by
  decide +kernel
theorem nm_ne : ∀ n, n ∈ [0, 1, 2, 3, 5, 6, 8, 9, 10, 11, 14, 15, 17, 18] → ∀ x : Str, x ∈ [("stroke" : Str), "out", "text", "row"] → ¬ decide (V.str (eNms.getD n Str.empty) = V.str x) = true := by
  decide +kernel
theorem nm_in : ∀ n, n ∈ [0, 1, 2, 3, 5, 6, 8, 9, 10, 11, 14, 15, 17, 18] → ¬ (if false = true then !inV (V.str (eNms.getD n Str.empty)) [V.str "code", V.str "operation"] else inV (V.str (eNms.getD n Str.empty)) [V.str "code", V.str "operation"]) = true := by
  decide +kernel
theorem tw_no {n m : Nat} {z : V} (h : m < n) (hz : ((tw n).map V.bl)[m]? = some z) : eqV z (.bl true) = false := by
  unfold tw at hz
  rw [List.map_map, List.getElem?_map] at hz
  obtain ⟨w', h1, h2⟩ := Option.map_eq_some_iff.mp hz
  have h3 : w' = m := by
    obtain ⟨h4, h5⟩ := List.getElem?_eq_some_iff.mp h1
    rw [List.getElem_range] at h5
    exact h5.symm
  subst h3
  rw [← h2]
  show (decide (w' = n) == true) = false
  rw [decide_eq_false (by omega)]
  rfl
section
variable {X : Cx} {CB : Addr} {Cs : Nat → Addr} {Is : List Nat}
abbrev ZC (X : Cx) (g : Addr) (cdg : Value) (s : Shared) (H : Hp) : Cx := (cxOf C8.CX0 X.prog X.w X.K X.mg X.base ["_law_call", "e", "_law_kinds", "_law_names", "_law_name"] "_law_error_of" (defScope s_law_error_of) g cdg X.A X.stack s H C8.E0).nox
theorem err_suite {a g : Addr} {cdg : Value} {s : Shared} {H0 : Hp} {oe : Obj} {pn : List (Addr × Obj)} {n : Nat} (b_isinstance : X.mg "isinstance" = none) (b_ValueError : X.mg "ValueError" = none) (ER : Errs X.K X.mg CB Cs Is) (hn : n ∈ Is) (hz : Zc (.ref (Cs n)) none oe) (hf : ∃ vs, oe.data = .fields vs) :
    ∃ t, PSs ((ZC X g cdg s H0).suite a ((a, oe) :: pn)) errSuite t ∧ ∀ (D : Ends) (σ : L2.St) (H : Hp), σ.length = 5 → σ[1]? = some (some (.ref a)) → (∀ H' p, Same H H' → H' p = some (.tup [.str (eNms.getD n Str.empty), .int 0]) → D.rt (.ref p) H') → t D σ H := by
  have EC := ER.ec n hn
  refine ⟨_, (pss_cons (ps_set (i := 2) sc_law_error_of.nd rfl (by first | exact Or.inl rfl | exact Or.inr rfl) (pe_lst (paIs (C := Cs 0) (n := "e") (i := 1) EC hz hf (ER.kit n 0 hn (by decide)) (ER.mg 0 "InvalidSpot" rfl) b_isinstance (by rfl) (by rfl) (by decide) (by rfl) (Or.inl (by rfl)) (by decide) (by decide) (paIs (C := Cs 1) (n := "e") (i := 1) EC hz hf (ER.kit n 1 hn (by decide)) (ER.mg 1 "InvalidTurn" rfl) b_isinstance (by rfl) (by rfl) (by decide) (by rfl) (Or.inl (by rfl)) (by decide) (by decide) (paIs (C := Cs 2) (n := "e") (i := 1) EC hz hf (ER.kit n 2 hn (by decide)) (ER.mg 2 "InvalidTimes" rfl) b_isinstance (by rfl) (by rfl) (by decide) (by rfl) (Or.inl (by rfl)) (by decide) (by decide) paIs0)))))
    (pss_cons (ps_set (i := 2) sc_law_error_of.nd rfl (by first | exact Or.inl rfl | exact Or.inr rfl) (pe_op op_cat (pv 2) (pe_lst (paIs (C := Cs 3) (n := "e") (i := 1) EC hz hf (ER.kit n 3 hn (by decide)) (ER.mg 3 "TooFew" rfl) b_isinstance (by rfl) (by rfl) (by decide) (by rfl) (Or.inl (by rfl)) (by decide) (by decide) (paIs (C := Cs 4) (n := "e") (i := 1) EC hz hf (ER.kit n 4 hn (by decide)) (ER.mg 4 "InvalidStroke" rfl) b_isinstance (by rfl) (by rfl) (by decide) (by rfl) (Or.inl (by rfl)) (by decide) (by decide) (paIs (C := Cs 5) (n := "e") (i := 1) EC hz hf (ER.kit n 5 hn (by decide)) (ER.mg 5 "OpenStroke" rfl) b_isinstance (by rfl) (by rfl) (by decide) (by rfl) (Or.inl (by rfl)) (by decide) (by decide) paIs0))))))
    (pss_cons (ps_set (i := 2) sc_law_error_of.nd rfl (by first | exact Or.inl rfl | exact Or.inr rfl) (pe_op op_cat (pv 2) (pe_lst (paIs (C := Cs 6) (n := "e") (i := 1) EC hz hf (ER.kit n 6 hn (by decide)) (ER.mg 6 "InvalidReach" rfl) b_isinstance (by rfl) (by rfl) (by decide) (by rfl) (Or.inl (by rfl)) (by decide) (by decide) (paIs (C := Cs 7) (n := "e") (i := 1) EC hz hf (ER.kit n 7 hn (by decide)) (ER.mg 7 "OutOfReach" rfl) b_isinstance (by rfl) (by rfl) (by decide) (by rfl) (Or.inl (by rfl)) (by decide) (by decide) (paIs (C := Cs 8) (n := "e") (i := 1) EC hz hf (ER.kit n 8 hn (by decide)) (ER.mg 8 "TooMany" rfl) b_isinstance (by rfl) (by rfl) (by decide) (by rfl) (Or.inl (by rfl)) (by decide) (by decide) paIs0))))))
    (pss_cons (ps_set (i := 2) sc_law_error_of.nd rfl (by first | exact Or.inl rfl | exact Or.inr rfl) (pe_op op_cat (pv 2) (pe_lst (paIs (C := Cs 9) (n := "e") (i := 1) EC hz hf (ER.kit n 9 hn (by decide)) (ER.mg 9 "InvalidSize" rfl) b_isinstance (by rfl) (by rfl) (by decide) (by rfl) (Or.inl (by rfl)) (by decide) (by decide) (paIs (C := Cs 10) (n := "e") (i := 1) EC hz hf (ER.kit n 10 hn (by decide)) (ER.mg 10 "InvalidBox" rfl) b_isinstance (by rfl) (by rfl) (by decide) (by rfl) (Or.inl (by rfl)) (by decide) (by decide) (paIs (C := Cs 11) (n := "e") (i := 1) EC hz hf (ER.kit n 11 hn (by decide)) (ER.mg 11 "Contradiction" rfl) b_isinstance (by rfl) (by rfl) (by decide) (by rfl) (Or.inl (by rfl)) (by decide) (by decide) paIs0))))))
    (pss_cons (ps_set (i := 2) sc_law_error_of.nd rfl (by first | exact Or.inl rfl | exact Or.inr rfl) (pe_op op_cat (pv 2) (pe_lst (paIs (C := Cs 12) (n := "e") (i := 1) EC hz hf (ER.kit n 12 hn (by decide)) (ER.mg 12 "BadText" rfl) b_isinstance (by rfl) (by rfl) (by decide) (by rfl) (Or.inl (by rfl)) (by decide) (by decide) (paIs (C := Cs 13) (n := "e") (i := 1) EC hz hf (ER.kit n 13 hn (by decide)) (ER.mg 13 "BadRow" rfl) b_isinstance (by rfl) (by rfl) (by decide) (by rfl) (Or.inl (by rfl)) (by decide) (by decide) (paIs (C := Cs 14) (n := "e") (i := 1) EC hz hf (ER.kit n 14 hn (by decide)) (ER.mg 14 "UnknownName" rfl) b_isinstance (by rfl) (by rfl) (by decide) (by rfl) (Or.inl (by rfl)) (by decide) (by decide) paIs0))))))
    (pss_cons (ps_set (i := 2) sc_law_error_of.nd rfl (by first | exact Or.inl rfl | exact Or.inr rfl) (pe_op op_cat (pv 2) (pe_lst (paIs (C := Cs 15) (n := "e") (i := 1) EC hz hf (ER.kit n 15 hn (by decide)) (ER.mg 15 "InvalidName" rfl) b_isinstance (by rfl) (by rfl) (by decide) (by rfl) (Or.inl (by rfl)) (by decide) (by decide) (paIs (C := Cs 16) (n := "e") (i := 1) EC hz hf (ER.kit n 16 hn (by decide)) (ER.mg 16 "InvalidCode" rfl) b_isinstance (by rfl) (by rfl) (by decide) (by rfl) (Or.inl (by rfl)) (by decide) (by decide) (paIs (C := Cs 17) (n := "e") (i := 1) EC hz hf (ER.kit n 17 hn (by decide)) (ER.mg 17 "UnknownArm" rfl) b_isinstance (by rfl) (by rfl) (by decide) (by rfl) (Or.inl (by rfl)) (by decide) (by decide) paIs0))))))
    (pss_cons (ps_set (i := 2) sc_law_error_of.nd rfl (by first | exact Or.inl rfl | exact Or.inr rfl) (pe_op op_cat (pv 2) (pe_lst (paIs (C := Cs 18) (n := "e") (i := 1) EC hz hf (ER.kit n 18 hn (by decide)) (ER.mg 18 "NotFree" rfl) b_isinstance (by rfl) (by rfl) (by decide) (by rfl) (Or.inl (by rfl)) (by decide) (by decide) (paIs (C := Cs 19) (n := "e") (i := 1) EC hz hf (ER.kit n 19 hn (by decide)) (ER.mg 19 "InvalidOperation" rfl) b_isinstance (by rfl) (by rfl) (by decide) (by rfl) (Or.inl (by rfl)) (by decide) (by decide) paIs0)))))
    (pss_cons (ps_if (PW.pt (pw_or (pt_cmpR (op_ne) (pe_bm PySem.F.plainAttrs_list PySem.F.slot_list_count PySem.F.type_list_count mt_count (pv 2) (pa_cons pe_bl pa_nil)) pe_int (nomark _)) (pw_or1 (pt_not (pt_val (pe_callB (call_isE (X := ZC X g cdg s H0) EC hz hf) (by rfl) b_isinstance (by decide +kernel) (pa_cons (pv 1) (pa_cons (pe_bltn (v := .ty "ValueError") (by rfl) b_ValueError (by decide +kernel) rfl) pa_nil)))))))) (pss_one (ps_ret (pe_tup (pa_cons pe_str (pa_cons pe_int pa_nil))))) pss_nil)
    (pss_cons (ps_set (i := 3) sc_law_error_of.nd rfl (by first | exact Or.inl rfl | exact Or.inr rfl) (pe_lst (pa_cons pe_str (pa_cons pe_str (pa_cons pe_str (pa_cons pe_str (pa_cons pe_str (pa_cons pe_str (pa_cons pe_str (pa_cons pe_str (pa_cons pe_str (pa_cons pe_str (pa_cons pe_str (pa_cons pe_str pa_nil))))))))))))))
    (pss_cons (ps_set (i := 3) sc_law_error_of.nd rfl (by first | exact Or.inl rfl | exact Or.inr rfl) (pe_op op_cat (pv 3) (pe_lst (pa_cons pe_str (pa_cons pe_str (pa_cons pe_str (pa_cons pe_str (pa_cons pe_str (pa_cons pe_str (pa_cons pe_str (pa_cons pe_str pa_nil)))))))))))
    (pss_cons (ps_set (i := 4) sc_law_error_of.nd rfl (by first | exact Or.inl rfl | exact Or.inr rfl) (pe_ix (r := rIxL X.K) ix_list (pv 3) (pe_bm PySem.F.plainAttrs_list PySem.F.slot_list_index PySem.F.type_list_index mt_index (pv 2) (pa_cons pe_bl pa_nil)) (fun _ _ => rfl)))
    (pss_cons (ps_if (pt_cmpR (op_eq) (pv 4) pe_str (nomark _)) (pss_one (ps_never)) pss_nil)
    (pss_cons (ps_if (pt_cmpR (op_eq) (pv 4) pe_str (nomark _)) (pss_one (ps_never)) pss_nil)
    (pss_cons (ps_if (pt_cmpR (op_eq) (pv 4) pe_str (nomark _)) (pss_one (ps_never)) pss_nil)
    (pss_cons (ps_if (pt_cmpR (op_eq) (pv 4) pe_str (nomark _)) (pss_one (ps_never)) pss_nil)
    (pss_one (ps_ret (pe_tup (pa_cons (pv 4) (pa_cons (pe_ifExp (pt_cmpR (op_in_seq) (pv 4) (pe_lst (pa_cons pe_str (pa_cons pe_str pa_nil))) (by rfl)) (pe_nev) pe_int) pa_nil)))))))))))))))))))), ?_⟩
  intro D σ H hl h1 q
  obtain ⟨x0, x2, x3, x4, rfl⟩ : ∃ x0 x2 x3 x4, σ = [x0, some (.ref a), x2, x3, x4] := by
    match σ, hl, h1 with
    | [y0, y1, y2, y3, y4], _, h => exact ⟨y0, y2, y3, y4, by rw [show y1 = some (.ref a) from Option.some.inj h]⟩
  have pl := ER.pln n hn
  refine ⟨rfl, (by show 3 ≤ sizeLine; decide), fun l1 hl1 => gn_of ?_⟩
  have s1 := same_new hl1 (.lst ([decide (0 = n), decide (1 = n), decide (2 = n)].map V.bl))
  refine kinds_step upd_same (by show 6 ≤ 20; decide) fun H2 p2 s2 k2 => ?_
  refine kinds_step k2 (by show 9 ≤ 20; decide) fun H3 p3 s3 k3 => ?_
  refine kinds_step k3 (by show 12 ≤ 20; decide) fun H4 p4 s4 k4 => ?_
  refine kinds_step k4 (by show 15 ≤ 20; decide) fun H5 p5 s5 k5 => ?_
  refine kinds_step k5 (by show 18 ≤ 20; decide) fun H6 p6 s6 k6 => ?_
  refine kinds_step k6 (by show 20 ≤ 20; decide) fun H7 p7 s7 k7 => ?_
  have sx := s1.trans (s2.trans (s3.trans (s4.trans (s5.trans (s6.trans s7)))))
  have k8 : H7 p7 = some (.lst ((tw n).map V.bl)) := k7
  clear k7 k6 k5 k4 k3 k2
  have sq : SqL X.K H7 p7 ((tw n).map V.bl) := .inl (.inl k8)
  refine ⟨_, rfl, .inl ⟨rfl, _, sq⟩, p7, _, _, rfl, rfl, sq, rfl, tw_flat n, ?_⟩
  rw [tw_count n pl]
  refine ⟨rfl, _, rfl, ?_⟩
  refine (if_neg (by decide)).mpr ?_
  refine ⟨_, rfl, .ty "ValueError", .type "ValueError", true, rfl, fun u r => r, ER.val n hn, true, rfl, ?_⟩
  refine iteF ?_
  refine ⟨(by show 12 ≤ sizeLine; decide), fun l9 hl9 => gn_of ?_⟩
  have s9 := same_new hl9 (.lst ((eNms.take 12).map V.str))
  refine ⟨_, rfl, (by show 8 ≤ sizeLine; decide), fun l10 hl10 => ?_⟩
  have s10 := same_new hl10 (.lst ((eNms.drop 12).map V.str))
  refine ⟨l9, l10, _, _, rfl, rfl, s10 _ _ upd_same, upd_same, (by show 20 ≤ sizeLine; decide), fun l11 hl11 => gn_of ?_⟩
  have s11 := same_new hl11 (.lst (eNms.map V.str))
  have k11 := s11 _ _ (s10 _ _ (s9 _ _ k8))
  have s7x := s9.trans (s10.trans s11)
  have kn : upd (upd (upd H7 l9 (.lst ((eNms.take 12).map V.str))) l10 (.lst ((eNms.drop 12).map V.str))) l11 (.lst (eNms.map V.str)) l11 = some (.lst (eNms.map V.str)) := upd_same
  refine ⟨_, rfl, _, rfl, .inl ⟨rfl, _, .inl (.inl k11)⟩, p7, _, _, n, .bl true, rfl, rfl, .inl (.inl k11), rfl, tw_flat n, tw_at n pl, rfl, fun m z hm hz => tw_no hm hz, l11, _, _, _, rfl, rfl, .inl (.inl upd_same), nm_at n pl, gn_of ?_⟩
  refine ⟨_, rfl, rfl, _, rfl, (if_neg (nm_ne n pl _ (.head _))).mpr ?_⟩
  refine ⟨_, rfl, rfl, _, rfl, (if_neg (nm_ne n pl _ (.tail _ (.head _)))).mpr ?_⟩
  refine ⟨_, rfl, rfl, _, rfl, (if_neg (nm_ne n pl _ (.tail _ (.tail _ (.head _))))).mpr ?_⟩
  refine ⟨_, rfl, rfl, _, rfl, (if_neg (nm_ne n pl _ (.tail _ (.tail _ (.tail _ (.head _)))))).mpr ?_⟩
  refine ⟨_, rfl, _, rfl, (by show 2 ≤ sizeLine; decide), fun l12 hl12 => ?_⟩
  have s12 := same_new hl12 (.lst [V.str "code", V.str "operation"])
  refine ⟨l12, _, rfl, .inl (.inl (.inl upd_same)), rfl, rfl, _, rfl, (if_neg (nm_in n pl)).mpr ?_⟩
  refine ⟨(by show 2 ≤ sizeLine; decide), fun p13 hp13 => ?_⟩
  exact q _ _ (sx.trans (s7x.trans (s12.trans (same_new hp13 _)))) upd_same
/-- what is made of the lambda's reading: nothing for a call that ends, the error's name otherwise -/
def TErr (Cs : Nat → Addr) (Is : List Nat) : (XK → Hp → VK → Prop) → Hp → VK → Prop := fun tl H Q =>
  tl (fun cls d H' => ∃ n, n ∈ Is ∧ cls = .ref (Cs n) ∧ d = none ∧ ∀ H'' p, Same H' H'' → H'' p = some (.tup [.str (eNms.getD n Str.empty), .int 0]) → Q (.ref p) H'') H (fun _ H' => Q .non H')
theorem err_gives {g : Addr} {cdg : Value} {q : Str} (b_isinstance : X.mg "isinstance" = none) (b_ValueError : X.mg "ValueError" = none) (m_B : X.mg "CopyError" = some (.ref CB)) (ER : Errs X.K X.mg CB Cs Is) :
    GivesTo X ["_law_call", "e", "_law_kinds", "_law_names", "_law_name"] "_law_error_of" (defScope s_law_error_of) g cdg (defBody s_law_error_of) "_law_call" q (TErr Cs Is) := by
  intro f c' s H Q tl act hc h
  refine ⟨_, pss_cons (ps_try_as (X := ZC X g cdg s H) (n := "e") (i := 1) (c := .ref CB)
      (tb := fun W D σ H => ∃ Ech : XK, (∀ cls d σ' H', Ech cls d H' → W cls d σ' H') ∧ σ[0]? = some (some (.ref f)) ∧ H c' = some (CodeO c' q) ∧ tl Ech H (fun _ H1 => D.nx σ H1))
      (ts := fun a cls d D σ H => σ.length = 5 → ∃ n, n ∈ Is ∧ cls = .ref (Cs n) ∧ d = none ∧ σ[1]? = some (some (.ref a)) ∧ ∀ H'' p, Same H H'' → H'' p = some (.tup [.str (eNms.getD n Str.empty), .int 0]) → D.rt (.ref p) H'')
      rfl rfl sc_law_error_of.nd (by rfl) (by rfl) ⟨by rfl, by decide, .inl m_B⟩ LamX.takes0 (fun W pn xe tk _ => ?_) (fun a oe cls d pn hz hf => ?_)) (pss_one (ps_ret pe_non)), ?_⟩
  · refine ⟨fun pins s' σ H' D I h' => ?_⟩
    obtain ⟨Ech, hW, h1, h2, h3⟩ := h'
    exact PSs.run (pss_one (ps_expr (act W pn xe Ech _ _ tk hW) (by rfl))) pins s' σ H' D I ⟨h1, h2, h3⟩
  · refine ⟨fun pins s' σ H' D I h' => ?_⟩
    obtain ⟨n, hn, rfl, rfl, h1, h2⟩ := h' I.len
    obtain ⟨t, ht, hq⟩ := err_suite (X := X) (g := g) (cdg := cdg) (s := s) (H0 := H) (a := a) (pn := pn) b_isinstance b_ValueError ER hn hz hf
    exact ht.run pins s' σ H' D I (hq D σ H' I.len h1 h2)
  · refine ⟨_, ?_, rfl, hc, h⟩
    rintro cls d σ' H' ⟨n, hn, rfl, rfl, h2⟩
    refine ⟨true, ER.exm n hn, fun _ a _ hl => ⟨n, hn, rfl, rfl, ?_, h2⟩, fun z => by cases z⟩
    rw [List.length_set] at hl
    rw [List.getElem?_set_self (by omega)]
end
end My

namespace My
open PySem L2 Mth LamX
abbrev s_law_all_raise : Stmt := topS 71
theorem sc_law_all_raise : FnScope ["_law_calls", "_law_expected", "_law_call"] ["_law_calls", "_law_expected"] (defScope s_law_all_raise) := ⟨rfl, rfl, rfl, by decide +kernel, rfl, by decide +kernel, by decide +kernel⟩
section
variable {P : Program} {w : World} {K : PySem.W.Frag} {mg : Str → Option Value} {b : Heap}
/-! ### lambdas of a list, each of which raises the same error -/
def sp_ar (X : Cx) (k : Nat) (σ : L2.St) (Cs : Nat → Addr) (Is : List Nat) : Sp := fun vs H Q _ => ∃ l x us n, vs = [.ref l, x] ∧ SqL X.K H l us ∧ us.length ≤ 1000 ∧ n ∈ Is ∧ PyData.strOk (eNms.getD n Str.empty) = true ∧ Dp X.K H x (dErr (eNms.getD n Str.empty)) ∧
  (∀ (i : Nat) (u : V), us[i]? = some u → ∃ t, LamT X k t H u ∧ ∀ H2, Same H H2 → ∀ (Ech : XK) (Q2 : VK), (∀ H3, Same H2 H3 → Ech (.ref (Cs n)) none H3) → t Ech σ H2 Q2) ∧ ∀ H', Same H H' → Q (.bl true) H'
theorem ok_law_all_raise {X : Cx} {k : Nat} {σ : L2.St} {Cs : Nat → Addr} {Is : List Nat} {f : Addr} {fd : FuncData} (hK : X.K = K) (d_law_error_of : D P w K mg b "_law_error_of" (k + 2) (sp_errB X k σ (TErr Cs Is)))
    (F : Fun K "_law_all_raise" "_law_all_raise" s_law_all_raise f fd) : FnOk P w K mg b CX0 (k + 3) f fd ["_law_calls", "_law_expected"] (sp_ar X k σ Cs Is) := by
  refine F.ok sc_law_all_raise (fun vs H Q E h => ?_) (fun cdv A outer s H vs Q E hr h => ?_)
  · obtain ⟨l, x, us, n, rfl, _⟩ := h
    rfl
  obtain ⟨l, x, us, n, rfl, hl, hz, hn, so, dx, hu, q⟩ := h
  rw [hK] at hl dx
  refine ⟨_, (pss_one (ps_ret (pe_cmpR (r := rEqD K) (op_eqD hr.units) (pe_lc (own := [("_law_call", 2)]) (g := gName 2) (by rfl) sc_law_all_raise.nd (pi_list (pv 0)) (blkOk_by (own := [("_law_call", 2)]) (N := ["_law_calls", "_law_expected", "_law_call"]) (sc := defScope s_law_all_raise) (by decide +kernel)) (fun _ _ _ _ _ => (pg_name (i := 2) sc_law_all_raise.nd rfl (by first | exact Or.inl rfl | exact Or.inr rfl))) (fun _ _ _ _ _ => (pts_one (pt_cmpR (r := rNeD K) (op_neD hr.units) (pc d_law_error_of hr (pa_cons (pv 2) pa_nil)) (pv 1) (nomark _)))) (fun _ _ _ _ _ => (pv 2))) (pe_lst pa_nil) (nomark _)))), ?_⟩
  refine ⟨_, rfl, l, rfl, ⟨_, hl⟩, fun L hL => lc_list (K := K) (a := l) (xs := us) (fun i H' => Same H H' ∧ H' L = some (.lst [])) ⟨same_new hL _, upd_same⟩ ?_ ?_ ?_⟩
  · rintro i H' hi ⟨s', _⟩
    exact s'.seq hl
  · rintro i u H' hx ⟨s', hb⟩
    obtain ⟨t, lt, ht⟩ := hu i u hx
    refine ⟨rfl, ?_⟩
    refine ⟨_, rfl, u, t, rfl, lt.same s', fun _ h => h, ht H' s' _ _ fun H3 s3 => ⟨n, hn, rfl, rfl, fun H4 p4 s4 h4 => ?_⟩⟩
    have s14 := s'.trans (s3.trans s4)
    refine ⟨_, rfl, dErr (eNms.getD n Str.empty), dErr (eNms.getD n Str.empty), .tup (.inl (.inl h4)) (.cons (.str _) (.cons (.int _) .nil)), Dp.same s14 dx, shapedE so, shapedE so, _, rfl, ?_⟩
    rw [eqvE]
    exact iteF ⟨s14, (s3.trans s4) _ _ hb⟩
  rintro H' ⟨s', hb⟩
  refine ⟨(by show 0 ≤ sizeLine; decide), fun p hp => ?_⟩
  have sp := same_new hp (.lst [])
  refine ⟨.list [], .list [], .lst (.inl (.inl (sp _ _ hb))) .nil, .lst (.inl (.inl upd_same)) .nil, rfl, rfl, ?_⟩
  exact q _ (s'.trans sp)
end
end My

namespace My
open PySem L2 Mth
abbrev s_law_over : Stmt := topS 62
theorem sc_law_over : FnScope ["_law_one"] ["_law_one"] (defScope s_law_over) := ⟨rfl, rfl, rfl, by decide +kernel, rfl, by decide +kernel, by decide +kernel⟩
section
variable {P : Program} {w : World} {K : PySem.W.Frag} {mg : Str → Option Value} {base : Heap}
theorem ok_law_over {f : Addr} {fd : FuncData} (F : Fun K "_law_over" "_law_over" s_law_over f fd) : FnOk P w K mg base CX0 1 f fd ["_law_one"] (sp_one K over) := by
  refine F.ok sc_law_over (fun vs H Q E h => ?_) (fun cdv A outer s H vs Q E hr h => ?_)
  · obtain ⟨va, a, rfl, _⟩ := h
    rfl
  obtain ⟨va, ⟨x, y, d⟩, rfl, ⟨pa, rfl, ta⟩, q⟩ := h
  refine ⟨_, (pss_one (ps_ret (pe_tup (pa_cons (pe_ix (r := rIxT K) ix_tup (pv 0) pe_int (fun _ _ => rfl)) (pa_cons (pe_op op_sub pe_int (pe_ix (r := rIxT K) ix_tup (pv 0) pe_int (fun _ _ => rfl))) (pa_cons (pe_ix (r := rIxT K) ix_tup (pv 0) pe_int (fun _ _ => rfl)) pa_nil)))))), ?_⟩
  refine ⟨_, rfl, _, _, _, _, rfl, rfl, ta, by rfl, _, rfl, _, _, _, _, rfl, rfl, ta, by rfl, _, _, rfl, rfl, _, rfl, _, _, _, _, rfl, rfl, ta, by rfl, (by show 3 ≤ sizeLine; decide), fun p hp => ?_⟩
  refine q _ _ (same_new hp _) ?_
  unfold over
  dsimp only
  rw [← Int.zero_sub]
  exact IsT.new
end
end My

namespace My
open PySem L2 Mth
abbrev s_law_plus : Stmt := topS 63
theorem sc_law_plus : FnScope ["_law_one", "_law_other", "_law_x", "_law_y"] ["_law_one", "_law_other"] (defScope s_law_plus) := ⟨rfl, rfl, rfl, by decide +kernel, rfl, by decide +kernel, by decide +kernel⟩
section
variable {P : Program} {w : World} {K : PySem.W.Frag} {mg : Str → Option Value} {base : Heap}
theorem ok_law_plus {f : Addr} {fd : FuncData} (d_law_lowest : D P w K mg base "_law_lowest" 2 (sp_low K)) (F : Fun K "_law_plus" "_law_plus" s_law_plus f fd) : FnOk P w K mg base CX0 3 f fd ["_law_one", "_law_other"] (sp_two K plus) := by
  refine F.ok sc_law_plus (fun vs H Q E h => ?_) (fun cdv A outer s H vs Q E hr h => ?_)
  · obtain ⟨va, vb, a, b, rfl, _⟩ := h
    rfl
  obtain ⟨va, vb, ⟨x, y, d⟩, ⟨u, v, e⟩, rfl, ⟨pa, rfl, ta⟩, ⟨pb, rfl, tb⟩, oa, ob, ⟨a1, a2, a3⟩, ⟨b1, b2, b3⟩, q⟩ := h
  refine ⟨_, (pss_cons (ps_set (i := 2) sc_law_plus.nd rfl (by first | exact Or.inl rfl | exact Or.inr rfl) (pe_op op_add (pe_op op_mulW (pe_ix (r := rIxT K) ix_tup (pv 0) pe_int (fun _ _ => rfl)) (pe_ix (r := rIxT K) ix_tup (pv 1) pe_int (fun _ _ => rfl))) (pe_op op_mulW (pe_ix (r := rIxT K) ix_tup (pv 1) pe_int (fun _ _ => rfl)) (pe_ix (r := rIxT K) ix_tup (pv 0) pe_int (fun _ _ => rfl)))))
    (pss_cons (ps_set (i := 3) sc_law_plus.nd rfl (by first | exact Or.inl rfl | exact Or.inr rfl) (pe_op op_add (pe_op op_mulW (pe_ix (r := rIxT K) ix_tup (pv 0) pe_int (fun _ _ => rfl)) (pe_ix (r := rIxT K) ix_tup (pv 1) pe_int (fun _ _ => rfl))) (pe_op op_mulW (pe_ix (r := rIxT K) ix_tup (pv 1) pe_int (fun _ _ => rfl)) (pe_ix (r := rIxT K) ix_tup (pv 0) pe_int (fun _ _ => rfl)))))
    (pss_one (ps_ret (pc d_law_lowest (hr.mono (by decide)) (pa_cons (pv 2) (pa_cons (pv 3) (pa_cons (pe_op op_mulW (pe_ix (r := rIxT K) ix_tup (pv 0) pe_int (fun _ _ => rfl)) (pe_ix (r := rIxT K) ix_tup (pv 1) pe_int (fun _ _ => rfl))) pa_nil)))))))), ?_⟩
  refine ⟨_, rfl, _, _, _, _, rfl, rfl, ta, by rfl, _, rfl, _, _, _, _, rfl, rfl, tb, by rfl, _, _, rfl, rfl, mulW a1 b3, _, rfl, _, _, _, _, rfl, rfl, tb, by rfl, _, rfl, _, _, _, _, rfl, rfl, ta, by rfl, _, _, rfl, rfl, mulW b1 a3, _, _, rfl, rfl, ?_⟩
  refine ⟨_, rfl, _, _, _, _, rfl, rfl, ta, by rfl, _, rfl, _, _, _, _, rfl, rfl, tb, by rfl, _, _, rfl, rfl, mulW a2 b3, _, rfl, _, _, _, _, rfl, rfl, tb, by rfl, _, rfl, _, _, _, _, rfl, rfl, ta, by rfl, _, _, rfl, rfl, mulW b2 a3, _, _, rfl, rfl, ?_⟩
  refine ⟨_, rfl, _, rfl, _, rfl, _, _, _, _, rfl, rfl, ta, by rfl, _, rfl, _, _, _, _, rfl, rfl, tb, by rfl, _, _, rfl, rfl, mulW a3 b3, ?_⟩
  exact ⟨_, _, _, rfl, mul_ne oa.ne ob.ne, up_lt (by decide) (mul_lt a3 b3), q⟩
end
end My

namespace My
open PySem L2 Mth
abbrev s_law_times : Stmt := topS 61
theorem sc_law_times : FnScope ["_law_one", "_law_other", "_law_x", "_law_y"] ["_law_one", "_law_other"] (defScope s_law_times) := ⟨rfl, rfl, rfl, by decide +kernel, rfl, by decide +kernel, by decide +kernel⟩
section
variable {P : Program} {w : World} {K : PySem.W.Frag} {mg : Str → Option Value} {base : Heap}
theorem ok_law_times {f : Addr} {fd : FuncData} (d_law_lowest : D P w K mg base "_law_lowest" 2 (sp_low K)) (F : Fun K "_law_times" "_law_times" s_law_times f fd) : FnOk P w K mg base CX0 3 f fd ["_law_one", "_law_other"] (sp_two K times) := by
  refine F.ok sc_law_times (fun vs H Q E h => ?_) (fun cdv A outer s H vs Q E hr h => ?_)
  · obtain ⟨va, vb, a, b, rfl, _⟩ := h
    rfl
  obtain ⟨va, vb, ⟨x, y, d⟩, ⟨u, v, e⟩, rfl, ⟨pa, rfl, ta⟩, ⟨pb, rfl, tb⟩, oa, ob, ⟨a1, a2, a3⟩, ⟨b1, b2, b3⟩, q⟩ := h
  refine ⟨_, (pss_cons (ps_set (i := 2) sc_law_times.nd rfl (by first | exact Or.inl rfl | exact Or.inr rfl) (pe_op op_sub (pe_op op_mulW (pe_ix (r := rIxT K) ix_tup (pv 0) pe_int (fun _ _ => rfl)) (pe_ix (r := rIxT K) ix_tup (pv 1) pe_int (fun _ _ => rfl))) (pe_op op_mulW (pe_ix (r := rIxT K) ix_tup (pv 0) pe_int (fun _ _ => rfl)) (pe_ix (r := rIxT K) ix_tup (pv 1) pe_int (fun _ _ => rfl)))))
    (pss_cons (ps_set (i := 3) sc_law_times.nd rfl (by first | exact Or.inl rfl | exact Or.inr rfl) (pe_op op_add (pe_op op_mulW (pe_ix (r := rIxT K) ix_tup (pv 0) pe_int (fun _ _ => rfl)) (pe_ix (r := rIxT K) ix_tup (pv 1) pe_int (fun _ _ => rfl))) (pe_op op_mulW (pe_ix (r := rIxT K) ix_tup (pv 0) pe_int (fun _ _ => rfl)) (pe_ix (r := rIxT K) ix_tup (pv 1) pe_int (fun _ _ => rfl)))))
    (pss_one (ps_ret (pc d_law_lowest (hr.mono (by decide)) (pa_cons (pv 2) (pa_cons (pv 3) (pa_cons (pe_op op_mulW (pe_ix (r := rIxT K) ix_tup (pv 0) pe_int (fun _ _ => rfl)) (pe_ix (r := rIxT K) ix_tup (pv 1) pe_int (fun _ _ => rfl))) pa_nil)))))))), ?_⟩
  refine ⟨_, rfl, _, _, _, _, rfl, rfl, ta, by rfl, _, rfl, _, _, _, _, rfl, rfl, tb, by rfl, _, _, rfl, rfl, mulW a1 b1, _, rfl, _, _, _, _, rfl, rfl, ta, by rfl, _, rfl, _, _, _, _, rfl, rfl, tb, by rfl, _, _, rfl, rfl, mulW a2 b2, _, _, rfl, rfl, ?_⟩
  refine ⟨_, rfl, _, _, _, _, rfl, rfl, ta, by rfl, _, rfl, _, _, _, _, rfl, rfl, tb, by rfl, _, _, rfl, rfl, mulW a1 b2, _, rfl, _, _, _, _, rfl, rfl, ta, by rfl, _, rfl, _, _, _, _, rfl, rfl, tb, by rfl, _, _, rfl, rfl, mulW a2 b1, _, _, rfl, rfl, ?_⟩
  refine ⟨_, rfl, _, rfl, _, rfl, _, _, _, _, rfl, rfl, ta, by rfl, _, rfl, _, _, _, _, rfl, rfl, tb, by rfl, _, _, rfl, rfl, mulW a3 b3, ?_⟩
  exact ⟨_, _, _, rfl, mul_ne oa.ne ob.ne, up_lt (by decide) (mul_lt a3 b3), q⟩
end
end My

namespace My
open PySem L2 Mth
abbrev s_law_minus : Stmt := topS 64
theorem sc_law_minus : FnScope ["_law_one", "_law_other"] ["_law_one", "_law_other"] (defScope s_law_minus) := ⟨rfl, rfl, rfl, by decide +kernel, rfl, by decide +kernel, by decide +kernel⟩
section
variable {P : Program} {w : World} {K : PySem.W.Frag} {mg : Str → Option Value} {base : Heap}
theorem ok_law_minus {f : Addr} {fd : FuncData} (d_law_plus : D P w K mg base "_law_plus" 3 (sp_two K plus)) (F : Fun K "_law_minus" "_law_minus" s_law_minus f fd) : FnOk P w K mg base CX0 4 f fd ["_law_one", "_law_other"] (sp_two K minus) := by
  refine F.ok sc_law_minus (fun vs H Q E h => ?_) (fun cdv A outer s H vs Q E hr h => ?_)
  · obtain ⟨va, vb, a, b, rfl, _⟩ := h
    rfl
  obtain ⟨va, vb, a, ⟨u, v, e⟩, rfl, ia, ⟨pb, rfl, tb⟩, oa, ob, ba, bb, q⟩ := h
  refine ⟨_, (pss_one (ps_ret (pc d_law_plus (hr.mono (by decide)) (pa_cons (pv 0) (pa_cons (pe_tup (pa_cons (pe_op op_sub pe_int (pe_ix (r := rIxT K) ix_tup (pv 1) pe_int (fun _ _ => rfl))) (pa_cons (pe_op op_sub pe_int (pe_ix (r := rIxT K) ix_tup (pv 1) pe_int (fun _ _ => rfl))) (pa_cons (pe_ix (r := rIxT K) ix_tup (pv 1) pe_int (fun _ _ => rfl)) pa_nil)))) pa_nil))))), ?_⟩
  refine ⟨_, rfl, _, rfl, _, _, _, _, rfl, rfl, tb, by rfl, _, _, rfl, rfl, _, rfl, _, _, _, _, rfl, rfl, tb, by rfl, _, _, rfl, rfl, _, rfl, _, _, _, _, rfl, rfl, tb, by rfl, (by show 3 ≤ sizeLine; decide), fun p hp => ?_⟩
  have s1 := same_new hp (.tup [.int (0 - u), .int (0 - v), .int e])
  have i1 : IsT K (upd H p (.tup [.int (0 - u), .int (0 - v), .int e])) (.ref p) (neg (u, v, e)) := by
    unfold neg
    dsimp only
    rw [← Int.zero_sub u, ← Int.zero_sub v]
    exact IsT.new (H := H)
  exact ⟨_, _, a, neg (u, v, e), rfl, ia.same s1, i1, oa, neg_ok ob, ba, neg_B bb, fun H2 r2 s2 i2 => q _ _ (s1.trans s2) i2⟩
end
end My

namespace My
open PySem L2 Mth
abbrev s_law_equal : Stmt := topS 59
theorem sc_law_equal : FnScope ["_law_actual", "_law_expected", "_law_k"] ["_law_actual", "_law_expected"] (defScope s_law_equal) := ⟨rfl, rfl, rfl, by decide +kernel, rfl, by decide +kernel, by decide +kernel⟩
section
variable {P : Program} {w : World} {K : PySem.W.Frag} {mg : Str → Option Value} {base : Heap}
/-- one of the sequences -/
def Sq (K : PySem.W.Frag) (H : Hp) (p : Addr) (xs : List V) (l : Bool) : Prop := if l = true then SqL K H p xs else SqT K H p xs
theorem Sq.same {H H' : Hp} {p : Addr} {xs : List V} {l : Bool} (h : Sq K H p xs l) (s : Same H H') : Sq K H' p xs l := by
  unfold Sq at *
  cases l with
  | true => exact s.seq h
  | false => exact same_T s h
theorem Sq.ix {H : Hp} {Q : VK} {p : Addr} {xs : List V} {l : Bool} {j : Nat} {x : V} (h : Sq K H p xs l) (e : xs[j]? = some x) (q : Q x H) : rIx K (.ref p) (.int (0 + (j : Int))) H Q := by
  rw [Int.zero_add]
  unfold Sq at h
  cases l with
  | true => exact .inl ⟨_, _, _, _, rfl, rfl, h, atI_nat e, q⟩
  | false => exact .inr (.inl ⟨_, _, _, _, rfl, rfl, h, atI_nat e, q⟩)
theorem ok_law_equal {f : Addr} {fd : FuncData} {n : Nat} (b_isinstance : mg "isinstance" = none) (b_int : mg "int" = none) (b_bool : mg "bool" = none) (b_str : mg "str" = none) (b_tuple : mg "tuple" = none) (b_list : mg "list" = none) (b_len : mg "len" = none) (b_all : mg "all" = none) (b_range : mg "range" = none)
    (d_law_equal : D P w K mg base "_law_equal" n (sp_equal K n)) (F : Fun K "_law_equal" "_law_equal" s_law_equal f fd) : FnOk P w K mg base CX0 (n + 1) f fd ["_law_actual", "_law_expected"] (sp_equal K (n + 1)) := by
  refine F.ok sc_law_equal (fun vs H Q E h => ?_) (fun cdv A outer s H vs Q E hr h => ?_)
  · obtain ⟨va, vb, d, rfl, _⟩ := h
    rfl
  obtain ⟨va, vb, d, rfl, da, db, dp, q⟩ := h
  refine ⟨_, (pss_cons (ps_if (pt_cmpR (op_isN) (pv 1) pe_non (nomark _)) (pss_one (ps_ret (pe_cmpR (op_isN) (pv 0) pe_non (nomark _)))) pss_nil)
    (pss_cons (ps_if (pt_val (pe_callB (r := rIsi K) call_isi (by rfl) b_isinstance (by decide +kernel) (pa_cons (pv 1) (pa_cons (pe_bltn (v := .ty "bool") (by rfl) b_bool (by decide +kernel) rfl) pa_nil)))) (pss_one (ps_ret (pe_and (pe_callB (r := rIsi K) call_isi (by rfl) b_isinstance (by decide +kernel) (pa_cons (pv 0) (pa_cons (pe_bltn (v := .ty "bool") (by rfl) b_bool (by decide +kernel) rfl) pa_nil))) (pe_one (pe_cmpR (op_eq) (pv 0) (pv 1) (nomark _)))))) pss_nil)
    (pss_cons (ps_if (pt_val (pe_callB (r := rIsi K) call_isi (by rfl) b_isinstance (by decide +kernel) (pa_cons (pv 1) (pa_cons (pe_bltn (v := .ty "int") (by rfl) b_int (by decide +kernel) rfl) pa_nil)))) (pss_one (ps_ret (pe_and (pe_callB (r := rIsi K) call_isi (by rfl) b_isinstance (by decide +kernel) (pa_cons (pv 0) (pa_cons (pe_bltn (v := .ty "int") (by rfl) b_int (by decide +kernel) rfl) pa_nil))) (pe_and (pe_not (pe_callB (r := rIsi K) call_isi (by rfl) b_isinstance (by decide +kernel) (pa_cons (pv 0) (pa_cons (pe_bltn (v := .ty "bool") (by rfl) b_bool (by decide +kernel) rfl) pa_nil)))) (pe_one (pe_cmpR (op_eq) (pv 0) (pv 1) (nomark _))))))) pss_nil)
    (pss_cons (ps_if (pt_val (pe_callB (r := rIsi K) call_isi (by rfl) b_isinstance (by decide +kernel) (pa_cons (pv 1) (pa_cons (pe_bltn (v := .ty "str") (by rfl) b_str (by decide +kernel) rfl) pa_nil)))) (pss_one (ps_ret (pe_and (pe_callB (r := rIsi K) call_isi (by rfl) b_isinstance (by decide +kernel) (pa_cons (pv 0) (pa_cons (pe_bltn (v := .ty "str") (by rfl) b_str (by decide +kernel) rfl) pa_nil))) (pe_one (pe_cmpR (op_eq) (pv 0) (pv 1) (nomark _)))))) pss_nil)
    (pss_cons (ps_if (pt_cmpR (op_ne) (pe_callB (r := rIsi K) call_isi (by rfl) b_isinstance (by decide +kernel) (pa_cons (pv 1) (pa_cons (pe_bltn (v := .ty "tuple") (by rfl) b_tuple (by decide +kernel) rfl) pa_nil))) (pe_callB (r := rIsi K) call_isi (by rfl) b_isinstance (by decide +kernel) (pa_cons (pv 0) (pa_cons (pe_bltn (v := .ty "tuple") (by rfl) b_tuple (by decide +kernel) rfl) pa_nil))) (nomark _)) (pss_one (ps_ret pe_bl)) pss_nil)
    (pss_cons (ps_if (pt_cmpR (op_ne) (pe_callB (r := rIsi K) call_isi (by rfl) b_isinstance (by decide +kernel) (pa_cons (pv 1) (pa_cons (pe_bltn (v := .ty "list") (by rfl) b_list (by decide +kernel) rfl) pa_nil))) (pe_callB (r := rIsi K) call_isi (by rfl) b_isinstance (by decide +kernel) (pa_cons (pv 0) (pa_cons (pe_bltn (v := .ty "list") (by rfl) b_list (by decide +kernel) rfl) pa_nil))) (nomark _)) (pss_one (ps_ret pe_bl)) pss_nil)
    (pss_cons (ps_if (pt_cmpR (op_ne) (pe_callB call_len_seq (by rfl) b_len PySem.boot_len (pa_cons (pv 0) pa_nil)) (pe_callB call_len_seq (by rfl) b_len PySem.boot_len (pa_cons (pv 1) pa_nil)) (nomark _)) (pss_one (ps_ret pe_bl)) pss_nil)
    (pss_one (ps_ret (pe_callB (cr_all rfl) (by rfl) b_all (by decide +kernel) (pa_cons (pe_lc (own := [("_law_k", 2)]) (g := gName 2) (tt := tYes) (by rfl) sc_law_equal.nd (pi_range1 (by rfl) b_range (pa_cons (pe_callB call_len_seq (by rfl) b_len PySem.boot_len (pa_cons (pv 1) pa_nil)) pa_nil)) (blkOk_by (own := [("_law_k", 2)]) (N := ["_law_actual", "_law_expected", "_law_k"]) (sc := defScope s_law_equal) (by decide +kernel)) (fun _ _ _ _ _ => (pg_name (i := 2) sc_law_equal.nd rfl (by first | exact Or.inl rfl | exact Or.inr rfl))) (fun _ _ _ _ _ => pts_nil) (fun _ _ _ _ _ => (pc d_law_equal hr (pa_cons (pe_ix (r := rIx K) ix_seq (pv 0) (pv 2) (fun _ _ => rfl)) (pa_cons (pe_ix (r := rIx K) ix_seq (pv 1) (pv 2) (fun _ _ => rfl)) pa_nil))))) pa_nil))))))))))), ?_⟩
  cases db with
  | non =>
    cases da
    refine ⟨_, rfl, rfl, _, rfl, ?_⟩
    refine (if_pos (by decide)).mpr ?_
    exact ⟨_, rfl, rfl, q _ (Same.refl _)⟩
  | bl b =>
    cases da
    refine ⟨_, rfl, rfl, _, rfl, ?_⟩
    refine (if_neg (show ¬ decide (V.bl b = V.non) = true by rw [decide_eq_false (by intro z; cases z)]; decide)).mpr ?_
    refine ⟨_, rfl, _, _, _, _, _, rfl, .ty _, .base (.bl b), kit_ty (by decide +kernel), true, rfl, iteT ?_⟩
    refine ⟨_, rfl, _, _, _, _, _, rfl, .ty _, .base (.bl b), kit_ty (by decide +kernel), true, rfl, iteT ?_⟩
    refine ⟨_, rfl, _, rfl, rfl, ?_⟩
    rw [decide_eq_true rfl]
    exact q _ (Same.refl _)
  | int i =>
    cases da
    refine ⟨_, rfl, rfl, _, rfl, ?_⟩
    refine (if_neg (show ¬ decide (V.int i = V.non) = true by rw [decide_eq_false (by intro z; cases z)]; decide)).mpr ?_
    refine ⟨_, rfl, _, _, _, _, _, rfl, .ty _, .base (.int i), kit_ty (by decide +kernel), false, rfl, iteF ?_⟩
    refine ⟨_, rfl, _, _, _, _, _, rfl, .ty _, .base (.int i), kit_ty (by decide +kernel), true, rfl, iteT ?_⟩
    refine ⟨_, rfl, _, _, _, _, _, rfl, .ty _, .base (.int i), kit_ty (by decide +kernel), true, rfl, iteT ?_⟩
    refine ⟨_, rfl, _, _, _, _, _, rfl, .ty _, .base (.int i), kit_ty (by decide +kernel), false, rfl, true, rfl, iteT ?_⟩
    refine ⟨_, rfl, _, rfl, rfl, ?_⟩
    rw [decide_eq_true rfl]
    exact q _ (Same.refl _)
  | str x =>
    cases da
    refine ⟨_, rfl, rfl, _, rfl, ?_⟩
    refine (if_neg (show ¬ decide (V.str x = V.non) = true by rw [decide_eq_false (by intro z; cases z)]; decide)).mpr ?_
    refine ⟨_, rfl, _, _, _, _, _, rfl, .ty _, .base (.str x), kit_ty (by decide +kernel), false, rfl, iteF ?_⟩
    refine ⟨_, rfl, _, _, _, _, _, rfl, .ty _, .base (.str x), kit_ty (by decide +kernel), false, rfl, iteF ?_⟩
    refine ⟨_, rfl, _, _, _, _, _, rfl, .ty _, .base (.str x), kit_ty (by decide +kernel), true, rfl, iteT ?_⟩
    refine ⟨_, rfl, _, _, _, _, _, rfl, .ty _, .base (.str x), kit_ty (by decide +kernel), true, rfl, iteT ?_⟩
    refine ⟨_, rfl, _, rfl, rfl, ?_⟩
    rw [decide_eq_true rfl]
    exact q _ (Same.refl _)
  | @lst p' ys ds hb tb =>
    cases da with
    | @lst p xs _ ha ta =>
    obtain ⟨hl, hds⟩ := dp
    have e1 := (DpAll.get ta).1
    have e2 := (DpAll.get tb).1
    refine ⟨_, rfl, rfl, _, rfl, ?_⟩
    refine (if_neg (show ¬ decide (V.ref p' = V.non) = true by rw [decide_eq_false (by intro z; cases z)]; decide)).mpr ?_
    refine ⟨_, rfl, _, _, _, _, _, rfl, .ty _, ty_L hb, kit_ty (by decide +kernel), false, rfl, iteF ?_⟩
    refine ⟨_, rfl, _, _, _, _, _, rfl, .ty _, ty_L hb, kit_ty (by decide +kernel), false, rfl, iteF ?_⟩
    refine ⟨_, rfl, _, _, _, _, _, rfl, .ty _, ty_L hb, kit_ty (by decide +kernel), false, rfl, iteF ?_⟩
    refine ⟨_, rfl, _, _, _, _, _, rfl, .ty _, ty_L hb, kit_ty (b := "tuple") (r := false) (by decide +kernel), _, rfl, _, _, _, _, _, rfl, .ty _, ty_L ha, kit_ty (b := "tuple") (r := false) (by decide +kernel), rfl, _, rfl, iteF ?_⟩
    refine ⟨_, rfl, _, _, _, _, _, rfl, .ty _, ty_L hb, kit_ty (b := "list") (r := true) (by decide +kernel), _, rfl, _, _, _, _, _, rfl, .ty _, ty_L ha, kit_ty (b := "list") (r := true) (by decide +kernel), rfl, _, rfl, iteF ?_⟩
    refine ⟨_, rfl, _, _, rfl, .inl ha, _, rfl, _, _, rfl, .inl hb, rfl, _, rfl, ?_⟩
    refine (if_neg (show ¬ (!decide (V.int (xs.length : Int) = V.int (ys.length : Int))) = true by rw [e1, e2, decide_eq_true rfl]; decide)).mpr ?_
    refine ⟨_, rfl, _, _, rfl, .inl hb, _, rfl, by omega, by rw [e2]; exact Int.lt_of_le_of_lt (by omega : ((ds.length : Nat) : Int) ≤ 1000) (by decide), fun L hL => lc_range (lo := 0) (n := (ys.length : Int).toNat) (fun i H1 => Same H H1 ∧ H1 L = some (.lst ((List.replicate i true).map V.bl)) ∧ H L = none) ⟨same_new hL _, upd_same, hL⟩ ?_ ?_⟩
    · rintro i H1 hi ⟨s1, h1, _⟩
      have hi' : i < ys.length := by simpa using hi
      have hi2 : i < xs.length := by omega
      have gx : xs[i]? = some xs[i] := List.getElem?_eq_getElem hi2
      have gy : ys[i]? = some ys[i] := List.getElem?_eq_getElem hi'
      obtain ⟨d1, k1, dx⟩ := (DpAll.get ta).2 i _ gx
      obtain ⟨d2, k2, dy⟩ := (DpAll.get tb).2 i _ gy
      rw [k1] at k2
      cases Option.some.inj k2
      refine ⟨rfl, ?_⟩
      refine yes_of ?_
      refine ⟨_, rfl, _, rfl, Sq.ix (l := true) (show Sq K H1 p xs true from s1.seq ha) gx ?_⟩
      refine ⟨_, rfl, _, rfl, Sq.ix (l := true) (show Sq K H1 p' ys true from s1.seq hb) gy ?_⟩
      refine ⟨_, _, d1, rfl, Dp.same s1 dx, Dp.same s1 dy, hds d1 (List.mem_of_getElem? k1), fun H2 s2 => ?_⟩
      refine ⟨_, s2 _ _ h1, ?_, ?_, ?_, hL⟩
      · rw [List.length_map, List.length_replicate]; exact small1000 (by omega)
      · intro b o e
        have nb : b ≠ L := ne_of_none e hL
        rw [upd_ne nb]
        exact s2 _ _ (s1 _ _ e)
      · rw [upd_same, List.replicate_succ', List.map_append]
        rfl
    · rintro H1 ⟨s1, h1, _⟩
      refine ⟨_, _, rfl, .inl (.inl h1), ?_⟩
      have e : (List.replicate (ys.length : Int).toNat true).all id = true := by simp
      show Q (.bl ((List.replicate (ys.length : Int).toNat true).all id)) H1
      rw [e]
      exact q _ s1
  | @tup p' ys ds hb tb =>
    cases da with
    | @tup p xs _ ha ta =>
    obtain ⟨hl, hds⟩ := dp
    have e1 := (DpAll.get ta).1
    have e2 := (DpAll.get tb).1
    refine ⟨_, rfl, rfl, _, rfl, ?_⟩
    refine (if_neg (show ¬ decide (V.ref p' = V.non) = true by rw [decide_eq_false (by intro z; cases z)]; decide)).mpr ?_
    refine ⟨_, rfl, _, _, _, _, _, rfl, .ty _, ty_T hb, kit_ty (by decide +kernel), false, rfl, iteF ?_⟩
    refine ⟨_, rfl, _, _, _, _, _, rfl, .ty _, ty_T hb, kit_ty (by decide +kernel), false, rfl, iteF ?_⟩
    refine ⟨_, rfl, _, _, _, _, _, rfl, .ty _, ty_T hb, kit_ty (by decide +kernel), false, rfl, iteF ?_⟩
    refine ⟨_, rfl, _, _, _, _, _, rfl, .ty _, ty_T hb, kit_ty (b := "tuple") (r := true) (by decide +kernel), _, rfl, _, _, _, _, _, rfl, .ty _, ty_T ha, kit_ty (b := "tuple") (r := true) (by decide +kernel), rfl, _, rfl, iteF ?_⟩
    refine ⟨_, rfl, _, _, _, _, _, rfl, .ty _, ty_T hb, kit_ty (b := "list") (r := false) (by decide +kernel), _, rfl, _, _, _, _, _, rfl, .ty _, ty_T ha, kit_ty (b := "list") (r := false) (by decide +kernel), rfl, _, rfl, iteF ?_⟩
    refine ⟨_, rfl, _, _, rfl, .inr ha, _, rfl, _, _, rfl, .inr hb, rfl, _, rfl, ?_⟩
    refine (if_neg (show ¬ (!decide (V.int (xs.length : Int) = V.int (ys.length : Int))) = true by rw [e1, e2, decide_eq_true rfl]; decide)).mpr ?_
    refine ⟨_, rfl, _, _, rfl, .inr hb, _, rfl, by omega, by rw [e2]; exact Int.lt_of_le_of_lt (by omega : ((ds.length : Nat) : Int) ≤ 1000) (by decide), fun L hL => lc_range (lo := 0) (n := (ys.length : Int).toNat) (fun i H1 => Same H H1 ∧ H1 L = some (.lst ((List.replicate i true).map V.bl)) ∧ H L = none) ⟨same_new hL _, upd_same, hL⟩ ?_ ?_⟩
    · rintro i H1 hi ⟨s1, h1, _⟩
      have hi' : i < ys.length := by simpa using hi
      have hi2 : i < xs.length := by omega
      have gx : xs[i]? = some xs[i] := List.getElem?_eq_getElem hi2
      have gy : ys[i]? = some ys[i] := List.getElem?_eq_getElem hi'
      obtain ⟨d1, k1, dx⟩ := (DpAll.get ta).2 i _ gx
      obtain ⟨d2, k2, dy⟩ := (DpAll.get tb).2 i _ gy
      rw [k1] at k2
      cases Option.some.inj k2
      refine ⟨rfl, ?_⟩
      refine yes_of ?_
      refine ⟨_, rfl, _, rfl, Sq.ix (l := false) (show Sq K H1 p xs false from same_T s1 ha) gx ?_⟩
      refine ⟨_, rfl, _, rfl, Sq.ix (l := false) (show Sq K H1 p' ys false from same_T s1 hb) gy ?_⟩
      refine ⟨_, _, d1, rfl, Dp.same s1 dx, Dp.same s1 dy, hds d1 (List.mem_of_getElem? k1), fun H2 s2 => ?_⟩
      refine ⟨_, s2 _ _ h1, ?_, ?_, ?_, hL⟩
      · rw [List.length_map, List.length_replicate]; exact small1000 (by omega)
      · intro b o e
        have nb : b ≠ L := ne_of_none e hL
        rw [upd_ne nb]
        exact s2 _ _ (s1 _ _ e)
      · rw [upd_same, List.replicate_succ', List.map_append]
        rfl
    · rintro H1 ⟨s1, h1, _⟩
      refine ⟨_, _, rfl, .inl (.inl h1), ?_⟩
      have e : (List.replicate (ys.length : Int).toNat true).all id = true := by simp
      show Q (.bl ((List.replicate (ys.length : Int).toNat true).all id)) H1
      rw [e]
      exact q _ s1
end
end My

namespace My
open PySem L2 Mth
abbrev s_law_step : Stmt := topS 52
theorem sc_law_step : FnScope ["_law_d", "_law_size_now"] ["_law_d", "_law_size_now"] (defScope s_law_step) := ⟨rfl, rfl, rfl, by decide +kernel, rfl, by decide +kernel, by decide +kernel⟩
section
variable {P : Program} {w : World} {K : PySem.W.Frag} {mg : Str → Option Value} {base : Heap}
def sp_step (K : PySem.W.Frag) : Sp := fun vs H Q _ => ∃ (d : Addr) (n : Int) (st : Src), vs = [.ref d, .int n] ∧ 0 ≤ n ∧ n ≤ 7 ∧ H d = some (.lst (encD st)) ∧ SrcOk st ∧
  ∀ H' st' r, Keep d H H' → H' d = some (.lst (encD st')) → SrcOk st' → (∃ t, IsT K H' r t ∧ SpotIn t) → Q r H'
theorem ok_law_step {f : Addr} {fd : FuncData} (d_law_below : D P w K mg base "_law_below" 1 sp_below) (F : Fun K "_law_step" "_law_step" s_law_step f fd) : FnOk P w K mg base CX0 2 f fd ["_law_d", "_law_size_now"] (sp_step K) := by
  refine F.ok sc_law_step (fun vs H Q E h => ?_) (fun cdv A outer s H vs Q E hr h => ?_)
  · obtain ⟨d, n, st, rfl, _⟩ := h
    rfl
  obtain ⟨d, n, st, rfl, n0, n7, hd, ok, q⟩ := h
  refine ⟨_, (pss_one (ps_ret (pe_tup (pa_cons (pe_op op_sub (pc d_law_below (hr.mono (by decide)) (pa_cons (pv 0) (pa_cons (pe_op op_add (pe_op op_mulW pe_int (pv 1)) pe_int) pa_nil))) (pv 1)) (pa_cons (pe_op op_sub (pc d_law_below (hr.mono (by decide)) (pa_cons (pv 0) (pa_cons (pe_op op_add (pe_op op_mulW pe_int (pv 1)) pe_int) pa_nil))) (pv 1)) (pa_cons pe_int pa_nil)))))), ?_⟩
  have m2 : CMulW 2 n := mulW (a := 1) (b := 2) (by decide) (show n.natAbs < 8 by omega)
  refine ⟨_, rfl, _, rfl, _, _, rfl, rfl, m2, _, _, rfl, rfl, d, _, st, rfl, by omega, by omega, hd, ok, fun st1 x ok1 x0 x1 => ?_⟩
  refine ⟨_, rfl, _, _, rfl, rfl, ?_⟩
  refine ⟨_, rfl, _, rfl, _, _, rfl, rfl, m2, _, _, rfl, rfl, d, _, st1, rfl, by omega, by omega, upd_same, ok1, fun st2 y ok2 y0 y1 => ?_⟩
  refine ⟨_, rfl, _, _, rfl, rfl, (by show 3 ≤ sizeLine; decide), fun p hp => ?_⟩
  have sp' := same_new hp (.tup [.int (x - n), .int (y - n), .int 1])
  refine q _ st2 _ (keep_upd.trans (keep_upd.trans (Keep.of sp'))) (sp' _ _ upd_same) ok2 ⟨(x - n, y - n, 1), IsT.new, ⟨⟨(by decide : (0 : Int) < 1), by unfold g3; dsimp only; rw [Int.gcd_one_right]; rfl⟩, ?_⟩⟩
  refine ⟨?_, ?_, ?_⟩ <;> show _ < 8
  · show (x - n).natAbs < 8; omega
  · show (y - n).natAbs < 8; omega
  · show (1 : Nat) < 8; decide
end
end My

namespace My
open PySem L2 Mth
section
variable {K : PySem.W.Frag}
/-! ### the law's arms -/
structure ArmIn (a : Am) : Prop where
  ok : AmOk a
  bp : B 3 a.pole
  bt : B 3 a.t
  mem : a.t ∈ turns13
  fa : a.far ≤ 200
/-- an arm as it is told -/
def IsB (K : PySem.W.Frag) (H : Hp) (v : V) (a : Am) : Prop := ∃ p u z, v = .ref p ∧ SqT K H p [.ref u, .ref z, .int a.near, .int a.far, .bl a.m] ∧ SqT K H u (v3 a.pole) ∧ SqT K H z (v3 a.t)
theorem IsB.same {H H' : Hp} {v : V} {a : Am} (h : IsB K H v a) (e : Same H H') : IsB K H' v a := by
  obtain ⟨p, u, z, rfl, h1, h2, h3⟩ := h
  exact ⟨p, u, z, rfl, same_T e h1, same_T e h2, same_T e h3⟩
theorem IsB.keep {H H' : Hp} {v : V} {a : Am} {d : Addr} {ys : List V} (h : IsB K H v a) (hd : H d = some (.lst ys)) (e : Keep d H H') : IsB K H' v a := by
  obtain ⟨p, u, z, rfl, h1, h2, h3⟩ := h
  exact ⟨p, u, z, rfl, keep_T h1 hd e, keep_T h2 hd e, keep_T h3 hd e⟩
end
end My

namespace My
open PySem L2 Mth
abbrev s_law_arm : Stmt := topS 58
theorem sc_law_arm : FnScope ["_law_told"] ["_law_told"] (defScope s_law_arm) := ⟨rfl, rfl, rfl, by decide +kernel, rfl, by decide +kernel, by decide +kernel⟩
abbrev s_law_arm_told : Stmt := topS 57
theorem sc_law_arm_told : FnScope ["_law_d", "_law_near", "_law_pole"] ["_law_d"] (defScope s_law_arm_told) := ⟨rfl, rfl, rfl, by decide +kernel, rfl, by decide +kernel, by decide +kernel⟩
section
variable {P : Program} {w : World} {K : PySem.W.Frag} {mg : Str → Option Value} {base : Heap}
theorem nears {r : Int} (h0 : 0 ≤ r) (h1 : r < 4) : ∃ c : Int, atI [V.int 0, .int 0, .int 1, .int 2] r = some (.int c) ∧ 0 ≤ c ∧ c ≤ 2 := by
  have : r = 0 ∨ r = 1 ∨ r = 2 ∨ r = 3 := by omega
  rcases this with rfl | rfl | rfl | rfl
  · exact ⟨0, by rfl, by decide, by decide⟩
  · exact ⟨0, by rfl, by decide, by decide⟩
  · exact ⟨1, by rfl, by decide, by decide⟩
  · exact ⟨2, by rfl, by decide, by decide⟩
theorem fars {r : Int} (h0 : 0 ≤ r) (h1 : r < 4) : ∃ c : Int, atI [V.int 3, .int 8, .int 20, .int 99] r = some (.int c) ∧ 3 ≤ c ∧ c ≤ 99 := by
  have : r = 0 ∨ r = 1 ∨ r = 2 ∨ r = 3 := by omega
  rcases this with rfl | rfl | rfl | rfl
  · exact ⟨3, by rfl, by decide, by decide⟩
  · exact ⟨8, by rfl, by decide, by decide⟩
  · exact ⟨20, by rfl, by decide, by decide⟩
  · exact ⟨99, by rfl, by decide, by decide⟩
theorem ok_law_arm_told {f : Addr} {fd : FuncData} (d_law_below : D P w K mg base "_law_below" 1 sp_below) (d_law_step : D P w K mg base "_law_step" 2 (sp_step K)) (d_law_turn : D P w K mg base "_law_turn" 2 (sp_draw fun H r => ∃ t, IsT K H r t ∧ TurnIn t)) (d_law_spot : D P w K mg base "_law_spot" 3 (sp_draw fun H r => ∃ t, IsT K H r t ∧ SpotIn t))
    (F : Fun K "_law_arm_told" "_law_arm_told" s_law_arm_told f fd) : FnOk P w K mg base CX0 4 f fd ["_law_d"] (sp_draw fun H r => ∃ a, IsB K H r a ∧ ArmIn a) := by
  refine F.ok sc_law_arm_told (fun vs H Q E h => ?_) (fun cdv A outer s H vs Q E hr h => ?_)
  · obtain ⟨d, st, rfl, _⟩ := h
    rfl
  obtain ⟨d, st, rfl, hd, ok, q⟩ := h
  refine ⟨_, (pss_cons (ps_set (i := 1) sc_law_arm_told.nd rfl (by first | exact Or.inl rfl | exact Or.inr rfl) (pe_ix (r := rIxL K) ix_list (pe_lst (pa_cons pe_int (pa_cons pe_int (pa_cons pe_int (pa_cons pe_int pa_nil))))) (pc d_law_below (hr.mono (by decide)) (pa_cons (pv 0) (pa_cons pe_int pa_nil))) (fun _ _ => rfl)))
    (pss_cons (ps_set (i := 2) sc_law_arm_told.nd rfl (by first | exact Or.inl rfl | exact Or.inr rfl) (pe_ifExp (pt_cmpR (op_gt) (pc d_law_below (hr.mono (by decide)) (pa_cons (pv 0) (pa_cons pe_int pa_nil))) pe_int (nomark _)) (pc d_law_step (hr.mono (by decide)) (pa_cons (pv 0) (pa_cons pe_int pa_nil))) (pc d_law_spot (hr.mono (by decide)) (pa_cons (pv 0) pa_nil))))
    (pss_one (ps_ret (pe_tup (pa_cons (pv 2) (pa_cons (pc d_law_turn (hr.mono (by decide)) (pa_cons (pv 0) pa_nil)) (pa_cons (pv 1) (pa_cons (pe_op op_add (pv 1) (pe_ix (r := rIxL K) ix_list (pe_lst (pa_cons pe_int (pa_cons pe_int (pa_cons pe_int (pa_cons pe_int pa_nil))))) (pc d_law_below (hr.mono (by decide)) (pa_cons (pv 0) (pa_cons pe_int pa_nil))) (fun _ _ => rfl))) (pa_cons (pe_cmpR (op_eq) (pc d_law_below (hr.mono (by decide)) (pa_cons (pv 0) (pa_cons pe_int pa_nil))) pe_int (nomark _)) pa_nil)))))))))), ?_⟩
  refine ⟨(by show 4 ≤ sizeLine; decide), fun a ha => ?_⟩
  have sa := same_new ha (.lst [.int 0, .int 0, .int 1, .int 2])
  refine ⟨_, rfl, d, _, st, rfl, by decide, by decide, sa _ _ hd, ok, fun st1 r ok1 r0 r1 => ?_⟩
  have had : a ≠ d := (ne_of_none hd ha).symm
  obtain ⟨n, hn, n0, n2⟩ := nears r0 r1
  refine ⟨a, _, _, _, rfl, rfl, .inl (.inl (by rw [upd_ne had]; exact upd_same)), hn, ?_⟩
  have kk1 : Keep d H (upd (upd H a (.lst [.int 0, .int 0, .int 1, .int 2])) d (.lst (encD st1))) := (Keep.of sa).trans keep_upd
  have hd1 := upd_same (H := upd H a (.lst [.int 0, .int 0, .int 1, .int 2])) (a := d) (o := .lst (encD st1))
  generalize upd (upd H a (.lst [.int 0, .int 0, .int 1, .int 2])) d (.lst (encD st1)) = H1 at *
  refine gn_of ?_
  dsimp only
  refine asg_of ?_
  refine exp_join (fun v' H' => ∃ st z, H' d = some (.lst (encD st)) ∧ SrcOk st ∧ Keep d H1 H' ∧ IsT K H' v' z ∧ SpotIn z) ?_ ?_
  · rintro vp H2 ⟨st2, z, hd2, ok2, k2, ⟨pz, ez, tz⟩, nz⟩
    subst ez
    refine gn_of ?_
    refine ⟨_, rfl, ?_⟩
    refine ⟨_, rfl, d, st2, rfl, hd2, ok2, fun H3 st3 v3 k3 hd3 ok3 ⟨t, ⟨pt, et, tt⟩, nt⟩ => ?_⟩
    subst et
    have tz := keep_T tz hd2 k3
    refine ⟨_, rfl, ?_⟩
    refine ⟨_, rfl, (by show 4 ≤ sizeLine; decide), fun b hb => ?_⟩
    have sb := same_new hb (.lst [.int 3, .int 8, .int 20, .int 99])
    refine ⟨_, rfl, d, _, st3, rfl, by decide, by decide, sb _ _ hd3, ok3, fun st4 r4 ok4 r40 r41 => ?_⟩
    have hbd : b ≠ d := (ne_of_none hd3 hb).symm
    obtain ⟨c, hc, c3, c99⟩ := fars r40 r41
    refine ⟨b, _, _, _, rfl, rfl, .inl (.inl (by rw [upd_ne hbd]; exact upd_same)), hc, ?_⟩
    refine ⟨_, _, rfl, rfl, ?_⟩
    refine ⟨_, rfl, d, _, st4, rfl, by decide, by decide, upd_same, ok4, fun st5 r5 ok5 r50 r51 => ?_⟩
    refine ⟨rfl, (by show 5 ≤ sizeLine; decide), fun p hp => ?_⟩
    have sp' := same_new hp (.tup [.ref pz, .ref pt, .int n, .int (n + c), .bl (decide (V.int r5 = V.int 0))])
    have k35 : Keep d H3 (upd (upd (upd H3 b (.lst [.int 3, .int 8, .int 20, .int 99])) d (.lst (encD st4))) d (.lst (encD st5))) := (Keep.of sb).trans (keep_upd.trans keep_upd)
    refine q _ st5 _ (kk1.trans (k2.trans (k3.trans (k35.trans (Keep.of sp'))))) (sp' _ _ upd_same) ok5 ⟨⟨z, t, n, n + c, decide (V.int r5 = V.int 0)⟩, ⟨p, pz, pt, rfl, .inl (.inl upd_same), same_T sp' (keep_T tz hd3 k35), same_T sp' (keep_T tt hd3 k35)⟩, ⟨⟨nz.ok, nt.ok, nt.nz, n0, ?_, ?_⟩, nz.bd, nt.bd, nt.mem, (by show n + c ≤ 200; omega)⟩⟩
    · show n ≤ n + c; omega
    · show n + c ≤ 1000; omega
  · intro Q' kQ
    refine ⟨_, rfl, d, _, st1, rfl, by decide, by decide, hd1, ok1, fun st2 r2 ok2 r20 r21 => ?_⟩
    have kk : Keep d H1 (upd H1 d (.lst (encD st2))) := keep_upd
    refine ⟨_, _, rfl, rfl, _, rfl, ?_⟩
    refine ite2 (fun _ => ?_) (fun _ => ?_)
    · exact ⟨_, rfl, d, 4, st2, rfl, by decide, by decide, upd_same, ok2, fun H3 st3 v3 k3 hd3 ok3 ⟨z, iz, nz⟩ => kQ _ _ ⟨st3, z, hd3, ok3, kk.trans k3, iz, nz⟩⟩
    · exact ⟨_, rfl, d, st2, rfl, upd_same, ok2, fun H3 st3 v3 k3 hd3 ok3 ⟨z, iz, nz⟩ => kQ _ _ ⟨st3, z, hd3, ok3, kk.trans k3, iz, nz⟩⟩
def sp_armOf (K : PySem.W.Frag) (C CA : Addr) : Sp := fun vs H Q _ => ∃ v a, vs = [v] ∧ IsB K H v a ∧ AmOk a ∧ B 1000 a.pole ∧ B 1000 a.t ∧ ∀ H' r, Same H H' → IsA K C CA H' r a → Q r H'
theorem ok_law_arm {f C CA fI : Addr} {fd fdI : FuncData} {mv ds : List Value} (TA : ArmI P w K mg base C CA fI fdI mv ds) (F : Fun K "_law_arm" "_law_arm" s_law_arm f fd) : FnOk P w K mg base CX0 9 f fd ["_law_told"] (sp_armOf K C CA) := by
  refine F.ok sc_law_arm (fun vs H Q E h => ?_) (fun cdv A outer s H vs Q E hr h => ?_)
  · obtain ⟨v, a, rfl, _⟩ := h
    rfl
  obtain ⟨v, a, rfl, ⟨p, u, z, rfl, h1, h2, h3⟩, ok, bp, bt, q⟩ := h
  refine ⟨_, (pss_one (ps_ret (pe_makeK TA.mkC TA.ok (hr.mono (by decide)) (by rfl) TA.mgC TA.kb pass0 (pa_cons (pe_ix (r := rIxT K) ix_tup (pv 0) pe_int (fun _ _ => rfl)) (pa_cons (pe_ix (r := rIxT K) ix_tup (pv 0) pe_int (fun _ _ => rfl)) (pa_cons (pe_ix (r := rIxT K) ix_tup (pv 0) pe_int (fun _ _ => rfl)) (pa_cons (pe_ix (r := rIxT K) ix_tup (pv 0) pe_int (fun _ _ => rfl)) pa_nil)))) (pk_cons (pe_ix (r := rIxT K) ix_tup (pv 0) pe_int (fun _ _ => rfl)) pk_nil)))), ?_⟩
  refine ⟨_, rfl, _, _, _, _, rfl, rfl, h1, by rfl, _, rfl, _, _, _, _, rfl, rfl, h1, by rfl, _, rfl, _, _, _, _, rfl, rfl, h1, by rfl, _, rfl, _, _, _, _, rfl, rfl, h1, by rfl, _, rfl, _, _, _, _, rfl, rfl, h1, by rfl, ?_⟩
  exact ⟨rfl, rfl, mka_of ⟨_, rfl, h2⟩ ⟨_, rfl, h3⟩ ok (bp.mono (by decide)) bt fun H' r s' i => q _ _ s' i⟩
end
end My

namespace My
open PySem L2 Mth
abbrev s_law_about : Stmt := topS 65
theorem sc_law_about : FnScope ["_law_told", "_law_pole", "_law_turn_here", "_law_near", "_law_far", "_law_flipped", "_law_carried_to"] ["_law_told"] (defScope s_law_about) := ⟨rfl, rfl, rfl, by decide +kernel, rfl, by decide +kernel, by decide +kernel⟩
section
variable {P : Program} {w : World} {K : PySem.W.Frag} {mg : Str → Option Value} {base : Heap}
def sp_labout (K : PySem.W.Frag) : Sp := fun vs H Q _ => ∃ v a, vs = [v] ∧ IsB K H v a ∧ AmOk a ∧ B 1000 a.pole ∧ B 1000 a.t ∧ ∀ H' r, Same H H' → IsD K H' r (about a) → Q r H'
theorem ok_law_about {f : Addr} {fd : FuncData} (d_law_times : D P w K mg base "_law_times" 3 (sp_two K times)) (d_law_over : D P w K mg base "_law_over" 1 (sp_one K over)) (d_law_minus : D P w K mg base "_law_minus" 4 (sp_two K minus)) (F : Fun K "_law_about" "_law_about" s_law_about f fd) : FnOk P w K mg base CX0 5 f fd ["_law_told"] (sp_labout K) := by
  refine F.ok sc_law_about (fun vs H Q E h => ?_) (fun cdv A outer s H vs Q E hr h => ?_)
  · obtain ⟨v, a, rfl, _⟩ := h
    rfl
  obtain ⟨v, ⟨z, t, n, g, m⟩, rfl, ⟨p, u, w', rfl, h1, h2, h3⟩, oa, bp, bt, q⟩ := h
  refine ⟨_, (pss_cons (ps_asg (pv 0) (pg_tup rfl (pgs_cons (pg_name (i := 1) sc_law_about.nd rfl (by first | exact Or.inl rfl | exact Or.inr rfl)) (pgs_cons (pg_name (i := 2) sc_law_about.nd rfl (by first | exact Or.inl rfl | exact Or.inr rfl)) (pgs_cons (pg_name (i := 3) sc_law_about.nd rfl (by first | exact Or.inl rfl | exact Or.inr rfl)) (pgs_cons (pg_name (i := 4) sc_law_about.nd rfl (by first | exact Or.inl rfl | exact Or.inr rfl)) (pgs_cons (pg_name (i := 5) sc_law_about.nd rfl (by first | exact Or.inl rfl | exact Or.inr rfl)) pgs_nil)))))))
    (pss_cons (ps_set (i := 6) sc_law_about.nd rfl (by first | exact Or.inl rfl | exact Or.inr rfl) (pc d_law_times (hr.mono (by decide)) (pa_cons (pv 2) (pa_cons (pe_ifExp (pt_val (pv 5)) (pc d_law_over (hr.mono (by decide)) (pa_cons (pv 1) pa_nil)) (pv 1)) pa_nil))))
    (pss_one (ps_ret (pe_tup (pa_cons (pv 2) (pa_cons (pc d_law_minus (hr.mono (by decide)) (pa_cons (pv 1) (pa_cons (pv 6) pa_nil))) (pa_cons (pv 5) pa_nil)))))))), ?_⟩
  refine ⟨_, rfl, p, _, rfl, h1, rfl, _, _, rfl, _, _, rfl, _, _, rfl, _, _, rfl, _, _, rfl, rfl, ?_⟩
  refine ⟨_, rfl, _, rfl, ?_⟩
  cases m with
  | true =>
    refine ⟨_, rfl, iteT ⟨_, rfl, _, z, rfl, ⟨_, rfl, h2⟩, fun H1 r1 s1 i1 => ?_⟩⟩
    have i1 : IsT K H1 r1 (face z true) := i1
    refine ⟨_, _, _, _, rfl, ⟨_, rfl, same_T s1 h3⟩, i1, oa.t, face_ok oa.p _, bt.mono (by decide), (face_B bp _).mono (by decide), fun H2 r2 s2 i2 => ?_⟩
    have s12 := s1.trans s2
    refine ⟨_, rfl, _, rfl, _, rfl, _, _, _, _, rfl, ⟨_, rfl, same_T s12 h2⟩, i2, oa.p, times_ok oa.t (face_ok oa.p _), bp.mono (by decide), (times_B oa.t (face_ok oa.p _) bt (face_B bp _)).mono (by decide), fun H3 r3 s3 i3 => ?_⟩
    have s13 := s12.trans s3
    obtain ⟨p3, e3, t3⟩ := i3
    subst e3
    refine ⟨_, rfl, (by show 3 ≤ sizeLine; decide), fun p4 hp4 => ?_⟩
    have s4 := same_new hp4 (.tup [.ref w', .ref p3, .bl true])
    exact q _ _ (s13.trans s4) ⟨p4, w', p3, rfl, .inl (.inl upd_same), same_T (s13.trans s4) h3, same_T s4 t3⟩
  | false =>
    have i1 : IsT K H (.ref u) (face z false) := ⟨_, rfl, h2⟩
    have s1 := Same.refl H
    refine ⟨_, rfl, iteF ⟨_, rfl, ?_⟩⟩
    refine ⟨_, _, _, _, rfl, ⟨_, rfl, same_T s1 h3⟩, i1, oa.t, face_ok oa.p _, bt.mono (by decide), (face_B bp _).mono (by decide), fun H2 r2 s2 i2 => ?_⟩
    have s12 := s1.trans s2
    refine ⟨_, rfl, _, rfl, _, rfl, _, _, _, _, rfl, ⟨_, rfl, same_T s12 h2⟩, i2, oa.p, times_ok oa.t (face_ok oa.p _), bp.mono (by decide), (times_B oa.t (face_ok oa.p _) bt (face_B bp _)).mono (by decide), fun H3 r3 s3 i3 => ?_⟩
    have s13 := s12.trans s3
    obtain ⟨p3, e3, t3⟩ := i3
    subst e3
    refine ⟨_, rfl, (by show 3 ≤ sizeLine; decide), fun p4 hp4 => ?_⟩
    have s4 := same_new hp4 (.tup [.ref w', .ref p3, .bl false])
    exact q _ _ (s13.trans s4) ⟨p4, w', p3, rfl, .inl (.inl upd_same), same_T (s13.trans s4) h3, same_T s4 t3⟩
end
end My

namespace My
open PySem L2 Mth
abbrev s_law_shown : Stmt := topS 60
theorem sc_law_shown : FnScope ["_law_copy"] ["_law_copy"] (defScope s_law_shown) := ⟨rfl, rfl, rfl, by decide +kernel, rfl, by decide +kernel, by decide +kernel⟩
section
variable {P : Program} {w : World} {K : PySem.W.Frag} {mg : Str → Option Value} {base : Heap}
def sp_shown (K : PySem.W.Frag) (C : Addr) : Sp := fun vs H Q _ => ∃ v c, vs = [v] ∧ IsC K C H v c ∧ ∀ H' r, Same H H' → IsD K H' r c → Q r H'
theorem ok_law_shown {f C : Addr} {fd : FuncData} (m_pt : MPt P w K mg base C) (m_ps : MPs P w K mg base C) (m_pm : MPm P w K mg base C) (F : Fun K "_law_shown" "_law_shown" s_law_shown f fd) : FnOk P w K mg base CX0 3 f fd ["_law_copy"] (sp_shown K C) := by
  refine F.ok sc_law_shown (fun vs H Q E h => ?_) (fun cdv A outer s H vs Q E hr h => ?_)
  · obtain ⟨v, c, rfl, _⟩ := h
    rfl
  obtain ⟨v, c, rfl, ic, q⟩ := h
  refine ⟨_, (pss_one (ps_ret (pe_tup (pa_cons (pe_turn m_pt (hr.mono (by decide)) (pv 0)) (pa_cons (pe_shift m_ps (hr.mono (by decide)) (pv 0)) (pa_cons (pe_mirr m_pm (hr.mono (by decide)) (pv 0)) pa_nil)))))), ?_⟩
  refine ⟨_, rfl, prop_of ic ⟨_, _, rfl, ic, fun r1 i1 => ?_⟩⟩
  refine ⟨_, rfl, prop_of ic ⟨_, _, rfl, ic, fun r2 i2 => ?_⟩⟩
  refine ⟨_, rfl, prop_of ic ⟨_, _, rfl, ic, fun r3 i3 => ?_⟩⟩
  subst i3
  obtain ⟨p1, rfl, t1⟩ := i1
  obtain ⟨p2, rfl, t2⟩ := i2
  refine ⟨(by show 3 ≤ sizeLine; decide), fun p hp => ?_⟩
  have s1 := same_new hp (.tup [.ref p1, .ref p2, .bl c.m])
  exact q _ _ s1 ⟨p, p1, p2, rfl, .inl (.inl upd_same), same_T s1 t1, same_T s1 t2⟩
end
end My

namespace My
open PySem L2 Mth
abbrev s_law_ratio : Stmt := topS 66
theorem sc_law_ratio : FnScope ["_law_p", "_law_q"] ["_law_p", "_law_q"] (defScope s_law_ratio) := ⟨rfl, rfl, rfl, by decide +kernel, rfl, by decide +kernel, by decide +kernel⟩
abbrev s_law_size : Stmt := topS 67
theorem sc_law_size : FnScope ["_law_one"] ["_law_one"] (defScope s_law_size) := ⟨rfl, rfl, rfl, by decide +kernel, rfl, by decide +kernel, by decide +kernel⟩
section
variable {P : Program} {w : World} {K : PySem.W.Frag} {mg : Str → Option Value} {base : Heap}
/-! ### the law's fractions -/
def sp_ratio (K : PySem.W.Frag) : Sp := fun vs H Q _ => ∃ p q : Int, vs = [.int p, .int q] ∧ q ≠ 0 ∧ q.natAbs < 2 ^ 8500 ∧ ∀ H' r, Same H H' → IsF K H' r (fr p q) → Q r H'
theorem ok_law_ratio {f : Addr} {fd : FuncData} (d_law_lowest : D P w K mg base "_law_lowest" 2 (sp_low K)) (F : Fun K "_law_ratio" "_law_ratio" s_law_ratio f fd) : FnOk P w K mg base CX0 3 f fd ["_law_p", "_law_q"] (sp_ratio K) := by
  refine F.ok sc_law_ratio (fun vs H Q E h => ?_) (fun cdv A outer s H vs Q E hr h => ?_)
  · obtain ⟨p, d, rfl, _⟩ := h
    rfl
  obtain ⟨p, d, rfl, hd, hB, q⟩ := h
  refine ⟨_, (pss_one (ps_ret (pe_tup (pa_cons (pe_ix (r := rIxT K) ix_tup (pc d_law_lowest (hr.mono (by decide)) (pa_cons (pv 0) (pa_cons pe_int (pa_cons (pv 1) pa_nil)))) pe_int (fun _ _ => rfl)) (pa_cons (pe_ix (r := rIxT K) ix_tup (pc d_law_lowest (hr.mono (by decide)) (pa_cons (pv 0) (pa_cons pe_int (pa_cons (pv 1) pa_nil)))) pe_int (fun _ _ => rfl)) pa_nil))))), ?_⟩
  refine ⟨_, rfl, _, rfl, p, 0, d, rfl, hd, hB, fun H1 r1 s1 i1 => ?_⟩
  obtain ⟨p1, e1, t1⟩ := i1
  subst e1
  refine ⟨p1, _, _, _, rfl, rfl, t1, by rfl, ?_⟩
  refine ⟨_, rfl, _, rfl, p, 0, d, rfl, hd, hB, fun H2 r2 s2 i2 => ?_⟩
  obtain ⟨p2, e2, t2⟩ := i2
  subst e2
  refine ⟨p2, _, _, _, rfl, rfl, t2, by rfl, (by show 2 ≤ sizeLine; decide), fun p3 hp3 => ?_⟩
  exact q _ _ (s1.trans (s2.trans (same_new hp3 _))) (IsF.new (a := (fr p d).1) (b := (fr p d).2))
def sp_size (K : PySem.W.Frag) : Sp := fun vs H Q _ => ∃ v a, vs = [v] ∧ IsT K H v a ∧ Ok a ∧ B 4000 a ∧ ∀ H' r, Same H H' → IsF K H' r (gr a) → Q r H'
theorem ok_law_size {f : Addr} {fd : FuncData} (d_law_ratio : D P w K mg base "_law_ratio" 3 (sp_ratio K)) (F : Fun K "_law_size" "_law_size" s_law_size f fd) : FnOk P w K mg base CX0 4 f fd ["_law_one"] (sp_size K) := by
  refine F.ok sc_law_size (fun vs H Q E h => ?_) (fun cdv A outer s H vs Q E hr h => ?_)
  · obtain ⟨v, a, rfl, _⟩ := h
    rfl
  obtain ⟨v, ⟨x, y, d⟩, rfl, ⟨p, rfl, t⟩, oa, ⟨a1, a2, a3⟩, q⟩ := h
  refine ⟨_, (pss_one (ps_ret (pc d_law_ratio (hr.mono (by decide)) (pa_cons (pe_op op_add (pe_op op_mulW (pe_ix (r := rIxT K) ix_tup (pv 0) pe_int (fun _ _ => rfl)) (pe_ix (r := rIxT K) ix_tup (pv 0) pe_int (fun _ _ => rfl))) (pe_op op_mulW (pe_ix (r := rIxT K) ix_tup (pv 0) pe_int (fun _ _ => rfl)) (pe_ix (r := rIxT K) ix_tup (pv 0) pe_int (fun _ _ => rfl)))) (pa_cons (pe_op op_mulW (pe_ix (r := rIxT K) ix_tup (pv 0) pe_int (fun _ _ => rfl)) (pe_ix (r := rIxT K) ix_tup (pv 0) pe_int (fun _ _ => rfl))) pa_nil))))), ?_⟩
  refine ⟨_, rfl, _, _, _, _, rfl, rfl, t, by rfl, _, rfl, _, _, _, _, rfl, rfl, t, by rfl, _, _, rfl, rfl, mulW a1 a1, ?_⟩
  refine ⟨_, rfl, _, _, _, _, rfl, rfl, t, by rfl, _, rfl, _, _, _, _, rfl, rfl, t, by rfl, _, _, rfl, rfl, mulW a2 a2, _, _, rfl, rfl, ?_⟩
  refine ⟨_, rfl, _, _, _, _, rfl, rfl, t, by rfl, _, rfl, _, _, _, _, rfl, rfl, t, by rfl, _, _, rfl, rfl, mulW a3 a3, ?_⟩
  exact ⟨_, _, rfl, mul_ne oa.ne oa.ne, up_lt (by decide) (mul_lt a3 a3), q⟩
end
end My

namespace My
open PySem L2 Mth
abbrev s_law_less : Stmt := topS 68
theorem sc_law_less : FnScope ["_law_one", "_law_other"] ["_law_one", "_law_other"] (defScope s_law_less) := ⟨rfl, rfl, rfl, by decide +kernel, rfl, by decide +kernel, by decide +kernel⟩
section
variable {P : Program} {w : World} {K : PySem.W.Frag} {mg : Str → Option Value} {base : Heap}
def sp_lless (K : PySem.W.Frag) : Sp := fun vs H Q _ => ∃ va vb a b, vs = [va, vb] ∧ IsF K H va a ∧ IsF K H vb b ∧ FB 16001 a ∧ FB 16001 b ∧ Q (.bl (lessF a b)) H
theorem ok_law_less {f : Addr} {fd : FuncData} (F : Fun K "_law_less" "_law_less" s_law_less f fd) : FnOk P w K mg base CX0 1 f fd ["_law_one", "_law_other"] (sp_lless K) := by
  refine F.ok sc_law_less (fun vs H Q E h => ?_) (fun cdv A outer s H vs Q E hr h => ?_)
  · obtain ⟨va, vb, a, b, rfl, _⟩ := h
    rfl
  obtain ⟨va, vb, a, b, rfl, ⟨pa, rfl, ta⟩, ⟨pb, rfl, tb⟩, ba, bb, q⟩ := h
  refine ⟨_, (pss_one (ps_ret (pe_cmpR (op_lt) (pe_op op_mulW (pe_ix (r := rIxT K) ix_tup (pv 0) pe_int (fun _ _ => rfl)) (pe_ix (r := rIxT K) ix_tup (pv 1) pe_int (fun _ _ => rfl))) (pe_op op_mulW (pe_ix (r := rIxT K) ix_tup (pv 1) pe_int (fun _ _ => rfl)) (pe_ix (r := rIxT K) ix_tup (pv 0) pe_int (fun _ _ => rfl))) (nomark _)))), ?_⟩
  refine ⟨_, rfl, _, _, _, _, rfl, rfl, ta, by rfl, _, rfl, _, _, _, _, rfl, rfl, tb, by rfl, _, _, rfl, rfl, mulW ba.1 bb.2, ?_⟩
  refine ⟨_, rfl, _, _, _, _, rfl, rfl, tb, by rfl, _, rfl, _, _, _, _, rfl, rfl, ta, by rfl, _, _, rfl, rfl, mulW bb.1 ba.2, ?_⟩
  exact ⟨_, _, rfl, rfl, q⟩
theorem near_FB {n : Int} (h0 : 0 ≤ n) (h1 : n ≤ 1000) : FB 16001 (n * n, 1) := ⟨up_lt (n := 20) (by decide) (mul_lt (n := 10) (m := 10) (show n.natAbs < 2 ^ 10 by omega) (show n.natAbs < 2 ^ 10 by omega)), up_lt (n := 1) (by decide) (show (1 : Int).natAbs < 2 ^ 1 by decide)⟩
end
end My

namespace My
open PySem L2 Mth
abbrev s_law_reached : Stmt := topS 69
theorem sc_law_reached : FnScope ["_law_told", "_law_spot_here", "_law_distance"] ["_law_told", "_law_spot_here"] (defScope s_law_reached) := ⟨rfl, rfl, rfl, by decide +kernel, rfl, by decide +kernel, by decide +kernel⟩
section
variable {P : Program} {w : World} {K : PySem.W.Frag} {mg : Str → Option Value} {base : Heap}
theorem nn10 {n : Int} (h0 : 0 ≤ n) (h1 : n ≤ 1000) : CMulW n n := mulW (a := 9) (b := 9) (show n.natAbs < 2 ^ 10 by omega) (show n.natAbs < 2 ^ 10 by omega)
def sp_reached (K : PySem.W.Frag) : Sp := fun vs H Q _ => ∃ v a vz z, vs = [v, vz] ∧ IsB K H v a ∧ AmOk a ∧ B 1000 a.pole ∧ IsT K H vz z ∧ Ok z ∧ B 2900 z ∧ ∀ H', Same H H' → Q (.bl (rch a z)) H'
theorem ok_law_reached {f : Addr} {fd : FuncData} (d_law_size : D P w K mg base "_law_size" 4 (sp_size K)) (d_law_minus : D P w K mg base "_law_minus" 4 (sp_two K minus)) (d_law_less : D P w K mg base "_law_less" 1 (sp_lless K)) (F : Fun K "_law_reached" "_law_reached" s_law_reached f fd) : FnOk P w K mg base CX0 5 f fd ["_law_told", "_law_spot_here"] (sp_reached K) := by
  refine F.ok sc_law_reached (fun vs H Q E h => ?_) (fun cdv A outer s H vs Q E hr h => ?_)
  · obtain ⟨v, a, vz, z, rfl, _⟩ := h
    rfl
  obtain ⟨v, a, vz, z, rfl, ⟨p, u, t, rfl, h1, h2, h3⟩, oa, bp, iz, oz, bz, q⟩ := h
  refine ⟨_, (pss_cons (ps_set (i := 2) sc_law_reached.nd rfl (by first | exact Or.inl rfl | exact Or.inr rfl) (pc d_law_size (hr.mono (by decide)) (pa_cons (pc d_law_minus (hr.mono (by decide)) (pa_cons (pv 1) (pa_cons (pe_ix (r := rIxT K) ix_tup (pv 0) pe_int (fun _ _ => rfl)) pa_nil))) pa_nil)))
    (pss_one (ps_ret (pe_and (pe_not (pc d_law_less (hr.mono (by decide)) (pa_cons (pv 2) (pa_cons (pe_tup (pa_cons (pe_op op_mulW (pe_ix (r := rIxT K) ix_tup (pv 0) pe_int (fun _ _ => rfl)) (pe_ix (r := rIxT K) ix_tup (pv 0) pe_int (fun _ _ => rfl))) (pa_cons pe_int pa_nil))) pa_nil)))) (pe_one (pe_not (pc d_law_less (hr.mono (by decide)) (pa_cons (pe_tup (pa_cons (pe_op op_mulW (pe_ix (r := rIxT K) ix_tup (pv 0) pe_int (fun _ _ => rfl)) (pe_ix (r := rIxT K) ix_tup (pv 0) pe_int (fun _ _ => rfl))) (pa_cons pe_int pa_nil))) (pa_cons (pv 2) pa_nil))))))))), ?_⟩
  refine ⟨_, rfl, _, rfl, p, _, _, _, rfl, rfl, h1, by rfl, _, _, _, _, rfl, iz, ⟨_, rfl, h2⟩, oz, oa.p, bz.mono (by decide), bp.mono (by decide), fun H1 r1 s1 i1 => ?_⟩
  have om := minus_ok oz oa.p
  have bm : B 3901 (minus z a.pole) := minus_B oz oa.p bz bp
  refine ⟨_, _, rfl, i1, om, bm.mono (by decide), fun H2 r2 s2 i2 => ?_⟩
  have s12 := s1.trans s2
  have gb : FB 16001 (gr (minus z a.pole)) := (gr_FB om bm).mono (by decide)
  have lo := oa.lo
  have mi := oa.mi
  have hi := oa.hi
  refine ⟨_, rfl, _, rfl, p, _, _, _, rfl, rfl, same_T s12 h1, by rfl, _, rfl, p, _, _, _, rfl, rfl, same_T s12 h1, by rfl, _, _, rfl, rfl, nn10 lo (by omega), (by show 2 ≤ sizeLine; decide), fun p3 hp3 => ?_⟩
  have s3 := same_new hp3 (.tup [.int (a.near * a.near), .int 1])
  refine ⟨_, _, _, (a.near * a.near, 1), rfl, i2.same s3, IsF.new, gb, near_FB lo (by omega), _, rfl, ?_⟩
  have q : ∀ H', Same H H' → Q (.bl (!lessF (gr (minus z a.pole)) (a.near * a.near, 1) && !lessF (a.far * a.far, 1) (gr (minus z a.pole)))) H' := q
  refine ⟨_, rfl, ?_⟩
  cases c1 : lessF (gr (minus z a.pole)) (a.near * a.near, 1) with
  | true =>
    rw [c1] at q
    exact iteF (q _ (s12.trans s3))
  | false =>
    rw [c1] at q
    refine iteT ?_
    have s13 := s12.trans s3
    refine ⟨_, rfl, p, _, _, _, rfl, rfl, same_T s13 h1, by rfl, _, rfl, p, _, _, _, rfl, rfl, same_T s13 h1, by rfl, _, _, rfl, rfl, nn10 (by omega) hi, (by show 2 ≤ sizeLine; decide), fun p4 hp4 => ?_⟩
    have s4 := same_new hp4 (.tup [.int (a.far * a.far), .int 1])
    exact ⟨_, rfl, _, _, (a.far * a.far, 1), _, rfl, IsF.new, (i2.same s3).same s4, near_FB (by omega) hi, gb, _, rfl, q _ (s13.trans s4)⟩
end
end My

namespace My
open PySem L2 Mth LamX
abbrev s_law : Stmt := topS 72
theorem sc_law : FnScope ["_law_script", "_law_d", "_law_told", "_law_arm_here", "_law_copy", "_law_straight", "_law_far", "_law_spot_here", "_law_k", "_law_other", "_law_bad", "_law_calls"] ["_law_script"] (defScope s_law) := ⟨rfl, rfl, rfl, by decide +kernel, rfl, by decide +kernel, by decide +kernel⟩
section
variable {P : Program} {w : World} {K : PySem.W.Frag} {mg : Str → Option Value} {base : Heap}
def spLaw (K : PySem.W.Frag) (PL : Addr) : Sp := fun vs H Q _ => ∃ (a : Addr) (ns : List Int), vs = [.ref a] ∧ SqL K H a (ns.map V.int) ∧ ns.length ≤ 63 ∧ H PL = some (.tbl #[]) ∧ ∀ H', Q (.bl true) H'
abbrev qL : Str := ("law" ++ ".<locals>." : Str) ++ ("<lambda>" : Str)
theorem IsC.extN {C : Addr} {H H' : Hp} {v : V} {c : Cp} (h : IsC K C H v c) (e : ExtN H H') : IsC K C H' v c := by
  obtain ⟨p, dx, a, b, rfl, h1, h2, h3⟩ := h
  exact ⟨p, dx, a, b, rfl, e _ _ h1 (fun ps z => by cases z), extN_T h2 e, extN_T h3 e⟩
theorem IsB.extN {H H' : Hp} {v : V} {a : Am} (h : IsB K H v a) (e : ExtN H H') : IsB K H' v a := by
  obtain ⟨p, u, z, rfl, h1, h2, h3⟩ := h
  exact ⟨p, u, z, rfl, extN_T h1 e, extN_T h2 e, extN_T h3 e⟩
theorem IsA.extN {C CA : Addr} {H H' : Hp} {v : V} {a : Am} (h : IsA K C CA H v a) (e : ExtN H H') : IsA K C CA H' v a := by
  obtain ⟨p, dx, u, z, c, rfl, h1, h2, h3, h4⟩ := h
  exact ⟨p, dx, u, z, c, rfl, e _ _ h1 (fun ps z => by cases z), extN_T h2 e, extN_T h3 e, h4.extN e⟩
theorem IsA.keep {C CA : Addr} {H H' : Hp} {v : V} {a : Am} {d : Addr} {ys : List V} (h : IsA K C CA H v a) (hd : H d = some (.lst ys)) (k : Keep d H H') : IsA K C CA H' v a := by
  obtain ⟨p, dx, u, z, c, rfl, h1, h2, h3, h4⟩ := h
  exact ⟨p, dx, u, z, c, rfl, k _ _ (ne_of h1 hd (by intro z; cases z)) h1, keep_T h2 hd k, keep_T h3 hd k, h4.keep hd k⟩
def dB (a : Am) : PyData := .tuple [d3 a.pole, d3 a.t, .int a.near, .int a.far, .bool a.m]
theorem IsB.dp {H : Hp} {v : V} {a : Am} (h : IsB K H v a) : Dp K H v (dB a) := by
  obtain ⟨p, u, z, rfl, h1, h2, h3⟩ := h
  exact .tup h1 (.cons (Dp3 h2) (.cons (Dp3 h3) (.cons (.int _) (.cons (.int _) (.cons (.bl _) .nil)))))
theorem deepB (a : Am) : Deep 4 (dB a) := by
  refine ⟨(by show 5 ≤ 1000; decide), fun x hx => ?_⟩
  simp only [List.mem_cons, List.mem_nil_iff, or_false] at hx
  rcases hx with rfl | rfl | rfl | rfl | rfl
  · exact deep3 1 _
  · exact deep3 1 _
  · trivial
  · trivial
  · trivial
theorem shapedB (a : Am) : SeqAt.shaped (dB a) = true := rfl
theorem eqvB (a b : Am) : PyData.eqv (dB a) (dB b) = aeq a b := by
  show (PyData.eqv (d3 a.pole) (d3 b.pole) && (PyData.eqv (d3 a.t) (d3 b.t) && ((a.near == b.near) && ((a.far == b.far) && ((a.m == b.m) && true))))) = aeq a b
  rw [eqv3, eqv3, Bool.and_true]
  unfold aeq
  have e1 : (a.near == b.near) = decide (V.int a.near = V.int b.near) := by
    by_cases h : a.near = b.near
    · rw [h]; simp
    · rw [decide_eq_false (fun z => h (V.int.inj z))]; simpa using h
  have e2 : (a.far == b.far) = decide (V.int a.far = V.int b.far) := by
    by_cases h : a.far = b.far
    · rw [h]; simp
    · rw [decide_eq_false (fun z => h (V.int.inj z))]; simpa using h
  have e3 : (a.m == b.m) = decide (V.bl a.m = V.bl b.m) := by cases a.m <;> cases b.m <;> rfl
  rw [e1, e2, e3]
def dC (c : Cp) : PyData := .tuple [d3 c.t, d3 c.s, .bool c.m]
theorem IsD.dpc {H : Hp} {v : V} {c : Cp} (h : IsD K H v c) : Dp K H v (dC c) := by
  obtain ⟨p, u, z, rfl, h1, h2, h3⟩ := h
  exact .tup h1 (.cons (Dp3 h2) (.cons (Dp3 h3) (.cons (.bl _) .nil)))
theorem deepC (c : Cp) : Deep 4 (dC c) := by
  refine ⟨(by show 3 ≤ 1000; decide), fun x hx => ?_⟩
  simp only [List.mem_cons, List.mem_nil_iff, or_false] at hx
  rcases hx with rfl | rfl | rfl
  · exact deep3 1 _
  · exact deep3 1 _
  · trivial
theorem okw (x y : Int) : Ok (x, y, 1) := ⟨by show (0 : Int) < 1; decide, by unfold g3; simp⟩
theorem af_reaches {a0 a1 : Addr} {a2 a3 : Int} {a4 : Bool} {a5 : Addr} : (af a0 a1 a2 a3 a4 a5).lookup ("reaches" : Str) = none := by
  unfold af
  simp only [List.lookup, show (("reaches" : Str) == "centre") = false by decide +kernel, show (("reaches" : Str) == "factor") = false by decide +kernel, show (("reaches" : Str) == "least") = false by decide +kernel, show (("reaches" : Str) == "most") = false by decide +kernel, show (("reaches" : Str) == "flips") = false by decide +kernel, show (("reaches" : Str) == "pen") = false by decide +kernel]
theorem aeq_ne {a b : Am} (h : a ≠ b) : aeq a b = false := by
  cases e : aeq a b with
  | false => rfl
  | true => exact absurd (aeq_iff.mp e) h
theorem enc_ne {q1 : Addr} {xs : List V} (st : Src) : ¬ some (HO.lst (encD st)) = some (.lst (.ref q1 :: xs)) := fun z => by
  unfold encD at z
  cases z
/-- what stands while the law runs -/
structure S15 (K : PySem.W.Frag) (C CA PL d : Addr) (vt va : V) (a : Am) (H : Hp) : Prop where
  hd : ∃ st, H d = some (.lst (encD st)) ∧ SrcOk st
  tb : TabS H PL qL
  it : IsB K H vt a
  ia : IsA K C CA H va a
theorem S15.same {C CA PL d : Addr} {vt va : V} {a : Am} {H H' : Hp} (S : S15 K C CA PL d vt va a H) (s : Same H H') : S15 K C CA PL d vt va a H' := by
  obtain ⟨⟨st, h1, h2⟩, tb, it, ic⟩ := S
  exact ⟨⟨st, s _ _ h1, h2⟩, tb.ext s, it.same s, ic.same s⟩
theorem S15.ext {C CA PL d : Addr} {vt va : V} {a : Am} {H H' : Hp} (S : S15 K C CA PL d vt va a H) (e : ExtN H H') (tb : TabS H' PL qL) : S15 K C CA PL d vt va a H' := by
  obtain ⟨⟨st, h1, h2⟩, _, it, ic⟩ := S
  exact ⟨⟨st, extN_L h1 e, h2⟩, tb, it.extN e, ic.extN e⟩
theorem S15.keep {C CA PL d : Addr} {vt va : V} {a : Am} {H H' : Hp} {st' : Src} (S : S15 K C CA PL d vt va a H) (k : Keep d H H') (h' : H' d = some (.lst (encD st'))) (o' : SrcOk st') : S15 K C CA PL d vt va a H' := by
  obtain ⟨⟨st, h1, h2⟩, tb, it, ic⟩ := S
  exact ⟨⟨st', h', o'⟩, TabS.keep tb h1 k, it.keep h1 k, ic.keep h1 k⟩
theorem ok_law {f CB PL cL g C CA fA gA : Addr} {fdA' fdA : FuncData} {mvA dsA : List Value} {Cs : Nat → Addr} {oc kV doc pm ct oc' kV' doc' pm' ct' cdv' : Value} {od an od' an' : Option Addr} {osl osl' : Array (Option Value)}
    (TA : ArmI P w K mg base C CA fA fdA' mvA dsA) (TAX : ArmX P w K mg base CA fA (Cs 0) (Cs 1) (Cs 6) fdA' dsA) (m_ca : MCa P w K mg base C) (m_aeq : MAe P w K mg base C CA) (m_aeqC : MAeC P w K mg base C CA) (m_rch : MAr P w K mg base C CA) (m_rchX : MArX P w K mg base CA (Cs 0))
    (m_A_pole : MPf P w K mg base CA "pole" "centre") (m_A_turn : MPf P w K mg base CA "turn" "factor") (m_A_near : MPf P w K mg base CA "near" "least") (m_A_far : MPf P w K mg base CA "far" "most") (m_A_mirrored : MPf P w K mg base CA "mirrored" "flips") (m_A_effect : MPf P w K mg base CA "effect" "pen")
    (b_range : mg "range" = none) (b_isinstance : mg "isinstance" = none) (b_ValueError : mg "ValueError" = none)
    (m_B : mg "CopyError" = some (.ref CB)) (ER : Errs K mg CB Cs [0, 1, 6]) (m_E : mg "_law_error_of" = some (.ref g)) (k_E : PySem.W.keepIn K (.ref g) = true)
    (l_E : K.lookup g = some ⟨oc', od', .func (PySem.W.fnOf "_law_error_of" "_law_error_of" (defArgs s_law_error_of) (defBody s_law_error_of) (defScope s_law_error_of) .none kV' doc' pm' an' cdv' ct'), osl'⟩) (c_E : PySem.W.codeIn K cdv' "_law_error_of" = true)
    (b_E : Binds K (PySem.W.fnOf "_law_error_of" "_law_error_of" (defArgs s_law_error_of) (defBody s_law_error_of) (defScope s_law_error_of) .none kV' doc' pm' an' cdv' ct') ["_law_call"] [])
    (m_AR : mg "_law_all_raise" = some (.ref gA)) (k_AR : PySem.W.keepIn K (.ref gA) = true) (F_AR : Fun K "_law_all_raise" "_law_all_raise" s_law_all_raise gA fdA) (B_AR : Binds K fdA ["_law_calls", "_law_expected"] [])
    (d_law_random : D P w K mg base "_law_random" 1 (sp_random K)) (d_law_below : D P w K mg base "_law_below" 1 sp_below) (d_law_spot : D P w K mg base "_law_spot" 3 (sp_draw fun H r => ∃ t, IsT K H r t ∧ SpotIn t)) (d_law_arm_told : D P w K mg base "_law_arm_told" 4 (sp_draw fun H r => ∃ a, IsB K H r a ∧ ArmIn a)) (d_law_arm : D P w K mg base "_law_arm" 9 (sp_armOf K C CA))
    (d_law_equal : D P w K mg base "_law_equal" 4 (sp_equal K 4)) (d_law_shown : D P w K mg base "_law_shown" 3 (sp_shown K C)) (d_law_about : D P w K mg base "_law_about" 5 (sp_labout K)) (d_law_plus : D P w K mg base "_law_plus" 3 (sp_two K plus)) (d_law_reached : D P w K mg base "_law_reached" 5 (sp_reached K))
    (TBL : TabB base mg cL PL) (lk : K.lookup f = some ⟨oc, od, .func (PySem.W.fnOf "law" "law" (defArgs s_law) (defBody s_law) (defScope s_law) .none kV doc pm an (.ref cL) ct), osl⟩) (hcd : PySem.W.codeIn K (.ref cL) "law" = true) :
    FnOk P w K mg base CX0 12 f (PySem.W.fnOf "law" "law" (defArgs s_law) (defBody s_law) (defScope s_law) .none kV doc pm an (.ref cL) ct) ["_law_script"] (spLaw K PL) := by
  refine fn_of lk hcd sc_law (fun vs H Q E h => ?_) (fun A outer s H vs Q E hr h => ?_)
  · obtain ⟨a, ns, rfl, _⟩ := h
    rfl
  obtain ⟨a, ns, rfl, hS, h63, hT, q⟩ := h
  refine (?_ : ∃ t, PSs (cxOf CX0 P w K mg base _ _ _ f (.ref cL) A outer s H E).nox _ t ∧ _).imp fun t h => ⟨h.1.nox, h.2⟩
  refine ⟨_, (pss_cons (ps_set (i := 1) sc_law.nd rfl (by first | exact Or.inl rfl | exact Or.inr rfl) (pc d_law_random (hr.mono (by decide)) (pa_cons (pv 0) (pa_cons pe_int pa_nil))))
    (pss_cons (ps_set (i := 2) sc_law.nd rfl (by first | exact Or.inl rfl | exact Or.inr rfl) (pc d_law_arm_told (hr.mono (by decide)) (pa_cons (pv 1) pa_nil)))
    (pss_cons (ps_set (i := 3) sc_law.nd rfl (by first | exact Or.inl rfl | exact Or.inr rfl) (pc d_law_arm (hr.mono (by decide)) (pa_cons (pv 2) pa_nil)))
    (pss_cons (ps_if (pt_not (pt_val (pc d_law_equal (hr.mono (by decide)) (pa_cons (pe_tup (pa_cons (pe_pf m_A_pole (hr.mono (by decide)) (pv 3)) (pa_cons (pe_pf m_A_turn (hr.mono (by decide)) (pv 3)) (pa_cons (pe_pf m_A_near (hr.mono (by decide)) (pv 3)) (pa_cons (pe_pf m_A_far (hr.mono (by decide)) (pv 3)) (pa_cons (pe_pf m_A_mirrored (hr.mono (by decide)) (pv 3)) pa_nil)))))) (pa_cons (pv 2) pa_nil))))) (pss_one (ps_ret pe_bl)) pss_nil)
    (pss_cons (ps_set (i := 4) sc_law.nd rfl (by first | exact Or.inl rfl | exact Or.inr rfl) (pe_pf m_A_effect (hr.mono (by decide)) (pv 3)))
    (pss_cons (ps_if (PW.pt (pw_or (pt_not (pt_val (pc d_law_equal (hr.mono (by decide)) (pa_cons (pc d_law_shown (hr.mono (by decide)) (pa_cons (pv 4) pa_nil)) (pa_cons (pc d_law_about (hr.mono (by decide)) (pa_cons (pv 2) pa_nil)) pa_nil))))) (pw_or1 (pt_not (pt_val (pc d_law_equal (hr.mono (by decide)) (pa_cons (pe_ap m_ca (hr.mono (by decide)) (pv 4) (pa_cons (pe_ix (r := rIxT K) ix_tup (pv 2) pe_int (fun _ _ => rfl)) pa_nil)) (pa_cons (pe_ix (r := rIxT K) ix_tup (pv 2) pe_int (fun _ _ => rfl)) pa_nil)))))))) (pss_one (ps_ret pe_bl)) pss_nil)
    (pss_cons (ps_set (i := 5) sc_law.nd rfl (by first | exact Or.inl rfl | exact Or.inr rfl) (pc d_law_plus (hr.mono (by decide)) (pa_cons (pe_ix (r := rIxT K) ix_tup (pv 2) pe_int (fun _ _ => rfl)) (pa_cons (pe_tup (pa_cons (pe_ix (r := rIxT K) ix_tup (pv 2) pe_int (fun _ _ => rfl)) (pa_cons pe_int (pa_cons pe_int pa_nil)))) pa_nil))))
    (pss_cons (ps_set (i := 6) sc_law.nd rfl (by first | exact Or.inl rfl | exact Or.inr rfl) (pc d_law_plus (hr.mono (by decide)) (pa_cons (pe_ix (r := rIxT K) ix_tup (pv 2) pe_int (fun _ _ => rfl)) (pa_cons (pe_tup (pa_cons pe_int (pa_cons (pe_ix (r := rIxT K) ix_tup (pv 2) pe_int (fun _ _ => rfl)) (pa_cons pe_int pa_nil)))) pa_nil))))
    (pss_cons (ps_for PassesOwn.never rfl (pi_list (pe_op op_cat (pe_lc (own := [("_law_k", 8)]) (g := gName 8) (tt := tYes) (by rfl) sc_law.nd (pi_range1 (by rfl) b_range (pa_cons pe_int pa_nil)) (blkOk_by (own := [("_law_k", 8)]) (N := ["_law_script", "_law_d", "_law_told", "_law_arm_here", "_law_copy", "_law_straight", "_law_far", "_law_spot_here", "_law_k", "_law_other", "_law_bad", "_law_calls"]) (sc := defScope s_law) (by decide +kernel)) (fun _ _ _ _ _ => (pg_name (i := 8) sc_law.nd rfl (by first | exact Or.inl rfl | exact Or.inr rfl))) (fun _ _ _ _ _ => pts_nil) (fun _ _ _ _ _ => (pc d_law_spot (hr.mono (by decide)) (pa_cons (pv 1) pa_nil)))) (pe_lst (pa_cons (pv 5) (pa_cons (pv 6) (pa_cons (pe_ix (r := rIxT K) ix_tup (pv 2) pe_int (fun _ _ => rfl)) (pa_cons (pc d_law_plus (hr.mono (by decide)) (pa_cons (pv 6) (pa_cons (pe_tup (pa_cons pe_int (pa_cons pe_int (pa_cons pe_int pa_nil)))) pa_nil))) pa_nil))))))) (pg_name (i := 7) sc_law.nd rfl (by first | exact Or.inl rfl | exact Or.inr rfl)) (pss_one (ps_if (pt_not (pt_val (pc d_law_equal (hr.mono (by decide)) (pa_cons (pe_reaches m_rch (hr.mono (by decide)) (pv 3) (pa_cons (pv 7) pa_nil)) (pa_cons (pc d_law_reached (hr.mono (by decide)) (pa_cons (pv 2) (pa_cons (pv 7) pa_nil))) pa_nil))))) (pss_one (ps_ret pe_bl)) pss_nil)))
    (pss_cons (ps_set (i := 9) sc_law.nd rfl (by first | exact Or.inl rfl | exact Or.inr rfl) (pc d_law_arm_told (hr.mono (by decide)) (pa_cons (pv 1) pa_nil)))
    (pss_cons (ps_if (PW.pt (pw_or (pt_cmpR (op_ne) (pe_cmpR (op_aeq m_aeq (hr.mono (by decide))) (pv 3) (pc d_law_arm (hr.mono (by decide)) (pa_cons (pv 9) pa_nil)) (nomark _)) (pe_cmpR (r := rEqD K) (op_eqD hr.units) (pv 2) (pv 9) (nomark _)) (nomark _)) (pw_or (pt_not (pt_cmpR (op_aeq m_aeq (hr.mono (by decide))) (pv 3) (pc d_law_arm (hr.mono (by decide)) (pa_cons (pv 2) pa_nil)) (nomark _))) (pw_or1 (pt_cmpR (op_aeqC m_aeqC (hr.mono (by decide))) (pv 3) (pe_pf m_A_effect (hr.mono (by decide)) (pv 3)) (nomark _)))))) (pss_one (ps_ret pe_bl)) pss_nil)
    (pss_cons (ps_if (pt_cmpR (op_aeq m_aeq (hr.mono (by decide))) (pv 3) (pe_makeK TA.mkC TA.ok (hr.mono (by decide)) (by rfl) TA.mgC TA.kb pass0 (pa_cons (pe_ix (r := rIxT K) ix_tup (pv 2) pe_int (fun _ _ => rfl)) (pa_cons (pe_ix (r := rIxT K) ix_tup (pv 2) pe_int (fun _ _ => rfl)) (pa_cons (pe_ix (r := rIxT K) ix_tup (pv 2) pe_int (fun _ _ => rfl)) (pa_cons (pe_op op_add (pe_ix (r := rIxT K) ix_tup (pv 2) pe_int (fun _ _ => rfl)) pe_int) pa_nil)))) (pk_cons (pe_ix (r := rIxT K) ix_tup (pv 2) pe_int (fun _ _ => rfl)) pk_nil)) (nomark _)) (pss_one (ps_ret pe_bl)) pss_nil)
    (pss_cons (ps_if (PW.pt (pw_and (pt_cmpR (op_gt) (pe_ix (r := rIxT K) ix_tup (pv 2) pe_int (fun _ _ => rfl)) pe_int (nomark _)) (pw_and1 (pt_cmpR (op_aeq m_aeq (hr.mono (by decide))) (pv 3) (pe_makeK TA.mkC TA.ok (hr.mono (by decide)) (by rfl) TA.mgC TA.kb pass0 (pa_cons (pe_ix (r := rIxT K) ix_tup (pv 2) pe_int (fun _ _ => rfl)) (pa_cons (pe_ix (r := rIxT K) ix_tup (pv 2) pe_int (fun _ _ => rfl)) (pa_cons pe_int (pa_cons (pe_ix (r := rIxT K) ix_tup (pv 2) pe_int (fun _ _ => rfl)) pa_nil)))) (pk_cons (pe_ix (r := rIxT K) ix_tup (pv 2) pe_int (fun _ _ => rfl)) pk_nil)) (nomark _))))) (pss_one (ps_ret pe_bl)) pss_nil)
    (pss_cons (ps_if (pt_cmpR (op_aeq m_aeq (hr.mono (by decide))) (pv 3) (pe_makeK TA.mkC TA.ok (hr.mono (by decide)) (by rfl) TA.mgC TA.kb pass0 (pa_cons (pe_ix (r := rIxT K) ix_tup (pv 2) pe_int (fun _ _ => rfl)) (pa_cons (pe_ix (r := rIxT K) ix_tup (pv 2) pe_int (fun _ _ => rfl)) (pa_cons (pe_ix (r := rIxT K) ix_tup (pv 2) pe_int (fun _ _ => rfl)) (pa_cons (pe_ix (r := rIxT K) ix_tup (pv 2) pe_int (fun _ _ => rfl)) pa_nil)))) (pk_cons (pe_not (pe_ix (r := rIxT K) ix_tup (pv 2) pe_int (fun _ _ => rfl))) pk_nil)) (nomark _)) (pss_one (ps_ret pe_bl)) pss_nil)
    (pss_cons (ps_set (i := 10) sc_law.nd rfl (by first | exact Or.inl rfl | exact Or.inr rfl) (pe_ix (r := rIxL K) ix_list (pe_lst (pa_cons (pe_tup (pa_cons (pe_op op_sub pe_int pe_int) (pa_cons pe_int pa_nil))) (pa_cons (pe_tup (pa_cons pe_int (pa_cons pe_int pa_nil))) (pa_cons (pe_tup (pa_cons pe_int (pa_cons pe_int pa_nil))) (pa_cons (pe_tup (pa_cons pe_non (pa_cons pe_int pa_nil))) (pa_cons (pe_tup (pa_cons pe_int (pa_cons pe_bl pa_nil))) (pa_cons (pe_tup (pa_cons pe_int (pa_cons pe_str pa_nil))) (pa_cons (pe_tup (pa_cons pe_int (pa_cons pe_int pa_nil))) pa_nil)))))))) (pc d_law_below (hr.mono (by decide)) (pa_cons (pv 1) (pa_cons pe_int pa_nil))) (fun _ _ => rfl)))
    (pss_cons (ps_if (pt_cmpR (r := rNeD K) (op_neD hr.units) (pe_lamcall (T := [(PL, _)]) (TT := TErr Cs [0, 1, 6]) (k := 8) (t := fun E => tMake CA (sp_ainitX K (Cs 0) (Cs 1) (Cs 6)) [.bl false] E (tCons (tOp (rIxT K) (tVar 2) (tC (.int 0))) (tCons (tOp (rIxT K) (tVar 2) (tC (.int 1))) (tCons (tOp (rIxT K) (tVar 10) (tC (.int 0))) (tCons (tOp (rIxT K) (tVar 10) (tC (.int 1))) tNil))))) (by rfl) m_E k_E l_E c_E b_E sc_law_error_of (by rfl) (Or.inl (by rfl)) (err_gives b_isinstance b_ValueError m_B ER) TBL (by rfl) (.head _) (fun p hp _ => by cases List.mem_singleton.mp hp; rfl) (hr.mono (by decide)) (show LamS (defScope s_law) _ from lamS_by (by decide +kernel)) (by rfl) (fun _ _ _ _ _ => by rfl) (fun A outer s H E f c' hr' => pe_make TAX.mkC TAX.ok hr' (by rfl) TAX.mgC TAX.bd TAX.bv (passes_call (takes_of rfl rfl rfl rfl) (fun _ _ _ _ h => h)) (pa_cons (pe_ix (r := rIxT K) ix_tup (pv 2) pe_int (fun _ _ => rfl)) (pa_cons (pe_ix (r := rIxT K) ix_tup (pv 2) pe_int (fun _ _ => rfl)) (pa_cons (pe_ix (r := rIxT K) ix_tup (pv 10) pe_int (fun _ _ => rfl)) (pa_cons (pe_ix (r := rIxT K) ix_tup (pv 10) pe_int (fun _ _ => rfl)) pa_nil)))))) (pe_tup (pa_cons pe_str (pa_cons pe_int pa_nil))) (nomark _)) (pss_one (ps_ret pe_bl)) pss_nil)
    (pss_cons (ps_set (i := 11) sc_law.nd rfl (by first | exact Or.inl rfl | exact Or.inr rfl) (pe_lst (pa_cons (pe_lamV0 (T := [(PL, _)]) (k := 8) (t := fun E => tMake CA (sp_ainitX K (Cs 0) (Cs 1) (Cs 6)) [.bl false] E (tCons (tTup (tCons (tC (.int 1)) (tCons (tC (.int 0)) (tCons (tC (.int 0)) tNil)))) (tCons (tTup (tCons (tC (.int 0)) (tCons (tC (.int 0)) (tCons (tC (.int 1)) tNil)))) (tCons (tC (.int 5)) (tCons (tC (.int 1)) tNil))))) TBL (by rfl) (.head _) (fun p hp _ => by cases List.mem_singleton.mp hp; rfl) ⟨(show LamSD (defScope s_law) _ ["_law_script", "_law_d", "_law_told", "_law_arm_here", "_law_copy", "_law_straight", "_law_far", "_law_spot_here", "_law_k", "_law_other", "_law_bad", "_law_calls"] _ from lamSD_by (by decide +kernel)), fun _ _ _ _ _ _ _ => by rfl, (fun a h => by cases h)⟩ (by rfl) (fun A outer s H E f c' hr' => pe_make TAX.mkC TAX.ok hr' (by rfl) TAX.mgC TAX.bd TAX.bv (passes_call (takes_of rfl rfl rfl rfl) (fun _ _ _ _ h => h)) (pa_cons (pe_tup (pa_cons pe_int (pa_cons pe_int (pa_cons pe_int pa_nil)))) (pa_cons (pe_tup (pa_cons pe_int (pa_cons pe_int (pa_cons pe_int pa_nil)))) (pa_cons pe_int (pa_cons pe_int pa_nil)))))) (pa_cons (pe_lamV1 (a := "_law_a") (T := [(PL, _)]) (k := 8) (t := fun E => tMeth CA "reaches" (sp_reachesX K (Cs 0)) [] E (tVar 3) (tCons (tTup (tCons (tC (.int 2)) (tCons (tC (.int 0)) (tCons (tC (.int 2)) tNil)))) tNil)) TBL (by rfl) (.head _) (fun p hp _ => by cases List.mem_singleton.mp hp; rfl) ⟨(show LamSD (defScope s_law) _ ["_law_script", "_law_d", "_law_told", "_law_arm_here", "_law_copy", "_law_straight", "_law_far", "_law_spot_here", "_law_k", "_law_other", "_law_bad", "_law_calls"] _ from lamSD_by (by decide +kernel)), (fun h => by cases h), fun a h q cl t doc pm cv ctv v => by cases h; exact ⟨_, rfl, rfl⟩⟩ (by rfl) (by rfl) (fun A outer s H E f c' hr' => pe_reachesX m_rchX (hr'.mono (by decide)) (passes_call (takes_of rfl rfl rfl rfl) (fun _ _ _ _ h => h)) (pv 3) (pa_cons (pe_tup (pa_cons pe_int (pa_cons pe_int (pa_cons pe_int pa_nil)))) pa_nil))) pa_nil))))
    (pss_cons (ps_if (PW.pt (pw_or (pt_not (pt_val (pe_big (sp := fun σ => sp_ar _ 8 σ Cs [0, 1, 6]) (by rfl) m_AR k_AR (fun _ => rfl) (pa_cons (pv 11) (pa_cons (pe_tup (pa_cons pe_str (pa_cons pe_int pa_nil))) pa_nil)) (fun σ b B => rOf (ok_law_all_raise rfl ⟨_, errB l_E c_E b_E sc_law_error_of (by rfl) (Or.inl (by rfl)) (fun A outer => err_gives b_isinstance b_ValueError m_B ER) B, k_E, m_E⟩ F_AR) B_AR) (hr.mono (by decide))))) (pw_or1 (pt_cmpR (r := rNeD K) (op_neD hr.units) (pe_lamcall (T := [(PL, _)]) (TT := TErr Cs [0, 1, 6]) (k := 8) (t := fun E => tMake CA (sp_ainitX K (Cs 0) (Cs 1) (Cs 6)) [.bl false] E (tCons (tOp (rIxT K) (tVar 2) (tC (.int 0))) (tCons (tTup (tCons (tC (.int 0)) (tCons (tC (.int 0)) (tCons (tC (.int 1)) tNil)))) (tCons (tC (.int 5)) (tCons (tC (.int 1)) tNil))))) (by rfl) m_E k_E l_E c_E b_E sc_law_error_of (by rfl) (Or.inl (by rfl)) (err_gives b_isinstance b_ValueError m_B ER) TBL (by rfl) (.head _) (fun p hp _ => by cases List.mem_singleton.mp hp; rfl) (hr.mono (by decide)) (show LamS (defScope s_law) _ from lamS_by (by decide +kernel)) (by rfl) (fun _ _ _ _ _ => by rfl) (fun A outer s H E f c' hr' => pe_make TAX.mkC TAX.ok hr' (by rfl) TAX.mgC TAX.bd TAX.bv (passes_call (takes_of rfl rfl rfl rfl) (fun _ _ _ _ h => h)) (pa_cons (pe_ix (r := rIxT K) ix_tup (pv 2) pe_int (fun _ _ => rfl)) (pa_cons (pe_tup (pa_cons pe_int (pa_cons pe_int (pa_cons pe_int pa_nil)))) (pa_cons pe_int (pa_cons pe_int pa_nil)))))) (pe_tup (pa_cons pe_str (pa_cons pe_int pa_nil))) (nomark _))))) (pss_one (ps_ret pe_bl)) pss_nil)
    (pss_one (ps_ret (pe_reaches m_rch (hr.mono (by decide)) (pe_make TA.mkC TA.ok (hr.mono (by decide)) (by rfl) TA.mgC TA.bd TA.bv pass0 (pa_cons (pe_ix (r := rIxT K) ix_tup (pv 2) pe_int (fun _ _ => rfl)) (pa_cons (pe_ix (r := rIxT K) ix_tup (pv 2) pe_int (fun _ _ => rfl)) (pa_cons pe_int (pa_cons pe_int pa_nil))))) (pa_cons (pc d_law_plus (hr.mono (by decide)) (pa_cons (pe_ix (r := rIxT K) ix_tup (pv 2) pe_int (fun _ _ => rfl)) (pa_cons (pe_tup (pa_cons pe_int (pa_cons pe_int (pa_cons pe_int pa_nil)))) pa_nil))) pa_nil)))))))))))))))))))))), ?_⟩
  refine ⟨_, rfl, a, ns, 15, rfl, hS, h63, by decide, by decide, fun H1 d st1 s1 hd1 ok1 => ?_⟩
  have hT1 := s1 _ _ hT
  refine ⟨_, rfl, d, st1, rfl, hd1, ok1, fun H2 st2 vt k2 hd2 ok2 ⟨am, it2, ai⟩ => ?_⟩
  have hT2 := k2 _ _ (ne_of hT1 hd1 (by intro z; cases z)) hT1
  refine ⟨_, rfl, vt, am, rfl, it2, ai.ok, ai.bp.mono (by decide), ai.bt.mono (by decide), fun H3 va s3 ia3 => ?_⟩
  refine gn_of ?_
  dsimp only
  have S : S15 K C CA PL d vt va am H3 := ⟨⟨st2, s3 _ _ hd2, ok2⟩, (TabS.nil hT2).ext s3, it2.same s3, ia3⟩
  clear hT hT1 hT2 s1 hd1 ok1 k2 hd2 it2 ia3 s3
  obtain ⟨tp, tu, tz, rfl, ht, htu, htz⟩ := id S.it
  obtain ⟨pa, da, pu, pz, pc, rfl, hA, hAu, hAz, hAc⟩ := id S.ia
  have bab : BC 11 (about am) := about_BC ai.ok ai.bp ai.bt
  have oab := about_ok ai.ok
  refine ⟨_, rfl, pf_of hA af_centre ?_⟩
  refine ⟨_, rfl, pf_of hA af_factor ?_⟩
  refine ⟨_, rfl, pf_of hA af_least ?_⟩
  refine ⟨_, rfl, pf_of hA af_most ?_⟩
  refine ⟨_, rfl, pf_of hA af_flips ?_⟩
  refine ⟨(by show 5 ≤ sizeLine; decide), fun p1 hp1 => ?_⟩
  have s4 := same_new hp1 (.tup [.ref pu, .ref pz, .int am.near, .int am.far, .bl am.m])
  refine ⟨_, rfl, _, _, dB am, rfl, .tup (.inl (.inl upd_same)) (.cons (Dp3 (same_T s4 hAu)) (.cons (Dp3 (same_T s4 hAz)) (.cons (.int _) (.cons (.int _) (.cons (.bl _) .nil))))), (S.it.same s4).dp, deepB am, fun H5 s5 => ⟨_, rfl, iteF ?_⟩⟩
  have s45 := s4.trans s5
  have S := S.same s45
  have hA := s45 _ _ hA
  have hAc := hAc.same s45
  have ht := same_T s45 ht
  have htu := same_T s45 htu
  clear s4 s45 hAu hAz htz hp1 s5
  dsimp only [tNext]
  refine ⟨_, rfl, pf_of hA af_pen (gn_of ?_)⟩
  dsimp only
  refine ⟨_, rfl, _, _, rfl, hAc, fun H6 r6 s6 i6 => ?_⟩
  refine ⟨_, rfl, _, am, rfl, S.it.same s6, ai.ok, ai.bp.mono (by decide), ai.bt.mono (by decide), fun H7 r7 s7 i7 => ?_⟩
  refine nil_of ?_
  refine ⟨_, _, dC (about am), rfl, (i6.same s7).dpc, i7.dpc, deepC _, fun H8 s8 => ⟨_, rfl, iteF ?_⟩⟩
  have s68 := s6.trans (s7.trans s8)
  have S8 := S.same s68
  refine ⟨_, rfl, pc, rfl, _, rfl, tp, _, 0, _, rfl, rfl, same_T s68 ht, rfl, ?_⟩
  refine nil_of ?_
  refine ap_of (hAc.same s68) oab (bab.mono (by decide)) ⟨tu, rfl, same_T s68 htu⟩ ai.ok.p (ai.bp.mono (by decide)) fun H9 r9 s9 i9 => ?_
  have s69 := s68.trans s9
  refine ⟨_, rfl, tp, _, 0, _, rfl, rfl, same_T s69 ht, rfl, ?_⟩
  refine nil_of ?_
  refine eq3_of (K := K) (n := 2) i9 ⟨tu, rfl, same_T s69 htu⟩ (about_fix ai.ok) fun H10 s10 => ?_
  refine ⟨_, rfl, iteF ?_⟩
  have s610 := s69.trans s10
  have S := S.same s610
  have ht := same_T s610 ht
  have htu := same_T s610 htu
  clear S8 s6 s7 s8 s68 s9 s69 s10 s610 i6 i7 i9 hAc hA
  dsimp only [tNext]
  have lo := ai.ok.lo
  have mi := ai.ok.mi
  have fa := ai.fa
  have bn : B 10 (am.near, 0, 1) := ⟨show am.near.natAbs < 2 ^ 10 by omega, (show (0 : Int).natAbs < 2 ^ 10 by decide), (show (1 : Int).natAbs < 2 ^ 10 by decide)⟩
  have bf : B 10 (0, am.far, 1) := ⟨(show (0 : Int).natAbs < 2 ^ 10 by decide), show am.far.natAbs < 2 ^ 10 by omega, (show (1 : Int).natAbs < 2 ^ 10 by decide)⟩
  refine ⟨_, rfl, tp, _, 0, _, rfl, rfl, ht, rfl, _, rfl, tp, _, 2, _, rfl, rfl, ht, rfl, (by show 3 ≤ sizeLine; decide), fun p11 hp11 => ?_⟩
  have s11 := same_new hp11 (.tup [.int am.near, .int 0, .int 1])
  refine ⟨_, _, _, _, rfl, ⟨tu, rfl, same_T s11 htu⟩, IsT.new (K := K) (H := H10) (p := p11) (a := am.near) (b := 0) (c := 1), ai.ok.p, okw _ _, ai.bp.mono (by decide), bn.mono (by decide), fun H12 vs12 s12 i12 => gn_of ?_⟩
  have s1112 := s11.trans s12
  have S := S.same s1112
  have ht := same_T s1112 ht
  have htu := same_T s1112 htu
  dsimp only
  refine ⟨_, rfl, tp, _, 0, _, rfl, rfl, ht, rfl, _, rfl, tp, _, 3, _, rfl, rfl, ht, rfl, (by show 3 ≤ sizeLine; decide), fun p13 hp13 => ?_⟩
  have s13 := same_new hp13 (.tup [.int 0, .int am.far, .int 1])
  refine ⟨_, _, _, _, rfl, ⟨tu, rfl, same_T s13 htu⟩, IsT.new (K := K) (H := H12) (p := p13) (a := 0) (b := am.far) (c := 1), ai.ok.p, okw _ _, ai.bp.mono (by decide), bf.mono (by decide), fun H14 vf14 s14 i14 => gn_of ?_⟩
  have s1314 := s13.trans s14
  have S := S.same s1314
  have ht := same_T s1314 ht
  have htu := same_T s1314 htu
  have i12 := i12.same s1314
  have ost := plus_ok ai.ok.p (okw am.near 0)
  have ofa := plus_ok ai.ok.p (okw 0 am.far)
  have bst : B 20 (plus am.pole (am.near, 0, 1)) := (plus_B ai.ok.p (okw _ _) ai.bp bn).mono (by decide)
  have bfa : B 20 (plus am.pole (0, am.far, 1)) := (plus_B ai.ok.p (okw _ _) ai.bp bf).mono (by decide)
  clear s11 s12 s13 s14 s1112 s1314 hp11 hp13
  dsimp only
  obtain ⟨st0, hd0, ok0⟩ := S.hd
  refine ⟨5, rfl, by decide, by decide, fun L hL => lc_range (lo := 0) (n := 5) (fun i H' => DrawnG (IsT K) SpotIn d L H14 H' i) (drawnG_start hd0 ok0 hL) ?_ ?_⟩
  · rintro i H2 hi ⟨st, vs, xs, k2, hd2, ok2, hl2, hn, a2, g2⟩
    refine ⟨rfl, ?_⟩
    refine yes_of ?_
    refine ⟨_, rfl, d, st, rfl, hd2, ok2, fun H3 st3 v k3 hd3 ok3 ⟨z, iz, nz⟩ => ?_⟩
    have hld : L ≠ d := fun z => by rw [← z, hL] at hd0; cases hd0
    exact ⟨vs, k3 _ _ hld hl2, by rw [hn]; exact small1000 (by omega), drawnG_more keepsT hL hld k2 hd2 hl2 hn a2 g2 k3 hd3 ok3 iz nz⟩
  rintro H15 ⟨st15, ws, xs, k15, hd15, ok15, hl15, hn, a15, g15⟩
  have S := S.keep k15 hd15 ok15
  have ht := keep_T ht hd0 k15
  have htu := keep_T htu hd0 k15
  have i12 := i12.keep hd0 k15
  have i14 := i14.keep hd0 k15
  have o19 : Ok (0, 1, 9) := ⟨by decide, by decide⟩
  have b19 : B 10 (0, 1, 9) := ⟨by decide, by decide, by decide⟩
  refine ⟨vs12, rfl, vf14, rfl, _, rfl, tp, _, 0, _, rfl, rfl, ht, rfl, vf14, rfl, (by show 3 ≤ sizeLine; decide), fun p16 hp16 => ?_⟩
  have s16 := same_new hp16 (.tup [.int 0, .int 1, .int 9])
  refine ⟨_, _, _, _, rfl, i14.same s16, IsT.new (K := K) (H := H15) (p := p16) (a := 0) (b := 1) (c := 9), ofa, o19, bfa.mono (by decide), b19.mono (by decide), fun H17 r17 s17 i17 => ?_⟩
  refine nil_of ?_
  refine ⟨(by show 4 ≤ sizeLine; decide), fun L18 hL18 => ?_⟩
  have s18 := same_new hL18 (.lst [vs12, vf14, .ref tu, r17])
  have s1618 := s16.trans (s17.trans s18)
  refine ⟨L, L18, ws, _, rfl, rfl, s1618 _ _ hl15, upd_same, small (by rw [hn]; show 5 + 4 ≤ 1000; decide), fun L19 hL19 => ?_⟩
  have s19 := same_new hL19 (.lst (ws ++ [vs12, vf14, .ref tu, r17]))
  have sx : Same H15 (upd (upd H17 L18 (.lst [vs12, vf14, .ref tu, r17])) L19 (.lst (ws ++ [vs12, vf14, .ref tu, r17]))) := s1618.trans s19
  have S := S.same sx
  have hl19 : upd (upd H17 L18 (.lst [vs12, vf14, .ref tu, r17])) L19 (.lst (ws ++ [vs12, vf14, .ref tu, r17])) L19 = some (.lst (ws ++ [vs12, vf14, .ref tu, r17])) := upd_same
  have pr : Paired (IsT K (upd (upd H17 L18 (.lst [vs12, vf14, .ref tu, r17])) L19 (.lst (ws ++ [vs12, vf14, .ref tu, r17])))) (ws ++ [vs12, vf14, .ref tu, r17]) (xs ++ [plus am.pole (am.near, 0, 1), plus am.pole (0, am.far, 1), am.pole, plus (plus am.pole (0, am.far, 1)) (0, 1, 9)]) :=
    papp (pimp (fun _ _ i => i.same sx) a15) (.cons (i12.same sx) (.cons (i14.same sx) (.cons ⟨tu, rfl, same_T sx htu⟩ (.cons (i17.same (s18.trans s19)) .nil))))
  have gz : ∀ z ∈ xs ++ [plus am.pole (am.near, 0, 1), plus am.pole (0, am.far, 1), am.pole, plus (plus am.pole (0, am.far, 1)) (0, 1, 9)], Ok z ∧ B 100 z := fun z hz => by
    rcases List.mem_append.mp hz with hz | hz
    · exact ⟨(g15 z hz).ok, (g15 z hz).bd.mono (by decide)⟩
    · simp only [List.mem_cons, List.mem_nil_iff, or_false] at hz
      rcases hz with rfl | rfl | rfl | rfl
      · exact ⟨ost, bst.mono (by decide)⟩
      · exact ⟨ofa, bfa.mono (by decide)⟩
      · exact ⟨ai.ok.p, ai.bp.mono (by decide)⟩
      · exact ⟨plus_ok ofa o19, (plus_B ofa o19 bfa b19).mono (by decide)⟩
  generalize upd (upd H17 L18 (.lst [vs12, vf14, .ref tu, r17])) L19 (.lst (ws ++ [vs12, vf14, .ref tu, r17])) = H19 at *
  generalize ws ++ [vs12, vf14, .ref tu, r17] = us at *
  generalize xs ++ [plus am.pole (am.near, 0, 1), plus am.pole (0, am.far, 1), am.pole, plus (plus am.pole (0, am.far, 1)) (0, 1, 9)] = zs at *
  clear s16 s17 s18 s1618 i17 a15 g15 hl15 k15 i12 i14 hp16 hd15 ok15 htu hd0 ok0 hL
  refine ⟨L19, rfl, ⟨_, .inl (.inl hl19)⟩, for_list (K := K) (a := L19) (xs := us) (fun i σ H' => (∃ x, σ = [some (.ref a), some (.ref d), some (.ref tp), some (.ref pa), some (.ref pc), some vs12, some vf14, x, none, none, none, none]) ∧ Same H19 H') ⟨⟨none, rfl⟩, Same.refl _⟩ ?_ ?_ ?_⟩
  · rintro i σ H' _ ⟨_, s'⟩
    exact .inl (.inl (s' _ _ hl19))
  · rintro i u σ H' hu ⟨⟨x, rfl⟩, s'⟩
    obtain ⟨z, ez, iz⟩ := pget pr hu
    obtain ⟨oz, bz⟩ := gz z (List.mem_of_getElem? ez)
    have S' := S.same s'
    have iz := iz.same s'
    obtain ⟨pa', dx', _, _, _, e', h', _⟩ := id S'.ia
    cases e'
    refine ⟨_, rfl, pa, _, _, rfl, h', af_reaches, _, rfl, _, am, _, z, rfl, S'.ia, ai.ok, ai.bp.mono (by decide), iz, oz, bz.mono (by decide), fun H2 s2 => ?_⟩
    refine ⟨_, rfl, _, rfl, _, am, _, z, rfl, S'.it.same s2, ai.ok, ai.bp.mono (by decide), iz.same s2, oz, bz.mono (by decide), fun H3 s3 => ?_⟩
    refine nil_of ?_
    refine ⟨_, _, .bool (rch am z), rfl, .bl _, .bl _, trivial, fun H4 s4 => ⟨_, rfl, iteF ?_⟩⟩
    exact ⟨⟨_, rfl⟩, s'.trans (s2.trans (s3.trans s4))⟩
  rintro σ H20 ⟨⟨x7, rfl⟩, s20⟩
  have S := S.same s20
  clear s20 pr gz hl19 ht sx s19 hL19 hL18
  dsimp only
  obtain ⟨st0, hd0, ok0⟩ := S.hd
  refine ⟨_, rfl, d, st0, rfl, hd0, ok0, fun H21 st21 vo k21 hd21 ok21 ⟨bm, ib21, bi⟩ => gn_of ?_⟩
  have S := S.keep k21 hd21 ok21
  dsimp only
  refine ⟨_, rfl, _, rfl, _, bm, rfl, ib21, bi.ok, bi.bp.mono (by decide), bi.bt.mono (by decide), fun H22 r22 s22 i22 => ?_⟩
  refine aeq_of (S.ia.same s22) i22 ?_
  refine ⟨_, rfl, _, rfl, dB am, dB bm, (S.it.same s22).dp, (ib21.same s22).dp, shapedB _, shapedB _, ?_⟩
  rw [eqvB]
  refine ⟨rfl, _, rfl, ?_⟩
  rw [decide_eq_true rfl]
  refine iteF ?_
  have S := S.same s22
  refine ⟨_, rfl, _, rfl, _, am, rfl, S.it, ai.ok, ai.bp.mono (by decide), ai.bt.mono (by decide), fun H23 r23 s23 i23 => ?_⟩
  refine aeq_of (S.ia.same s23) i23 ?_
  rw [aeq_self]
  refine ⟨_, rfl, iteF ?_⟩
  have S := S.same s23
  obtain ⟨pa', da, pu, pz, pc', e', hA, hAu, hAz, hAc⟩ := id S.ia
  cases e'
  refine ⟨_, rfl, _, rfl, pf_of hA af_pen (aeqC_of S.ia hAc ?_)⟩
  refine ⟨_, rfl, iteF ?_⟩
  clear hA hAu hAz hAc i23 s23 s22 i22 ib21 k21 hd21 ok21 hd0 ok0
  dsimp only [tNext]
  obtain ⟨tp', tu, tz, e', ht, htu, htz⟩ := id S.it
  cases e'
  refine ⟨_, rfl, _, rfl, tp, _, 0, _, rfl, rfl, ht, rfl, _, rfl, tp, _, 1, _, rfl, rfl, ht, rfl, _, rfl, tp, _, 2, _, rfl, rfl, ht, rfl, _, rfl, tp, _, 3, _, rfl, rfl, ht, rfl, _, _, rfl, rfl, ?_⟩
  refine nil_of ?_
  refine ⟨_, rfl, tp, _, 4, _, rfl, rfl, ht, rfl, ?_⟩
  refine nil_of ?_
  refine ⟨rfl, rfl, mka_of2 (n := am.near) (f := am.far + 1) (m := am.m) ⟨tu, rfl, htu⟩ ⟨tz, rfl, htz⟩ ⟨ai.ok.p, ai.ok.t, ai.ok.n, lo, (by show am.near ≤ am.far + 1; omega), (by show am.far + 1 ≤ 1000; omega)⟩ (ai.bp.mono (by decide)) (ai.bt.mono (by decide)) fun H24 x24 s24 i24 => ⟨rfl, aeq_of (S.ia.same s24) i24 ?_⟩⟩
  rw [aeq_ne (fun z => by have z := congrArg Am.far z; dsimp only at z; omega)]
  refine ⟨_, rfl, iteF ?_⟩
  have S := S.same s24
  clear s24 i24 ht htu htz
  dsimp only [tNext]
  refine seq_join (fun σ' H' => σ' = [some (.ref a), some (.ref d), some (.ref tp), some (.ref pa), some (.ref pc), some vs12, some vf14, x7, none, some vo, none, none] ∧ S15 K C CA PL d (.ref tp) (.ref pa) am H') ?_ ?_
  case refine_2 =>
    intro D' hrt kD
    obtain ⟨tp', tu, tz, e', ht, htu, htz⟩ := id S.it
    cases e'
    refine ⟨_, rfl, tp, _, 2, _, rfl, rfl, ht, rfl, _, _, rfl, rfl, _, rfl, ?_⟩
    by_cases h0 : (0 : Int) < am.near
    · rw [decide_eq_true h0]
      refine iteT ?_
      refine ⟨_, rfl, _, rfl, tp, _, 0, _, rfl, rfl, ht, rfl, _, rfl, tp, _, 1, _, rfl, rfl, ht, rfl, _, rfl, tp, _, 3, _, rfl, rfl, ht, rfl, ?_⟩
      refine nil_of ?_
      refine ⟨_, rfl, tp, _, 4, _, rfl, rfl, ht, rfl, ?_⟩
      refine nil_of ?_
      refine ⟨rfl, rfl, mka_of2 (n := 0) (f := am.far) (m := am.m) ⟨tu, rfl, htu⟩ ⟨tz, rfl, htz⟩ ⟨ai.ok.p, ai.ok.t, ai.ok.n, (by show (0 : Int) ≤ 0; decide), (by show 0 ≤ am.far; omega), ai.ok.hi⟩ (ai.bp.mono (by decide)) (ai.bt.mono (by decide)) fun H24 x24 s24 i24 => ⟨rfl, aeq_of (S.ia.same s24) i24 ?_⟩⟩
      rw [aeq_ne (fun z => by have z := congrArg Am.near z; dsimp only at z; omega)]
      exact ⟨_, rfl, iteF (kD _ _ ⟨rfl, S.same s24⟩)⟩
    · rw [decide_eq_false h0]
      exact iteF (iteF (kD _ _ ⟨rfl, S⟩))
  rintro σ' H25 ⟨rfl, S⟩
  obtain ⟨tp', tu, tz, e', ht, htu, htz⟩ := id S.it
  cases e'
  refine ⟨_, rfl, _, rfl, tp, _, 0, _, rfl, rfl, ht, rfl, _, rfl, tp, _, 1, _, rfl, rfl, ht, rfl, _, rfl, tp, _, 2, _, rfl, rfl, ht, rfl, _, rfl, tp, _, 3, _, rfl, rfl, ht, rfl, ?_⟩
  refine nil_of ?_
  refine ⟨_, rfl, tp, _, 4, _, rfl, rfl, ht, rfl, _, rfl, ?_⟩
  refine nil_of ?_
  refine ⟨rfl, rfl, mka_of2 (n := am.near) (f := am.far) (m := !am.m) ⟨tu, rfl, htu⟩ ⟨tz, rfl, htz⟩ ⟨ai.ok.p, ai.ok.t, ai.ok.n, ai.ok.lo, ai.ok.mi, ai.ok.hi⟩ (ai.bp.mono (by decide)) (ai.bt.mono (by decide)) fun H26 x26 s26 i26 => ⟨rfl, aeq_of (S.ia.same s26) i26 ?_⟩⟩
  rw [aeq_ne (fun z => by have z := congrArg Am.m z; dsimp only at z; cases hm : am.m <;> rw [hm] at z <;> cases z)]
  refine ⟨_, rfl, iteF ?_⟩
  have S := S.same s26
  clear s26 i26 ht htu htz
  dsimp only [tNext]
  refine ⟨_, _, rfl, rfl, (by show 2 ≤ sizeLine; decide), fun q1 hq1 => ⟨(by show 2 ≤ sizeLine; decide), fun q2 hq2 => ⟨(by show 2 ≤ sizeLine; decide), fun q3 hq3 => ⟨(by show 2 ≤ sizeLine; decide), fun q4 hq4 => ⟨(by show 2 ≤ sizeLine; decide), fun q5 hq5 => ⟨(by show 2 ≤ sizeLine; decide), fun q6 hq6 => ⟨(by show 2 ≤ sizeLine; decide), fun q7 hq7 => ⟨(by show 7 ≤ sizeLine; decide), fun L1 hL1 => ?_⟩⟩⟩⟩⟩⟩⟩⟩
  have t1 := same_new hq1 (.tup [.int (0 - 1), .int 5])
  have g1 := upd_same (H := H26) (a := q1) (o := .tup [.int (0 - 1), .int 5])
  generalize upd H26 q1 (.tup [.int (0 - 1), .int 5]) = Ha1 at *
  have t2 := same_new hq2 (.tup [.int 6, .int 5])
  have g2 := upd_same (H := Ha1) (a := q2) (o := .tup [.int 6, .int 5])
  generalize upd Ha1 q2 (.tup [.int 6, .int 5]) = Ha2 at *
  have t3 := same_new hq3 (.tup [.int 0, .int 1001])
  have g3 := upd_same (H := Ha2) (a := q3) (o := .tup [.int 0, .int 1001])
  generalize upd Ha2 q3 (.tup [.int 0, .int 1001]) = Ha3 at *
  have t4 := same_new hq4 (.tup [.non, .int 5])
  have g4 := upd_same (H := Ha3) (a := q4) (o := .tup [.non, .int 5])
  generalize upd Ha3 q4 (.tup [.non, .int 5]) = Ha4 at *
  have t5 := same_new hq5 (.tup [.int 0, .bl true])
  have g5 := upd_same (H := Ha4) (a := q5) (o := .tup [.int 0, .bl true])
  generalize upd Ha4 q5 (.tup [.int 0, .bl true]) = Ha5 at *
  have t6 := same_new hq6 (.tup [.int 0, .str "9"])
  have g6 := upd_same (H := Ha5) (a := q6) (o := .tup [.int 0, .str "9"])
  generalize upd Ha5 q6 (.tup [.int 0, .str "9"]) = Ha6 at *
  have t7 := same_new hq7 (.tup [.int 1001, .int 1001])
  have g7 := upd_same (H := Ha6) (a := q7) (o := .tup [.int 1001, .int 1001])
  generalize upd Ha6 q7 (.tup [.int 1001, .int 1001]) = Ha7 at *
  have t8 := same_new hL1 (.lst [.ref q1, .ref q2, .ref q3, .ref q4, .ref q5, .ref q6, .ref q7])
  have gL := upd_same (H := Ha7) (a := L1) (o := (.lst [.ref q1, .ref q2, .ref q3, .ref q4, .ref q5, .ref q6, .ref q7]))
  show tCl sp_below _ _ (upd Ha7 L1 (.lst [.ref q1, .ref q2, .ref q3, .ref q4, .ref q5, .ref q6, .ref q7])) _
  generalize upd Ha7 L1 (.lst [.ref q1, .ref q2, .ref q3, .ref q4, .ref q5, .ref q6, .ref q7]) = Ha8 at *
  have g7 := (t8) _ _ g7
  have g6 := (t7.trans (t8)) _ _ g6
  have g5 := (t6.trans (t7.trans (t8))) _ _ g5
  have g4 := (t5.trans (t6.trans (t7.trans (t8)))) _ _ g4
  have g3 := (t4.trans (t5.trans (t6.trans (t7.trans (t8))))) _ _ g3
  have g2 := (t3.trans (t4.trans (t5.trans (t6.trans (t7.trans (t8)))))) _ _ g2
  have g1 := (t2.trans (t3.trans (t4.trans (t5.trans (t6.trans (t7.trans (t8))))))) _ _ g1
  have S := S.same (t1.trans (t2.trans (t3.trans (t4.trans (t5.trans (t6.trans (t7.trans (t8))))))))
  clear t1 t2 t3 t4 t5 t6 t7 t8
  obtain ⟨st0, hd0, ok0⟩ := S.hd
  refine ⟨_, rfl, d, _, st0, rfl, by decide, by decide, hd0, ok0, fun st' r ok' r0 r1 => ?_⟩
  have kd := keep_upd (d := d) (H := Ha8) (o := .lst (encD st'))
  have S := S.keep kd upd_same ok'
  have up : ∀ {q : Addr} {xs : List V}, Ha8 q = some (.tup xs) → SqT K (upd Ha8 d (.lst (encD st'))) q xs := fun {q xs} h => keep_T (.inl (.inl h)) hd0 kd
  have hl15 : upd Ha8 d (.lst (encD st')) L1 = some (.lst [.ref q1, .ref q2, .ref q3, .ref q4, .ref q5, .ref q6, .ref q7]) := kd _ _ (fun z => by rw [z, hd0] at gL; exact absurd gL (enc_ne st0)) gL
  obtain ⟨po, b0, b1, eat, txs, bad⟩ : ∃ po b0 b1, atI [V.ref q1, .ref q2, .ref q3, .ref q4, .ref q5, .ref q6, .ref q7] r = some (.ref po) ∧ SqT K (upd Ha8 d (.lst (encD st'))) po [b0, b1] ∧ BadR b0 b1 := by
    obtain ⟨j, rfl⟩ : ∃ j : Nat, r = (j : Int) := ⟨r.toNat, by omega⟩
    have hj : j < 7 := by omega
    match j, hj with
    | 0, _ => exact ⟨q1, _, _, rfl, up g1, .r (by decide)⟩
    | 1, _ => exact ⟨q2, _, _, rfl, up g2, .r (by decide)⟩
    | 2, _ => exact ⟨q3, _, _, rfl, up g3, .r (by decide)⟩
    | 3, _ => exact ⟨q4, _, _, rfl, up g4, .n (.inl rfl)⟩
    | 4, _ => exact ⟨q5, _, _, rfl, up g5, .f (.inr (.inl ⟨_, rfl⟩))⟩
    | 5, _ => exact ⟨q6, _, _, rfl, up g6, .f (.inr (.inr ⟨_, rfl⟩))⟩
    | 6, _ => exact ⟨q7, _, _, rfl, up g7, .r (by decide)⟩
    | (n + 7), h => exact absurd h (by omega)
  refine ⟨L1, _, r, _, rfl, rfl, .inl (.inl hl15), eat, gn_of ?_⟩
  generalize upd Ha8 d (.lst (encD st')) = H15 at *
  clear up g1 g2 g3 g4 g5 g6 g7 gL kd hd0
  dsimp only
  have T15 : Tabs [(PL, qL)] H15 := fun p hp => by cases List.mem_singleton.mp hp; exact S.tb
  refine ⟨T15, fun H30 eN T30 => ?_⟩
  have S := S.ext eN (T30 _ (.head _))
  have tx := extN_T txs eN
  obtain ⟨tp', tu, tz, e', ht, htu, htz⟩ := id S.it
  cases e'
  refine ⟨_, rfl, tp, _, 0, _, rfl, rfl, ht, rfl, _, rfl, tp, _, 1, _, rfl, rfl, ht, rfl, _, rfl, po, _, 0, _, rfl, rfl, tx, rfl, _, rfl, po, _, 1, _, rfl, rfl, tx, rfl, ?_⟩
  refine nil_of ?_
  refine mkax_of fun v0 H31 s31 => ⟨_, _, _, _, _, _, rfl, .inr ⟨am.pole, ⟨tu, rfl, same_T s31 htu⟩, ai.ok.p, .inr ⟨⟨am.t, ⟨tz, rfl, same_T s31 htz⟩, ai.ok.t, ai.ok.n⟩, bad, fun H32 s32 => ⟨6, by simp, rfl, rfl, fun H33 p33 s33 h33 => ?_⟩⟩⟩⟩
  refine ⟨(by show 2 ≤ sizeLine; decide), fun p34 hp34 => ?_⟩
  have s34 := same_new hp34 (.tup [.str "reach", .int 0])
  refine ⟨dErr "reach", dErr "reach", .tup (.inl (.inl (s34 _ _ h33))) (.cons (.str _) (.cons (.int _) .nil)), .tup (.inl (.inl upd_same)) (.cons (.str _) (.cons (.int _) .nil)), shapedE (by decide +kernel), shapedE (by decide +kernel), _, rfl, ?_⟩
  rw [eqvE]
  refine iteF ?_
  have S := S.same (s31.trans (s32.trans (s33.trans s34)))
  generalize upd H33 p34 (.tup [.str "reach", .int 0]) = H34 at *
  clear s34 s33 s32 s31 htu htz ht tx txs eN T30 T15 h33
  dsimp only [tNext]
  have T34 : Tabs [(PL, qL)] H34 := fun p hp => by cases List.mem_singleton.mp hp; exact S.tb
  refine ⟨T34, fun Hb1 f1 e1 T1 _ m1 => ⟨T1, fun Hb2 f2 e2 T2 _ m2 => ⟨(by show 2 ≤ sizeLine; decide), fun L4 hL4 => gn_of ?_⟩⟩⟩
  have s4 := same_new hL4 (.lst [.ref f1, .ref f2])
  have gC := upd_same (H := Hb2) (a := L4) (o := .lst [.ref f1, .ref f2])
  have eC : ExtN H34 (upd Hb2 L4 (.lst [.ref f1, .ref f2])) := e1.trans (e2.trans (ExtN.of s4))
  have TbC := T2.ext s4
  have S := S.ext eC (TbC _ (.head _))
  have m1 := (m1.extN e2).same s4
  have m2 := m2.same s4
  generalize upd Hb2 L4 (.lst [.ref f1, .ref f2]) = H35 at *
  dsimp only
  refine ⟨_, rfl, (by show 2 ≤ sizeLine; decide), fun pe hpe => ?_⟩
  have s5 := same_new hpe (.tup [.str "spot", .int 0])
  refine ⟨L4, .ref pe, [.ref f1, .ref f2], 0, rfl, .inl (.inl (s5 _ _ gC)), (by show 2 ≤ 1000; decide), .head _, (by decide +kernel), .tup (.inl (.inl upd_same)) (.cons (.str _) (.cons (.int _) .nil)), fun i u hu => ?_, fun H36 s36 => ⟨_, rfl, iteF ?_⟩⟩
  · match i, hu with
    | 0, hu =>
      cases hu
      refine ⟨_, m1.same s5, fun H2 s2 Ech Q2 hE => ?_⟩
      refine ⟨(by show 3 ≤ sizeLine; decide), fun p8 hp8 => ⟨(by show 3 ≤ sizeLine; decide), fun p9 hp9 => ?_⟩⟩
      have s8 := same_new hp8 (.tup [.int 1, .int 0, .int 0])
      have s9 := same_new hp9 (.tup [.int 0, .int 0, .int 1])
      refine mkax_of (Qf := fun x v H2 => v = .non ∧ Q2 (.ref x) H2) fun v0 H3 s3 => ?_
      refine ⟨_, _, _, _, _, _, rfl, .inl ⟨⟨p8, _, rfl, .inl (.inl ((s9.trans s3) _ _ upd_same)), .num (x := 1) (y := 0) (d := 0) (by decide)⟩, fun H4 s4 => hE H4 (s8.trans (s9.trans (s3.trans s4)))⟩⟩
    | 1, hu =>
      cases hu
      refine ⟨_, m2.same s5, fun H2 s2 Ech Q2 hE => ?_⟩
      obtain ⟨pa', dx', _, _, _, e', h', _⟩ := (S.same (s5.trans s2)).ia
      cases e'
      refine ⟨_, rfl, pa, _, _, rfl, h', af_reaches, (by show 3 ≤ sizeLine; decide), fun p9 hp9 => ?_⟩
      have s9 := same_new hp9 (.tup [.int 2, .int 0, .int 2])
      exact ⟨_, p9, _, rfl, .inl (.inl upd_same), .num (x := 2) (y := 0) (d := 2) (by decide), fun H4 s4 => hE H4 (s9.trans s4)⟩
    | (n + 2), hu => simp at hu
  have S := S.same (s5.trans s36)
  clear s4 s5 s36 gC eC TbC m1 m2 e1 e2 T1 T2 T34
  have T36 : Tabs [(PL, qL)] H36 := fun p hp => by cases List.mem_singleton.mp hp; exact S.tb
  refine ⟨T36, fun H37 eN T37 => ?_⟩
  have S := S.ext eN (T37 _ (.head _))
  obtain ⟨tp', tu, tz, e', ht, htu, htz⟩ := id S.it
  cases e'
  refine ⟨_, rfl, tp, _, 0, _, rfl, rfl, ht, rfl, (by show 3 ≤ sizeLine; decide), fun p38 hp38 => ?_⟩
  have s38 := same_new hp38 (.tup [.int 0, .int 0, .int 1])
  refine mkax_of fun v0 H39 s39 => ⟨_, _, _, _, _, _, rfl, .inr ⟨am.pole, ⟨tu, rfl, same_T (s38.trans s39) htu⟩, ai.ok.p, .inl ⟨.inr ((IsT.new (K := K) (H := H37) (p := p38) (a := 0) (b := 0) (c := 1)).same s39), fun H40 s40 => ⟨1, by simp, rfl, rfl, fun H41 p41 s41 h41 => ?_⟩⟩⟩⟩
  refine ⟨(by show 2 ≤ sizeLine; decide), fun p42 hp42 => ?_⟩
  have s42 := same_new hp42 (.tup [.str "turn", .int 0])
  refine ⟨dErr "turn", dErr "turn", .tup (.inl (.inl (s42 _ _ h41))) (.cons (.str _) (.cons (.int _) .nil)), .tup (.inl (.inl upd_same)) (.cons (.str _) (.cons (.int _) .nil)), shapedE (by decide +kernel), shapedE (by decide +kernel), _, rfl, ?_⟩
  rw [eqvE]
  refine iteF ?_
  have sA := (s38.trans s39).trans (s40.trans (s41.trans s42))
  have ht := same_T sA ht
  have htu := same_T sA htu
  have htz := same_T sA htz
  generalize upd H41 p42 (.tup [.str "turn", .int 0]) = H42 at *
  clear s38 s39 s40 s41 s42 sA h41
  dsimp only [tNext]
  refine ⟨_, rfl, tp, _, 0, _, rfl, rfl, ht, rfl, _, rfl, tp, _, 1, _, rfl, rfl, ht, rfl, ?_⟩
  have ok43 : AmOk ⟨am.pole, am.t, 0, 1000, false⟩ := ⟨ai.ok.p, ai.ok.t, ai.ok.n, (by show (0 : Int) ≤ 0; decide), (by show (0 : Int) ≤ 1000; decide), (by show (1000 : Int) ≤ 1000; decide)⟩
  refine mka_of2 (n := 0) (f := 1000) (m := false) ⟨tu, rfl, htu⟩ ⟨tz, rfl, htz⟩ ok43 (ai.bp.mono (by decide)) (ai.bt.mono (by decide)) fun H43 x43 s43 i43 => ⟨rfl, ?_⟩
  obtain ⟨pa', dx', _, _, _, e', h', _⟩ := id i43
  cases e'
  have o68 : Ok (600, 800, 1) := okw _ _
  have b68 : B 10 (600, 800, 1) := ⟨by decide, by decide, by decide⟩
  refine ⟨x43, _, _, rfl, h', af_reaches, _, rfl, tp, _, 0, _, rfl, rfl, same_T s43 ht, rfl, (by show 3 ≤ sizeLine; decide), fun p44 hp44 => ?_⟩
  have s44 := same_new hp44 (.tup [.int 600, .int 800, .int 1])
  refine ⟨_, _, _, _, rfl, ⟨tu, rfl, same_T (s43.trans s44) htu⟩, IsT.new (K := K) (H := H43) (p := p44) (a := 600) (b := 800) (c := 1), ai.ok.p, o68, ai.bp.mono (by decide), b68.mono (by decide), fun H45 r45 s45 i45 => ?_⟩
  refine nil_of ?_
  refine ⟨_, _, _, _, rfl, i43.same (s44.trans s45), ok43, ai.bp.mono (by decide), i45, plus_ok ai.ok.p o68, (plus_B ai.ok.p o68 ai.bp b68).mono (by decide), fun H46 s46 => ?_⟩
  rw [rch_1000 ai.ok.p]
  exact q _
end
end My

namespace My
open PySem L2 Mth
abbrev s_Arm_pole : Stmt := inClass (topS 46) 1
theorem sc_Arm_pole : FnScope ["self"] ["self"] (defScope s_Arm_pole) := ⟨rfl, rfl, rfl, by decide +kernel, rfl, by decide +kernel, by decide +kernel⟩
theorem ok_Arm_pole {P : Program} {w : World} {K : PySem.W.Frag} {mg : Str → Option Value} {base : Heap} {f C : Addr} {fd : FuncData} (cl : Cls K C) (n : NoAttr K C "centre") (F : Fun K "pole" "Arm.pole" s_Arm_pole f fd) : FnOk P w K mg base CX0 1 f fd ["self"] (getSp C "centre") := by
  refine F.ok sc_Arm_pole (fun vs H Q E h => ?_) (fun cdv A outer s H vs Q E hr h => ?_)
  · obtain ⟨a, dx, fs, v, rfl, _⟩ := h
    rfl
  obtain ⟨a, dx, fs, v, rfl, ea, l, q⟩ := h
  exact ⟨_, pss_one (ps_ret (pe_fld (pv 0) rfl)), _, rfl, a, C, dx, fs, v, rfl, ea, cl, n, l, q⟩
end My
namespace My
open PySem L2 Mth
abbrev s_Arm_turn : Stmt := inClass (topS 46) 2
theorem sc_Arm_turn : FnScope ["self"] ["self"] (defScope s_Arm_turn) := ⟨rfl, rfl, rfl, by decide +kernel, rfl, by decide +kernel, by decide +kernel⟩
theorem ok_Arm_turn {P : Program} {w : World} {K : PySem.W.Frag} {mg : Str → Option Value} {base : Heap} {f C : Addr} {fd : FuncData} (cl : Cls K C) (n : NoAttr K C "factor") (F : Fun K "turn" "Arm.turn" s_Arm_turn f fd) : FnOk P w K mg base CX0 1 f fd ["self"] (getSp C "factor") := by
  refine F.ok sc_Arm_turn (fun vs H Q E h => ?_) (fun cdv A outer s H vs Q E hr h => ?_)
  · obtain ⟨a, dx, fs, v, rfl, _⟩ := h
    rfl
  obtain ⟨a, dx, fs, v, rfl, ea, l, q⟩ := h
  exact ⟨_, pss_one (ps_ret (pe_fld (pv 0) rfl)), _, rfl, a, C, dx, fs, v, rfl, ea, cl, n, l, q⟩
end My
namespace My
open PySem L2 Mth
abbrev s_Arm_near : Stmt := inClass (topS 46) 3
theorem sc_Arm_near : FnScope ["self"] ["self"] (defScope s_Arm_near) := ⟨rfl, rfl, rfl, by decide +kernel, rfl, by decide +kernel, by decide +kernel⟩
theorem ok_Arm_near {P : Program} {w : World} {K : PySem.W.Frag} {mg : Str → Option Value} {base : Heap} {f C : Addr} {fd : FuncData} (cl : Cls K C) (n : NoAttr K C "least") (F : Fun K "near" "Arm.near" s_Arm_near f fd) : FnOk P w K mg base CX0 1 f fd ["self"] (getSp C "least") := by
  refine F.ok sc_Arm_near (fun vs H Q E h => ?_) (fun cdv A outer s H vs Q E hr h => ?_)
  · obtain ⟨a, dx, fs, v, rfl, _⟩ := h
    rfl
  obtain ⟨a, dx, fs, v, rfl, ea, l, q⟩ := h
  exact ⟨_, pss_one (ps_ret (pe_fld (pv 0) rfl)), _, rfl, a, C, dx, fs, v, rfl, ea, cl, n, l, q⟩
end My
namespace My
open PySem L2 Mth
abbrev s_Arm_far : Stmt := inClass (topS 46) 4
theorem sc_Arm_far : FnScope ["self"] ["self"] (defScope s_Arm_far) := ⟨rfl, rfl, rfl, by decide +kernel, rfl, by decide +kernel, by decide +kernel⟩
theorem ok_Arm_far {P : Program} {w : World} {K : PySem.W.Frag} {mg : Str → Option Value} {base : Heap} {f C : Addr} {fd : FuncData} (cl : Cls K C) (n : NoAttr K C "most") (F : Fun K "far" "Arm.far" s_Arm_far f fd) : FnOk P w K mg base CX0 1 f fd ["self"] (getSp C "most") := by
  refine F.ok sc_Arm_far (fun vs H Q E h => ?_) (fun cdv A outer s H vs Q E hr h => ?_)
  · obtain ⟨a, dx, fs, v, rfl, _⟩ := h
    rfl
  obtain ⟨a, dx, fs, v, rfl, ea, l, q⟩ := h
  exact ⟨_, pss_one (ps_ret (pe_fld (pv 0) rfl)), _, rfl, a, C, dx, fs, v, rfl, ea, cl, n, l, q⟩
end My
namespace My
open PySem L2 Mth
abbrev s_Arm_mirrored : Stmt := inClass (topS 46) 5
theorem sc_Arm_mirrored : FnScope ["self"] ["self"] (defScope s_Arm_mirrored) := ⟨rfl, rfl, rfl, by decide +kernel, rfl, by decide +kernel, by decide +kernel⟩
theorem ok_Arm_mirrored {P : Program} {w : World} {K : PySem.W.Frag} {mg : Str → Option Value} {base : Heap} {f C : Addr} {fd : FuncData} (cl : Cls K C) (n : NoAttr K C "flips") (F : Fun K "mirrored" "Arm.mirrored" s_Arm_mirrored f fd) : FnOk P w K mg base CX0 1 f fd ["self"] (getSp C "flips") := by
  refine F.ok sc_Arm_mirrored (fun vs H Q E h => ?_) (fun cdv A outer s H vs Q E hr h => ?_)
  · obtain ⟨a, dx, fs, v, rfl, _⟩ := h
    rfl
  obtain ⟨a, dx, fs, v, rfl, ea, l, q⟩ := h
  exact ⟨_, pss_one (ps_ret (pe_fld (pv 0) rfl)), _, rfl, a, C, dx, fs, v, rfl, ea, cl, n, l, q⟩
end My
namespace My
open PySem L2 Mth
abbrev s_Arm_effect : Stmt := inClass (topS 46) 6
theorem sc_Arm_effect : FnScope ["self"] ["self"] (defScope s_Arm_effect) := ⟨rfl, rfl, rfl, by decide +kernel, rfl, by decide +kernel, by decide +kernel⟩
theorem ok_Arm_effect {P : Program} {w : World} {K : PySem.W.Frag} {mg : Str → Option Value} {base : Heap} {f C : Addr} {fd : FuncData} (cl : Cls K C) (n : NoAttr K C "pen") (F : Fun K "effect" "Arm.effect" s_Arm_effect f fd) : FnOk P w K mg base CX0 1 f fd ["self"] (getSp C "pen") := by
  refine F.ok sc_Arm_effect (fun vs H Q E h => ?_) (fun cdv A outer s H vs Q E hr h => ?_)
  · obtain ⟨a, dx, fs, v, rfl, _⟩ := h
    rfl
  obtain ⟨a, dx, fs, v, rfl, ea, l, q⟩ := h
  exact ⟨_, pss_one (ps_ret (pe_fld (pv 0) rfl)), _, rfl, a, C, dx, fs, v, rfl, ea, cl, n, l, q⟩
end My
namespace My
open PySem L2 Mth LamX
theorem all_mk {l : PySem.W.OpenLaw} {w : World} {K : PySem.W.Frag} {h : Heap} {mg : Str → Option Value} {fa : Addr} (X : K.In h) (G : h.Ns mainGlobals mg) (hfa : mg "law" = some (.ref fa)) (own : OwnTab K fa h)
    {a_tMIDDLE : Addr} {dd_MIDDLE : Option Addr} {t1_MIDDLE t2_MIDDLE t3_MIDDLE : Tok} {n_MIDDLE : Nat} {sl_tMIDDLE : Array (Option Value)}
    {tk_MOST_REACH : Tok}
    {CB : Addr} {e0 e1 e2 e3 e4 e5 e6 e7 e8 e9 e10 e11 e12 e13 e14 e15 e16 e17 e18 e19 : Addr}
    {f_law_error_of : Addr} {od_law_error_of an_law_error_of : Option Addr} {sl_law_error_of : Array (Option Value)} {oc_law_error_of kV_law_error_of dc_law_error_of pm_law_error_of cd_law_error_of ct_law_error_of : Value}
    {f_law_all_raise : Addr} {od_law_all_raise an_law_all_raise : Option Addr} {sl_law_all_raise : Array (Option Value)} {oc_law_all_raise kV_law_all_raise dc_law_all_raise pm_law_all_raise cd_law_all_raise ct_law_all_raise : Value}
    {f_common_divisor : Addr} {od_common_divisor an_common_divisor : Option Addr} {sl_common_divisor : Array (Option Value)} {oc_common_divisor kV_common_divisor dc_common_divisor pm_common_divisor cd_common_divisor ct_common_divisor : Value}
    {f_is_whole : Addr} {od_is_whole an_is_whole : Option Addr} {sl_is_whole : Array (Option Value)} {oc_is_whole kV_is_whole dc_is_whole pm_is_whole cd_is_whole ct_is_whole : Value}
    {f_is_spot : Addr} {od_is_spot an_is_spot : Option Addr} {sl_is_spot : Array (Option Value)} {oc_is_spot kV_is_spot dc_is_spot pm_is_spot cd_is_spot ct_is_spot : Value}
    {f_check_spot : Addr} {od_check_spot an_check_spot : Option Addr} {sl_check_spot : Array (Option Value)} {oc_check_spot kV_check_spot dc_check_spot pm_check_spot cd_check_spot ct_check_spot : Value}
    {f_check_turn : Addr} {od_check_turn an_check_turn : Option Addr} {sl_check_turn : Array (Option Value)} {oc_check_turn kV_check_turn dc_check_turn pm_check_turn cd_check_turn ct_check_turn : Value}
    {f_spot_at : Addr} {od_spot_at an_spot_at : Option Addr} {sl_spot_at : Array (Option Value)} {oc_spot_at kV_spot_at dc_spot_at pm_spot_at cd_spot_at ct_spot_at : Value}
    {f_fraction : Addr} {od_fraction an_fraction : Option Addr} {sl_fraction : Array (Option Value)} {oc_fraction kV_fraction dc_fraction pm_fraction cd_fraction ct_fraction : Value}
    {f_plus : Addr} {od_plus an_plus : Option Addr} {sl_plus : Array (Option Value)} {oc_plus kV_plus dc_plus pm_plus cd_plus ct_plus : Value}
    {f_negative : Addr} {od_negative an_negative : Option Addr} {sl_negative : Array (Option Value)} {oc_negative kV_negative dc_negative pm_negative cd_negative ct_negative : Value}
    {f_minus : Addr} {od_minus an_minus : Option Addr} {sl_minus : Array (Option Value)} {oc_minus kV_minus dc_minus pm_minus cd_minus ct_minus : Value}
    {f_product : Addr} {od_product an_product : Option Addr} {sl_product : Array (Option Value)} {oc_product kV_product dc_product pm_product cd_product ct_product : Value}
    {f_faced : Addr} {od_faced an_faced : Option Addr} {sl_faced : Array (Option Value)} {oc_faced kV_faced dc_faced pm_faced cd_faced ct_faced : Value}
    {f_carried : Addr} {od_carried an_carried : Option Addr} {sl_carried : Array (Option Value)} {oc_carried kV_carried dc_carried pm_carried cd_carried ct_carried : Value}
    {f_square_between : Addr} {od_square_between an_square_between : Option Addr} {sl_square_between : Array (Option Value)} {oc_square_between kV_square_between dc_square_between pm_square_between cd_square_between ct_square_between : Value}
    {f_is_from_to : Addr} {od_is_from_to an_is_from_to : Option Addr} {sl_is_from_to : Array (Option Value)} {oc_is_from_to kV_is_from_to dc_is_from_to pm_is_from_to cd_is_from_to ct_is_from_to : Value}
    {C : Addr}
    {kD_Copy___init__ : Addr}
    {f_Copy___init__ : Addr} {od_Copy___init__ an_Copy___init__ : Option Addr} {sl_Copy___init__ : Array (Option Value)} {oc_Copy___init__ dc_Copy___init__ pm_Copy___init__ cd_Copy___init__ ct_Copy___init__ : Value}
    {f_Copy___call__ : Addr} {od_Copy___call__ an_Copy___call__ : Option Addr} {sl_Copy___call__ : Array (Option Value)} {oc_Copy___call__ kV_Copy___call__ dc_Copy___call__ pm_Copy___call__ cd_Copy___call__ ct_Copy___call__ : Value}
    {q_Copy_turn : Addr} {rs_Copy_turn : List Value}
    {f_Copy_turn : Addr} {od_Copy_turn an_Copy_turn : Option Addr} {sl_Copy_turn : Array (Option Value)} {oc_Copy_turn kV_Copy_turn dc_Copy_turn pm_Copy_turn cd_Copy_turn ct_Copy_turn : Value}
    {q_Copy_shift : Addr} {rs_Copy_shift : List Value}
    {f_Copy_shift : Addr} {od_Copy_shift an_Copy_shift : Option Addr} {sl_Copy_shift : Array (Option Value)} {oc_Copy_shift kV_Copy_shift dc_Copy_shift pm_Copy_shift cd_Copy_shift ct_Copy_shift : Value}
    {q_Copy_mirrored : Addr} {rs_Copy_mirrored : List Value}
    {f_Copy_mirrored : Addr} {od_Copy_mirrored an_Copy_mirrored : Option Addr} {sl_Copy_mirrored : Array (Option Value)} {oc_Copy_mirrored kV_Copy_mirrored dc_Copy_mirrored pm_Copy_mirrored cd_Copy_mirrored ct_Copy_mirrored : Value}
    {f_check_reach : Addr} {od_check_reach an_check_reach : Option Addr} {sl_check_reach : Array (Option Value)} {oc_check_reach kV_check_reach dc_check_reach pm_check_reach cd_check_reach ct_check_reach : Value}
    {f_copy_around : Addr} {od_copy_around an_copy_around : Option Addr} {sl_copy_around : Array (Option Value)} {oc_copy_around kV_copy_around dc_copy_around pm_copy_around cd_copy_around ct_copy_around : Value}
    {CA : Addr}
    {kD_Arm___init__ : Addr}
    {f_Arm___init__ : Addr} {od_Arm___init__ an_Arm___init__ : Option Addr} {sl_Arm___init__ : Array (Option Value)} {oc_Arm___init__ dc_Arm___init__ pm_Arm___init__ cd_Arm___init__ ct_Arm___init__ : Value}
    {q_Arm_pole : Addr} {rs_Arm_pole : List Value}
    {f_Arm_pole : Addr} {od_Arm_pole an_Arm_pole : Option Addr} {sl_Arm_pole : Array (Option Value)} {oc_Arm_pole kV_Arm_pole dc_Arm_pole pm_Arm_pole cd_Arm_pole ct_Arm_pole : Value}
    {q_Arm_turn : Addr} {rs_Arm_turn : List Value}
    {f_Arm_turn : Addr} {od_Arm_turn an_Arm_turn : Option Addr} {sl_Arm_turn : Array (Option Value)} {oc_Arm_turn kV_Arm_turn dc_Arm_turn pm_Arm_turn cd_Arm_turn ct_Arm_turn : Value}
    {q_Arm_near : Addr} {rs_Arm_near : List Value}
    {f_Arm_near : Addr} {od_Arm_near an_Arm_near : Option Addr} {sl_Arm_near : Array (Option Value)} {oc_Arm_near kV_Arm_near dc_Arm_near pm_Arm_near cd_Arm_near ct_Arm_near : Value}
    {q_Arm_far : Addr} {rs_Arm_far : List Value}
    {f_Arm_far : Addr} {od_Arm_far an_Arm_far : Option Addr} {sl_Arm_far : Array (Option Value)} {oc_Arm_far kV_Arm_far dc_Arm_far pm_Arm_far cd_Arm_far ct_Arm_far : Value}
    {q_Arm_mirrored : Addr} {rs_Arm_mirrored : List Value}
    {f_Arm_mirrored : Addr} {od_Arm_mirrored an_Arm_mirrored : Option Addr} {sl_Arm_mirrored : Array (Option Value)} {oc_Arm_mirrored kV_Arm_mirrored dc_Arm_mirrored pm_Arm_mirrored cd_Arm_mirrored ct_Arm_mirrored : Value}
    {q_Arm_effect : Addr} {rs_Arm_effect : List Value}
    {f_Arm_effect : Addr} {od_Arm_effect an_Arm_effect : Option Addr} {sl_Arm_effect : Array (Option Value)} {oc_Arm_effect kV_Arm_effect dc_Arm_effect pm_Arm_effect cd_Arm_effect ct_Arm_effect : Value}
    {f_Arm___eq__ : Addr} {od_Arm___eq__ an_Arm___eq__ : Option Addr} {sl_Arm___eq__ : Array (Option Value)} {oc_Arm___eq__ kV_Arm___eq__ dc_Arm___eq__ pm_Arm___eq__ cd_Arm___eq__ ct_Arm___eq__ : Value}
    {f_Arm_reaches : Addr} {od_Arm_reaches an_Arm_reaches : Option Addr} {sl_Arm_reaches : Array (Option Value)} {oc_Arm_reaches kV_Arm_reaches dc_Arm_reaches pm_Arm_reaches cd_Arm_reaches ct_Arm_reaches : Value}
    {f_law_random : Addr} {od_law_random an_law_random : Option Addr} {sl_law_random : Array (Option Value)} {oc_law_random kV_law_random dc_law_random pm_law_random cd_law_random ct_law_random : Value}
    {f_law_below : Addr} {od_law_below an_law_below : Option Addr} {sl_law_below : Array (Option Value)} {oc_law_below kV_law_below dc_law_below pm_law_below cd_law_below ct_law_below : Value}
    {f_law_step : Addr} {od_law_step an_law_step : Option Addr} {sl_law_step : Array (Option Value)} {oc_law_step kV_law_step dc_law_step pm_law_step cd_law_step ct_law_step : Value}
    {f_law_turn : Addr} {od_law_turn an_law_turn : Option Addr} {sl_law_turn : Array (Option Value)} {oc_law_turn kV_law_turn dc_law_turn pm_law_turn cd_law_turn ct_law_turn : Value}
    {f_law_common : Addr} {od_law_common an_law_common : Option Addr} {sl_law_common : Array (Option Value)} {oc_law_common kV_law_common dc_law_common pm_law_common cd_law_common ct_law_common : Value}
    {f_law_lowest : Addr} {od_law_lowest an_law_lowest : Option Addr} {sl_law_lowest : Array (Option Value)} {oc_law_lowest kV_law_lowest dc_law_lowest pm_law_lowest cd_law_lowest ct_law_lowest : Value}
    {f_law_spot : Addr} {od_law_spot an_law_spot : Option Addr} {sl_law_spot : Array (Option Value)} {oc_law_spot kV_law_spot dc_law_spot pm_law_spot cd_law_spot ct_law_spot : Value}
    {f_law_arm_told : Addr} {od_law_arm_told an_law_arm_told : Option Addr} {sl_law_arm_told : Array (Option Value)} {oc_law_arm_told kV_law_arm_told dc_law_arm_told pm_law_arm_told cd_law_arm_told ct_law_arm_told : Value}
    {f_law_arm : Addr} {od_law_arm an_law_arm : Option Addr} {sl_law_arm : Array (Option Value)} {oc_law_arm kV_law_arm dc_law_arm pm_law_arm cd_law_arm ct_law_arm : Value}
    {f_law_equal : Addr} {od_law_equal an_law_equal : Option Addr} {sl_law_equal : Array (Option Value)} {oc_law_equal kV_law_equal dc_law_equal pm_law_equal cd_law_equal ct_law_equal : Value}
    {f_law_shown : Addr} {od_law_shown an_law_shown : Option Addr} {sl_law_shown : Array (Option Value)} {oc_law_shown kV_law_shown dc_law_shown pm_law_shown cd_law_shown ct_law_shown : Value}
    {f_law_over : Addr} {od_law_over an_law_over : Option Addr} {sl_law_over : Array (Option Value)} {oc_law_over kV_law_over dc_law_over pm_law_over cd_law_over ct_law_over : Value}
    {f_law_plus : Addr} {od_law_plus an_law_plus : Option Addr} {sl_law_plus : Array (Option Value)} {oc_law_plus kV_law_plus dc_law_plus pm_law_plus cd_law_plus ct_law_plus : Value}
    {f_law_times : Addr} {od_law_times an_law_times : Option Addr} {sl_law_times : Array (Option Value)} {oc_law_times kV_law_times dc_law_times pm_law_times cd_law_times ct_law_times : Value}
    {f_law_minus : Addr} {od_law_minus an_law_minus : Option Addr} {sl_law_minus : Array (Option Value)} {oc_law_minus kV_law_minus dc_law_minus pm_law_minus cd_law_minus ct_law_minus : Value}
    {f_law_about : Addr} {od_law_about an_law_about : Option Addr} {sl_law_about : Array (Option Value)} {oc_law_about kV_law_about dc_law_about pm_law_about cd_law_about ct_law_about : Value}
    {f_law_ratio : Addr} {od_law_ratio an_law_ratio : Option Addr} {sl_law_ratio : Array (Option Value)} {oc_law_ratio kV_law_ratio dc_law_ratio pm_law_ratio cd_law_ratio ct_law_ratio : Value}
    {f_law_size : Addr} {od_law_size an_law_size : Option Addr} {sl_law_size : Array (Option Value)} {oc_law_size kV_law_size dc_law_size pm_law_size cd_law_size ct_law_size : Value}
    {f_law_less : Addr} {od_law_less an_law_less : Option Addr} {sl_law_less : Array (Option Value)} {oc_law_less kV_law_less dc_law_less pm_law_less cd_law_less ct_law_less : Value}
    {f_law_reached : Addr} {od_law_reached an_law_reached : Option Addr} {sl_law_reached : Array (Option Value)} {oc_law_reached kV_law_reached dc_law_reached pm_law_reached cd_law_reached ct_law_reached : Value}
    {f_law cL PL : Addr} {od_law an_law : Option Addr} {sl_law : Array (Option Value)} {oc_law kV_law dc_law pm_law ct_law : Value} {oq_law : Value} {dq_law : Option Addr} {vq_law : Array Value} {sq_law : Array (Option Value)}
    (z_abs : PySem.W.nsIn K mainGlobals "abs" = some none)
    (z_len : PySem.W.nsIn K mainGlobals "len" = some none)
    (z_isinstance : PySem.W.nsIn K mainGlobals "isinstance" = some none)
    (z_int : PySem.W.nsIn K mainGlobals "int" = some none)
    (z_bool : PySem.W.nsIn K mainGlobals "bool" = some none)
    (z_str : PySem.W.nsIn K mainGlobals "str" = some none)
    (z_tuple : PySem.W.nsIn K mainGlobals "tuple" = some none)
    (z_list : PySem.W.nsIn K mainGlobals "list" = some none)
    (z_all : PySem.W.nsIn K mainGlobals "all" = some none)
    (z_range : PySem.W.nsIn K mainGlobals "range" = some none)
    (z_ValueError : PySem.W.nsIn K mainGlobals "ValueError" = some none)
    (m_MIDDLE : PySem.W.nsIn K mainGlobals "MIDDLE" = some (some (.ref a_tMIDDLE)))
    (u_MIDDLE : K.lookup a_tMIDDLE = some ⟨.type "tuple", dd_MIDDLE, .seq #[.int 0 t1_MIDDLE, .int 0 t2_MIDDLE, .int 1 t3_MIDDLE] n_MIDDLE, sl_tMIDDLE⟩)
    (mi_MOST_REACH : PySem.W.nsIn K mainGlobals "MOST_REACH" = some (some (.int 1000 tk_MOST_REACH)))
    (g_CB : PySem.W.nsIn K mainGlobals "CopyError" = some (some (.ref CB)))
    (ge_0 : PySem.W.nsIn K mainGlobals "InvalidSpot" = some (some (.ref e0)))
    (ge_1 : PySem.W.nsIn K mainGlobals "InvalidTurn" = some (some (.ref e1)))
    (ge_2 : PySem.W.nsIn K mainGlobals "InvalidTimes" = some (some (.ref e2)))
    (ge_3 : PySem.W.nsIn K mainGlobals "TooFew" = some (some (.ref e3)))
    (ge_4 : PySem.W.nsIn K mainGlobals "InvalidStroke" = some (some (.ref e4)))
    (ge_5 : PySem.W.nsIn K mainGlobals "OpenStroke" = some (some (.ref e5)))
    (ge_6 : PySem.W.nsIn K mainGlobals "InvalidReach" = some (some (.ref e6)))
    (ge_7 : PySem.W.nsIn K mainGlobals "OutOfReach" = some (some (.ref e7)))
    (ge_8 : PySem.W.nsIn K mainGlobals "TooMany" = some (some (.ref e8)))
    (ge_9 : PySem.W.nsIn K mainGlobals "InvalidSize" = some (some (.ref e9)))
    (ge_10 : PySem.W.nsIn K mainGlobals "InvalidBox" = some (some (.ref e10)))
    (ge_11 : PySem.W.nsIn K mainGlobals "Contradiction" = some (some (.ref e11)))
    (ge_12 : PySem.W.nsIn K mainGlobals "BadText" = some (some (.ref e12)))
    (ge_13 : PySem.W.nsIn K mainGlobals "BadRow" = some (some (.ref e13)))
    (ge_14 : PySem.W.nsIn K mainGlobals "UnknownName" = some (some (.ref e14)))
    (ge_15 : PySem.W.nsIn K mainGlobals "InvalidName" = some (some (.ref e15)))
    (ge_16 : PySem.W.nsIn K mainGlobals "InvalidCode" = some (some (.ref e16)))
    (ge_17 : PySem.W.nsIn K mainGlobals "UnknownArm" = some (some (.ref e17)))
    (ge_18 : PySem.W.nsIn K mainGlobals "NotFree" = some (some (.ref e18)))
    (ge_19 : PySem.W.nsIn K mainGlobals "InvalidOperation" = some (some (.ref e19)))
    (xc_n : PySem.W.specialIn K (.builtin "object.__class__") "__get__" = some (some (.builtin "getset_descriptor.__get__")))
    (xc_t : PySem.W.takesIn K (.builtin "object.__class__") = some true)
    (xg_0 : PySem.W.findIn K (.ref e0) "__getattribute__" = some (some (.builtin "BaseException.__getattribute__")))
    (xk_0 : PySem.W.findIn K (.ref e0) "__getattr__" = some none)
    (xs_0 : PySem.W.subIn K (.ref e0) (.type "BaseException") = some true)
    (xd_0 : PySem.W.hasDictIn K e0 = true)
    (xa_0 : PySem.W.findIn K (.ref e0) "__class__" = some (some (.builtin "object.__class__")))
    (xm_0 : PySem.W.mroIn K e0 (.type "object") = some true)
    (kt_0_0 : PySem.W.kitOne K (.ref e0) (.ref e0) = some true)
    (kt_0_1 : PySem.W.kitOne K (.ref e0) (.ref e1) = some false)
    (kt_0_2 : PySem.W.kitOne K (.ref e0) (.ref e2) = some false)
    (kt_0_3 : PySem.W.kitOne K (.ref e0) (.ref e3) = some false)
    (kt_0_4 : PySem.W.kitOne K (.ref e0) (.ref e4) = some false)
    (kt_0_5 : PySem.W.kitOne K (.ref e0) (.ref e5) = some false)
    (kt_0_6 : PySem.W.kitOne K (.ref e0) (.ref e6) = some false)
    (kt_0_7 : PySem.W.kitOne K (.ref e0) (.ref e7) = some false)
    (kt_0_8 : PySem.W.kitOne K (.ref e0) (.ref e8) = some false)
    (kt_0_9 : PySem.W.kitOne K (.ref e0) (.ref e9) = some false)
    (kt_0_10 : PySem.W.kitOne K (.ref e0) (.ref e10) = some false)
    (kt_0_11 : PySem.W.kitOne K (.ref e0) (.ref e11) = some false)
    (kt_0_12 : PySem.W.kitOne K (.ref e0) (.ref e12) = some false)
    (kt_0_13 : PySem.W.kitOne K (.ref e0) (.ref e13) = some false)
    (kt_0_14 : PySem.W.kitOne K (.ref e0) (.ref e14) = some false)
    (kt_0_15 : PySem.W.kitOne K (.ref e0) (.ref e15) = some false)
    (kt_0_16 : PySem.W.kitOne K (.ref e0) (.ref e16) = some false)
    (kt_0_17 : PySem.W.kitOne K (.ref e0) (.ref e17) = some false)
    (kt_0_18 : PySem.W.kitOne K (.ref e0) (.ref e18) = some false)
    (kt_0_19 : PySem.W.kitOne K (.ref e0) (.ref e19) = some false)
    (kv_0 : PySem.W.kitOne K (.ref e0) (.type "ValueError") = some true)
    (xx_0 : PySem.W.exmOne K (.ref e0) (.ref CB) = some true)
    (xq_0 : PySem.W.excIn K e0 [.type "ValueError", .type "Exception", .type "BaseException", .type "object"] "ValueError.__new__" = true)
    (xp_0 : PySem.W.keepIn K (.ref e0) = true)
    (xt_0 : PySem.W.typeIn K (.ref e0) = some (.type "type"))
    (xg_1 : PySem.W.findIn K (.ref e1) "__getattribute__" = some (some (.builtin "BaseException.__getattribute__")))
    (xk_1 : PySem.W.findIn K (.ref e1) "__getattr__" = some none)
    (xs_1 : PySem.W.subIn K (.ref e1) (.type "BaseException") = some true)
    (xd_1 : PySem.W.hasDictIn K e1 = true)
    (xa_1 : PySem.W.findIn K (.ref e1) "__class__" = some (some (.builtin "object.__class__")))
    (xm_1 : PySem.W.mroIn K e1 (.type "object") = some true)
    (kt_1_0 : PySem.W.kitOne K (.ref e1) (.ref e0) = some false)
    (kt_1_1 : PySem.W.kitOne K (.ref e1) (.ref e1) = some true)
    (kt_1_2 : PySem.W.kitOne K (.ref e1) (.ref e2) = some false)
    (kt_1_3 : PySem.W.kitOne K (.ref e1) (.ref e3) = some false)
    (kt_1_4 : PySem.W.kitOne K (.ref e1) (.ref e4) = some false)
    (kt_1_5 : PySem.W.kitOne K (.ref e1) (.ref e5) = some false)
    (kt_1_6 : PySem.W.kitOne K (.ref e1) (.ref e6) = some false)
    (kt_1_7 : PySem.W.kitOne K (.ref e1) (.ref e7) = some false)
    (kt_1_8 : PySem.W.kitOne K (.ref e1) (.ref e8) = some false)
    (kt_1_9 : PySem.W.kitOne K (.ref e1) (.ref e9) = some false)
    (kt_1_10 : PySem.W.kitOne K (.ref e1) (.ref e10) = some false)
    (kt_1_11 : PySem.W.kitOne K (.ref e1) (.ref e11) = some false)
    (kt_1_12 : PySem.W.kitOne K (.ref e1) (.ref e12) = some false)
    (kt_1_13 : PySem.W.kitOne K (.ref e1) (.ref e13) = some false)
    (kt_1_14 : PySem.W.kitOne K (.ref e1) (.ref e14) = some false)
    (kt_1_15 : PySem.W.kitOne K (.ref e1) (.ref e15) = some false)
    (kt_1_16 : PySem.W.kitOne K (.ref e1) (.ref e16) = some false)
    (kt_1_17 : PySem.W.kitOne K (.ref e1) (.ref e17) = some false)
    (kt_1_18 : PySem.W.kitOne K (.ref e1) (.ref e18) = some false)
    (kt_1_19 : PySem.W.kitOne K (.ref e1) (.ref e19) = some false)
    (kv_1 : PySem.W.kitOne K (.ref e1) (.type "ValueError") = some true)
    (xx_1 : PySem.W.exmOne K (.ref e1) (.ref CB) = some true)
    (xq_1 : PySem.W.excIn K e1 [.type "ValueError", .type "Exception", .type "BaseException", .type "object"] "ValueError.__new__" = true)
    (xp_1 : PySem.W.keepIn K (.ref e1) = true)
    (xt_1 : PySem.W.typeIn K (.ref e1) = some (.type "type"))
    (xg_6 : PySem.W.findIn K (.ref e6) "__getattribute__" = some (some (.builtin "BaseException.__getattribute__")))
    (xk_6 : PySem.W.findIn K (.ref e6) "__getattr__" = some none)
    (xs_6 : PySem.W.subIn K (.ref e6) (.type "BaseException") = some true)
    (xd_6 : PySem.W.hasDictIn K e6 = true)
    (xa_6 : PySem.W.findIn K (.ref e6) "__class__" = some (some (.builtin "object.__class__")))
    (xm_6 : PySem.W.mroIn K e6 (.type "object") = some true)
    (kt_6_0 : PySem.W.kitOne K (.ref e6) (.ref e0) = some false)
    (kt_6_1 : PySem.W.kitOne K (.ref e6) (.ref e1) = some false)
    (kt_6_2 : PySem.W.kitOne K (.ref e6) (.ref e2) = some false)
    (kt_6_3 : PySem.W.kitOne K (.ref e6) (.ref e3) = some false)
    (kt_6_4 : PySem.W.kitOne K (.ref e6) (.ref e4) = some false)
    (kt_6_5 : PySem.W.kitOne K (.ref e6) (.ref e5) = some false)
    (kt_6_6 : PySem.W.kitOne K (.ref e6) (.ref e6) = some true)
    (kt_6_7 : PySem.W.kitOne K (.ref e6) (.ref e7) = some false)
    (kt_6_8 : PySem.W.kitOne K (.ref e6) (.ref e8) = some false)
    (kt_6_9 : PySem.W.kitOne K (.ref e6) (.ref e9) = some false)
    (kt_6_10 : PySem.W.kitOne K (.ref e6) (.ref e10) = some false)
    (kt_6_11 : PySem.W.kitOne K (.ref e6) (.ref e11) = some false)
    (kt_6_12 : PySem.W.kitOne K (.ref e6) (.ref e12) = some false)
    (kt_6_13 : PySem.W.kitOne K (.ref e6) (.ref e13) = some false)
    (kt_6_14 : PySem.W.kitOne K (.ref e6) (.ref e14) = some false)
    (kt_6_15 : PySem.W.kitOne K (.ref e6) (.ref e15) = some false)
    (kt_6_16 : PySem.W.kitOne K (.ref e6) (.ref e16) = some false)
    (kt_6_17 : PySem.W.kitOne K (.ref e6) (.ref e17) = some false)
    (kt_6_18 : PySem.W.kitOne K (.ref e6) (.ref e18) = some false)
    (kt_6_19 : PySem.W.kitOne K (.ref e6) (.ref e19) = some false)
    (kv_6 : PySem.W.kitOne K (.ref e6) (.type "ValueError") = some true)
    (xx_6 : PySem.W.exmOne K (.ref e6) (.ref CB) = some true)
    (xq_6 : PySem.W.excIn K e6 [.type "ValueError", .type "Exception", .type "BaseException", .type "object"] "ValueError.__new__" = true)
    (xp_6 : PySem.W.keepIn K (.ref e6) = true)
    (xt_6 : PySem.W.typeIn K (.ref e6) = some (.type "type"))
    (a_law_error_of : PySem.W.nsIn K mainGlobals "_law_error_of" = some (some (.ref f_law_error_of)))
    (l_law_error_of : K.lookup f_law_error_of = some ⟨oc_law_error_of, od_law_error_of, .func (PySem.W.fnOf "_law_error_of" "_law_error_of" (defArgs s_law_error_of) (defBody s_law_error_of) (defScope s_law_error_of) .none kV_law_error_of dc_law_error_of pm_law_error_of an_law_error_of cd_law_error_of ct_law_error_of), sl_law_error_of⟩)
    (c_law_error_of : PySem.W.codeIn K cd_law_error_of "_law_error_of" = true)
    (k_law_error_of : PySem.W.keepIn K (.ref f_law_error_of) = true)
    (a_law_all_raise : PySem.W.nsIn K mainGlobals "_law_all_raise" = some (some (.ref f_law_all_raise)))
    (l_law_all_raise : K.lookup f_law_all_raise = some ⟨oc_law_all_raise, od_law_all_raise, .func (PySem.W.fnOf "_law_all_raise" "_law_all_raise" (defArgs s_law_all_raise) (defBody s_law_all_raise) (defScope s_law_all_raise) .none kV_law_all_raise dc_law_all_raise pm_law_all_raise an_law_all_raise cd_law_all_raise ct_law_all_raise), sl_law_all_raise⟩)
    (c_law_all_raise : PySem.W.codeIn K cd_law_all_raise "_law_all_raise" = true)
    (k_law_all_raise : PySem.W.keepIn K (.ref f_law_all_raise) = true)
    (a_common_divisor : PySem.W.nsIn K mainGlobals "common_divisor" = some (some (.ref f_common_divisor)))
    (l_common_divisor : K.lookup f_common_divisor = some ⟨oc_common_divisor, od_common_divisor, .func (PySem.W.fnOf "common_divisor" "common_divisor" (defArgs s_common_divisor) (defBody s_common_divisor) (defScope s_common_divisor) .none kV_common_divisor dc_common_divisor pm_common_divisor an_common_divisor cd_common_divisor ct_common_divisor), sl_common_divisor⟩)
    (c_common_divisor : PySem.W.codeIn K cd_common_divisor "common_divisor" = true)
    (k_common_divisor : PySem.W.keepIn K (.ref f_common_divisor) = true)
    (a_is_whole : PySem.W.nsIn K mainGlobals "is_whole" = some (some (.ref f_is_whole)))
    (l_is_whole : K.lookup f_is_whole = some ⟨oc_is_whole, od_is_whole, .func (PySem.W.fnOf "is_whole" "is_whole" (defArgs s_is_whole) (defBody s_is_whole) (defScope s_is_whole) .none kV_is_whole dc_is_whole pm_is_whole an_is_whole cd_is_whole ct_is_whole), sl_is_whole⟩)
    (c_is_whole : PySem.W.codeIn K cd_is_whole "is_whole" = true)
    (k_is_whole : PySem.W.keepIn K (.ref f_is_whole) = true)
    (a_is_spot : PySem.W.nsIn K mainGlobals "is_spot" = some (some (.ref f_is_spot)))
    (l_is_spot : K.lookup f_is_spot = some ⟨oc_is_spot, od_is_spot, .func (PySem.W.fnOf "is_spot" "is_spot" (defArgs s_is_spot) (defBody s_is_spot) (defScope s_is_spot) .none kV_is_spot dc_is_spot pm_is_spot an_is_spot cd_is_spot ct_is_spot), sl_is_spot⟩)
    (c_is_spot : PySem.W.codeIn K cd_is_spot "is_spot" = true)
    (k_is_spot : PySem.W.keepIn K (.ref f_is_spot) = true)
    (a_check_spot : PySem.W.nsIn K mainGlobals "check_spot" = some (some (.ref f_check_spot)))
    (l_check_spot : K.lookup f_check_spot = some ⟨oc_check_spot, od_check_spot, .func (PySem.W.fnOf "check_spot" "check_spot" (defArgs s_check_spot) (defBody s_check_spot) (defScope s_check_spot) .none kV_check_spot dc_check_spot pm_check_spot an_check_spot cd_check_spot ct_check_spot), sl_check_spot⟩)
    (c_check_spot : PySem.W.codeIn K cd_check_spot "check_spot" = true)
    (k_check_spot : PySem.W.keepIn K (.ref f_check_spot) = true)
    (a_check_turn : PySem.W.nsIn K mainGlobals "check_turn" = some (some (.ref f_check_turn)))
    (l_check_turn : K.lookup f_check_turn = some ⟨oc_check_turn, od_check_turn, .func (PySem.W.fnOf "check_turn" "check_turn" (defArgs s_check_turn) (defBody s_check_turn) (defScope s_check_turn) .none kV_check_turn dc_check_turn pm_check_turn an_check_turn cd_check_turn ct_check_turn), sl_check_turn⟩)
    (c_check_turn : PySem.W.codeIn K cd_check_turn "check_turn" = true)
    (k_check_turn : PySem.W.keepIn K (.ref f_check_turn) = true)
    (a_spot_at : PySem.W.nsIn K mainGlobals "spot_at" = some (some (.ref f_spot_at)))
    (l_spot_at : K.lookup f_spot_at = some ⟨oc_spot_at, od_spot_at, .func (PySem.W.fnOf "spot_at" "spot_at" (defArgs s_spot_at) (defBody s_spot_at) (defScope s_spot_at) .none kV_spot_at dc_spot_at pm_spot_at an_spot_at cd_spot_at ct_spot_at), sl_spot_at⟩)
    (c_spot_at : PySem.W.codeIn K cd_spot_at "spot_at" = true)
    (k_spot_at : PySem.W.keepIn K (.ref f_spot_at) = true)
    (a_fraction : PySem.W.nsIn K mainGlobals "fraction" = some (some (.ref f_fraction)))
    (l_fraction : K.lookup f_fraction = some ⟨oc_fraction, od_fraction, .func (PySem.W.fnOf "fraction" "fraction" (defArgs s_fraction) (defBody s_fraction) (defScope s_fraction) .none kV_fraction dc_fraction pm_fraction an_fraction cd_fraction ct_fraction), sl_fraction⟩)
    (c_fraction : PySem.W.codeIn K cd_fraction "fraction" = true)
    (k_fraction : PySem.W.keepIn K (.ref f_fraction) = true)
    (a_plus : PySem.W.nsIn K mainGlobals "plus" = some (some (.ref f_plus)))
    (l_plus : K.lookup f_plus = some ⟨oc_plus, od_plus, .func (PySem.W.fnOf "plus" "plus" (defArgs s_plus) (defBody s_plus) (defScope s_plus) .none kV_plus dc_plus pm_plus an_plus cd_plus ct_plus), sl_plus⟩)
    (c_plus : PySem.W.codeIn K cd_plus "plus" = true)
    (k_plus : PySem.W.keepIn K (.ref f_plus) = true)
    (a_negative : PySem.W.nsIn K mainGlobals "negative" = some (some (.ref f_negative)))
    (l_negative : K.lookup f_negative = some ⟨oc_negative, od_negative, .func (PySem.W.fnOf "negative" "negative" (defArgs s_negative) (defBody s_negative) (defScope s_negative) .none kV_negative dc_negative pm_negative an_negative cd_negative ct_negative), sl_negative⟩)
    (c_negative : PySem.W.codeIn K cd_negative "negative" = true)
    (k_negative : PySem.W.keepIn K (.ref f_negative) = true)
    (a_minus : PySem.W.nsIn K mainGlobals "minus" = some (some (.ref f_minus)))
    (l_minus : K.lookup f_minus = some ⟨oc_minus, od_minus, .func (PySem.W.fnOf "minus" "minus" (defArgs s_minus) (defBody s_minus) (defScope s_minus) .none kV_minus dc_minus pm_minus an_minus cd_minus ct_minus), sl_minus⟩)
    (c_minus : PySem.W.codeIn K cd_minus "minus" = true)
    (k_minus : PySem.W.keepIn K (.ref f_minus) = true)
    (a_product : PySem.W.nsIn K mainGlobals "product" = some (some (.ref f_product)))
    (l_product : K.lookup f_product = some ⟨oc_product, od_product, .func (PySem.W.fnOf "product" "product" (defArgs s_product) (defBody s_product) (defScope s_product) .none kV_product dc_product pm_product an_product cd_product ct_product), sl_product⟩)
    (c_product : PySem.W.codeIn K cd_product "product" = true)
    (k_product : PySem.W.keepIn K (.ref f_product) = true)
    (a_faced : PySem.W.nsIn K mainGlobals "faced" = some (some (.ref f_faced)))
    (l_faced : K.lookup f_faced = some ⟨oc_faced, od_faced, .func (PySem.W.fnOf "faced" "faced" (defArgs s_faced) (defBody s_faced) (defScope s_faced) .none kV_faced dc_faced pm_faced an_faced cd_faced ct_faced), sl_faced⟩)
    (c_faced : PySem.W.codeIn K cd_faced "faced" = true)
    (k_faced : PySem.W.keepIn K (.ref f_faced) = true)
    (a_carried : PySem.W.nsIn K mainGlobals "carried" = some (some (.ref f_carried)))
    (l_carried : K.lookup f_carried = some ⟨oc_carried, od_carried, .func (PySem.W.fnOf "carried" "carried" (defArgs s_carried) (defBody s_carried) (defScope s_carried) .none kV_carried dc_carried pm_carried an_carried cd_carried ct_carried), sl_carried⟩)
    (c_carried : PySem.W.codeIn K cd_carried "carried" = true)
    (k_carried : PySem.W.keepIn K (.ref f_carried) = true)
    (a_square_between : PySem.W.nsIn K mainGlobals "square_between" = some (some (.ref f_square_between)))
    (l_square_between : K.lookup f_square_between = some ⟨oc_square_between, od_square_between, .func (PySem.W.fnOf "square_between" "square_between" (defArgs s_square_between) (defBody s_square_between) (defScope s_square_between) .none kV_square_between dc_square_between pm_square_between an_square_between cd_square_between ct_square_between), sl_square_between⟩)
    (c_square_between : PySem.W.codeIn K cd_square_between "square_between" = true)
    (k_square_between : PySem.W.keepIn K (.ref f_square_between) = true)
    (a_is_from_to : PySem.W.nsIn K mainGlobals "is_from_to" = some (some (.ref f_is_from_to)))
    (l_is_from_to : K.lookup f_is_from_to = some ⟨oc_is_from_to, od_is_from_to, .func (PySem.W.fnOf "is_from_to" "is_from_to" (defArgs s_is_from_to) (defBody s_is_from_to) (defScope s_is_from_to) .none kV_is_from_to dc_is_from_to pm_is_from_to an_is_from_to cd_is_from_to ct_is_from_to), sl_is_from_to⟩)
    (c_is_from_to : PySem.W.codeIn K cd_is_from_to "is_from_to" = true)
    (k_is_from_to : PySem.W.keepIn K (.ref f_is_from_to) = true)
    (aC : PySem.W.nsIn K mainGlobals "Copy" = some (some (.ref C)))
    (inI : PySem.W.findIn K (.ref C) "__init__" = some (some (.ref f_Copy___init__)))
    (l_Copy___init__ : K.lookup f_Copy___init__ = some ⟨oc_Copy___init__, od_Copy___init__, .func (PySem.W.fnOf "__init__" "Copy.__init__" (defArgs s_Copy___init__) (defBody s_Copy___init__) (defScope s_Copy___init__) .none (.ref kD_Copy___init__) dc_Copy___init__ pm_Copy___init__ an_Copy___init__ cd_Copy___init__ ct_Copy___init__), sl_Copy___init__⟩)
    (c_Copy___init__ : PySem.W.codeIn K cd_Copy___init__ "Copy.__init__" = true)
    (k_Copy___init__ : PySem.W.keepIn K (.ref f_Copy___init__) = true)
    (kw_init : PySem.W.nsIn K kD_Copy___init__ "mirrored" = some (some (.bool false)))
    (pg : PySem.W.plainGet K C Str.empty = true)
    (hdC : PySem.W.hasDictIn K C = true)
    (po : PySem.W.plainOver K C = true)
    (sa : PySem.W.findIn K (.ref C) "__setattr__" = some (some (.builtin "object.__setattr__")))
    (mkC : PySem.W.makesIn K C = true)
    (kc : PySem.W.keepIn K (.ref C) = true)
    (isI : PySem.W.isFn K (.ref f_Copy___init__) = true)
    (nF : PySem.W.findIn K (.ref C) "factor" = some none)
    (nO : PySem.W.findIn K (.ref C) "offset" = some none)
    (nL : PySem.W.findIn K (.ref C) "flips" = some none)
    (ha : PySem.W.findIn K (.ref C) "__class__" = some (some (.builtin "object.__class__")))
    (hn : PySem.W.specialIn K (.builtin "object.__class__") "__get__" = some (some (.builtin "getset_descriptor.__get__")))
    (htk : PySem.W.takesIn K (.builtin "object.__class__") = some true)
    (hmo : PySem.W.mroIn K C (.type "object") = some true)
    (sf : PySem.W.selfFirst K C = true)
    (a_Copy___call__ : PySem.W.findIn K (.ref C) "__call__" = some (some (.ref f_Copy___call__)))
    (i_Copy___call__ : PySem.W.isFn K (.ref f_Copy___call__) = true)
    (l_Copy___call__ : K.lookup f_Copy___call__ = some ⟨oc_Copy___call__, od_Copy___call__, .func (PySem.W.fnOf "__call__" "Copy.__call__" (defArgs s_Copy___call__) (defBody s_Copy___call__) (defScope s_Copy___call__) .none kV_Copy___call__ dc_Copy___call__ pm_Copy___call__ an_Copy___call__ cd_Copy___call__ ct_Copy___call__), sl_Copy___call__⟩)
    (c_Copy___call__ : PySem.W.codeIn K cd_Copy___call__ "Copy.__call__" = true)
    (k_Copy___call__ : PySem.W.keepIn K (.ref f_Copy___call__) = true)
    (fi_call : PySem.W.fnIn K f_Copy___call__ = true)
    (a_Copy_turn : PySem.W.findIn K (.ref C) "turn" = some (some (.ref q_Copy_turn)))
    (g_Copy_turn : PySem.W.specialIn K (.ref q_Copy_turn) "__get__" = some (some (.builtin "property.__get__")))
    (t_Copy_turn : PySem.W.takesIn K (.ref q_Copy_turn) = some true)
    (r_Copy_turn : PySem.W.recIn K q_Copy_turn "property" = some (.ref f_Copy_turn :: rs_Copy_turn))
    (l_Copy_turn : K.lookup f_Copy_turn = some ⟨oc_Copy_turn, od_Copy_turn, .func (PySem.W.fnOf "turn" "Copy.turn" (defArgs s_Copy_turn) (defBody s_Copy_turn) (defScope s_Copy_turn) .none kV_Copy_turn dc_Copy_turn pm_Copy_turn an_Copy_turn cd_Copy_turn ct_Copy_turn), sl_Copy_turn⟩)
    (c_Copy_turn : PySem.W.codeIn K cd_Copy_turn "Copy.turn" = true)
    (k_Copy_turn : PySem.W.keepIn K (.ref f_Copy_turn) = true)
    (a_Copy_shift : PySem.W.findIn K (.ref C) "shift" = some (some (.ref q_Copy_shift)))
    (g_Copy_shift : PySem.W.specialIn K (.ref q_Copy_shift) "__get__" = some (some (.builtin "property.__get__")))
    (t_Copy_shift : PySem.W.takesIn K (.ref q_Copy_shift) = some true)
    (r_Copy_shift : PySem.W.recIn K q_Copy_shift "property" = some (.ref f_Copy_shift :: rs_Copy_shift))
    (l_Copy_shift : K.lookup f_Copy_shift = some ⟨oc_Copy_shift, od_Copy_shift, .func (PySem.W.fnOf "shift" "Copy.shift" (defArgs s_Copy_shift) (defBody s_Copy_shift) (defScope s_Copy_shift) .none kV_Copy_shift dc_Copy_shift pm_Copy_shift an_Copy_shift cd_Copy_shift ct_Copy_shift), sl_Copy_shift⟩)
    (c_Copy_shift : PySem.W.codeIn K cd_Copy_shift "Copy.shift" = true)
    (k_Copy_shift : PySem.W.keepIn K (.ref f_Copy_shift) = true)
    (a_Copy_mirrored : PySem.W.findIn K (.ref C) "mirrored" = some (some (.ref q_Copy_mirrored)))
    (g_Copy_mirrored : PySem.W.specialIn K (.ref q_Copy_mirrored) "__get__" = some (some (.builtin "property.__get__")))
    (t_Copy_mirrored : PySem.W.takesIn K (.ref q_Copy_mirrored) = some true)
    (r_Copy_mirrored : PySem.W.recIn K q_Copy_mirrored "property" = some (.ref f_Copy_mirrored :: rs_Copy_mirrored))
    (l_Copy_mirrored : K.lookup f_Copy_mirrored = some ⟨oc_Copy_mirrored, od_Copy_mirrored, .func (PySem.W.fnOf "mirrored" "Copy.mirrored" (defArgs s_Copy_mirrored) (defBody s_Copy_mirrored) (defScope s_Copy_mirrored) .none kV_Copy_mirrored dc_Copy_mirrored pm_Copy_mirrored an_Copy_mirrored cd_Copy_mirrored ct_Copy_mirrored), sl_Copy_mirrored⟩)
    (c_Copy_mirrored : PySem.W.codeIn K cd_Copy_mirrored "Copy.mirrored" = true)
    (k_Copy_mirrored : PySem.W.keepIn K (.ref f_Copy_mirrored) = true)
    (a_check_reach : PySem.W.nsIn K mainGlobals "check_reach" = some (some (.ref f_check_reach)))
    (l_check_reach : K.lookup f_check_reach = some ⟨oc_check_reach, od_check_reach, .func (PySem.W.fnOf "check_reach" "check_reach" (defArgs s_check_reach) (defBody s_check_reach) (defScope s_check_reach) .none kV_check_reach dc_check_reach pm_check_reach an_check_reach cd_check_reach ct_check_reach), sl_check_reach⟩)
    (c_check_reach : PySem.W.codeIn K cd_check_reach "check_reach" = true)
    (k_check_reach : PySem.W.keepIn K (.ref f_check_reach) = true)
    (a_copy_around : PySem.W.nsIn K mainGlobals "copy_around" = some (some (.ref f_copy_around)))
    (l_copy_around : K.lookup f_copy_around = some ⟨oc_copy_around, od_copy_around, .func (PySem.W.fnOf "copy_around" "copy_around" (defArgs s_copy_around) (defBody s_copy_around) (defScope s_copy_around) .none kV_copy_around dc_copy_around pm_copy_around an_copy_around cd_copy_around ct_copy_around), sl_copy_around⟩)
    (c_copy_around : PySem.W.codeIn K cd_copy_around "copy_around" = true)
    (k_copy_around : PySem.W.keepIn K (.ref f_copy_around) = true)
    (aCA : PySem.W.nsIn K mainGlobals "Arm" = some (some (.ref CA)))
    (inCA : PySem.W.findIn K (.ref CA) "__init__" = some (some (.ref f_Arm___init__)))
    (l_Arm___init__ : K.lookup f_Arm___init__ = some ⟨oc_Arm___init__, od_Arm___init__, .func (PySem.W.fnOf "__init__" "Arm.__init__" (defArgs s_Arm___init__) (defBody s_Arm___init__) (defScope s_Arm___init__) .none (.ref kD_Arm___init__) dc_Arm___init__ pm_Arm___init__ an_Arm___init__ cd_Arm___init__ ct_Arm___init__), sl_Arm___init__⟩)
    (c_Arm___init__ : PySem.W.codeIn K cd_Arm___init__ "Arm.__init__" = true)
    (k_Arm___init__ : PySem.W.keepIn K (.ref f_Arm___init__) = true)
    (kw_A : PySem.W.nsIn K kD_Arm___init__ "mirrored" = some (some (.bool false)))
    (pgCA : PySem.W.plainGet K CA Str.empty = true)
    (hdCA : PySem.W.hasDictIn K CA = true)
    (poCA : PySem.W.plainOver K CA = true)
    (saCA : PySem.W.findIn K (.ref CA) "__setattr__" = some (some (.builtin "object.__setattr__")))
    (mkCA : PySem.W.makesIn K CA = true)
    (kcCA : PySem.W.keepIn K (.ref CA) = true)
    (isCA : PySem.W.isFn K (.ref f_Arm___init__) = true)
    (nCA_centre : PySem.W.findIn K (.ref CA) "centre" = some none)
    (nCA_factor : PySem.W.findIn K (.ref CA) "factor" = some none)
    (nCA_least : PySem.W.findIn K (.ref CA) "least" = some none)
    (nCA_most : PySem.W.findIn K (.ref CA) "most" = some none)
    (nCA_flips : PySem.W.findIn K (.ref CA) "flips" = some none)
    (nCA_pen : PySem.W.findIn K (.ref CA) "pen" = some none)
    (haA : PySem.W.findIn K (.ref CA) "__class__" = some (some (.builtin "object.__class__")))
    (hmA : PySem.W.mroIn K CA (.type "object") = some true)
    (a_Arm_pole : PySem.W.findIn K (.ref CA) "pole" = some (some (.ref q_Arm_pole)))
    (g_Arm_pole : PySem.W.specialIn K (.ref q_Arm_pole) "__get__" = some (some (.builtin "property.__get__")))
    (t_Arm_pole : PySem.W.takesIn K (.ref q_Arm_pole) = some true)
    (r_Arm_pole : PySem.W.recIn K q_Arm_pole "property" = some (.ref f_Arm_pole :: rs_Arm_pole))
    (l_Arm_pole : K.lookup f_Arm_pole = some ⟨oc_Arm_pole, od_Arm_pole, .func (PySem.W.fnOf "pole" "Arm.pole" (defArgs s_Arm_pole) (defBody s_Arm_pole) (defScope s_Arm_pole) .none kV_Arm_pole dc_Arm_pole pm_Arm_pole an_Arm_pole cd_Arm_pole ct_Arm_pole), sl_Arm_pole⟩)
    (c_Arm_pole : PySem.W.codeIn K cd_Arm_pole "Arm.pole" = true)
    (k_Arm_pole : PySem.W.keepIn K (.ref f_Arm_pole) = true)
    (a_Arm_turn : PySem.W.findIn K (.ref CA) "turn" = some (some (.ref q_Arm_turn)))
    (g_Arm_turn : PySem.W.specialIn K (.ref q_Arm_turn) "__get__" = some (some (.builtin "property.__get__")))
    (t_Arm_turn : PySem.W.takesIn K (.ref q_Arm_turn) = some true)
    (r_Arm_turn : PySem.W.recIn K q_Arm_turn "property" = some (.ref f_Arm_turn :: rs_Arm_turn))
    (l_Arm_turn : K.lookup f_Arm_turn = some ⟨oc_Arm_turn, od_Arm_turn, .func (PySem.W.fnOf "turn" "Arm.turn" (defArgs s_Arm_turn) (defBody s_Arm_turn) (defScope s_Arm_turn) .none kV_Arm_turn dc_Arm_turn pm_Arm_turn an_Arm_turn cd_Arm_turn ct_Arm_turn), sl_Arm_turn⟩)
    (c_Arm_turn : PySem.W.codeIn K cd_Arm_turn "Arm.turn" = true)
    (k_Arm_turn : PySem.W.keepIn K (.ref f_Arm_turn) = true)
    (a_Arm_near : PySem.W.findIn K (.ref CA) "near" = some (some (.ref q_Arm_near)))
    (g_Arm_near : PySem.W.specialIn K (.ref q_Arm_near) "__get__" = some (some (.builtin "property.__get__")))
    (t_Arm_near : PySem.W.takesIn K (.ref q_Arm_near) = some true)
    (r_Arm_near : PySem.W.recIn K q_Arm_near "property" = some (.ref f_Arm_near :: rs_Arm_near))
    (l_Arm_near : K.lookup f_Arm_near = some ⟨oc_Arm_near, od_Arm_near, .func (PySem.W.fnOf "near" "Arm.near" (defArgs s_Arm_near) (defBody s_Arm_near) (defScope s_Arm_near) .none kV_Arm_near dc_Arm_near pm_Arm_near an_Arm_near cd_Arm_near ct_Arm_near), sl_Arm_near⟩)
    (c_Arm_near : PySem.W.codeIn K cd_Arm_near "Arm.near" = true)
    (k_Arm_near : PySem.W.keepIn K (.ref f_Arm_near) = true)
    (a_Arm_far : PySem.W.findIn K (.ref CA) "far" = some (some (.ref q_Arm_far)))
    (g_Arm_far : PySem.W.specialIn K (.ref q_Arm_far) "__get__" = some (some (.builtin "property.__get__")))
    (t_Arm_far : PySem.W.takesIn K (.ref q_Arm_far) = some true)
    (r_Arm_far : PySem.W.recIn K q_Arm_far "property" = some (.ref f_Arm_far :: rs_Arm_far))
    (l_Arm_far : K.lookup f_Arm_far = some ⟨oc_Arm_far, od_Arm_far, .func (PySem.W.fnOf "far" "Arm.far" (defArgs s_Arm_far) (defBody s_Arm_far) (defScope s_Arm_far) .none kV_Arm_far dc_Arm_far pm_Arm_far an_Arm_far cd_Arm_far ct_Arm_far), sl_Arm_far⟩)
    (c_Arm_far : PySem.W.codeIn K cd_Arm_far "Arm.far" = true)
    (k_Arm_far : PySem.W.keepIn K (.ref f_Arm_far) = true)
    (a_Arm_mirrored : PySem.W.findIn K (.ref CA) "mirrored" = some (some (.ref q_Arm_mirrored)))
    (g_Arm_mirrored : PySem.W.specialIn K (.ref q_Arm_mirrored) "__get__" = some (some (.builtin "property.__get__")))
    (t_Arm_mirrored : PySem.W.takesIn K (.ref q_Arm_mirrored) = some true)
    (r_Arm_mirrored : PySem.W.recIn K q_Arm_mirrored "property" = some (.ref f_Arm_mirrored :: rs_Arm_mirrored))
    (l_Arm_mirrored : K.lookup f_Arm_mirrored = some ⟨oc_Arm_mirrored, od_Arm_mirrored, .func (PySem.W.fnOf "mirrored" "Arm.mirrored" (defArgs s_Arm_mirrored) (defBody s_Arm_mirrored) (defScope s_Arm_mirrored) .none kV_Arm_mirrored dc_Arm_mirrored pm_Arm_mirrored an_Arm_mirrored cd_Arm_mirrored ct_Arm_mirrored), sl_Arm_mirrored⟩)
    (c_Arm_mirrored : PySem.W.codeIn K cd_Arm_mirrored "Arm.mirrored" = true)
    (k_Arm_mirrored : PySem.W.keepIn K (.ref f_Arm_mirrored) = true)
    (a_Arm_effect : PySem.W.findIn K (.ref CA) "effect" = some (some (.ref q_Arm_effect)))
    (g_Arm_effect : PySem.W.specialIn K (.ref q_Arm_effect) "__get__" = some (some (.builtin "property.__get__")))
    (t_Arm_effect : PySem.W.takesIn K (.ref q_Arm_effect) = some true)
    (r_Arm_effect : PySem.W.recIn K q_Arm_effect "property" = some (.ref f_Arm_effect :: rs_Arm_effect))
    (l_Arm_effect : K.lookup f_Arm_effect = some ⟨oc_Arm_effect, od_Arm_effect, .func (PySem.W.fnOf "effect" "Arm.effect" (defArgs s_Arm_effect) (defBody s_Arm_effect) (defScope s_Arm_effect) .none kV_Arm_effect dc_Arm_effect pm_Arm_effect an_Arm_effect cd_Arm_effect ct_Arm_effect), sl_Arm_effect⟩)
    (c_Arm_effect : PySem.W.codeIn K cd_Arm_effect "Arm.effect" = true)
    (k_Arm_effect : PySem.W.keepIn K (.ref f_Arm_effect) = true)
    (a_Arm___eq__ : PySem.W.findIn K (.ref CA) "__eq__" = some (some (.ref f_Arm___eq__)))
    (i_Arm___eq__ : PySem.W.isFn K (.ref f_Arm___eq__) = true)
    (l_Arm___eq__ : K.lookup f_Arm___eq__ = some ⟨oc_Arm___eq__, od_Arm___eq__, .func (PySem.W.fnOf "__eq__" "Arm.__eq__" (defArgs s_Arm___eq__) (defBody s_Arm___eq__) (defScope s_Arm___eq__) .none kV_Arm___eq__ dc_Arm___eq__ pm_Arm___eq__ an_Arm___eq__ cd_Arm___eq__ ct_Arm___eq__), sl_Arm___eq__⟩)
    (c_Arm___eq__ : PySem.W.codeIn K cd_Arm___eq__ "Arm.__eq__" = true)
    (k_Arm___eq__ : PySem.W.keepIn K (.ref f_Arm___eq__) = true)
    (a_Arm_reaches : PySem.W.findIn K (.ref CA) "reaches" = some (some (.ref f_Arm_reaches)))
    (i_Arm_reaches : PySem.W.isFn K (.ref f_Arm_reaches) = true)
    (l_Arm_reaches : K.lookup f_Arm_reaches = some ⟨oc_Arm_reaches, od_Arm_reaches, .func (PySem.W.fnOf "reaches" "Arm.reaches" (defArgs s_Arm_reaches) (defBody s_Arm_reaches) (defScope s_Arm_reaches) .none kV_Arm_reaches dc_Arm_reaches pm_Arm_reaches an_Arm_reaches cd_Arm_reaches ct_Arm_reaches), sl_Arm_reaches⟩)
    (c_Arm_reaches : PySem.W.codeIn K cd_Arm_reaches "Arm.reaches" = true)
    (k_Arm_reaches : PySem.W.keepIn K (.ref f_Arm_reaches) = true)
    (kiA : PySem.W.kitOne K (.ref C) (.ref CA) = some false)
    (nfA : PySem.W.notFirst K CA (.ref C) = true)
    (a_law_random : PySem.W.nsIn K mainGlobals "_law_random" = some (some (.ref f_law_random)))
    (l_law_random : K.lookup f_law_random = some ⟨oc_law_random, od_law_random, .func (PySem.W.fnOf "_law_random" "_law_random" (defArgs s_law_random) (defBody s_law_random) (defScope s_law_random) .none kV_law_random dc_law_random pm_law_random an_law_random cd_law_random ct_law_random), sl_law_random⟩)
    (c_law_random : PySem.W.codeIn K cd_law_random "_law_random" = true)
    (k_law_random : PySem.W.keepIn K (.ref f_law_random) = true)
    (a_law_below : PySem.W.nsIn K mainGlobals "_law_below" = some (some (.ref f_law_below)))
    (l_law_below : K.lookup f_law_below = some ⟨oc_law_below, od_law_below, .func (PySem.W.fnOf "_law_below" "_law_below" (defArgs s_law_below) (defBody s_law_below) (defScope s_law_below) .none kV_law_below dc_law_below pm_law_below an_law_below cd_law_below ct_law_below), sl_law_below⟩)
    (c_law_below : PySem.W.codeIn K cd_law_below "_law_below" = true)
    (k_law_below : PySem.W.keepIn K (.ref f_law_below) = true)
    (a_law_step : PySem.W.nsIn K mainGlobals "_law_step" = some (some (.ref f_law_step)))
    (l_law_step : K.lookup f_law_step = some ⟨oc_law_step, od_law_step, .func (PySem.W.fnOf "_law_step" "_law_step" (defArgs s_law_step) (defBody s_law_step) (defScope s_law_step) .none kV_law_step dc_law_step pm_law_step an_law_step cd_law_step ct_law_step), sl_law_step⟩)
    (c_law_step : PySem.W.codeIn K cd_law_step "_law_step" = true)
    (k_law_step : PySem.W.keepIn K (.ref f_law_step) = true)
    (a_law_turn : PySem.W.nsIn K mainGlobals "_law_turn" = some (some (.ref f_law_turn)))
    (l_law_turn : K.lookup f_law_turn = some ⟨oc_law_turn, od_law_turn, .func (PySem.W.fnOf "_law_turn" "_law_turn" (defArgs s_law_turn) (defBody s_law_turn) (defScope s_law_turn) .none kV_law_turn dc_law_turn pm_law_turn an_law_turn cd_law_turn ct_law_turn), sl_law_turn⟩)
    (c_law_turn : PySem.W.codeIn K cd_law_turn "_law_turn" = true)
    (k_law_turn : PySem.W.keepIn K (.ref f_law_turn) = true)
    (a_law_common : PySem.W.nsIn K mainGlobals "_law_common" = some (some (.ref f_law_common)))
    (l_law_common : K.lookup f_law_common = some ⟨oc_law_common, od_law_common, .func (PySem.W.fnOf "_law_common" "_law_common" (defArgs s_law_common) (defBody s_law_common) (defScope s_law_common) .none kV_law_common dc_law_common pm_law_common an_law_common cd_law_common ct_law_common), sl_law_common⟩)
    (c_law_common : PySem.W.codeIn K cd_law_common "_law_common" = true)
    (k_law_common : PySem.W.keepIn K (.ref f_law_common) = true)
    (a_law_lowest : PySem.W.nsIn K mainGlobals "_law_lowest" = some (some (.ref f_law_lowest)))
    (l_law_lowest : K.lookup f_law_lowest = some ⟨oc_law_lowest, od_law_lowest, .func (PySem.W.fnOf "_law_lowest" "_law_lowest" (defArgs s_law_lowest) (defBody s_law_lowest) (defScope s_law_lowest) .none kV_law_lowest dc_law_lowest pm_law_lowest an_law_lowest cd_law_lowest ct_law_lowest), sl_law_lowest⟩)
    (c_law_lowest : PySem.W.codeIn K cd_law_lowest "_law_lowest" = true)
    (k_law_lowest : PySem.W.keepIn K (.ref f_law_lowest) = true)
    (a_law_spot : PySem.W.nsIn K mainGlobals "_law_spot" = some (some (.ref f_law_spot)))
    (l_law_spot : K.lookup f_law_spot = some ⟨oc_law_spot, od_law_spot, .func (PySem.W.fnOf "_law_spot" "_law_spot" (defArgs s_law_spot) (defBody s_law_spot) (defScope s_law_spot) .none kV_law_spot dc_law_spot pm_law_spot an_law_spot cd_law_spot ct_law_spot), sl_law_spot⟩)
    (c_law_spot : PySem.W.codeIn K cd_law_spot "_law_spot" = true)
    (k_law_spot : PySem.W.keepIn K (.ref f_law_spot) = true)
    (a_law_arm_told : PySem.W.nsIn K mainGlobals "_law_arm_told" = some (some (.ref f_law_arm_told)))
    (l_law_arm_told : K.lookup f_law_arm_told = some ⟨oc_law_arm_told, od_law_arm_told, .func (PySem.W.fnOf "_law_arm_told" "_law_arm_told" (defArgs s_law_arm_told) (defBody s_law_arm_told) (defScope s_law_arm_told) .none kV_law_arm_told dc_law_arm_told pm_law_arm_told an_law_arm_told cd_law_arm_told ct_law_arm_told), sl_law_arm_told⟩)
    (c_law_arm_told : PySem.W.codeIn K cd_law_arm_told "_law_arm_told" = true)
    (k_law_arm_told : PySem.W.keepIn K (.ref f_law_arm_told) = true)
    (a_law_arm : PySem.W.nsIn K mainGlobals "_law_arm" = some (some (.ref f_law_arm)))
    (l_law_arm : K.lookup f_law_arm = some ⟨oc_law_arm, od_law_arm, .func (PySem.W.fnOf "_law_arm" "_law_arm" (defArgs s_law_arm) (defBody s_law_arm) (defScope s_law_arm) .none kV_law_arm dc_law_arm pm_law_arm an_law_arm cd_law_arm ct_law_arm), sl_law_arm⟩)
    (c_law_arm : PySem.W.codeIn K cd_law_arm "_law_arm" = true)
    (k_law_arm : PySem.W.keepIn K (.ref f_law_arm) = true)
    (a_law_equal : PySem.W.nsIn K mainGlobals "_law_equal" = some (some (.ref f_law_equal)))
    (l_law_equal : K.lookup f_law_equal = some ⟨oc_law_equal, od_law_equal, .func (PySem.W.fnOf "_law_equal" "_law_equal" (defArgs s_law_equal) (defBody s_law_equal) (defScope s_law_equal) .none kV_law_equal dc_law_equal pm_law_equal an_law_equal cd_law_equal ct_law_equal), sl_law_equal⟩)
    (c_law_equal : PySem.W.codeIn K cd_law_equal "_law_equal" = true)
    (k_law_equal : PySem.W.keepIn K (.ref f_law_equal) = true)
    (a_law_shown : PySem.W.nsIn K mainGlobals "_law_shown" = some (some (.ref f_law_shown)))
    (l_law_shown : K.lookup f_law_shown = some ⟨oc_law_shown, od_law_shown, .func (PySem.W.fnOf "_law_shown" "_law_shown" (defArgs s_law_shown) (defBody s_law_shown) (defScope s_law_shown) .none kV_law_shown dc_law_shown pm_law_shown an_law_shown cd_law_shown ct_law_shown), sl_law_shown⟩)
    (c_law_shown : PySem.W.codeIn K cd_law_shown "_law_shown" = true)
    (k_law_shown : PySem.W.keepIn K (.ref f_law_shown) = true)
    (a_law_over : PySem.W.nsIn K mainGlobals "_law_over" = some (some (.ref f_law_over)))
    (l_law_over : K.lookup f_law_over = some ⟨oc_law_over, od_law_over, .func (PySem.W.fnOf "_law_over" "_law_over" (defArgs s_law_over) (defBody s_law_over) (defScope s_law_over) .none kV_law_over dc_law_over pm_law_over an_law_over cd_law_over ct_law_over), sl_law_over⟩)
    (c_law_over : PySem.W.codeIn K cd_law_over "_law_over" = true)
    (k_law_over : PySem.W.keepIn K (.ref f_law_over) = true)
    (a_law_plus : PySem.W.nsIn K mainGlobals "_law_plus" = some (some (.ref f_law_plus)))
    (l_law_plus : K.lookup f_law_plus = some ⟨oc_law_plus, od_law_plus, .func (PySem.W.fnOf "_law_plus" "_law_plus" (defArgs s_law_plus) (defBody s_law_plus) (defScope s_law_plus) .none kV_law_plus dc_law_plus pm_law_plus an_law_plus cd_law_plus ct_law_plus), sl_law_plus⟩)
    (c_law_plus : PySem.W.codeIn K cd_law_plus "_law_plus" = true)
    (k_law_plus : PySem.W.keepIn K (.ref f_law_plus) = true)
    (a_law_times : PySem.W.nsIn K mainGlobals "_law_times" = some (some (.ref f_law_times)))
    (l_law_times : K.lookup f_law_times = some ⟨oc_law_times, od_law_times, .func (PySem.W.fnOf "_law_times" "_law_times" (defArgs s_law_times) (defBody s_law_times) (defScope s_law_times) .none kV_law_times dc_law_times pm_law_times an_law_times cd_law_times ct_law_times), sl_law_times⟩)
    (c_law_times : PySem.W.codeIn K cd_law_times "_law_times" = true)
    (k_law_times : PySem.W.keepIn K (.ref f_law_times) = true)
    (a_law_minus : PySem.W.nsIn K mainGlobals "_law_minus" = some (some (.ref f_law_minus)))
    (l_law_minus : K.lookup f_law_minus = some ⟨oc_law_minus, od_law_minus, .func (PySem.W.fnOf "_law_minus" "_law_minus" (defArgs s_law_minus) (defBody s_law_minus) (defScope s_law_minus) .none kV_law_minus dc_law_minus pm_law_minus an_law_minus cd_law_minus ct_law_minus), sl_law_minus⟩)
    (c_law_minus : PySem.W.codeIn K cd_law_minus "_law_minus" = true)
    (k_law_minus : PySem.W.keepIn K (.ref f_law_minus) = true)
    (a_law_about : PySem.W.nsIn K mainGlobals "_law_about" = some (some (.ref f_law_about)))
    (l_law_about : K.lookup f_law_about = some ⟨oc_law_about, od_law_about, .func (PySem.W.fnOf "_law_about" "_law_about" (defArgs s_law_about) (defBody s_law_about) (defScope s_law_about) .none kV_law_about dc_law_about pm_law_about an_law_about cd_law_about ct_law_about), sl_law_about⟩)
    (c_law_about : PySem.W.codeIn K cd_law_about "_law_about" = true)
    (k_law_about : PySem.W.keepIn K (.ref f_law_about) = true)
    (a_law_ratio : PySem.W.nsIn K mainGlobals "_law_ratio" = some (some (.ref f_law_ratio)))
    (l_law_ratio : K.lookup f_law_ratio = some ⟨oc_law_ratio, od_law_ratio, .func (PySem.W.fnOf "_law_ratio" "_law_ratio" (defArgs s_law_ratio) (defBody s_law_ratio) (defScope s_law_ratio) .none kV_law_ratio dc_law_ratio pm_law_ratio an_law_ratio cd_law_ratio ct_law_ratio), sl_law_ratio⟩)
    (c_law_ratio : PySem.W.codeIn K cd_law_ratio "_law_ratio" = true)
    (k_law_ratio : PySem.W.keepIn K (.ref f_law_ratio) = true)
    (a_law_size : PySem.W.nsIn K mainGlobals "_law_size" = some (some (.ref f_law_size)))
    (l_law_size : K.lookup f_law_size = some ⟨oc_law_size, od_law_size, .func (PySem.W.fnOf "_law_size" "_law_size" (defArgs s_law_size) (defBody s_law_size) (defScope s_law_size) .none kV_law_size dc_law_size pm_law_size an_law_size cd_law_size ct_law_size), sl_law_size⟩)
    (c_law_size : PySem.W.codeIn K cd_law_size "_law_size" = true)
    (k_law_size : PySem.W.keepIn K (.ref f_law_size) = true)
    (a_law_less : PySem.W.nsIn K mainGlobals "_law_less" = some (some (.ref f_law_less)))
    (l_law_less : K.lookup f_law_less = some ⟨oc_law_less, od_law_less, .func (PySem.W.fnOf "_law_less" "_law_less" (defArgs s_law_less) (defBody s_law_less) (defScope s_law_less) .none kV_law_less dc_law_less pm_law_less an_law_less cd_law_less ct_law_less), sl_law_less⟩)
    (c_law_less : PySem.W.codeIn K cd_law_less "_law_less" = true)
    (k_law_less : PySem.W.keepIn K (.ref f_law_less) = true)
    (a_law_reached : PySem.W.nsIn K mainGlobals "_law_reached" = some (some (.ref f_law_reached)))
    (l_law_reached : K.lookup f_law_reached = some ⟨oc_law_reached, od_law_reached, .func (PySem.W.fnOf "_law_reached" "_law_reached" (defArgs s_law_reached) (defBody s_law_reached) (defScope s_law_reached) .none kV_law_reached dc_law_reached pm_law_reached an_law_reached cd_law_reached ct_law_reached), sl_law_reached⟩)
    (c_law_reached : PySem.W.codeIn K cd_law_reached "_law_reached" = true)
    (k_law_reached : PySem.W.keepIn K (.ref f_law_reached) = true)
    (a_law : PySem.W.nsIn K mainGlobals "law" = some (some (.ref f_law)))
    (l_law : K.lookup f_law = some ⟨oc_law, od_law, .func (PySem.W.fnOf "law" "law" (defArgs s_law) (defBody s_law) (defScope s_law) .none kV_law dc_law pm_law an_law (.ref cL) ct_law), sl_law⟩)
    (c_law : PySem.W.codeIn K (.ref cL) "law" = true)
    (q_law : K.lookup cL = some ⟨oq_law, dq_law, .fields vq_law, sq_law⟩)
    (v_law : vq_law[11]? = some (.ref PL))
    (n_law : K.lookup PL = none)
    (h_law : PySem.W.codeHdIn K cL PL = true)
    : LawAtS l w K CX0 12 63 "_law_script" mg fa h := by
  have e := hfa.symm.trans (PySem.W.mg_of X G a_law)
  cases e
  have b_abs := PySem.W.mg_none_of X G z_abs
  have b_len := PySem.W.mg_none_of X G z_len
  have b_isinstance := PySem.W.mg_none_of X G z_isinstance
  have b_int := PySem.W.mg_none_of X G z_int
  have b_bool := PySem.W.mg_none_of X G z_bool
  have b_str := PySem.W.mg_none_of X G z_str
  have b_tuple := PySem.W.mg_none_of X G z_tuple
  have b_list := PySem.W.mg_none_of X G z_list
  have b_all := PySem.W.mg_none_of X G z_all
  have b_range := PySem.W.mg_none_of X G z_range
  have b_ValueError := PySem.W.mg_none_of X G z_ValueError
  have m_MIDDLE := PySem.W.mg_of X G m_MIDDLE
  have t_MIDDLE : ∀ H, SqT K H a_tMIDDLE (v3 (0, 0, 1)) := fun H => .inr ⟨_, _, _, u_MIDDLE, rfl, rfl, (by show 3 ≤ sizeLine; decide), .cons ⟨_, rfl⟩ (.cons ⟨_, rfl⟩ (.cons ⟨_, rfl⟩ .nil))⟩
  have m_MOST_REACH := PySem.W.mg_of X G mi_MOST_REACH
  have m_B := PySem.W.mg_of X G g_CB
  have ER : Errs K mg CB (fun j => [e0, e1, e2, e3, e4, e5, e6, e7, e8, e9, e10, e11, e12, e13, e14, e15, e16, e17, e18, e19].getD j 0) [0, 1, 6] := ⟨fun j x h => match j, h with
    | 0, h => by cases h; exact PySem.W.mg_of X G ge_0
    | 1, h => by cases h; exact PySem.W.mg_of X G ge_1
    | 2, h => by cases h; exact PySem.W.mg_of X G ge_2
    | 3, h => by cases h; exact PySem.W.mg_of X G ge_3
    | 4, h => by cases h; exact PySem.W.mg_of X G ge_4
    | 5, h => by cases h; exact PySem.W.mg_of X G ge_5
    | 6, h => by cases h; exact PySem.W.mg_of X G ge_6
    | 7, h => by cases h; exact PySem.W.mg_of X G ge_7
    | 8, h => by cases h; exact PySem.W.mg_of X G ge_8
    | 9, h => by cases h; exact PySem.W.mg_of X G ge_9
    | 10, h => by cases h; exact PySem.W.mg_of X G ge_10
    | 11, h => by cases h; exact PySem.W.mg_of X G ge_11
    | 12, h => by cases h; exact PySem.W.mg_of X G ge_12
    | 13, h => by cases h; exact PySem.W.mg_of X G ge_13
    | 14, h => by cases h; exact PySem.W.mg_of X G ge_14
    | 15, h => by cases h; exact PySem.W.mg_of X G ge_15
    | 16, h => by cases h; exact PySem.W.mg_of X G ge_16
    | 17, h => by cases h; exact PySem.W.mg_of X G ge_17
    | 18, h => by cases h; exact PySem.W.mg_of X G ge_18
    | 19, h => by cases h; exact PySem.W.mg_of X G ge_19
    | (k + 20), h => by simp [eCls] at h,
  fun n hn => by
    simp only [List.mem_cons, List.mem_nil_iff, or_false] at hn
    rcases hn with rfl | rfl | rfl
    · exact ⟨xg_0, xk_0, xs_0, xd_0, xa_0, xc_n, xc_t, xm_0⟩
    · exact ⟨xg_1, xk_1, xs_1, xd_1, xa_1, xc_n, xc_t, xm_1⟩
    · exact ⟨xg_6, xk_6, xs_6, xd_6, xa_6, xc_n, xc_t, xm_6⟩,
  fun n j hn hj => by
    simp only [List.mem_cons, List.mem_nil_iff, or_false] at hn
    rcases hn with rfl | rfl | rfl
    · exact match j, hj with
      | 0, _ => kt_0_0
      | 1, _ => kt_0_1
      | 2, _ => kt_0_2
      | 3, _ => kt_0_3
      | 4, _ => kt_0_4
      | 5, _ => kt_0_5
      | 6, _ => kt_0_6
      | 7, _ => kt_0_7
      | 8, _ => kt_0_8
      | 9, _ => kt_0_9
      | 10, _ => kt_0_10
      | 11, _ => kt_0_11
      | 12, _ => kt_0_12
      | 13, _ => kt_0_13
      | 14, _ => kt_0_14
      | 15, _ => kt_0_15
      | 16, _ => kt_0_16
      | 17, _ => kt_0_17
      | 18, _ => kt_0_18
      | 19, _ => kt_0_19
      | (k + 20), h => absurd h (by omega)
    · exact match j, hj with
      | 0, _ => kt_1_0
      | 1, _ => kt_1_1
      | 2, _ => kt_1_2
      | 3, _ => kt_1_3
      | 4, _ => kt_1_4
      | 5, _ => kt_1_5
      | 6, _ => kt_1_6
      | 7, _ => kt_1_7
      | 8, _ => kt_1_8
      | 9, _ => kt_1_9
      | 10, _ => kt_1_10
      | 11, _ => kt_1_11
      | 12, _ => kt_1_12
      | 13, _ => kt_1_13
      | 14, _ => kt_1_14
      | 15, _ => kt_1_15
      | 16, _ => kt_1_16
      | 17, _ => kt_1_17
      | 18, _ => kt_1_18
      | 19, _ => kt_1_19
      | (k + 20), h => absurd h (by omega)
    · exact match j, hj with
      | 0, _ => kt_6_0
      | 1, _ => kt_6_1
      | 2, _ => kt_6_2
      | 3, _ => kt_6_3
      | 4, _ => kt_6_4
      | 5, _ => kt_6_5
      | 6, _ => kt_6_6
      | 7, _ => kt_6_7
      | 8, _ => kt_6_8
      | 9, _ => kt_6_9
      | 10, _ => kt_6_10
      | 11, _ => kt_6_11
      | 12, _ => kt_6_12
      | 13, _ => kt_6_13
      | 14, _ => kt_6_14
      | 15, _ => kt_6_15
      | 16, _ => kt_6_16
      | 17, _ => kt_6_17
      | 18, _ => kt_6_18
      | 19, _ => kt_6_19
      | (k + 20), h => absurd h (by omega),
  fun n hn => by
    simp only [List.mem_cons, List.mem_nil_iff, or_false] at hn
    rcases hn with rfl | rfl | rfl
    · exact kv_0
    · exact kv_1
    · exact kv_6,
  fun n hn => by
    simp only [List.mem_cons, List.mem_nil_iff, or_false] at hn
    rcases hn with rfl | rfl | rfl
    · exact xx_0
    · exact xx_1
    · exact xx_6,
  fun n hn => by
    simp only [List.mem_cons, List.mem_nil_iff, or_false] at hn
    rcases hn with rfl | rfl | rfl
    · decide
    · decide
    · decide⟩
  have X_InvalidSpot : ExX K mg "InvalidSpot" e0 := ⟨xq_0, xp_0, xs_0, xt_0, PySem.W.mg_of X G ge_0⟩
  have X_InvalidTurn : ExX K mg "InvalidTurn" e1 := ⟨xq_1, xp_1, xs_1, xt_1, PySem.W.mg_of X G ge_1⟩
  have X_InvalidReach : ExX K mg "InvalidReach" e6 := ⟨xq_6, xp_6, xs_6, xt_6, PySem.W.mg_of X G ge_6⟩
  have F_law_error_of := fun_mk (st := s_law_error_of) l_law_error_of c_law_error_of k_law_error_of
  have B_law_error_of := F_law_error_of.binds (ps := ["_law_call"]) fun _ _ _ _ _ _ us hl => match us, hl with | [_], _ => rfl
  have m_E := PySem.W.mg_of X G a_law_error_of
  have F_law_all_raise := fun_mk (st := s_law_all_raise) l_law_all_raise c_law_all_raise k_law_all_raise
  have B_law_all_raise := F_law_all_raise.binds (ps := ["_law_calls", "_law_expected"]) fun _ _ _ _ _ _ us hl => match us, hl with | [_, _], _ => rfl
  have m_law_all_raise := PySem.W.mg_of X G a_law_all_raise
  have F_common_divisor := fun_mk (st := s_common_divisor) l_common_divisor c_common_divisor k_common_divisor
  have B_common_divisor := F_common_divisor.binds (ps := ["one", "other"]) fun _ _ _ _ _ _ us hl => match us, hl with | [_, _], _ => rfl
  have F_is_whole := fun_mk (st := s_is_whole) l_is_whole c_is_whole k_is_whole
  have B_is_whole := F_is_whole.binds (ps := ["value"]) fun _ _ _ _ _ _ us hl => match us, hl with | [_], _ => rfl
  have F_is_spot := fun_mk (st := s_is_spot) l_is_spot c_is_spot k_is_spot
  have B_is_spot := F_is_spot.binds (ps := ["value"]) fun _ _ _ _ _ _ us hl => match us, hl with | [_], _ => rfl
  have F_check_spot := fun_mk (st := s_check_spot) l_check_spot c_check_spot k_check_spot
  have B_check_spot := F_check_spot.binds (ps := ["value"]) fun _ _ _ _ _ _ us hl => match us, hl with | [_], _ => rfl
  have F_check_turn := fun_mk (st := s_check_turn) l_check_turn c_check_turn k_check_turn
  have B_check_turn := F_check_turn.binds (ps := ["value"]) fun _ _ _ _ _ _ us hl => match us, hl with | [_], _ => rfl
  have F_spot_at := fun_mk (st := s_spot_at) l_spot_at c_spot_at k_spot_at
  have B_spot_at := F_spot_at.binds (ps := ["x", "y", "d"]) fun _ _ _ _ _ _ us hl => match us, hl with | [_, _, _], _ => rfl
  have F_fraction := fun_mk (st := s_fraction) l_fraction c_fraction k_fraction
  have B_fraction := F_fraction.binds (ps := ["p", "q"]) fun _ _ _ _ _ _ us hl => match us, hl with | [_, _], _ => rfl
  have F_plus := fun_mk (st := s_plus) l_plus c_plus k_plus
  have B_plus := F_plus.binds (ps := ["one", "other"]) fun _ _ _ _ _ _ us hl => match us, hl with | [_, _], _ => rfl
  have F_negative := fun_mk (st := s_negative) l_negative c_negative k_negative
  have B_negative := F_negative.binds (ps := ["number"]) fun _ _ _ _ _ _ us hl => match us, hl with | [_], _ => rfl
  have F_minus := fun_mk (st := s_minus) l_minus c_minus k_minus
  have B_minus := F_minus.binds (ps := ["one", "other"]) fun _ _ _ _ _ _ us hl => match us, hl with | [_, _], _ => rfl
  have F_product := fun_mk (st := s_product) l_product c_product k_product
  have B_product := F_product.binds (ps := ["one", "other"]) fun _ _ _ _ _ _ us hl => match us, hl with | [_, _], _ => rfl
  have F_faced := fun_mk (st := s_faced) l_faced c_faced k_faced
  have B_faced := F_faced.binds (ps := ["number", "mirrored"]) fun _ _ _ _ _ _ us hl => match us, hl with | [_, _], _ => rfl
  have F_carried := fun_mk (st := s_carried) l_carried c_carried k_carried
  have B_carried := F_carried.binds (ps := ["turn", "shift", "mirrored", "spot"]) fun _ _ _ _ _ _ us hl => match us, hl with | [_, _, _, _], _ => rfl
  have F_square_between := fun_mk (st := s_square_between) l_square_between c_square_between k_square_between
  have B_square_between := F_square_between.binds (ps := ["one", "other"]) fun _ _ _ _ _ _ us hl => match us, hl with | [_, _], _ => rfl
  have F_is_from_to := fun_mk (st := s_is_from_to) l_is_from_to c_is_from_to k_is_from_to
  have B_is_from_to := F_is_from_to.binds (ps := ["value", "least", "most"]) fun _ _ _ _ _ _ us hl => match us, hl with | [_, _, _], _ => rfl
  have TX : CTxt K C := ⟨⟨pg, hdC, po, sa⟩, nF, nO, nL, ha, hn, htk, hmo⟩
  have mgC := PySem.W.mg_of X G aC
  have FI : FunD K "__init__" "Copy.__init__" (defArgs s_Copy___init__) (defBody s_Copy___init__) (defScope s_Copy___init__) [] [("mirrored", .bl false)] f_Copy___init__ _ := ⟨⟨_, _, _, _, _, _, _, _, _, _, rfl, l_Copy___init__, c_Copy___init__, .inl ⟨rfl, rfl⟩, .inr ⟨_, rfl, fun q hq => by cases List.mem_singleton.mp hq; exact ⟨_, kw_init, rfl⟩⟩⟩, k_Copy___init__⟩
  obtain ⟨⟨ds, bv, bd⟩, mv, kb⟩ := bind_init FI
  have F_Copy___call__ := fun_mk (st := s_Copy___call__) l_Copy___call__ c_Copy___call__ k_Copy___call__
  have B_Copy___call__ := F_Copy___call__.binds (ps := ["self", "spot"]) fun _ _ _ _ _ _ us hl => match us, hl with | [_, _], _ => rfl
  have F_Copy_turn := fun_mk (st := s_Copy_turn) l_Copy_turn c_Copy_turn k_Copy_turn
  have B_Copy_turn := F_Copy_turn.binds (ps := ["self"]) fun _ _ _ _ _ _ us hl => match us, hl with | [_], _ => rfl
  have F_Copy_shift := fun_mk (st := s_Copy_shift) l_Copy_shift c_Copy_shift k_Copy_shift
  have B_Copy_shift := F_Copy_shift.binds (ps := ["self"]) fun _ _ _ _ _ _ us hl => match us, hl with | [_], _ => rfl
  have F_Copy_mirrored := fun_mk (st := s_Copy_mirrored) l_Copy_mirrored c_Copy_mirrored k_Copy_mirrored
  have B_Copy_mirrored := F_Copy_mirrored.binds (ps := ["self"]) fun _ _ _ _ _ _ us hl => match us, hl with | [_], _ => rfl
  have F_check_reach := fun_mk (st := s_check_reach) l_check_reach c_check_reach k_check_reach
  have B_check_reach := F_check_reach.binds (ps := ["near", "far"]) fun _ _ _ _ _ _ us hl => match us, hl with | [_, _], _ => rfl
  have F_copy_around := fun_mk (st := s_copy_around) l_copy_around c_copy_around k_copy_around
  have B_copy_around := F_copy_around.binds (ps := ["pole", "turn", "mirrored"]) fun _ _ _ _ _ _ us hl => match us, hl with | [_, _, _], _ => rfl
  have mgCA := PySem.W.mg_of X G aCA
  have MKCA : Mk K CA f_Arm___init__ := ⟨mkCA, inCA, isCA, kcCA⟩
  have clCA : Cls K CA := ⟨pgCA, hdCA, poCA, saCA⟩
  have TXA : ATxt K CA := ⟨clCA, nCA_centre, nCA_factor, nCA_least, nCA_most, nCA_flips, nCA_pen, haA, hn, htk, hmA⟩
  have FIA : FunD K "__init__" "Arm.__init__" (defArgs s_Arm___init__) (defBody s_Arm___init__) (defScope s_Arm___init__) [] [("mirrored", .bl false)] f_Arm___init__ _ := ⟨⟨_, _, _, _, _, _, _, _, _, _, rfl, l_Arm___init__, c_Arm___init__, .inl ⟨rfl, rfl⟩, .inr ⟨_, rfl, fun q hq => by cases List.mem_singleton.mp hq; exact ⟨_, kw_A, rfl⟩⟩⟩, k_Arm___init__⟩
  obtain ⟨⟨dsA, bvA, bdA⟩, mvA, kbA⟩ := bind_ainit FIA
  have F_Arm_pole := fun_mk (st := s_Arm_pole) l_Arm_pole c_Arm_pole k_Arm_pole
  have B_Arm_pole := F_Arm_pole.binds (ps := ["self"]) fun _ _ _ _ _ _ us hl => match us, hl with | [_], _ => rfl
  have F_Arm_turn := fun_mk (st := s_Arm_turn) l_Arm_turn c_Arm_turn k_Arm_turn
  have B_Arm_turn := F_Arm_turn.binds (ps := ["self"]) fun _ _ _ _ _ _ us hl => match us, hl with | [_], _ => rfl
  have F_Arm_near := fun_mk (st := s_Arm_near) l_Arm_near c_Arm_near k_Arm_near
  have B_Arm_near := F_Arm_near.binds (ps := ["self"]) fun _ _ _ _ _ _ us hl => match us, hl with | [_], _ => rfl
  have F_Arm_far := fun_mk (st := s_Arm_far) l_Arm_far c_Arm_far k_Arm_far
  have B_Arm_far := F_Arm_far.binds (ps := ["self"]) fun _ _ _ _ _ _ us hl => match us, hl with | [_], _ => rfl
  have F_Arm_mirrored := fun_mk (st := s_Arm_mirrored) l_Arm_mirrored c_Arm_mirrored k_Arm_mirrored
  have B_Arm_mirrored := F_Arm_mirrored.binds (ps := ["self"]) fun _ _ _ _ _ _ us hl => match us, hl with | [_], _ => rfl
  have F_Arm_effect := fun_mk (st := s_Arm_effect) l_Arm_effect c_Arm_effect k_Arm_effect
  have B_Arm_effect := F_Arm_effect.binds (ps := ["self"]) fun _ _ _ _ _ _ us hl => match us, hl with | [_], _ => rfl
  have F_Arm___eq__ := fun_mk (st := s_Arm___eq__) l_Arm___eq__ c_Arm___eq__ k_Arm___eq__
  have B_Arm___eq__ := F_Arm___eq__.binds (ps := ["self", "other"]) fun _ _ _ _ _ _ us hl => match us, hl with | [_, _], _ => rfl
  have F_Arm_reaches := fun_mk (st := s_Arm_reaches) l_Arm_reaches c_Arm_reaches k_Arm_reaches
  have B_Arm_reaches := F_Arm_reaches.binds (ps := ["self", "spot"]) fun _ _ _ _ _ _ us hl => match us, hl with | [_, _], _ => rfl
  have F_law_random := fun_mk (st := s_law_random) l_law_random c_law_random k_law_random
  have B_law_random := F_law_random.binds (ps := ["_law_script", "_law_salt"]) fun _ _ _ _ _ _ us hl => match us, hl with | [_, _], _ => rfl
  have F_law_below := fun_mk (st := s_law_below) l_law_below c_law_below k_law_below
  have B_law_below := F_law_below.binds (ps := ["_law_d", "_law_limit"]) fun _ _ _ _ _ _ us hl => match us, hl with | [_, _], _ => rfl
  have F_law_step := fun_mk (st := s_law_step) l_law_step c_law_step k_law_step
  have B_law_step := F_law_step.binds (ps := ["_law_d", "_law_size_now"]) fun _ _ _ _ _ _ us hl => match us, hl with | [_, _], _ => rfl
  have F_law_turn := fun_mk (st := s_law_turn) l_law_turn c_law_turn k_law_turn
  have B_law_turn := F_law_turn.binds (ps := ["_law_d"]) fun _ _ _ _ _ _ us hl => match us, hl with | [_], _ => rfl
  have F_law_common := fun_mk (st := s_law_common) l_law_common c_law_common k_law_common
  have B_law_common := F_law_common.binds (ps := ["_law_one", "_law_other"]) fun _ _ _ _ _ _ us hl => match us, hl with | [_, _], _ => rfl
  have F_law_lowest := fun_mk (st := s_law_lowest) l_law_lowest c_law_lowest k_law_lowest
  have B_law_lowest := F_law_lowest.binds (ps := ["_law_x", "_law_y", "_law_q"]) fun _ _ _ _ _ _ us hl => match us, hl with | [_, _, _], _ => rfl
  have F_law_spot := fun_mk (st := s_law_spot) l_law_spot c_law_spot k_law_spot
  have B_law_spot := F_law_spot.binds (ps := ["_law_d"]) fun _ _ _ _ _ _ us hl => match us, hl with | [_], _ => rfl
  have F_law_arm_told := fun_mk (st := s_law_arm_told) l_law_arm_told c_law_arm_told k_law_arm_told
  have B_law_arm_told := F_law_arm_told.binds (ps := ["_law_d"]) fun _ _ _ _ _ _ us hl => match us, hl with | [_], _ => rfl
  have F_law_arm := fun_mk (st := s_law_arm) l_law_arm c_law_arm k_law_arm
  have B_law_arm := F_law_arm.binds (ps := ["_law_told"]) fun _ _ _ _ _ _ us hl => match us, hl with | [_], _ => rfl
  have F_law_equal := fun_mk (st := s_law_equal) l_law_equal c_law_equal k_law_equal
  have B_law_equal := F_law_equal.binds (ps := ["_law_actual", "_law_expected"]) fun _ _ _ _ _ _ us hl => match us, hl with | [_, _], _ => rfl
  have F_law_shown := fun_mk (st := s_law_shown) l_law_shown c_law_shown k_law_shown
  have B_law_shown := F_law_shown.binds (ps := ["_law_copy"]) fun _ _ _ _ _ _ us hl => match us, hl with | [_], _ => rfl
  have F_law_over := fun_mk (st := s_law_over) l_law_over c_law_over k_law_over
  have B_law_over := F_law_over.binds (ps := ["_law_one"]) fun _ _ _ _ _ _ us hl => match us, hl with | [_], _ => rfl
  have F_law_plus := fun_mk (st := s_law_plus) l_law_plus c_law_plus k_law_plus
  have B_law_plus := F_law_plus.binds (ps := ["_law_one", "_law_other"]) fun _ _ _ _ _ _ us hl => match us, hl with | [_, _], _ => rfl
  have F_law_times := fun_mk (st := s_law_times) l_law_times c_law_times k_law_times
  have B_law_times := F_law_times.binds (ps := ["_law_one", "_law_other"]) fun _ _ _ _ _ _ us hl => match us, hl with | [_, _], _ => rfl
  have F_law_minus := fun_mk (st := s_law_minus) l_law_minus c_law_minus k_law_minus
  have B_law_minus := F_law_minus.binds (ps := ["_law_one", "_law_other"]) fun _ _ _ _ _ _ us hl => match us, hl with | [_, _], _ => rfl
  have F_law_about := fun_mk (st := s_law_about) l_law_about c_law_about k_law_about
  have B_law_about := F_law_about.binds (ps := ["_law_told"]) fun _ _ _ _ _ _ us hl => match us, hl with | [_], _ => rfl
  have F_law_ratio := fun_mk (st := s_law_ratio) l_law_ratio c_law_ratio k_law_ratio
  have B_law_ratio := F_law_ratio.binds (ps := ["_law_p", "_law_q"]) fun _ _ _ _ _ _ us hl => match us, hl with | [_, _], _ => rfl
  have F_law_size := fun_mk (st := s_law_size) l_law_size c_law_size k_law_size
  have B_law_size := F_law_size.binds (ps := ["_law_one"]) fun _ _ _ _ _ _ us hl => match us, hl with | [_], _ => rfl
  have F_law_less := fun_mk (st := s_law_less) l_law_less c_law_less k_law_less
  have B_law_less := F_law_less.binds (ps := ["_law_one", "_law_other"]) fun _ _ _ _ _ _ us hl => match us, hl with | [_, _], _ => rfl
  have F_law_reached := fun_mk (st := s_law_reached) l_law_reached c_law_reached k_law_reached
  have B_law_reached := F_law_reached.binds (ps := ["_law_told", "_law_spot_here"]) fun _ _ _ _ _ _ us hl => match us, hl with | [_, _], _ => rfl
  refine ⟨PySem.W.fnOf "law" "law" (defArgs s_law) (defBody s_law) (defScope s_law) .none kV_law dc_law pm_law an_law (.ref cL) ct_law, [(cL, PL)], spLaw K PL, fun p hp => ?_, fun p hp => ?_, fun p hp => ?_, fun s v => .of_eq rfl, fun H a ns hl _ hH hS => ⟨a, ns, rfl, hS, hl, hH _ (.head _), fun _ => rfl⟩, fun base _ _ TB => ?_⟩
  · cases List.mem_singleton.mp hp; exact own cL PL _ _ _ _ _ _ l_law rfl rfl q_law v_law
  · cases List.mem_singleton.mp hp; exact n_law
  · cases List.mem_singleton.mp hp; exact PySem.W.codeHd_of_K X h_law
  have d_common_divisor : D l.prog w K mg base "common_divisor" 1 sp_gcd := ⟨_, rOf (ok_common_divisor b_abs F_common_divisor) B_common_divisor, k_common_divisor, PySem.W.mg_of X G a_common_divisor⟩
  have d_is_whole : D l.prog w K mg base "is_whole" 1 sp_whole := ⟨_, rOf (ok_is_whole b_isinstance b_int b_bool F_is_whole) B_is_whole, k_is_whole, PySem.W.mg_of X G a_is_whole⟩
  have d_wholeA : D l.prog w K mg base "is_whole" 1 sp_wholeA := ⟨_, rOf (ok_is_wholeA b_isinstance b_int b_bool F_is_whole) B_is_whole, k_is_whole, PySem.W.mg_of X G a_is_whole⟩
  have d_is_spot : D l.prog w K mg base "is_spot" 2 (sp_isspot K) := ⟨_, rOf (ok_is_spot b_isinstance b_tuple b_len b_all d_common_divisor d_is_whole F_is_spot) B_is_spot, k_is_spot, PySem.W.mg_of X G a_is_spot⟩
  have d_is_spotX : D l.prog w K mg base "is_spot" 2 (sp_isspotX K) := ⟨_, rOf (ok_is_spotX b_isinstance b_tuple b_len b_all d_common_divisor d_wholeA F_is_spot) B_is_spot, k_is_spot, PySem.W.mg_of X G a_is_spot⟩
  have d_check_spot : D l.prog w K mg base "check_spot" 3 (sp_check K) := ⟨_, rOf (ok_check_spot d_is_spot F_check_spot) B_check_spot, k_check_spot, PySem.W.mg_of X G a_check_spot⟩
  have d_check_turn : D l.prog w K mg base "check_turn" 3 (sp_checkT K) := ⟨_, rOf (ok_check_turn d_is_spot m_MIDDLE t_MIDDLE F_check_turn) B_check_turn, k_check_turn, PySem.W.mg_of X G a_check_turn⟩
  have d_check_spotB : DX l.prog w K mg base "check_spot" 3 (sp_checkB K e0) := ⟨_, rOfX (ok_check_spotB X_InvalidSpot (D.or d_is_spot d_is_spotX) F_check_spot) B_check_spot, k_check_spot, PySem.W.mg_of X G a_check_spot⟩
  have d_check_turnB : DX l.prog w K mg base "check_turn" 3 (sp_checkTB K e1) := ⟨_, rOfX (ok_check_turnB X_InvalidTurn (D.or d_is_spot d_is_spotX) m_MIDDLE t_MIDDLE F_check_turn) B_check_turn, k_check_turn, PySem.W.mg_of X G a_check_turn⟩
  have d_spot_at : D l.prog w K mg base "spot_at" 2 (sp_low K) := ⟨_, rOf (ok_spot_at d_common_divisor F_spot_at) B_spot_at, k_spot_at, PySem.W.mg_of X G a_spot_at⟩
  have d_fraction : D l.prog w K mg base "fraction" 2 (sp_fr K) := ⟨_, rOf (ok_fraction d_common_divisor F_fraction) B_fraction, k_fraction, PySem.W.mg_of X G a_fraction⟩
  have d_plus : D l.prog w K mg base "plus" 3 (sp_two K plus) := ⟨_, rOf (ok_plus d_spot_at F_plus) B_plus, k_plus, PySem.W.mg_of X G a_plus⟩
  have d_negative : D l.prog w K mg base "negative" 1 (sp_one K neg) := ⟨_, rOf (ok_negative F_negative) B_negative, k_negative, PySem.W.mg_of X G a_negative⟩
  have d_minus : D l.prog w K mg base "minus" 4 (sp_two K minus) := ⟨_, rOf (ok_minus d_plus d_negative F_minus) B_minus, k_minus, PySem.W.mg_of X G a_minus⟩
  have d_product : D l.prog w K mg base "product" 3 (sp_two K times) := ⟨_, rOf (ok_product d_spot_at F_product) B_product, k_product, PySem.W.mg_of X G a_product⟩
  have d_faced : D l.prog w K mg base "faced" 1 (sp_face K) := ⟨_, rOf (ok_faced F_faced) B_faced, k_faced, PySem.W.mg_of X G a_faced⟩
  have d_carried : D l.prog w K mg base "carried" 4 (sp_car K) := ⟨_, rOf (ok_carried d_plus d_product d_faced F_carried) B_carried, k_carried, PySem.W.mg_of X G a_carried⟩
  have d_square_between : D l.prog w K mg base "square_between" 5 (sp_sqb K) := ⟨_, rOf (ok_square_between d_minus d_fraction F_square_between) B_square_between, k_square_between, PySem.W.mg_of X G a_square_between⟩
  have d_is_from_to : D l.prog w K mg base "is_from_to" 1 (sp_ft K) := ⟨_, rOf (ok_is_from_to F_is_from_to) B_is_from_to, k_is_from_to, PySem.W.mg_of X G a_is_from_to⟩
  have TC : CopyI l.prog w K mg base C f_Copy___init__ _ mv ds := ⟨TX, ⟨mkC, inI, isI, kc⟩, ok_init TX d_check_turn d_check_spot FI, mgC, bv, bd, kb⟩
  have m_ca : MCa l.prog w K mg base C := ⟨⟨_, rOf (ok_call TX d_check_spot d_carried F_Copy___call__) B_Copy___call__, ⟨a_Copy___call__, i_Copy___call__, fi_call⟩⟩⟩
  have m_pt : MPt l.prog w K mg base C := ⟨TX.cl, _, _, _, ok_turn TX F_Copy_turn, B_Copy_turn, ⟨a_Copy_turn, g_Copy_turn, t_Copy_turn, ⟨_, r_Copy_turn⟩⟩⟩
  have m_ps : MPs l.prog w K mg base C := ⟨TX.cl, _, _, _, ok_shift TX F_Copy_shift, B_Copy_shift, ⟨a_Copy_shift, g_Copy_shift, t_Copy_shift, ⟨_, r_Copy_shift⟩⟩⟩
  have m_pm : MPm l.prog w K mg base C := ⟨TX.cl, _, _, _, ok_mirrored TX F_Copy_mirrored, B_Copy_mirrored, ⟨a_Copy_mirrored, g_Copy_mirrored, t_Copy_mirrored, ⟨_, r_Copy_mirrored⟩⟩⟩
  have d_check_reach : D l.prog w K mg base "check_reach" 2 sp_reach := ⟨_, rOf (ok_check_reach m_MOST_REACH d_is_whole F_check_reach) B_check_reach, k_check_reach, PySem.W.mg_of X G a_check_reach⟩
  have d_check_reachX : DX l.prog w K mg base "check_reach" 2 (sp_reachX e6) := ⟨_, rOfX (ok_check_reachX m_MOST_REACH X_InvalidReach d_wholeA F_check_reach) B_check_reach, k_check_reach, PySem.W.mg_of X G a_check_reach⟩
  have d_copy_around : D l.prog w K mg base "copy_around" 6 (sp_around K C) := ⟨_, rOf (ok_copy_around TC d_minus d_product d_faced F_copy_around) B_copy_around, k_copy_around, PySem.W.mg_of X G a_copy_around⟩
  have TA : ArmI l.prog w K mg base C CA f_Arm___init__ _ mvA dsA := ⟨TXA, MKCA, ok_ainit TXA d_check_turn d_check_spot d_check_reach d_copy_around FIA, mgCA, bvA, bdA, kbA⟩
  have m_A_pole : MPf l.prog w K mg base CA "pole" "centre" := ⟨clCA, _, _, _, ok_Arm_pole clCA nCA_centre F_Arm_pole, B_Arm_pole, ⟨a_Arm_pole, g_Arm_pole, t_Arm_pole, ⟨_, r_Arm_pole⟩⟩⟩
  have m_A_turn : MPf l.prog w K mg base CA "turn" "factor" := ⟨clCA, _, _, _, ok_Arm_turn clCA nCA_factor F_Arm_turn, B_Arm_turn, ⟨a_Arm_turn, g_Arm_turn, t_Arm_turn, ⟨_, r_Arm_turn⟩⟩⟩
  have m_A_near : MPf l.prog w K mg base CA "near" "least" := ⟨clCA, _, _, _, ok_Arm_near clCA nCA_least F_Arm_near, B_Arm_near, ⟨a_Arm_near, g_Arm_near, t_Arm_near, ⟨_, r_Arm_near⟩⟩⟩
  have m_A_far : MPf l.prog w K mg base CA "far" "most" := ⟨clCA, _, _, _, ok_Arm_far clCA nCA_most F_Arm_far, B_Arm_far, ⟨a_Arm_far, g_Arm_far, t_Arm_far, ⟨_, r_Arm_far⟩⟩⟩
  have m_A_mirrored : MPf l.prog w K mg base CA "mirrored" "flips" := ⟨clCA, _, _, _, ok_Arm_mirrored clCA nCA_flips F_Arm_mirrored, B_Arm_mirrored, ⟨a_Arm_mirrored, g_Arm_mirrored, t_Arm_mirrored, ⟨_, r_Arm_mirrored⟩⟩⟩
  have m_A_effect : MPf l.prog w K mg base CA "effect" "pen" := ⟨clCA, _, _, _, ok_Arm_effect clCA nCA_pen F_Arm_effect, B_Arm_effect, ⟨a_Arm_effect, g_Arm_effect, t_Arm_effect, ⟨_, r_Arm_effect⟩⟩⟩
  have m_aeq : MAe l.prog w K mg base C CA := ⟨⟨_, rOf (ok_aeq TXA mgCA b_isinstance F_Arm___eq__) B_Arm___eq__, a_Arm___eq__, i_Arm___eq__⟩⟩
  have m_rch : MAr l.prog w K mg base C CA := ⟨clCA, _, _, ok_reaches TXA d_check_spot d_square_between d_is_from_to F_Arm_reaches, B_Arm_reaches, ⟨a_Arm_reaches, i_Arm_reaches, k_Arm_reaches⟩⟩
  have TAX : ArmX l.prog w K mg base CA f_Arm___init__ e0 e1 e6 _ dsA := ⟨MKCA, ok_ainitX d_check_spotB d_check_turnB d_check_reachX FIA, mgCA, bvA, bdA⟩
  have m_rchX : MArX l.prog w K mg base CA e0 := ⟨clCA, _, _, ok_reachesX d_check_spotB F_Arm_reaches, B_Arm_reaches, ⟨a_Arm_reaches, i_Arm_reaches, k_Arm_reaches⟩⟩
  have m_aeqC : MAeC l.prog w K mg base C CA := ⟨nfA, ⟨_, rOf (ok_aeqC TX kiA mgCA b_isinstance F_Arm___eq__) B_Arm___eq__, a_Arm___eq__, i_Arm___eq__⟩⟩
  have d_law_random : D l.prog w K mg base "_law_random" 1 (sp_random K) := ⟨_, rOf (ok_law_random b_abs F_law_random) B_law_random, k_law_random, PySem.W.mg_of X G a_law_random⟩
  have d_law_below : D l.prog w K mg base "_law_below" 1 sp_below := ⟨_, rOf (ok_law_below b_len F_law_below) B_law_below, k_law_below, PySem.W.mg_of X G a_law_below⟩
  have d_law_step : D l.prog w K mg base "_law_step" 2 (sp_step K) := ⟨_, rOf (ok_law_step d_law_below F_law_step) B_law_step, k_law_step, PySem.W.mg_of X G a_law_step⟩
  have d_law_turn : D l.prog w K mg base "_law_turn" 2 (sp_draw fun H r => ∃ t, IsT K H r t ∧ TurnIn t) := ⟨_, rOf (ok_law_turn d_law_below F_law_turn) B_law_turn, k_law_turn, PySem.W.mg_of X G a_law_turn⟩
  have d_law_common : D l.prog w K mg base "_law_common" 1 sp_gcd := ⟨_, rOf (ok_law_common b_abs F_law_common) B_law_common, k_law_common, PySem.W.mg_of X G a_law_common⟩
  have d_law_lowest : D l.prog w K mg base "_law_lowest" 2 (sp_low K) := ⟨_, rOf (ok_law_lowest d_law_common F_law_lowest) B_law_lowest, k_law_lowest, PySem.W.mg_of X G a_law_lowest⟩
  have d_law_spot : D l.prog w K mg base "_law_spot" 3 (sp_draw fun H r => ∃ t, IsT K H r t ∧ SpotIn t) := ⟨_, rOf (ok_law_spot d_law_below d_law_lowest F_law_spot) B_law_spot, k_law_spot, PySem.W.mg_of X G a_law_spot⟩
  have d_law_arm_told : D l.prog w K mg base "_law_arm_told" 4 (sp_draw fun H r => ∃ a, IsB K H r a ∧ ArmIn a) := ⟨_, rOf (ok_law_arm_told d_law_below d_law_step d_law_turn d_law_spot F_law_arm_told) B_law_arm_told, k_law_arm_told, PySem.W.mg_of X G a_law_arm_told⟩
  have d_law_arm : D l.prog w K mg base "_law_arm" 9 (sp_armOf K C CA) := ⟨_, rOf (ok_law_arm TA F_law_arm) B_law_arm, k_law_arm, PySem.W.mg_of X G a_law_arm⟩
  have d_law_equal_0 : D l.prog w K mg base "_law_equal" 0 (sp_equal K 0) := ⟨_, fun A outer s H us vs Q E hr e0 r h => absurd h (by rintro ⟨_, _, _, _, _, _, z, _⟩; exact z), k_law_equal, PySem.W.mg_of X G a_law_equal⟩
  have d_law_equal_1 : D l.prog w K mg base "_law_equal" 1 (sp_equal K 1) := ⟨_, rOf (ok_law_equal b_isinstance b_int b_bool b_str b_tuple b_list b_len b_all b_range d_law_equal_0 F_law_equal) B_law_equal, k_law_equal, PySem.W.mg_of X G a_law_equal⟩
  have d_law_equal_2 : D l.prog w K mg base "_law_equal" 2 (sp_equal K 2) := ⟨_, rOf (ok_law_equal b_isinstance b_int b_bool b_str b_tuple b_list b_len b_all b_range d_law_equal_1 F_law_equal) B_law_equal, k_law_equal, PySem.W.mg_of X G a_law_equal⟩
  have d_law_equal_3 : D l.prog w K mg base "_law_equal" 3 (sp_equal K 3) := ⟨_, rOf (ok_law_equal b_isinstance b_int b_bool b_str b_tuple b_list b_len b_all b_range d_law_equal_2 F_law_equal) B_law_equal, k_law_equal, PySem.W.mg_of X G a_law_equal⟩
  have d_law_equal_4 : D l.prog w K mg base "_law_equal" 4 (sp_equal K 4) := ⟨_, rOf (ok_law_equal b_isinstance b_int b_bool b_str b_tuple b_list b_len b_all b_range d_law_equal_3 F_law_equal) B_law_equal, k_law_equal, PySem.W.mg_of X G a_law_equal⟩
  have d_law_equal := d_law_equal_4
  have d_law_shown : D l.prog w K mg base "_law_shown" 3 (sp_shown K C) := ⟨_, rOf (ok_law_shown m_pt m_ps m_pm F_law_shown) B_law_shown, k_law_shown, PySem.W.mg_of X G a_law_shown⟩
  have d_law_over : D l.prog w K mg base "_law_over" 1 (sp_one K over) := ⟨_, rOf (ok_law_over F_law_over) B_law_over, k_law_over, PySem.W.mg_of X G a_law_over⟩
  have d_law_plus : D l.prog w K mg base "_law_plus" 3 (sp_two K plus) := ⟨_, rOf (ok_law_plus d_law_lowest F_law_plus) B_law_plus, k_law_plus, PySem.W.mg_of X G a_law_plus⟩
  have d_law_times : D l.prog w K mg base "_law_times" 3 (sp_two K times) := ⟨_, rOf (ok_law_times d_law_lowest F_law_times) B_law_times, k_law_times, PySem.W.mg_of X G a_law_times⟩
  have d_law_minus : D l.prog w K mg base "_law_minus" 4 (sp_two K minus) := ⟨_, rOf (ok_law_minus d_law_plus F_law_minus) B_law_minus, k_law_minus, PySem.W.mg_of X G a_law_minus⟩
  have d_law_about : D l.prog w K mg base "_law_about" 5 (sp_labout K) := ⟨_, rOf (ok_law_about d_law_times d_law_over d_law_minus F_law_about) B_law_about, k_law_about, PySem.W.mg_of X G a_law_about⟩
  have d_law_ratio : D l.prog w K mg base "_law_ratio" 3 (sp_ratio K) := ⟨_, rOf (ok_law_ratio d_law_lowest F_law_ratio) B_law_ratio, k_law_ratio, PySem.W.mg_of X G a_law_ratio⟩
  have d_law_size : D l.prog w K mg base "_law_size" 4 (sp_size K) := ⟨_, rOf (ok_law_size d_law_ratio F_law_size) B_law_size, k_law_size, PySem.W.mg_of X G a_law_size⟩
  have d_law_less : D l.prog w K mg base "_law_less" 1 (sp_lless K) := ⟨_, rOf (ok_law_less F_law_less) B_law_less, k_law_less, PySem.W.mg_of X G a_law_less⟩
  have d_law_reached : D l.prog w K mg base "_law_reached" 5 (sp_reached K) := ⟨_, rOf (ok_law_reached d_law_size d_law_minus d_law_less F_law_reached) B_law_reached, k_law_reached, PySem.W.mg_of X G a_law_reached⟩
  exact ok_law (Cs := fun j => [e0, e1, e2, e3, e4, e5, e6, e7, e8, e9, e10, e11, e12, e13, e14, e15, e16, e17, e18, e19].getD j 0) TA TAX m_ca m_aeq m_aeqC m_rch m_rchX m_A_pole m_A_turn m_A_near m_A_far m_A_mirrored m_A_effect b_range b_isinstance b_ValueError m_B ER m_E k_law_error_of l_law_error_of c_law_error_of B_law_error_of m_law_all_raise k_law_all_raise F_law_all_raise B_law_all_raise d_law_random d_law_below d_law_spot d_law_arm_told d_law_arm d_law_equal d_law_shown d_law_about d_law_plus d_law_reached (TB _ (.head _)) l_law c_law
end My
open PySem PySem.W PyProof.Rows in
set_option maxRecDepth 100000 in
set_option maxHeartbeats 0 in
theorem PySem.Challenge.cw_copyarms_k15_arms_and_their_poles_holds : PySem.Challenge.rw_copyarms_k15_arms_and_their_poles.Holds := by
  w_on; o_law; k_head; (case hw => w_witness2)
  k_fill
  refine LamX.walk_ofOwn (l := PySem.Challenge.rw_copyarms_k15_arms_and_their_poles) (n := 63) (k := 12) (x := "_law_script") (CX := fun _ => L2.CX0) rfl (by decide) rfl ⟨rfl, by decide, by decide⟩ ?R (fun w h Y => by first | exact PySem.W.km_in_of Y | exact PySem.W.kIn_of Y) ?F (fun _ _ _ _ _ z => z)
  case R => first | rfl | decide +kernel
  case F =>
    intro w mg fa h Y KX G hmg own
    refine' My.all_mk KX G hmg own ?z_abs ?z_len ?z_isinstance ?z_int ?z_bool ?z_str ?z_tuple ?z_list ?z_all ?z_range ?z_ValueError ?m_MIDDLE ?u_MIDDLE ?mi_MOST_REACH ?g_CB ?ge_0 ?ge_1 ?ge_2 ?ge_3 ?ge_4 ?ge_5 ?ge_6 ?ge_7 ?ge_8 ?ge_9 ?ge_10 ?ge_11 ?ge_12 ?ge_13 ?ge_14 ?ge_15 ?ge_16 ?ge_17 ?ge_18 ?ge_19 ?xc_n ?xc_t ?xg_0 ?xk_0 ?xs_0 ?xd_0 ?xa_0 ?xm_0 ?kt_0_0 ?kt_0_1 ?kt_0_2 ?kt_0_3 ?kt_0_4 ?kt_0_5 ?kt_0_6 ?kt_0_7 ?kt_0_8 ?kt_0_9 ?kt_0_10 ?kt_0_11 ?kt_0_12 ?kt_0_13 ?kt_0_14 ?kt_0_15 ?kt_0_16 ?kt_0_17 ?kt_0_18 ?kt_0_19 ?kv_0 ?xx_0 ?xq_0 ?xp_0 ?xt_0 ?xg_1 ?xk_1 ?xs_1 ?xd_1 ?xa_1 ?xm_1 ?kt_1_0 ?kt_1_1 ?kt_1_2 ?kt_1_3 ?kt_1_4 ?kt_1_5 ?kt_1_6 ?kt_1_7 ?kt_1_8 ?kt_1_9 ?kt_1_10 ?kt_1_11 ?kt_1_12 ?kt_1_13 ?kt_1_14 ?kt_1_15 ?kt_1_16 ?kt_1_17 ?kt_1_18 ?kt_1_19 ?kv_1 ?xx_1 ?xq_1 ?xp_1 ?xt_1 ?xg_6 ?xk_6 ?xs_6 ?xd_6 ?xa_6 ?xm_6 ?kt_6_0 ?kt_6_1 ?kt_6_2 ?kt_6_3 ?kt_6_4 ?kt_6_5 ?kt_6_6 ?kt_6_7 ?kt_6_8 ?kt_6_9 ?kt_6_10 ?kt_6_11 ?kt_6_12 ?kt_6_13 ?kt_6_14 ?kt_6_15 ?kt_6_16 ?kt_6_17 ?kt_6_18 ?kt_6_19 ?kv_6 ?xx_6 ?xq_6 ?xp_6 ?xt_6 ?a_law_error_of ?l_law_error_of ?c_law_error_of ?k_law_error_of ?a_law_all_raise ?l_law_all_raise ?c_law_all_raise ?k_law_all_raise ?a_common_divisor ?l_common_divisor ?c_common_divisor ?k_common_divisor ?a_is_whole ?l_is_whole ?c_is_whole ?k_is_whole ?a_is_spot ?l_is_spot ?c_is_spot ?k_is_spot ?a_check_spot ?l_check_spot ?c_check_spot ?k_check_spot ?a_check_turn ?l_check_turn ?c_check_turn ?k_check_turn ?a_spot_at ?l_spot_at ?c_spot_at ?k_spot_at ?a_fraction ?l_fraction ?c_fraction ?k_fraction ?a_plus ?l_plus ?c_plus ?k_plus ?a_negative ?l_negative ?c_negative ?k_negative ?a_minus ?l_minus ?c_minus ?k_minus ?a_product ?l_product ?c_product ?k_product ?a_faced ?l_faced ?c_faced ?k_faced ?a_carried ?l_carried ?c_carried ?k_carried ?a_square_between ?l_square_between ?c_square_between ?k_square_between ?a_is_from_to ?l_is_from_to ?c_is_from_to ?k_is_from_to ?aC ?inI ?l_Copy___init__ ?c_Copy___init__ ?k_Copy___init__ ?kw_init ?pg ?hdC ?po ?sa ?mkC ?kc ?isI ?nF ?nO ?nL ?ha ?hn ?htk ?hmo ?sf ?a_Copy___call__ ?i_Copy___call__ ?l_Copy___call__ ?c_Copy___call__ ?k_Copy___call__ ?fi_call ?a_Copy_turn ?g_Copy_turn ?t_Copy_turn ?r_Copy_turn ?l_Copy_turn ?c_Copy_turn ?k_Copy_turn ?a_Copy_shift ?g_Copy_shift ?t_Copy_shift ?r_Copy_shift ?l_Copy_shift ?c_Copy_shift ?k_Copy_shift ?a_Copy_mirrored ?g_Copy_mirrored ?t_Copy_mirrored ?r_Copy_mirrored ?l_Copy_mirrored ?c_Copy_mirrored ?k_Copy_mirrored ?a_check_reach ?l_check_reach ?c_check_reach ?k_check_reach ?a_copy_around ?l_copy_around ?c_copy_around ?k_copy_around ?aCA ?inCA ?l_Arm___init__ ?c_Arm___init__ ?k_Arm___init__ ?kw_A ?pgCA ?hdCA ?poCA ?saCA ?mkCA ?kcCA ?isCA ?nCA_centre ?nCA_factor ?nCA_least ?nCA_most ?nCA_flips ?nCA_pen ?haA ?hmA ?a_Arm_pole ?g_Arm_pole ?t_Arm_pole ?r_Arm_pole ?l_Arm_pole ?c_Arm_pole ?k_Arm_pole ?a_Arm_turn ?g_Arm_turn ?t_Arm_turn ?r_Arm_turn ?l_Arm_turn ?c_Arm_turn ?k_Arm_turn ?a_Arm_near ?g_Arm_near ?t_Arm_near ?r_Arm_near ?l_Arm_near ?c_Arm_near ?k_Arm_near ?a_Arm_far ?g_Arm_far ?t_Arm_far ?r_Arm_far ?l_Arm_far ?c_Arm_far ?k_Arm_far ?a_Arm_mirrored ?g_Arm_mirrored ?t_Arm_mirrored ?r_Arm_mirrored ?l_Arm_mirrored ?c_Arm_mirrored ?k_Arm_mirrored ?a_Arm_effect ?g_Arm_effect ?t_Arm_effect ?r_Arm_effect ?l_Arm_effect ?c_Arm_effect ?k_Arm_effect ?a_Arm___eq__ ?i_Arm___eq__ ?l_Arm___eq__ ?c_Arm___eq__ ?k_Arm___eq__ ?a_Arm_reaches ?i_Arm_reaches ?l_Arm_reaches ?c_Arm_reaches ?k_Arm_reaches ?kiA ?nfA ?a_law_random ?l_law_random ?c_law_random ?k_law_random ?a_law_below ?l_law_below ?c_law_below ?k_law_below ?a_law_step ?l_law_step ?c_law_step ?k_law_step ?a_law_turn ?l_law_turn ?c_law_turn ?k_law_turn ?a_law_common ?l_law_common ?c_law_common ?k_law_common ?a_law_lowest ?l_law_lowest ?c_law_lowest ?k_law_lowest ?a_law_spot ?l_law_spot ?c_law_spot ?k_law_spot ?a_law_arm_told ?l_law_arm_told ?c_law_arm_told ?k_law_arm_told ?a_law_arm ?l_law_arm ?c_law_arm ?k_law_arm ?a_law_equal ?l_law_equal ?c_law_equal ?k_law_equal ?a_law_shown ?l_law_shown ?c_law_shown ?k_law_shown ?a_law_over ?l_law_over ?c_law_over ?k_law_over ?a_law_plus ?l_law_plus ?c_law_plus ?k_law_plus ?a_law_times ?l_law_times ?c_law_times ?k_law_times ?a_law_minus ?l_law_minus ?c_law_minus ?k_law_minus ?a_law_about ?l_law_about ?c_law_about ?k_law_about ?a_law_ratio ?l_law_ratio ?c_law_ratio ?k_law_ratio ?a_law_size ?l_law_size ?c_law_size ?k_law_size ?a_law_less ?l_law_less ?c_law_less ?k_law_less ?a_law_reached ?l_law_reached ?c_law_reached ?k_law_reached ?a_law ?l_law ?c_law ?q_law ?v_law ?n_law ?h_law
    (case z_abs => k_is)
    (case z_len => k_is)
    (case z_isinstance => k_is)
    (case z_int => k_is)
    (case z_bool => k_is)
    (case z_str => k_is)
    (case z_tuple => k_is)
    (case z_list => k_is)
    (case z_all => k_is)
    (case z_range => k_is)
    (case z_ValueError => k_is)
    (case m_MIDDLE => k_is)
    (case u_MIDDLE => k_is)
    (case mi_MOST_REACH => k_is)
    (case g_CB => k_is)
    (case ge_0 => k_is)
    (case ge_1 => k_is)
    (case ge_2 => k_is)
    (case ge_3 => k_is)
    (case ge_4 => k_is)
    (case ge_5 => k_is)
    (case ge_6 => k_is)
    (case ge_7 => k_is)
    (case ge_8 => k_is)
    (case ge_9 => k_is)
    (case ge_10 => k_is)
    (case ge_11 => k_is)
    (case ge_12 => k_is)
    (case ge_13 => k_is)
    (case ge_14 => k_is)
    (case ge_15 => k_is)
    (case ge_16 => k_is)
    (case ge_17 => k_is)
    (case ge_18 => k_is)
    (case ge_19 => k_is)
    (case xc_n => k_is)
    (case xc_t => k_is)
    (case xg_0 => k_is)
    (case xk_0 => k_is)
    (case xs_0 => k_is)
    (case xd_0 => k_is)
    (case xa_0 => k_is)
    (case xm_0 => k_is)
    (case kt_0_0 => first | kernel_rfl | rfl | decide +kernel)
    (case kt_0_1 => first | kernel_rfl | rfl | decide +kernel)
    (case kt_0_2 => first | kernel_rfl | rfl | decide +kernel)
    (case kt_0_3 => first | kernel_rfl | rfl | decide +kernel)
    (case kt_0_4 => first | kernel_rfl | rfl | decide +kernel)
    (case kt_0_5 => first | kernel_rfl | rfl | decide +kernel)
    (case kt_0_6 => first | kernel_rfl | rfl | decide +kernel)
    (case kt_0_7 => first | kernel_rfl | rfl | decide +kernel)
    (case kt_0_8 => first | kernel_rfl | rfl | decide +kernel)
    (case kt_0_9 => first | kernel_rfl | rfl | decide +kernel)
    (case kt_0_10 => first | kernel_rfl | rfl | decide +kernel)
    (case kt_0_11 => first | kernel_rfl | rfl | decide +kernel)
    (case kt_0_12 => first | kernel_rfl | rfl | decide +kernel)
    (case kt_0_13 => first | kernel_rfl | rfl | decide +kernel)
    (case kt_0_14 => first | kernel_rfl | rfl | decide +kernel)
    (case kt_0_15 => first | kernel_rfl | rfl | decide +kernel)
    (case kt_0_16 => first | kernel_rfl | rfl | decide +kernel)
    (case kt_0_17 => first | kernel_rfl | rfl | decide +kernel)
    (case kt_0_18 => first | kernel_rfl | rfl | decide +kernel)
    (case kt_0_19 => first | kernel_rfl | rfl | decide +kernel)
    (case kv_0 => first | kernel_rfl | rfl | decide +kernel)
    (case xx_0 => first | kernel_rfl | rfl | decide +kernel)
    (case xq_0 => k_exc)
    (case xp_0 => k_is)
    (case xt_0 => k_is)
    (case xg_1 => k_is)
    (case xk_1 => k_is)
    (case xs_1 => k_is)
    (case xd_1 => k_is)
    (case xa_1 => k_is)
    (case xm_1 => k_is)
    (case kt_1_0 => first | kernel_rfl | rfl | decide +kernel)
    (case kt_1_1 => first | kernel_rfl | rfl | decide +kernel)
    (case kt_1_2 => first | kernel_rfl | rfl | decide +kernel)
    (case kt_1_3 => first | kernel_rfl | rfl | decide +kernel)
    (case kt_1_4 => first | kernel_rfl | rfl | decide +kernel)
    (case kt_1_5 => first | kernel_rfl | rfl | decide +kernel)
    (case kt_1_6 => first | kernel_rfl | rfl | decide +kernel)
    (case kt_1_7 => first | kernel_rfl | rfl | decide +kernel)
    (case kt_1_8 => first | kernel_rfl | rfl | decide +kernel)
    (case kt_1_9 => first | kernel_rfl | rfl | decide +kernel)
    (case kt_1_10 => first | kernel_rfl | rfl | decide +kernel)
    (case kt_1_11 => first | kernel_rfl | rfl | decide +kernel)
    (case kt_1_12 => first | kernel_rfl | rfl | decide +kernel)
    (case kt_1_13 => first | kernel_rfl | rfl | decide +kernel)
    (case kt_1_14 => first | kernel_rfl | rfl | decide +kernel)
    (case kt_1_15 => first | kernel_rfl | rfl | decide +kernel)
    (case kt_1_16 => first | kernel_rfl | rfl | decide +kernel)
    (case kt_1_17 => first | kernel_rfl | rfl | decide +kernel)
    (case kt_1_18 => first | kernel_rfl | rfl | decide +kernel)
    (case kt_1_19 => first | kernel_rfl | rfl | decide +kernel)
    (case kv_1 => first | kernel_rfl | rfl | decide +kernel)
    (case xx_1 => first | kernel_rfl | rfl | decide +kernel)
    (case xq_1 => k_exc)
    (case xp_1 => k_is)
    (case xt_1 => k_is)
    (case xg_6 => k_is)
    (case xk_6 => k_is)
    (case xs_6 => k_is)
    (case xd_6 => k_is)
    (case xa_6 => k_is)
    (case xm_6 => k_is)
    (case kt_6_0 => first | kernel_rfl | rfl | decide +kernel)
    (case kt_6_1 => first | kernel_rfl | rfl | decide +kernel)
    (case kt_6_2 => first | kernel_rfl | rfl | decide +kernel)
    (case kt_6_3 => first | kernel_rfl | rfl | decide +kernel)
    (case kt_6_4 => first | kernel_rfl | rfl | decide +kernel)
    (case kt_6_5 => first | kernel_rfl | rfl | decide +kernel)
    (case kt_6_6 => first | kernel_rfl | rfl | decide +kernel)
    (case kt_6_7 => first | kernel_rfl | rfl | decide +kernel)
    (case kt_6_8 => first | kernel_rfl | rfl | decide +kernel)
    (case kt_6_9 => first | kernel_rfl | rfl | decide +kernel)
    (case kt_6_10 => first | kernel_rfl | rfl | decide +kernel)
    (case kt_6_11 => first | kernel_rfl | rfl | decide +kernel)
    (case kt_6_12 => first | kernel_rfl | rfl | decide +kernel)
    (case kt_6_13 => first | kernel_rfl | rfl | decide +kernel)
    (case kt_6_14 => first | kernel_rfl | rfl | decide +kernel)
    (case kt_6_15 => first | kernel_rfl | rfl | decide +kernel)
    (case kt_6_16 => first | kernel_rfl | rfl | decide +kernel)
    (case kt_6_17 => first | kernel_rfl | rfl | decide +kernel)
    (case kt_6_18 => first | kernel_rfl | rfl | decide +kernel)
    (case kt_6_19 => first | kernel_rfl | rfl | decide +kernel)
    (case kv_6 => first | kernel_rfl | rfl | decide +kernel)
    (case xx_6 => first | kernel_rfl | rfl | decide +kernel)
    (case xq_6 => k_exc)
    (case xp_6 => k_is)
    (case xt_6 => k_is)
    (case a_law_error_of => k_is)
    (case l_law_error_of => k_is)
    (case c_law_error_of => k_is)
    (case k_law_error_of => k_is)
    (case a_law_all_raise => k_is)
    (case l_law_all_raise => k_is)
    (case c_law_all_raise => k_is)
    (case k_law_all_raise => k_is)
    (case a_common_divisor => k_is)
    (case l_common_divisor => k_is)
    (case c_common_divisor => k_is)
    (case k_common_divisor => k_is)
    (case a_is_whole => k_is)
    (case l_is_whole => k_is)
    (case c_is_whole => k_is)
    (case k_is_whole => k_is)
    (case a_is_spot => k_is)
    (case l_is_spot => k_is)
    (case c_is_spot => k_is)
    (case k_is_spot => k_is)
    (case a_check_spot => k_is)
    (case l_check_spot => k_is)
    (case c_check_spot => k_is)
    (case k_check_spot => k_is)
    (case a_check_turn => k_is)
    (case l_check_turn => k_is)
    (case c_check_turn => k_is)
    (case k_check_turn => k_is)
    (case a_spot_at => k_is)
    (case l_spot_at => k_is)
    (case c_spot_at => k_is)
    (case k_spot_at => k_is)
    (case a_fraction => k_is)
    (case l_fraction => k_is)
    (case c_fraction => k_is)
    (case k_fraction => k_is)
    (case a_plus => k_is)
    (case l_plus => k_is)
    (case c_plus => k_is)
    (case k_plus => k_is)
    (case a_negative => k_is)
    (case l_negative => k_is)
    (case c_negative => k_is)
    (case k_negative => k_is)
    (case a_minus => k_is)
    (case l_minus => k_is)
    (case c_minus => k_is)
    (case k_minus => k_is)
    (case a_product => k_is)
    (case l_product => k_is)
    (case c_product => k_is)
    (case k_product => k_is)
    (case a_faced => k_is)
    (case l_faced => k_is)
    (case c_faced => k_is)
    (case k_faced => k_is)
    (case a_carried => k_is)
    (case l_carried => k_is)
    (case c_carried => k_is)
    (case k_carried => k_is)
    (case a_square_between => k_is)
    (case l_square_between => k_is)
    (case c_square_between => k_is)
    (case k_square_between => k_is)
    (case a_is_from_to => k_is)
    (case l_is_from_to => k_is)
    (case c_is_from_to => k_is)
    (case k_is_from_to => k_is)
    (case aC => k_is)
    (case inI => k_is)
    (case l_Copy___init__ => k_is)
    (case c_Copy___init__ => k_is)
    (case k_Copy___init__ => k_is)
    (case kw_init => k_is)
    (case pg => k_is)
    (case hdC => k_is)
    (case po => k_is)
    (case sa => k_is)
    (case mkC => k_is)
    (case kc => k_is)
    (case isI => k_is)
    (case nF => k_is)
    (case nO => k_is)
    (case nL => k_is)
    (case ha => k_is)
    (case hn => k_is)
    (case htk => k_is)
    (case hmo => k_is)
    (case sf => k_is)
    (case a_Copy___call__ => k_is)
    (case i_Copy___call__ => k_is)
    (case l_Copy___call__ => k_is)
    (case c_Copy___call__ => k_is)
    (case k_Copy___call__ => k_is)
    (case fi_call => k_is)
    (case a_Copy_turn => k_is)
    (case g_Copy_turn => k_is)
    (case t_Copy_turn => k_is)
    (case r_Copy_turn => k_is)
    (case l_Copy_turn => k_is)
    (case c_Copy_turn => k_is)
    (case k_Copy_turn => k_is)
    (case a_Copy_shift => k_is)
    (case g_Copy_shift => k_is)
    (case t_Copy_shift => k_is)
    (case r_Copy_shift => k_is)
    (case l_Copy_shift => k_is)
    (case c_Copy_shift => k_is)
    (case k_Copy_shift => k_is)
    (case a_Copy_mirrored => k_is)
    (case g_Copy_mirrored => k_is)
    (case t_Copy_mirrored => k_is)
    (case r_Copy_mirrored => k_is)
    (case l_Copy_mirrored => k_is)
    (case c_Copy_mirrored => k_is)
    (case k_Copy_mirrored => k_is)
    (case a_check_reach => k_is)
    (case l_check_reach => k_is)
    (case c_check_reach => k_is)
    (case k_check_reach => k_is)
    (case a_copy_around => k_is)
    (case l_copy_around => k_is)
    (case c_copy_around => k_is)
    (case k_copy_around => k_is)
    (case aCA => k_is)
    (case inCA => k_is)
    (case l_Arm___init__ => k_is)
    (case c_Arm___init__ => k_is)
    (case k_Arm___init__ => k_is)
    (case kw_A => k_is)
    (case pgCA => k_is)
    (case hdCA => k_is)
    (case poCA => k_is)
    (case saCA => k_is)
    (case mkCA => k_is)
    (case kcCA => k_is)
    (case isCA => k_is)
    (case nCA_centre => k_is)
    (case nCA_factor => k_is)
    (case nCA_least => k_is)
    (case nCA_most => k_is)
    (case nCA_flips => k_is)
    (case nCA_pen => k_is)
    (case haA => k_is)
    (case hmA => k_is)
    (case a_Arm_pole => k_is)
    (case g_Arm_pole => k_is)
    (case t_Arm_pole => k_is)
    (case r_Arm_pole => k_is)
    (case l_Arm_pole => k_is)
    (case c_Arm_pole => k_is)
    (case k_Arm_pole => k_is)
    (case a_Arm_turn => k_is)
    (case g_Arm_turn => k_is)
    (case t_Arm_turn => k_is)
    (case r_Arm_turn => k_is)
    (case l_Arm_turn => k_is)
    (case c_Arm_turn => k_is)
    (case k_Arm_turn => k_is)
    (case a_Arm_near => k_is)
    (case g_Arm_near => k_is)
    (case t_Arm_near => k_is)
    (case r_Arm_near => k_is)
    (case l_Arm_near => k_is)
    (case c_Arm_near => k_is)
    (case k_Arm_near => k_is)
    (case a_Arm_far => k_is)
    (case g_Arm_far => k_is)
    (case t_Arm_far => k_is)
    (case r_Arm_far => k_is)
    (case l_Arm_far => k_is)
    (case c_Arm_far => k_is)
    (case k_Arm_far => k_is)
    (case a_Arm_mirrored => k_is)
    (case g_Arm_mirrored => k_is)
    (case t_Arm_mirrored => k_is)
    (case r_Arm_mirrored => k_is)
    (case l_Arm_mirrored => k_is)
    (case c_Arm_mirrored => k_is)
    (case k_Arm_mirrored => k_is)
    (case a_Arm_effect => k_is)
    (case g_Arm_effect => k_is)
    (case t_Arm_effect => k_is)
    (case r_Arm_effect => k_is)
    (case l_Arm_effect => k_is)
    (case c_Arm_effect => k_is)
    (case k_Arm_effect => k_is)
    (case a_Arm___eq__ => k_is)
    (case i_Arm___eq__ => k_is)
    (case l_Arm___eq__ => k_is)
    (case c_Arm___eq__ => k_is)
    (case k_Arm___eq__ => k_is)
    (case a_Arm_reaches => k_is)
    (case i_Arm_reaches => k_is)
    (case l_Arm_reaches => k_is)
    (case c_Arm_reaches => k_is)
    (case k_Arm_reaches => k_is)
    (case kiA => first | kernel_rfl | rfl | decide +kernel)
    (case nfA => first | kernel_rfl | rfl | decide +kernel)
    (case a_law_random => k_is)
    (case l_law_random => k_is)
    (case c_law_random => k_is)
    (case k_law_random => k_is)
    (case a_law_below => k_is)
    (case l_law_below => k_is)
    (case c_law_below => k_is)
    (case k_law_below => k_is)
    (case a_law_step => k_is)
    (case l_law_step => k_is)
    (case c_law_step => k_is)
    (case k_law_step => k_is)
    (case a_law_turn => k_is)
    (case l_law_turn => k_is)
    (case c_law_turn => k_is)
    (case k_law_turn => k_is)
    (case a_law_common => k_is)
    (case l_law_common => k_is)
    (case c_law_common => k_is)
    (case k_law_common => k_is)
    (case a_law_lowest => k_is)
    (case l_law_lowest => k_is)
    (case c_law_lowest => k_is)
    (case k_law_lowest => k_is)
    (case a_law_spot => k_is)
    (case l_law_spot => k_is)
    (case c_law_spot => k_is)
    (case k_law_spot => k_is)
    (case a_law_arm_told => k_is)
    (case l_law_arm_told => k_is)
    (case c_law_arm_told => k_is)
    (case k_law_arm_told => k_is)
    (case a_law_arm => k_is)
    (case l_law_arm => k_is)
    (case c_law_arm => k_is)
    (case k_law_arm => k_is)
    (case a_law_equal => k_is)
    (case l_law_equal => k_is)
    (case c_law_equal => k_is)
    (case k_law_equal => k_is)
    (case a_law_shown => k_is)
    (case l_law_shown => k_is)
    (case c_law_shown => k_is)
    (case k_law_shown => k_is)
    (case a_law_over => k_is)
    (case l_law_over => k_is)
    (case c_law_over => k_is)
    (case k_law_over => k_is)
    (case a_law_plus => k_is)
    (case l_law_plus => k_is)
    (case c_law_plus => k_is)
    (case k_law_plus => k_is)
    (case a_law_times => k_is)
    (case l_law_times => k_is)
    (case c_law_times => k_is)
    (case k_law_times => k_is)
    (case a_law_minus => k_is)
    (case l_law_minus => k_is)
    (case c_law_minus => k_is)
    (case k_law_minus => k_is)
    (case a_law_about => k_is)
    (case l_law_about => k_is)
    (case c_law_about => k_is)
    (case k_law_about => k_is)
    (case a_law_ratio => k_is)
    (case l_law_ratio => k_is)
    (case c_law_ratio => k_is)
    (case k_law_ratio => k_is)
    (case a_law_size => k_is)
    (case l_law_size => k_is)
    (case c_law_size => k_is)
    (case k_law_size => k_is)
    (case a_law_less => k_is)
    (case l_law_less => k_is)
    (case c_law_less => k_is)
    (case k_law_less => k_is)
    (case a_law_reached => k_is)
    (case l_law_reached => k_is)
    (case c_law_reached => k_is)
    (case k_law_reached => k_is)
    (case a_law => k_is)
    (case l_law => k_is)
    (case c_law => k_is)
    (case q_law => k_is)
    (case v_law => first | exact rfl | (with_unfolding_all exact rfl) | (simp; rfl))
    (case n_law => first | k_is | kernel_rfl | rfl)
    (case h_law => first | kernel_rfl | rfl | decide +kernel)
#print axioms PySem.Challenge.cw_copyarms_k15_arms_and_their_poles_holds
